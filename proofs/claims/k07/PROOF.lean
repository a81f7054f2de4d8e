import PyProof.Rows.All
import Wide.All
import OpenK.AllK
import Wide.FinOn
import PyProof.Rows.TmSorted
import PyProof.Rows.SortStr
import HandS.ForMost
import HandS.Gcd
import HandS.IsInst
import HandS.ListItems
import HandS.DictComp
import HandS.More
import HandS.Zip
import HandS.Wide
import HandS.TryOnly
import HandS.ExcInit
import HandS.ExcField
import HandS.Lambda
import HandS.EndTab
import HandS.Style
import HandS.Flow
import HandS.Conv
import HandS.Small
import HandS.Steps
import HandS.Walk
import PyProof.P3In
import HandS.WordsExc
import HandS.SetKeys
import HandS.SetBool
import PyProof.Rows.SortShellAny
import HandS.Strs
import PyProof.ReprNest
import PyProof.ReprDict
import PyProof.StrHeap
import PyProof.ReprRoads
import PyProof.ReprReads
import PyProof.RowDictHeap
import PyProof.ReprLen
import PyProof.FitsInt
import HandS.EndOwn
import PyProof.InstEq
import PyProof.IsiBase
import KE.KIsAll
import PySem.Challenge.RW_outofwishes_k07_whole_opposites
set_option linter.all false
set_option autoImplicit false
namespace M8
open PySem PySem.Spec PyProof.Rows
/-! the order of texts, one sorted arrangement -/
def leS (a b : Str) : Prop := ltCps b.cps.toList a.cps.toList = false
theorem leS_iff {a b : Str} : leS a b ↔ ¬ b.cps.toList < a.cps.toList := by
  unfold leS; rw [ltCps_eq]; exact decide_eq_false_iff_not
theorem leS_antisymm {a b : Str} (h1 : leS a b) (h2 : leS b a) : a = b := by
  rw [leS_iff] at h1 h2
  have e : a.cps.toList = b.cps.toList := List.le_antisymm (List.not_lt.mp h1) (List.not_lt.mp h2)
  cases a; cases b; simp at e; simp [e]
theorem leS_trans {a b c : Str} (h1 : leS a b) (h2 : leS b c) : leS a c := by
  rw [leS_iff] at *
  exact List.not_lt.mpr (List.le_trans (List.not_lt.mp h1) (List.not_lt.mp h2))
theorem rising_pw : ∀ (l : List Str) (p : Str), risingS p l = true → (p :: l).Pairwise leS
  | [], p, _ => by simp
  | x :: r, p, h => by
    have h' : (!ltCps x.cps.toList p.cps.toList && risingS x r) = true := h
    simp only [Bool.and_eq_true, Bool.not_eq_true'] at h'
    have ih := rising_pw r x h'.2
    refine List.pairwise_cons.mpr ⟨fun y hy => ?_, ih⟩
    rcases List.mem_cons.mp hy with e | hy
    · rw [e]; exact h'.1
    · exact leS_trans h'.1 (List.rel_of_pairwise_cons ih hy)
theorem sorted_pw : ∀ {l : List Str}, sortedS l = true → l.Pairwise leS
  | [], _ => by simp
  | x :: r, h => rising_pw r x h
noncomputable def srt (xs : List Str) : List Str := open Classical in if h : ∃ ys : List Str, ys.Perm xs ∧ ys.Pairwise leS then Classical.choose h else []
theorem srt_eq {xs ys : List Str} (hp : ys.Perm xs) (hs : ys.Pairwise leS) : srt xs = ys := by
  have hx : ∃ ys : List Str, ys.Perm xs ∧ ys.Pairwise leS := ⟨ys, hp, hs⟩
  unfold srt
  rw [dif_pos hx]
  have q := Classical.choose_spec hx
  exact List.Perm.eq_of_pairwise (fun a b _ _ => leS_antisymm) q.2 hs (q.1.trans hp.symm)
theorem srt_ex : ∀ xs : List Str, ∃ ys : List Str, ys.Perm xs ∧ ys.Pairwise leS
  | xs => by
    refine ⟨xs.mergeSort (fun a b => !ltCps b.cps.toList a.cps.toList), List.mergeSort_perm _ _, ?_⟩
    have := List.pairwise_mergeSort (le := fun a b : Str => !ltCps b.cps.toList a.cps.toList) (fun a b c h1 h2 => by
      simp only [Bool.not_eq_true'] at *
      exact leS_trans (a := a) (b := b) (c := c) h1 h2) (fun a b => by
      rw [ltCps_eq, ltCps_eq]
      by_cases h : b.cps.toList < a.cps.toList
      · have : ¬ a.cps.toList < b.cps.toList := fun q => List.lt_irrefl _ (List.lt_trans h q)
        simp [this]
      · simp [h]) xs
    exact this.imp fun {a b} h => by
      have h' : (!ltCps b.cps.toList a.cps.toList) = true := h
      simpa [leS] using h'
theorem srt_perm (xs : List Str) : (srt xs).Perm xs := by
  obtain ⟨ys, h1, h2⟩ := srt_ex xs
  rw [srt_eq h1 h2]; exact h1
theorem srt_pw (xs : List Str) : (srt xs).Pairwise leS := by
  obtain ⟨ys, h1, h2⟩ := srt_ex xs
  rw [srt_eq h1 h2]; exact h2
theorem srt_congr {xs ys : List Str} (h : xs.Perm ys) : srt xs = srt ys := srt_eq ((srt_perm ys).trans h.symm) (srt_pw ys)
theorem srt_filter (xs : List Str) (p : Str → Bool) : srt (xs.filter p) = (srt xs).filter p :=
  srt_eq ((srt_perm xs).filter p) ((srt_pw xs).sublist List.filter_sublist)
theorem srt_of_sorted {xs : List Str} (h : xs.Pairwise leS) : srt xs = xs := srt_eq (.refl _) h
theorem srt_nil : srt [] = [] := srt_of_sorted .nil
theorem srt_nodup {xs : List Str} (h : xs.Nodup) : (srt xs).Nodup := (srt_perm xs).nodup_iff.mpr h
theorem mem_srt {xs : List Str} {x : Str} : x ∈ srt xs ↔ x ∈ xs := (srt_perm xs).mem_iff
theorem srt_length (xs : List Str) : (srt xs).length = xs.length := (srt_perm xs).length_eq

/-! coefficients -/
abbrev Coef := List (Str × Int)
def look (c : Coef) (n : Str) : Option Int := (c.find? fun p => decide (p.1 = n)).map (·.2)
def co (c : Coef) (n : Str) : Int := (look c n).getD 0
def keys (c : Coef) : List Str := c.map (·.1)
structure Wf (c : Coef) : Prop where
  nd : (keys c).Nodup
theorem look_mem {c : Coef} {n : Str} {i : Int} (h : look c n = some i) : (n, i) ∈ c := by
  unfold look at h
  cases e : c.find? fun p => decide (p.1 = n) with
  | none => rw [e] at h; simp at h
  | some p =>
    rw [e] at h
    have h1 := List.find?_some e
    have h2 := List.mem_of_find?_eq_some e
    simp at h h1
    obtain ⟨a, b⟩ := p
    simp at h h1
    subst h1; subst h
    exact h2
theorem look_of_mem : ∀ {c : Coef} {n : Str} {i : Int}, (keys c).Nodup → (n, i) ∈ c → look c n = some i
  | [], _, _, _, h => by simp at h
  | (m, j) :: c, n, i, hn, h => by
    have hn' : m ∉ keys c ∧ (keys c).Nodup := List.nodup_cons.mp hn
    unfold look
    rw [List.find?_cons]
    by_cases e : m = n
    · subst e
      rw [show decide (m = m) = true from decide_eq_true rfl]
      rcases List.mem_cons.mp h with h | h
      · cases h; rfl
      · exact absurd (List.mem_map.mpr ⟨(m, i), h, rfl⟩) hn'.1
    · rw [show decide (m = n) = false from decide_eq_false e]
      rcases List.mem_cons.mp h with h | h
      · cases h; exact absurd rfl e
      · exact look_of_mem hn'.2 h
theorem look_none {c : Coef} {n : Str} (h : n ∉ keys c) : look c n = none := by
  cases e : look c n with
  | none => rfl
  | some i => exact absurd (List.mem_map.mpr ⟨(n, i), look_mem e, rfl⟩) h
theorem look_some {c : Coef} {n : Str} (h : n ∈ keys c) (hn : (keys c).Nodup) : ∃ i, look c n = some i := by
  obtain ⟨p, hp, e⟩ := List.mem_map.mp h
  subst e
  exact ⟨p.2, look_of_mem hn hp⟩
theorem co_of_mem {c : Coef} {n : Str} {i : Int} (hn : (keys c).Nodup) (h : (n, i) ∈ c) : co c n = i := by
  unfold co; rw [look_of_mem hn h]; rfl
theorem co_notin {c : Coef} {n : Str} (h : n ∉ keys c) : co c n = 0 := by unfold co; rw [look_none h]; rfl
/-- the names with a coefficient other than 0, ascending -/
noncomputable def nz (c : Coef) : List Str := srt ((c.filter fun p => decide (p.2 ≠ 0)).map (·.1))
/-- the told form -/
noncomputable def canon (c : Coef) : Coef := (nz c).map fun n => (n, co c n)
theorem filter_keys {c : Coef} (hn : (keys c).Nodup) : (c.filter fun p => decide (p.2 ≠ 0)).map (·.1) = (keys c).filter fun n => decide (co c n ≠ 0) := by
  have : ∀ l : Coef, (∀ p ∈ l, p ∈ c) → (l.filter fun p => decide (p.2 ≠ 0)).map (·.1) = (keys l).filter fun n => decide (co c n ≠ 0) := by
    intro l
    induction l with
    | nil => intro _; rfl
    | cons p l ih =>
      intro h
      have e : co c p.1 = p.2 := co_of_mem hn (h p List.mem_cons_self)
      have ih' := ih fun q hq => h q (List.mem_cons_of_mem _ hq)
      unfold keys at *
      rw [List.filter_cons, List.map_cons, List.filter_cons, e, ← ih']
      split <;> simp
  exact this c fun _ h => h
theorem nz_eq {c : Coef} (hn : (keys c).Nodup) : nz c = (srt (keys c)).filter fun n => decide (co c n ≠ 0) := by
  unfold nz; rw [filter_keys hn, srt_filter]
theorem mem_nz {c : Coef} {n : Str} (hn : (keys c).Nodup) : n ∈ nz c ↔ co c n ≠ 0 := by
  rw [nz_eq hn, List.mem_filter, mem_srt]
  constructor
  · intro h; simpa using h.2
  · intro h
    refine ⟨Decidable.byContradiction fun k => h (co_notin k), by simpa using h⟩
theorem nz_nodup {c : Coef} (hn : (keys c).Nodup) : (nz c).Nodup := by
  rw [nz_eq hn]; exact (srt_nodup hn).filter _
theorem nz_pw (c : Coef) : (nz c).Pairwise leS := srt_pw _
theorem keys_canon (c : Coef) : keys (canon c) = nz c := by
  unfold keys canon; rw [List.map_map]; exact List.map_id' _
theorem canon_nodup {c : Coef} (hn : (keys c).Nodup) : (keys (canon c)).Nodup := by rw [keys_canon]; exact nz_nodup hn
theorem co_canon {c : Coef} (hn : (keys c).Nodup) (n : Str) : co (canon c) n = co c n := by
  by_cases h : n ∈ nz c
  · exact co_of_mem (canon_nodup hn) (List.mem_map.mpr ⟨n, h, rfl⟩)
  · rw [co_notin (by rw [keys_canon]; exact h)]
    have := fun k => h ((mem_nz hn).mpr k)
    exact (Decidable.byContradiction fun k => this k).symm
/-- two dicts with the same coefficients are told the same -/
theorem nz_congr {c d : Coef} (hc : (keys c).Nodup) (hd : (keys d).Nodup) (h : ∀ n, co c n = co d n) : nz c = nz d := by
  have e1 := nz_pw c
  have e2 := nz_pw d
  refine List.Perm.eq_of_pairwise (fun a b _ _ => leS_antisymm) e1 e2 ?_
  refine (List.perm_ext_iff_of_nodup (nz_nodup hc) (nz_nodup hd)).mpr fun n => ?_
  rw [mem_nz hc, mem_nz hd, h]
theorem canon_congr {c d : Coef} (hc : (keys c).Nodup) (hd : (keys d).Nodup) (h : ∀ n, co c n = co d n) : canon c = canon d := by
  unfold canon
  rw [nz_congr hc hd h]
  exact List.map_congr_left fun n _ => by rw [h]
theorem canon_canon {c : Coef} (hc : (keys c).Nodup) : canon (canon c) = canon c := canon_congr (canon_nodup hc) hc (co_canon hc)
/-- a told one: ascending, without 0 -/
structure Told (c : Coef) : Prop where
  pw : (keys c).Pairwise leS
  nd : (keys c).Nodup
  nz : ∀ p ∈ c, p.2 ≠ 0
theorem told_canon {c : Coef} (hc : (keys c).Nodup) : Told (canon c) := by
  refine ⟨by rw [keys_canon]; exact nz_pw c, canon_nodup hc, fun p hp => ?_⟩
  obtain ⟨n, hn, rfl⟩ := List.mem_map.mp hp
  exact (mem_nz hc).mp hn
theorem Told.canon_eq {c : Coef} (h : Told c) : canon c = c := by
  have e : _root_.M8.nz c = keys c := by
    unfold _root_.M8.nz
    have : (c.filter fun p => decide (p.2 ≠ 0)) = c := List.filter_eq_self.mpr fun p hp => by simpa using h.nz p hp
    rw [this]
    exact srt_of_sorted h.pw
  unfold canon
  rw [e]
  unfold keys
  rw [List.map_map]
  conv => rhs; rw [← List.map_id c]
  refine List.map_congr_left fun p hp => ?_
  obtain ⟨n, i⟩ := p
  show (n, co c n) = (n, i)
  rw [co_of_mem h.nd hp]
/-- each coefficient changed -/
def mapc (f : Int → Int) (c : Coef) : Coef := c.map fun p => (p.1, f p.2)
theorem keys_mapc (f : Int → Int) (c : Coef) : keys (mapc f c) = keys c := by unfold keys mapc; rw [List.map_map]; rfl
theorem look_mapc (f : Int → Int) : ∀ (c : Coef) (n : Str), look (mapc f c) n = (look c n).map f
  | [], _ => rfl
  | (m, j) :: c, n => by
    have ih := look_mapc f c n
    unfold look mapc at *
    rw [List.map_cons, List.find?_cons, List.find?_cons]
    by_cases e : m = n
    · simp [e]
    · simp [e]; simpa using ih
theorem co_mapc {f : Int → Int} (h0 : f 0 = 0) (c : Coef) (n : Str) : co (mapc f c) n = f (co c n) := by
  unfold co; rw [look_mapc]
  cases look c n with
  | none => exact h0.symm
  | some i => rfl
theorem told_mapc {f : Int → Int} {c : Coef} (h : Told c) (hf : ∀ p ∈ c, f p.2 ≠ 0) : Told (mapc f c) := by
  refine ⟨by rw [keys_mapc]; exact h.pw, by rw [keys_mapc]; exact h.nd, fun p hp => ?_⟩
  obtain ⟨q, hq, rfl⟩ := List.mem_map.mp hp
  exact hf q hq
/-- the told form of changed coefficients, where 0 stays 0 and nothing else becomes 0 -/
theorem canon_mapc {f : Int → Int} (h0 : f 0 = 0) {c : Coef} (hc : (keys c).Nodup) (hf : ∀ p ∈ canon c, f p.2 ≠ 0) : canon (mapc f c) = mapc f (canon c) := by
  have hk : (keys (mapc f c)).Nodup := by rw [keys_mapc]; exact hc
  rw [← (told_mapc (told_canon hc) hf).canon_eq]
  refine canon_congr hk (by rw [keys_mapc]; exact canon_nodup hc) fun n => ?_
  rw [co_mapc h0, co_mapc h0, co_canon hc]
end M8

set_option linter.all false
set_option autoImplicit false
namespace M8
open PySem PySem.Spec PyProof.Rows
def gcdI (a b : Int) : Int := ((Nat.gcd a.natAbs b.natAbs : Nat) : Int)
theorem gcdI_dvd_l (a b : Int) : gcdI a b ∣ a := by
  unfold gcdI; exact Int.ofNat_dvd_left.mpr (Nat.gcd_dvd_left _ _)
theorem gcdI_dvd_r (a b : Int) : gcdI a b ∣ b := by
  unfold gcdI; exact Int.ofNat_dvd_left.mpr (Nat.gcd_dvd_right _ _)
theorem gcdI_nn (a b : Int) : 0 ≤ gcdI a b := by unfold gcdI; omega
theorem dvd_gcdI {d a b : Int} (h1 : d ∣ a) (h2 : d ∣ b) : d ∣ gcdI a b := by
  unfold gcdI
  exact Int.ofNat_dvd_right.mpr (Nat.dvd_gcd (Int.natAbs_dvd_natAbs.mpr h1) (Int.natAbs_dvd_natAbs.mpr h2))
def gcds (l : List Int) (g0 : Int) : Int := l.foldl gcdI g0
theorem gcds_dvd0 : ∀ (l : List Int) (g : Int), gcds l g ∣ g
  | [], g => Int.dvd_refl g
  | a :: l, g => Int.dvd_trans (gcds_dvd0 l (gcdI g a)) (gcdI_dvd_l g a)
theorem gcds_dvd : ∀ (l : List Int) (g : Int) (x : Int), x ∈ l → gcds l g ∣ x
  | a :: l, g, x, h => by
    rcases List.mem_cons.mp h with e | h
    · rw [e]; exact Int.dvd_trans (gcds_dvd0 l (gcdI g a)) (gcdI_dvd_r g a)
    · exact gcds_dvd l (gcdI g a) x h
theorem gcds_nn : ∀ (l : List Int) (g : Int), 0 ≤ g → 0 ≤ gcds l g
  | [], g, h => h
  | a :: l, g, _ => gcds_nn l _ (gcdI_nn g a)
theorem dvd_gcds {d : Int} : ∀ (l : List Int) (g : Int), d ∣ g → (∀ x ∈ l, d ∣ x) → d ∣ gcds l g
  | [], g, h, _ => h
  | a :: l, g, h, hl => dvd_gcds l _ (dvd_gcdI h (hl a List.mem_cons_self)) fun x hx => hl x (List.mem_cons_of_mem _ hx)
def vals (c : Coef) : List Int := c.map (·.2)
noncomputable def dvs (g0 : Int) (c : Coef) : Int := (nz c).foldl (fun g n => gcdI g (co c n)) g0
theorem dvs_eq (g0 : Int) (c : Coef) : dvs g0 c = gcds (vals (canon c)) g0 := by
  unfold dvs gcds vals canon
  rw [List.map_map, List.foldl_map]; rfl
theorem dvs_nn {g0 : Int} (h : 0 ≤ g0) (c : Coef) : 0 ≤ dvs g0 c := by rw [dvs_eq]; exact gcds_nn _ _ h
theorem dvs_dvd (g0 : Int) (c : Coef) {p : Str × Int} (h : p ∈ canon c) : dvs g0 c ∣ p.2 := by
  rw [dvs_eq]; exact gcds_dvd _ _ _ (List.mem_map.mpr ⟨p, h, rfl⟩)
theorem dvs_dvd0 (g0 : Int) (c : Coef) : dvs g0 c ∣ g0 := by rw [dvs_eq]; exact gcds_dvd0 _ _
theorem canon_nz {c : Coef} (hc : (keys c).Nodup) {p : Str × Int} (h : p ∈ canon c) : p.2 ≠ 0 := (told_canon hc).nz p h
theorem dvs_zero {c : Coef} (hc : (keys c).Nodup) : dvs 0 c = 0 ↔ canon c = [] := by
  constructor
  · intro h
    cases e : canon c with
    | nil => rfl
    | cons p l =>
      have hp : p ∈ canon c := by rw [e]; simp
      have := dvs_dvd 0 c hp
      rw [h] at this
      exact absurd (Int.zero_dvd.mp this) (canon_nz hc hp)
  · intro h; rw [dvs_eq, h]; rfl
theorem dvs_pos {c : Coef} (hc : (keys c).Nodup) (h : dvs 0 c ≠ 0) : 0 < dvs 0 c := by
  have := dvs_nn (Int.le_refl 0) c; omega
theorem dvs_le {g0 : Int} {c : Coef} {b : Int} {p : Str × Int} (hc : (keys c).Nodup) (hp : p ∈ canon c) (hb : p.2.natAbs ≤ b) : dvs g0 c ≤ b := by
  have h1 := dvs_dvd g0 c hp
  have h2 := Int.natAbs_dvd_natAbs.mpr h1
  have h3 := Nat.le_of_dvd (Int.natAbs_pos.mpr (canon_nz hc hp)) h2
  omega
theorem co_mem {c : Coef} {n : Str} (h : co c n ≠ 0) : (n, co c n) ∈ c := by
  unfold co at h ⊢
  cases e : look c n with
  | none => rw [e] at h; exact absurd rfl h
  | some i => exact look_mem e
theorem canon_sub {c : Coef} (hc : (keys c).Nodup) {p : Str × Int} (h : p ∈ canon c) : p ∈ c := by
  obtain ⟨n, hn, rfl⟩ := List.mem_map.mp h
  exact co_mem ((mem_nz hc).mp hn)
inductive Tst where
  | row (c : Coef) (k : Int) | same (c : Coef) (k : Int) | div (m : Int) (c : Coef) (k : Int)
abbrev Res := Bool ⊕ Tst
noncomputable def pRow (c : Coef) (k : Int) : Res := if dvs 0 c = 0 then .inl (decide (0 ≤ k)) else .inr (.row (canon (mapc (fun i => i / dvs 0 c) c)) (k / dvs 0 c))
noncomputable def pSame (c : Coef) (k : Int) : Res := if dvs 0 c = 0 then .inl (decide (k = 0)) else if k % dvs 0 c ≠ 0 then .inl false else
  if co c ((nz c).headD "") < 0 then .inr (.same (canon (mapc (fun i => -1 * i) (canon (mapc (fun i => i / dvs 0 c) c)))) (-1 * (k / dvs 0 c))) else .inr (.same (canon (mapc (fun i => i / dvs 0 c) c)) (k / dvs 0 c))
noncomputable def rsts (m : Int) (c : Coef) : Coef := canon (mapc (fun i => i % m) c)
noncomputable def pBy (m : Int) (c : Coef) (k : Int) : Res := if (k % m) % dvs m (rsts m c) ≠ 0 then .inl false else if (nz (rsts m c)).length = 0 then .inl true else
  .inr (.div (m / dvs m (rsts m c)) (canon (mapc (fun i => i / dvs m (rsts m c)) (rsts m c))) ((k % m) / dvs m (rsts m c)))
noncomputable def pTight : Tst → Res | .row c k => pRow c k | .same c k => pSame c k | .div m c k => pBy m c k
/-! the law's way, of told coefficients -/
def lRow (c : Coef) (k : Int) : Res := if c = [] then .inl (decide (0 ≤ k)) else .inr (.row (mapc (fun i => i.fdiv (gcds (vals c) 0)) c) (k.fdiv (gcds (vals c) 0)))
def sgnd (c : Coef) : Int := if ((vals c).headD 0) < 0 then 0 - gcds (vals c) 0 else gcds (vals c) 0
def lSame (c : Coef) (k : Int) : Res := if c = [] then .inl (decide (k = 0)) else if k % gcds (vals c) 0 > 0 then .inl false else .inr (.same (mapc (fun i => i.fdiv (sgnd c)) c) (k.fdiv (sgnd c)))
def lrs (m : Int) (c : Coef) : Coef := (mapc (fun i => i % m) c).filter fun p => decide (p.2 > 0)
def lBy (m : Int) (c : Coef) (k : Int) : Res := if (k % m) % gcds (m :: vals (lrs m c)) 0 > 0 ∨ lrs m c = [] then .inl (decide (lrs m c = []) && decide (k % m = 0)) else
  .inr (.div (m / gcds (m :: vals (lrs m c)) 0) (mapc (fun i => i / gcds (m :: vals (lrs m c)) 0) (lrs m c)) ((k % m) / gcds (m :: vals (lrs m c)) 0))
theorem mapc_congr {f g : Int → Int} {c : Coef} (h : ∀ p ∈ c, f p.2 = g p.2) : mapc f c = mapc g c := List.map_congr_left fun p hp => by rw [h p hp]
theorem div_ne0 {i d : Int} (h : d ∣ i) (hi : i ≠ 0) (hd : d ≠ 0) : i / d ≠ 0 := by
  obtain ⟨q, rfl⟩ := h
  rw [Int.mul_ediv_cancel_left _ hd]
  intro z; rw [z] at hi; simp at hi
theorem canon_div {c : Coef} (hc : (keys c).Nodup) {d : Int} (hd : d ≠ 0) (h : ∀ p ∈ canon c, d ∣ p.2) : canon (mapc (fun i => i / d) c) = mapc (fun i => i / d) (canon c) :=
  canon_mapc (by simp) hc fun p hp => div_ne0 (h p hp) (canon_nz hc hp) hd
theorem pRow_eq {c : Coef} (hc : (keys c).Nodup) (k : Int) : pRow c k = lRow (canon c) k := by
  unfold pRow lRow
  by_cases h : dvs 0 c = 0
  · rw [if_pos h, if_pos ((dvs_zero hc).mp h)]
  · rw [if_neg h, if_neg fun z => h ((dvs_zero hc).mpr z)]
    have hp := dvs_pos hc h
    rw [canon_div hc h fun p hp => dvs_dvd 0 c hp, ← dvs_eq]
    have e : ∀ i : Int, i.fdiv (dvs 0 c) = i / dvs 0 c := fun i => Int.fdiv_eq_ediv_of_nonneg _ (Int.le_of_lt hp)
    simp only [e]
theorem head_canon (c : Coef) : (vals (canon c)).headD 0 = if canon c = [] then 0 else co c ((nz c).headD "") := by
  unfold canon vals
  cases nz c with
  | nil => rfl
  | cons n l => simp
theorem pSame_eq {c : Coef} (hc : (keys c).Nodup) (k : Int) : pSame c k = lSame (canon c) k := by
  unfold pSame lSame
  by_cases h : dvs 0 c = 0
  · rw [if_pos h, if_pos ((dvs_zero hc).mp h)]
  · have hne : canon c ≠ [] := fun z => h ((dvs_zero hc).mpr z)
    rw [if_neg h, if_neg hne]
    have hp := dvs_pos hc h
    rw [← dvs_eq]
    have hk := Int.emod_nonneg k h
    by_cases hm : k % dvs 0 c = 0
    · rw [if_neg (show ¬ (k % dvs 0 c ≠ 0) from fun z => z hm), if_neg (show ¬ (k % dvs 0 c > 0) by omega)]
      have hdk : dvs 0 c ∣ k := Int.dvd_of_emod_eq_zero hm
      have e1 := canon_div hc h fun p hp => dvs_dvd 0 c hp
      rw [e1]
      unfold sgnd
      rw [head_canon, if_neg hne, ← dvs_eq]
      by_cases hn : co c ((nz c).headD "") < 0
      · rw [if_pos hn, if_pos hn]
        have hnd : (keys (mapc (fun i => i / dvs 0 c) (canon c))).Nodup := by rw [keys_mapc]; exact canon_nodup hc
        have ht : Told (mapc (fun i => i / dvs 0 c) (canon c)) := told_mapc (told_canon hc) fun p hp => div_ne0 (dvs_dvd 0 c hp) (canon_nz hc hp) h
        have e2 : canon (mapc (fun i => -1 * i) (mapc (fun i => i / dvs 0 c) (canon c))) = mapc (fun i => -1 * i) (mapc (fun i => i / dvs 0 c) (canon c)) := by
          have := canon_mapc (f := fun i => -1 * i) (by simp) hnd (by
            rw [ht.canon_eq]
            intro p hp; have := ht.nz p hp; omega)
          rw [this, ht.canon_eq]
        rw [e2]
        have ed : ∀ i : Int, dvs 0 c ∣ i → i.fdiv (0 - dvs 0 c) = -1 * (i / dvs 0 c) := by
          rintro i ⟨q, rfl⟩
          rw [Int.mul_ediv_cancel_left _ h]
          have : dvs 0 c * q = (0 - dvs 0 c) * (-q) := by rw [Int.zero_sub, Int.neg_mul_neg]
          rw [this, Int.mul_fdiv_cancel_left _ (by omega)]
          omega
        rw [ed k hdk]
        have e3 : mapc (fun i => -1 * i) (mapc (fun i => i / dvs 0 c) (canon c)) = mapc (fun i => i.fdiv (0 - dvs 0 c)) (canon c) := by
          unfold mapc; rw [List.map_map]
          refine List.map_congr_left fun p hp => ?_
          show (p.1, -1 * (p.2 / dvs 0 c)) = (p.1, p.2.fdiv (0 - dvs 0 c))
          rw [ed p.2 (dvs_dvd 0 c hp)]
        rw [e3]
      · rw [if_neg hn, if_neg hn]
        have e : ∀ i : Int, i.fdiv (dvs 0 c) = i / dvs 0 c := fun i => Int.fdiv_eq_ediv_of_nonneg _ (Int.le_of_lt hp)
        simp only [e]
    · rw [if_pos (show k % dvs 0 c ≠ 0 from hm), if_pos (show k % dvs 0 c > 0 by omega)]
theorem co_lrs {m : Int} {c : Coef} (hm : 0 < m) (hc : (keys c).Nodup) (n : Str) : co (lrs m c) n = co c n % m := by
  have hk : (keys (mapc (fun i => i % m) c)).Nodup := by rw [keys_mapc]; exact hc
  have hs : (keys (lrs m c)).Nodup := by unfold lrs keys; exact hk.sublist (List.filter_sublist.map _)
  have e : co (mapc (fun i => i % m) c) n = co c n % m := co_mapc (f := fun i => i % m) (by simp) c n
  by_cases h : co c n % m = 0
  · rw [h]
    refine Decidable.byContradiction fun z => ?_
    have h1 := co_mem z
    have h2 := (List.mem_filter.mp h1).1
    rw [← e, co_of_mem hk h2] at h
    exact z h
  · have h1 : (n, co c n % m) ∈ mapc (fun i => i % m) c := by
      have := co_mem (c := mapc (fun i => i % m) c) (n := n) (by rw [e]; exact h)
      rw [e] at this; exact this
    have h0 := Int.emod_nonneg (co c n) (Int.ne_of_gt hm)
    exact co_of_mem hs (List.mem_filter.mpr ⟨h1, by simp; omega⟩)
theorem lrs_told {m : Int} {c : Coef} (hm : 0 < m) (h : Told c) : Told (lrs m c) := by
  have hk : keys (mapc (fun i => i % m) c) = keys c := keys_mapc _ _
  have sub : (keys (lrs m c)).Sublist (keys c) := by rw [← hk]; exact List.filter_sublist.map _
  refine ⟨h.pw.sublist sub, h.nd.sublist sub, fun p hp => ?_⟩
  have := (List.mem_filter.mp hp).2
  simp at this; omega
theorem rsts_eq {m : Int} {c : Coef} (hm : 0 < m) (hc : (keys c).Nodup) : rsts m c = lrs m (canon c) := by
  have hk : (keys (mapc (fun i => i % m) c)).Nodup := by rw [keys_mapc]; exact hc
  have ht := lrs_told hm (told_canon hc)
  unfold rsts
  rw [← ht.canon_eq]
  refine canon_congr hk ht.nd fun n => ?_
  rw [co_lrs hm (canon_nodup hc), co_canon hc, co_mapc (f := fun i => i % m) (by simp)]
theorem gcds_m {m : Int} (hm : 0 < m) (l : List Int) : gcds (m :: l) 0 = gcds l m := by
  show gcds l (gcdI 0 m) = gcds l m
  have : gcdI 0 m = m := by unfold gcdI; simp; omega
  rw [this]
theorem dvs_told (g0 : Int) {c : Coef} (h : Told c) : dvs g0 c = gcds (vals c) g0 := by rw [dvs_eq, h.canon_eq]
theorem pBy_eq {m : Int} {c : Coef} (hm : 0 < m) (hc : (keys c).Nodup) (k : Int) : pBy m c k = lBy m (canon c) k := by
  have ht := lrs_told hm (told_canon hc)
  unfold pBy lBy
  rw [rsts_eq hm hc, dvs_told m ht, gcds_m hm]
  have hd : gcds (vals (lrs m (canon c))) m ∣ m := gcds_dvd0 _ _
  have hdn : 0 ≤ gcds (vals (lrs m (canon c))) m := gcds_nn _ _ (by omega)
  have hd0 : gcds (vals (lrs m (canon c))) m ≠ 0 := fun z => by rw [z] at hd; have := Int.zero_dvd.mp hd; omega
  have hk := Int.emod_nonneg (k % m) hd0
  have hkm := Int.emod_nonneg k (Int.ne_of_gt hm)
  have hnz : (nz (lrs m (canon c))).length = 0 ↔ lrs m (canon c) = [] := by
    have e : keys (canon (lrs m (canon c))) = nz (lrs m (canon c)) := keys_canon _
    rw [← e, ht.canon_eq]; unfold keys; rw [List.length_map]; exact List.length_eq_zero_iff
  by_cases he : lrs m (canon c) = []
  · have e1 : gcds (vals (lrs m (canon c))) m = m := by rw [he]; rfl
    rw [e1] at hk ⊢
    have e2 : k % m % m = k % m := Int.emod_emod_of_dvd k (Int.dvd_refl m)
    rw [e2, if_pos (show k % m > 0 ∨ lrs m (canon c) = [] from .inr he)]
    by_cases hz : k % m = 0
    · rw [if_neg (show ¬ (k % m ≠ 0) from fun z => z hz), if_pos (hnz.mpr he), hz, decide_eq_true he]; rfl
    · rw [if_pos (show k % m ≠ 0 from hz), decide_eq_true he, decide_eq_false hz]; rfl
  · by_cases hz : k % m % gcds (vals (lrs m (canon c))) m = 0
    · rw [if_neg (show ¬ (k % m % gcds (vals (lrs m (canon c))) m ≠ 0) from fun z => z hz), if_neg (fun q => he (hnz.mp q)), if_neg (show ¬ (k % m % gcds (vals (lrs m (canon c))) m > 0 ∨ lrs m (canon c) = []) from fun q => q.elim (fun q => by omega) he)]
      have hnd := ht.nd
      have e3 := canon_div hnd hd0 (fun p hp => by rw [ht.canon_eq] at hp; exact gcds_dvd _ _ _ (List.mem_map.mpr ⟨p, hp, rfl⟩))
      rw [e3, ht.canon_eq]
    · rw [if_pos (show k % m % gcds (vals (lrs m (canon c))) m ≠ 0 from hz), if_pos (show k % m % gcds (vals (lrs m (canon c))) m > 0 ∨ lrs m (canon c) = [] from .inl (by omega)), decide_eq_false he]; rfl
noncomputable def lTight : Tst → Res | .row c k => lRow (canon c) k | .same c k => lSame (canon c) k | .div m c k => lBy m (canon c) k
def coef : Tst → Coef | .row c _ => c | .same c _ => c | .div _ c _ => c
def mOk : Tst → Prop | .div m _ _ => 0 < m ∧ m ≤ 1000 | _ => True
theorem tight_eq {t : Tst} (hc : (keys (coef t)).Nodup) (hm : mOk t) : pTight t = lTight t := by
  cases t with
  | row c k => exact pRow_eq hc k
  | same c k => exact pSame_eq hc k
  | div m c k => exact pBy_eq hm.1 hc k
end M8

set_option Elab.async false
set_option linter.all false
set_option maxRecDepth 100000
set_option maxHeartbeats 4000000
namespace K8
open PySem PySem.Spec PyProof.Rows L2
def top (i : Nat) : Stmt := PySem.Challenge.pw_outofwishes_k07_whole_opposites.main.body.getD i (.Pass ⟨0, 0, 0, 0⟩)
/-! ### a def of the text, by name: where it stands, how its arguments bind, what it promises -/
section
variable {P : Program} {w : World} {K : PySem.W.Frag} {mg : Str → Option Value} {base : Heap}
structure Ok (P : Program) (w : World) (K : PySem.W.Frag) (mg : Str → Option Value) (base : Heap) (CX : CXT) (k : Nat) (x : Str) (ps : List Str) (sp : Sp) : Prop where
  ex : ∃ f fd, mg x = some (.ref f) ∧ PySem.W.keepIn K (.ref f) = true ∧ Binds K fd ps [] ∧ FnOk P w K mg base CX k f fd ps sp
/-- a def as the top has left it -/
structure At (K : PySem.W.Frag) (mg : Str → Option Value) (x : Str) (st : Stmt) (ps : List Str) : Prop where
  ex : ∃ f fd, mg x = some (.ref f) ∧ Fun K x x st f fd ∧ Binds K fd ps []
theorem At.ok {CX : CXT} {x : Str} {st : Stmt} {ps : List Str} {k : Nat} {sp : Sp} (a : At K mg x st ps) (h : ∀ f fd, Fun K x x st f fd → FnOk P w K mg base CX k f fd ps sp) : Ok P w K mg base CX k x ps sp := by
  obtain ⟨f, fd, hm, F, b⟩ := a.ex
  exact ⟨f, fd, hm, F.kp, b, h f fd F⟩
theorem Ok.mono {CX : CXT} {x : Str} {ps : List Str} {j k : Nat} {sp : Sp} (o : Ok P w K mg base CX j x ps sp) (h : j ≤ k) : Ok P w K mg base CX k x ps sp := by
  obtain ⟨f, fd, hm, hk, b, F⟩ := o.ex
  exact ⟨f, fd, hm, hk, b, F.mono h⟩
theorem Ok.imp {CX : CXT} {x : Str} {ps : List Str} {k : Nat} {sp sp' : Sp} (o : Ok P w K mg base CX k x ps sp) (h : ∀ vs H Q E, sp' vs H Q E → sp vs H Q E) : Ok P w K mg base CX k x ps sp' := by
  obtain ⟨f, fd, hm, hk, b, F⟩ := o.ex
  exact ⟨f, fd, hm, hk, b, F.imp h⟩
end
section
variable {X : Cx}
/-- f(e, ..) of a def that lets nothing out -/
def tC0 (sp : Sp) (t : TA) : TE := fun σ H Q => t σ H fun vs H1 => sp vs H1 Q E0
theorem pe_callO {x : Str} {ps : List Str} {k : Nat} {sp : Sp} {e : Expr} {es : List Expr} {t : TA} {p pos : Pos} (O : Ok X.prog X.w X.K X.mg X.base CX0 k x ps sp) (hr : Room k X.A) (hg : Gl X x) (ha : PA X (e :: es) t)
    (hdb : (x == ("__debug__" : Str)) = false := by decide) (he : starEach (e :: es) X.env = (false, eval e X.env) :: starEach es X.env := by rfl) (hpl : (backTo pos (starEach es X.env)).any (·.1) = false := by rfl) : PE X (.Call (.Name x p) (e :: es) [] pos) (tC0 sp t) := by
  obtain ⟨f, fd, hm, hk, b, F⟩ := O.ex
  have h := pe_call (p := p) (pos := pos) F hr hg hm hk b .nil pass0 ha hdb he hpl
  refine ⟨fun pins s σ H Q I q => h.run pins s σ H Q I ?_⟩
  show t σ H fun vs H1 => sp (vs ++ []) H1 Q E0
  have e1 : (fun (vs : List V) (H1 : Hp) => sp (vs ++ []) H1 Q E0) = fun vs H1 => sp vs H1 Q E0 := by funext vs H1; rw [List.append_nil]
  rw [e1]
  exact q
end
end K8
namespace K8
open PySem PySem.Spec PyProof.Rows L2 M8
/-! ### data, and what a value shows of it -/
inductive Dat where
  | non | bl (b : Bool) | int (i : Int) | str (s : Str)
  | lst (ds : List Dat) | tup (ds : List Dat) | dct (kds : List (Key × Dat)) | fn (a : Addr)
mutual
inductive See (F : Addr → Prop) (H : Hp) : V → Dat → Prop
  | non : See F H .non .non
  | bl (b : Bool) : See F H (.bl b) (.bl b)
  | int (i : Int) : See F H (.int i) (.int i)
  | str (s : Str) : See F H (.str s) (.str s)
  | lst {a : Addr} {xs : List V} {ds : List Dat} : H a = some (.lst xs) → SeeL F H xs ds → See F H (.ref a) (.lst ds)
  | tup {a : Addr} {xs : List V} {ds : List Dat} : H a = some (.tup xs) → SeeL F H xs ds → See F H (.ref a) (.tup ds)
  | dct {a : Addr} {kvs : List (Key × V)} {kds : List (Key × Dat)} : H a = some (.dK kvs) → SeeK F H kvs kds → See F H (.ref a) (.dct kds)
  | fn {a : Addr} : F a → See F H (.ref a) (.fn a)
inductive SeeL (F : Addr → Prop) (H : Hp) : List V → List Dat → Prop
  | nil : SeeL F H [] []
  | cons {v : V} {vs : List V} {d : Dat} {ds : List Dat} : See F H v d → SeeL F H vs ds → SeeL F H (v :: vs) (d :: ds)
inductive SeeK (F : Addr → Prop) (H : Hp) : List (Key × V) → List (Key × Dat) → Prop
  | nil : SeeK F H [] []
  | cons {k : Key} {v : V} {vs : List (Key × V)} {d : Dat} {ds : List (Key × Dat)} : See F H v d → SeeK F H vs ds → SeeK F H ((k, v) :: vs) ((k, d) :: ds)
end
def Ex (H H' : Hp) : Prop := ∀ b o, H b = some o → H' b = some o
theorem Ex.refl (H : Hp) : Ex H H := fun _ _ h => h
theorem Ex.trans {H H1 H2 : Hp} (a : Ex H H1) (b : Ex H1 H2) : Ex H H2 := fun x o h => b x o (a x o h)
theorem Ex.new {H : Hp} {p : Addr} {o : HO} (h : H p = none) : Ex H (upd H p o) := fun a u e => by
  rw [upd_ne (ne_of_none e h)]; exact e
theorem Ex.mut {H H' : Hp} {p : Addr} {o : HO} (e : Ex H H') (h : H p = none) : Ex H (upd H' p o) := fun a u ha => by
  rw [upd_ne (ne_of_none ha h)]; exact e a u ha
theorem Ex.free {H H' : Hp} {p : Addr} (e : Ex H H') (h : H' p = none) : H p = none := by
  cases q : H p with
  | none => rfl
  | some o => rw [e p o q] at h; cases h
section
variable {F : Addr → Prop} {H H' : Hp}
mutual
theorem See.mono (e : Ex H H') : ∀ {v : V} {d : Dat}, See F H v d → See F H' v d
  | _, _, .non => .non
  | _, _, .bl b => .bl b
  | _, _, .int i => .int i
  | _, _, .str s => .str s
  | _, _, .lst h t => .lst (e _ _ h) (SeeL.mono e t)
  | _, _, .tup h t => .tup (e _ _ h) (SeeL.mono e t)
  | _, _, .dct h t => .dct (e _ _ h) (SeeK.mono e t)
  | _, _, .fn h => .fn h
theorem SeeL.mono (e : Ex H H') : ∀ {vs : List V} {ds : List Dat}, SeeL F H vs ds → SeeL F H' vs ds
  | _, _, .nil => .nil
  | _, _, .cons h t => .cons (See.mono e h) (SeeL.mono e t)
theorem SeeK.mono (e : Ex H H') : ∀ {vs : List (Key × V)} {ds : List (Key × Dat)}, SeeK F H vs ds → SeeK F H' vs ds
  | _, _, .nil => .nil
  | _, _, .cons h t => .cons (See.mono e h) (SeeK.mono e t)
end
theorem SeeL.len : ∀ {vs : List V} {ds : List Dat}, SeeL F H vs ds → vs.length = ds.length
  | _, _, .nil => rfl
  | _, _, .cons _ t => by simp [SeeL.len t]
theorem SeeL.get : ∀ {vs : List V} {ds : List Dat}, SeeL F H vs ds → ∀ {i : Nat} {d : Dat}, ds[i]? = some d → ∃ v, vs[i]? = some v ∧ See F H v d
  | _, _, .nil, i, d, h => by simp at h
  | _, _, .cons h _, 0, d, e => by simp at e; subst e; exact ⟨_, rfl, h⟩
  | _, _, .cons _ t, i + 1, d, e => by simpa using SeeL.get t (i := i) (d := d) (by simpa using e)
theorem SeeL.getV : ∀ {vs : List V} {ds : List Dat}, SeeL F H vs ds → ∀ {i : Nat} {v : V}, vs[i]? = some v → ∃ d, ds[i]? = some d ∧ See F H v d
  | _, _, .nil, i, d, h => by simp at h
  | _, _, .cons h _, 0, d, e => by simp at e; subst e; exact ⟨_, rfl, h⟩
  | _, _, .cons _ t, i + 1, d, e => by simpa using SeeL.getV t (i := i) (v := d) (by simpa using e)
theorem SeeK.len : ∀ {vs : List (Key × V)} {ds : List (Key × Dat)}, SeeK F H vs ds → vs.length = ds.length
  | _, _, .nil => rfl
  | _, _, .cons _ t => by simp [SeeK.len t]
theorem SeeK.get : ∀ {vs : List (Key × V)} {ds : List (Key × Dat)}, SeeK F H vs ds → ∀ {i : Nat} {k : Key} {v : V}, vs[i]? = some (k, v) → ∃ d, ds[i]? = some (k, d) ∧ See F H v d
  | _, _, .nil, i, k, v, h => by simp at h
  | _, _, .cons h _, 0, k, v, e => by simp at e; obtain ⟨rfl, rfl⟩ := e; exact ⟨_, rfl, h⟩
  | _, _, .cons _ t, i + 1, k, v, e => by simpa using SeeK.get t (i := i) (k := k) (v := v) (by simpa using e)
theorem SeeL.append : ∀ {vs ws : List V} {ds es : List Dat}, SeeL F H vs ds → SeeL F H ws es → SeeL F H (vs ++ ws) (ds ++ es)
  | _, _, _, _, .nil, h => h
  | _, _, _, _, .cons a t, h => .cons a (SeeL.append t h)
end
/-- coefficients as a dict's entries -/
def cK (c : Coef) : List (Key × V) := c.map fun p => (.inr p.1, .int p.2)
def cD (c : Coef) : List (Key × Dat) := c.map fun p => (.inr p.1, .int p.2)
theorem seeK_c {F : Addr → Prop} {H : Hp} : ∀ (c : Coef), SeeK F H (cK c) (cD c)
  | [] => .nil
  | _ :: c => .cons (.int _) (seeK_c c)
theorem cK_of {F : Addr → Prop} {H : Hp} : ∀ {c : Coef} {kvs : List (Key × V)}, SeeK F H kvs (cD c) → kvs = cK c
  | [], _, h => by cases h; rfl
  | p :: c, _, h => by
    cases h with
    | cons h t => cases h; rw [cK_of t]; rfl
theorem valV_cK (c : Coef) (n : Str) : valV (cK c) (.inr n) = (look c n).map V.int := by
  induction c with
  | nil => rfl
  | cons p c ih =>
    unfold cK valV look at *
    rw [List.map_cons, List.find?_cons, List.find?_cons, key_rr]
    by_cases e : p.1 = n
    · simp [e]
    · simp [e]; simpa using ih
theorem cK_len (c : Coef) : (cK c).length = c.length := by unfold cK; rw [List.length_map]
/-- a pair of coefficients and a constant, a list or a tuple -/
def TermAt (H : Hp) (v : V) (c : Coef) (k : Int) : Prop := ∃ a d, v = .ref a ∧ (H a = some (.lst [.ref d, .int k]) ∨ H a = some (.tup [.ref d, .int k])) ∧ H d = some (.dK (cK c))
theorem TermAt.mono {H H' : Hp} (e : Ex H H') {v : V} {c : Coef} {k : Int} (t : TermAt H v c k) : TermAt H' v c k := by
  obtain ⟨a, d, rfl, h, hd⟩ := t
  exact ⟨a, d, rfl, h.imp (e _ _) (e _ _), e _ _ hd⟩
def tDat (c : Coef) (k : Int) : Dat := .tup [.dct (cD c), .int k]
def lDat (c : Coef) (k : Int) : Dat := .lst [.dct (cD c), .int k]
theorem TermAt.of_tup {F : Addr → Prop} {H : Hp} {v : V} {c : Coef} {k : Int} (h : See F H v (tDat c k)) : TermAt H v c k := by
  cases h with
  | tup ha t =>
    cases t with
    | cons h1 t =>
      cases h1 with
      | dct hd tk =>
        cases t with
        | cons h2 t =>
          cases h2; cases t
          exact ⟨_, _, rfl, .inr ha, by rw [← cK_of tk]; exact hd⟩
theorem TermAt.of_lst {F : Addr → Prop} {H : Hp} {v : V} {c : Coef} {k : Int} (h : See F H v (lDat c k)) : TermAt H v c k := by
  cases h with
  | lst ha t =>
    cases t with
    | cons h1 t =>
      cases h1 with
      | dct hd tk =>
        cases t with
        | cons h2 t =>
          cases h2; cases t
          exact ⟨_, _, rfl, .inl ha, by rw [← cK_of tk]; exact hd⟩
/-- a list or a tuple, tracked or of the text -/
def SqQ (K : PySem.W.Frag) (H : Hp) (a : Addr) (xs : List V) : Prop := SqL K H a xs ∨ SqT K H a xs
theorem SqQ.l {K : PySem.W.Frag} {H : Hp} {a : Addr} {xs : List V} (h : H a = some (.lst xs)) : SqQ K H a xs := .inl (SqL.of h)
theorem SqQ.t {K : PySem.W.Frag} {H : Hp} {a : Addr} {xs : List V} (h : H a = some (.tup xs)) : SqQ K H a xs := .inr (SqT.of h)
theorem SqQ.or {K : PySem.W.Frag} {H : Hp} {a : Addr} {xs : List V} (h : H a = some (.lst xs) ∨ H a = some (.tup xs)) : SqQ K H a xs := h.elim SqQ.l SqQ.t
def rIxQ (K : PySem.W.Frag) : R2 := fun x y H Q => ∃ p xs i v, x = .ref p ∧ y = .int i ∧ SqQ K H p xs ∧ atI xs i = some v ∧ Q v H
section
variable {X : Cx}
theorem ix_q : IxR X (rIxQ X.K) := by
  have h := IxR.or (ix_list (X := X)) (ix_tup (X := X))
  intro a b pins s σ H x y v u Q I rx ry q hs
  refine h a b pins s σ H x y v u Q I rx ry ?_ hs
  obtain ⟨p, xs, i, z, e1, e2, e3, e4, e5⟩ := q
  rcases e3 with e3 | e3
  · exact .inl ⟨p, xs, i, z, e1, e2, e3, e4, e5⟩
  · exact .inr ⟨p, xs, i, z, e1, e2, e3, e4, e5⟩
end
theorem atN {xs : List V} {i : Nat} {v : V} (h : xs[i]? = some v) : atI xs (i : Int) = some v := by
  have hi := (List.getElem?_eq_some_iff.mp h).1
  unfold atI ixN
  rw [if_pos (by omega), if_pos (by omega)]
  simpa using h
theorem ix_qK {X : Cx} {K : PySem.W.Frag} (h : X.K = K) : IxR X (rIxQ K) := h ▸ ix_q
/-- len of a list or a tuple, the written part told -/
def rLenQ (K : PySem.W.Frag) : List V → Hp → VK → Prop := fun xs H Q => ∃ p ys, xs = [.ref p] ∧ SqQ K H p ys ∧ Q (.int ys.length) H
theorem len_qK {X : Cx} {K : PySem.W.Frag} (h : X.K = K) : CallR X (.builtin "len") (rLenQ K) := h ▸ call_len_seq
theorem pe_bmK {X : Cx} {K : PySem.W.Frag} {o e : Expr} {es : List Expr} {to : TE} {t : TA} {apos cpos : Pos} {ty : String} {name : Str} {r : V → List V → Hp → VK → Prop} (hK : X.K = K) (h : PE X (.Call (.Attribute o name apos) (e :: es) [] cpos) (tBM X.K ty r to t)) :
    PE X (.Call (.Attribute o name apos) (e :: es) [] cpos) (tBM K ty r to t) := hK ▸ h
theorem atZ {xs : List V} {i : Int} {v : V} (h0 : 0 ≤ i) (h : xs[i.toNat]? = some v) : atI xs i = some v := by
  have := atN h
  rwa [show ((i.toNat : Nat) : Int) = i by omega] at this
theorem at0 {x : V} {xs : List V} : atI (x :: xs) 0 = some x := atN (i := 0) rfl
theorem at1 {x y : V} {xs : List V} : atI (x :: y :: xs) 1 = some y := atN (i := 1) rfl
theorem at2 {x y z : V} {xs : List V} : atI (x :: y :: z :: xs) 2 = some z := atN (i := 2) rfl
theorem atLast {xs : List V} {v : V} : atI (xs ++ [v]) (-1) = some v := by
  unfold atI ixN
  rw [if_neg (by omega), if_pos (by rw [List.length_append]; simp; omega)]
  have : ((-1 : Int) + ((xs ++ [v]).length : Nat)).toNat = xs.length := by rw [List.length_append]; simp; omega
  simp only [Option.bind_some]
  rw [this]; simp
end K8

set_option Elab.async false
set_option linter.all false
set_option maxRecDepth 100000
set_option maxHeartbeats 4000000
namespace K8
open PySem PySem.Spec PyProof.Rows L2 M8
/-! ### isinstance of data -/
/-- a function of the text, as a thing that is asked for its class -/
def FnEq (K : PySem.W.Frag) (a : Addr) : Prop := ∀ (prog : Program) (w : World) (A : Around) (E : Value → Shared → Prop) (s : Shared) (Q : Value → Shared → Prop), A.units + 1 < cLine → K.In s.heap → (∀ tk, Q (.bool true) { s with toks := tk }) →
  wpAny (model prog w) A (compareOp .Eq (.ref a) (.ref a)) Q E s
def FnK (K : PySem.W.Frag) (a : Addr) : Prop := FnEq K a ∧ ∃ P : Heap → Prop, PySem.W.KitX K (.ref a) (.type "function") P ∧ ∀ h : Heap, K.In h → P h
abbrev SeeF (K : PySem.W.Frag) (H : Hp) (v : V) (d : Dat) : Prop := See (FnK K) H v d
def tyD : Dat → String
  | .non => "NoneType" | .bl _ => "bool" | .int _ => "int" | .str _ => "str" | .lst _ => "list" | .tup _ => "tuple" | .dct _ => "dict" | .fn _ => "function"
theorem kit_see {X : Cx} {pins : List (Addr × Obj)} {σ : L2.St} {H : Hp} {s : Shared} {x : V} {u : Value} {d : Dat} (I : Inv X pins σ H s) (rx : RelV x u) (h : SeeF X.K H x d) :
    ∃ P : Heap → Prop, PySem.W.KitX X.K u (.type (tyD d)) P ∧ P s.heap ∧ u ≠ .builtin "__main__.__loader__#opaque" := by
  cases h with
  | non => exact kit_of I rx (.base .non)
  | bl b => exact kit_of I rx (.base (.bl b))
  | int i => exact kit_of I rx (.base (.int i))
  | str z => exact kit_of I rx (.base (.str z))
  | lst ha _ => exact kit_of I rx (.base (.lst ha))
  | tup ha _ => exact kit_of I rx (.base (.tup ha))
  | dct ha _ => exact kit_of I rx (.base (.dK ha))
  | @fn a hf =>
    cases (show u = Value.ref a from rx)
    obtain ⟨_, P, Z, hp⟩ := hf
    exact ⟨P, Z, hp _ I.kIn, fun z => nomatch z⟩
def rIsiD (K : PySem.W.Frag) : List V → Hp → VK → Prop := fun xs H Q => ∃ (x : V) (T : String) (d : Dat) (b : Bool), xs = [x, .ty T] ∧ SeeF K H x d ∧ kitB (tyD d) T = some b ∧ Q (.bl b) H
theorem call_isiD {X : Cx} : CallR X (.builtin "isinstance") (rIsiD X.K) := by
  intro pins s σ H xs us Q I r h
  obtain ⟨x, T, d, b, rfl, hs, e, q⟩ := h
  obtain ⟨u1, u2, rfl, r1, r2⟩ := vals2 r
  cases (show u2 = Value.type T from r2)
  obtain ⟨P, Z, p, hx⟩ := kit_see I r1 hs
  exact PySem.W.kia_one Z I.kIn p (kit_ty e) hx fun tk => ⟨.bl b, H, I.tok tk, rfl, q⟩
def kitBs (a : String) : List String → Option Bool
  | [] => some false
  | T :: Ts => match kitB a T with
    | some true => some true
    | some false => kitBs a Ts
    | none => none
theorem kitAny_of {K : PySem.W.Frag} {a : String} : ∀ {Ts : List String} {b : Bool}, kitBs a Ts = some b → PySem.W.kitAny K (.type a) (Ts.map Value.type) = some b
  | [], b, h => h
  | T :: Ts, b, h => by
    unfold kitBs at h
    split at h
    · rename_i e
      exact kitAny_cons (kit_ty e) (fun z => nomatch z) fun _ => (Option.some.inj h).symm
    · rename_i e
      exact kitAny_cons (kit_ty e) (fun _ => kitAny_of h) (fun z => nomatch z)
    · cases h
def rIsiDT (K : PySem.W.Frag) : List V → Hp → VK → Prop := fun xs H Q => ∃ (x : V) (tp : Addr) (Ts : List String) (d : Dat) (b : Bool), xs = [x, .ref tp] ∧ H tp = some (.tup (Ts.map V.ty)) ∧ SeeF K H x d ∧ kitBs (tyD d) Ts = some b ∧ Q (.bl b) H
theorem cls_tys : ∀ Ts : List String, Paired ClsV (Ts.map V.ty) (Ts.map Value.type)
  | [] => .nil
  | T :: Ts => .cons (.ty T) (cls_tys Ts)
theorem call_isiDT {X : Cx} : CallR X (.builtin "isinstance") (rIsiDT X.K) := by
  intro pins s σ H xs us Q I r h
  obtain ⟨x, tp, Ts, d, b, rfl, hT, hs, e, q⟩ := h
  obtain ⟨u1, u2, rfl, r1, r2⟩ := vals2 r
  cases (show u2 = Value.ref tp from r2)
  obtain ⟨P, Z, p, hx⟩ := kit_see I r1 hs
  obtain ⟨_, its, rv, o, h1, h2, n, h3⟩ := (show ObjOk X.prog X.w H s.heap tp (.tup (Ts.map V.ty)) from I.hok tp _ hT)
  have e3 := ClsV.all (cls_tys Ts) rv
  subst e3
  obtain ⟨oc, od, dt, sl⟩ := o
  simp only at h2 h3
  subst h2 h3
  exact PySem.W.kia_tup Z I.kIn p h1 (kitAny_of e) hx fun tk => ⟨.bl b, H, I.tok tk, rfl, q⟩
/-! what these classes answer -/
def isInt : Dat → Bool | .bl _ => true | .int _ => true | _ => false
def isBool : Dat → Bool | .bl _ => true | _ => false
def isStr : Dat → Bool | .str _ => true | _ => false
def isDct : Dat → Bool | .dct _ => true | _ => false
def isLst : Dat → Bool | .lst _ => true | _ => false
def isTup : Dat → Bool | .tup _ => true | _ => false
theorem kit_int (d : Dat) : kitB (tyD d) "int" = some (isInt d) := by cases d <;> (simp only [tyD, isInt]; decide +kernel)
theorem kit_bool (d : Dat) : kitB (tyD d) "bool" = some (isBool d) := by cases d <;> (simp only [tyD, isBool]; decide +kernel)
theorem kit_str (d : Dat) : kitB (tyD d) "str" = some (isStr d) := by cases d <;> (simp only [tyD, isStr]; decide +kernel)
theorem kit_dct (d : Dat) : kitB (tyD d) "dict" = some (isDct d) := by cases d <;> (simp only [tyD, isDct]; decide +kernel)
theorem kit_lst (d : Dat) : kitB (tyD d) "list" = some (isLst d) := by cases d <;> (simp only [tyD, isLst]; decide +kernel)
theorem kit_tup (d : Dat) : kitB (tyD d) "tuple" = some (isTup d) := by cases d <;> (simp only [tyD, isTup]; decide +kernel)
theorem kit_lt (d : Dat) : kitBs (tyD d) ["list", "tuple"] = some (isLst d || isTup d) := by cases d <;> (simp only [tyD, isLst, isTup]; decide +kernel)
theorem kit_dlt (d : Dat) : kitBs (tyD d) ["dict", "list", "tuple"] = some (isDct d || (isLst d || isTup d)) := by cases d <;> (simp only [tyD, isDct, isLst, isTup]; decide +kernel)
/-- the name of a built-in class -/
theorem pe_tyN {X : Cx} {n : String} {pos : Pos} (hg : Gl X n) (hm : X.mg n = none) (hv : bootBuiltins n = some (.type n)) (hn : (n : Str) ≠ "__name__" := by decide) (hd : ((n : Str) == ("__debug__" : Str)) = false := by decide) : PE X (.Name n pos) (tC (.ty n)) :=
  pe_bltn (v := .ty n) hg hm hv rfl hn hd
/-- what the top has left of the names that are no defs -/
structure Txt (K : PySem.W.Frag) (mg : Str → Option Value) : Prop where
  n_isinstance : mg "isinstance" = none
  n_len : mg "len" = none
  n_all : mg "all" = none
  n_any : mg "any" = none
  n_sum : mg "sum" = none
  n_sorted : mg "sorted" = none
  n_abs : mg "abs" = none
  n_repr : mg "repr" = none
  n_range : mg "range" = none
  n_enumerate : mg "enumerate" = none
  n_zip : mg "zip" = none
  n_int : mg "int" = none
  n_bool : mg "bool" = none
  n_str : mg "str" = none
  n_list : mg "list" = none
  n_tuple : mg "tuple" = none
  n_dict : mg "dict" = none
  c_LETTERS : ∃ t, mg "LETTERS" = some (.str "abcdefghijklmnopqrstuvwxyz" t)
  c_FIGURES : ∃ t, mg "FIGURES" = some (.str "0123456789" t)
  c_MOST : ∃ t, mg "MOST_SIGNS" = some (.int 8 t)
  c_WORDS : ∃ wa, mg "WORDS" = some (.ref wa) ∧ ∀ H : Hp, SqT K H wa (["of", "give", "nothing", "and", "or", "not", "all", "any", "divides", "none", "let", "most", "if", "else", "first", "below", "by", "over"].map fun x : String => V.str x)
section
variable {P : Program} {w : World} {K : PySem.W.Frag} {mg : Str → Option Value} {base : Heap}
/-- whether a thing is an integer, a number from 1 on, a list -/
def isWhole (d : Dat) : Bool := isInt d && !isBool d
def spWhole (K : PySem.W.Frag) : Sp := fun vs H Q _ => ∃ v d, vs = [v] ∧ SeeF K H v d ∧ Q (.bl (isWhole d)) H
abbrev s_is_whole : Stmt := top 9
theorem sc_is_whole : FnScope ["thing"] ["thing"] (defScope s_is_whole) := ⟨rfl, rfl, rfl, by decide +kernel, rfl, by decide +kernel, by decide +kernel⟩
theorem ok_is_whole (T : Txt K mg) (a : At K mg "is_whole" s_is_whole ["thing"]) : Ok P w K mg base CX0 1 "is_whole" ["thing"] (spWhole K) := a.ok fun f fd F => by
  refine F.ok sc_is_whole (fun vs H Q E h => ?_) (fun cdv A outer s H vs Q E hr h => ?_)
  · obtain ⟨v, d, rfl, _⟩ := h; rfl
  · obtain ⟨v, d, rfl, hs, q⟩ := h
    refine ⟨_, (pss_one (ps_ret (pe_and (pe_callB call_isiD rfl T.n_isinstance rfl (pa_cons (pv 0) (pa_cons (pe_tyN (n := "int") rfl T.n_int rfl) pa_nil))) (pe_one (pe_not (pe_callB call_isiD rfl T.n_isinstance rfl (pa_cons (pv 0) (pa_cons (pe_tyN (n := "bool") rfl T.n_bool rfl) pa_nil)))))))), ?_⟩
    refine ⟨_, rfl, v, "int", d, _, rfl, hs, kit_int d, _, rfl, ?_⟩
    unfold isWhole at q
    cases e : isInt d with
    | false => rw [e] at q; exact q
    | true =>
      rw [e] at q
      exact ⟨_, rfl, v, "bool", d, _, rfl, hs, kit_bool d, _, rfl, q⟩
end
end K8

set_option Elab.async false
set_option linter.all false
set_option maxRecDepth 100000
set_option maxHeartbeats 4000000
namespace K8
open PySem PySem.Spec PyProof.Rows L2 M8
/-- all but the objects of S is as it was -/
def Exo (S : List Addr) (H H' : Hp) : Prop := ∀ b o, b ∉ S → H b = some o → H' b = some o
theorem Exo.refl (S : List Addr) (H : Hp) : Exo S H H := fun _ _ _ h => h
theorem Exo.trans {S : List Addr} {H H1 H2 : Hp} (a : Exo S H H1) (b : Exo S H1 H2) : Exo S H H2 := fun x o n h => b x o n (a x o n h)
theorem Ex.exo {H H' : Hp} (e : Ex H H') (S : List Addr) : Exo S H H' := fun b o _ h => e b o h
theorem Exo.ex {H H' : Hp} (e : Exo [] H H') : Ex H H' := fun b o h => e b o (by simp) h
theorem Exo.mut {S : List Addr} {H H' : Hp} {p : Addr} {o : HO} (e : Exo S H H') (h : H p = none) : Exo S H (upd H' p o) := fun a u n ha => by
  rw [upd_ne (ne_of_none ha h)]; exact e a u n ha
theorem Exo.own {S : List Addr} {H H' : Hp} {p : Addr} {o : HO} (e : Exo S H H') (h : p ∈ S) : Exo S H (upd H' p o) := fun a u n ha => by
  have q : a ≠ p := fun z => n (by rw [z]; exact h)
  rw [upd_ne q]; exact e a u n ha
theorem yesT {σ : L2.St} {H : Hp} {A B : Hp → Prop} (h : A H) : tYes σ H (fun b H3 => if b = true then A H3 else B H3) := by
  unfold tYes; exact iteT h
/-- what a comprehension's walk asks -/
def LcB (g : TG) (tt : TT) (te : TE) (vs : List Nat) (σ : L2.St) (Q : VK) (J : It) (H1 : Hp) : Prop := ∀ D, H1 D = none → ∃ W : Nat → Nat → Hp → Prop, (∃ m, W 0 m (upd H1 D (.lst []))) ∧ ∀ i m H, W i m H →
  (J.stop i H ∧ Q (.ref D) H) ∨ (J.go i H ∧ ∃ Nx : Hp → Prop, (∀ H', Nx H' → ∃ m', m' < m ∧ W (i + 1) m' H') ∧ ∀ x H', J.yld i H x H' → g x (wipe σ vs) H' fun σ2 H2 => wipe σ2 vs = wipe σ vs ∧ tt σ2 H2 fun b H3 =>
    if b = true then te σ2 H3 fun y H4 => ∃ acc, H4 D = some (.lst acc) ∧ acc.length < sizeLine ∧ Nx (upd H4 D (.lst (acc ++ [y]))) else Nx H3)
theorem tLc_of {wi : TI} {g : TG} {tt : TT} {te : TE} {vs : List Nat} {σ : L2.St} {H : Hp} {Q : VK} (h : wi σ H (LcB g tt te vs σ Q)) : tLc wi g tt te vs σ H Q := h
def DcB (g : TG) (tt : TT) (tk tv : TE) (vs : List Nat) (σ : L2.St) (Q : VK) (J : It) (H1 : Hp) : Prop := ∀ D, H1 D = none → ∃ W : Nat → Nat → Hp → Prop, (∃ m, W 0 m (upd H1 D (.dK []))) ∧ ∀ i m H, W i m H →
  (J.stop i H ∧ Q (.ref D) H) ∨ (J.go i H ∧ ∃ Nx : Hp → Prop, (∀ H', Nx H' → ∃ m', m' < m ∧ W (i + 1) m' H') ∧ ∀ x H', J.yld i H x H' → g x (wipe σ vs) H' fun σ2 H2 => wipe σ2 vs = wipe σ vs ∧ tt σ2 H2 fun b H3 =>
    if b = true then tk σ2 H3 fun y H4 => tv σ2 H4 fun z H5 => ∃ kvs k, y = kV k ∧ H5 D = some (.dK kvs) ∧ kvs.length < sizeLine ∧ Nx (upd H5 D (.dK (putK kvs k z))) else Nx H3)
theorem tDc_of {wi : TI} {g : TG} {tt : TT} {tk tv : TE} {vs : List Nat} {σ : L2.St} {H : Hp} {Q : VK} (h : wi σ H (DcB g tt tk tv vs σ Q)) : tDc wi g tt tk tv vs σ H Q := h
def ForB (g : TG) (tb : TS) (D : Ends) (σ : L2.St) (J : It) (H1 : Hp) : Prop := ∃ W : Nat → Nat → L2.St → Hp → Prop, (∃ m, W 0 m σ H1) ∧ ∀ i m σ H, W i m σ H → (J.stop i H ∧ D.nx σ H) ∨ (J.go i H ∧ ∃ N : L2.St → Hp → Prop, (∀ σ' H', N σ' H' → ∃ m', m' < m ∧ W (i + 1) m' σ' H') ∧
  ∀ x H', J.yld i H x H' → g x σ H' fun σ2 H2 => tb { D with nx := N, ct := N, bk := D.nx } σ2 H2)
theorem tFor_of {wi : TI} {g : TG} {tb : TS} {D : Ends} {σ : L2.St} {H : Hp} (h : wi σ H (ForB g tb D σ)) : tFor wi g tb D σ H := h
section
variable {J : It} {n : Nat} {G : Hp → Prop} {Y : Nat → Hp → V → Hp → Prop}
theorem for_itB (w : Walk J n G Y) {g : TG} {tb : TS} {D : Ends} {σ : L2.St} {H : Hp} (Pv : Nat → L2.St → Hp → Prop) (h0 : Pv 0 σ H) (hG : ∀ i σ H, i ≤ n → Pv i σ H → G H)
    (hs : ∀ i x σ H H', i < n → Pv i σ H → Y i H x H' → g x σ H' fun σ2 H2 => tb { D with nx := Pv (i + 1), ct := Pv (i + 1), bk := D.nx } σ2 H2) (hd : ∀ σ H, Pv n σ H → D.nx σ H) : ForB g tb D σ J H := for_it w Pv h0 hG hs hd
end
section
variable {J : It} {n : Nat} {G : Hp → Prop} {Y : Nat → Hp → V → Hp → Prop}
/-- a list comprehension over any walk, its element and test changing the objects of S alone -/
theorem lc_gen (w : Walk J n G Y) {g : TG} {tt : TT} {te : TE} {vs : List Nat} {σ : L2.St} {H1 : Hp} {Q : VK} (S : List Addr) (M : Nat → Hp → Prop) (A : Nat → List V → Hp → Prop) (hn : n ≤ 1000000) (hS : ∀ b ∈ S, H1 b ≠ none)
    (hG : ∀ H, Exo S H1 H → G H) (hM : ∀ i H H', (∀ b ∈ S, H' b = H b) → M i H → M i H')
    (hA : ∀ i acc H D l0 l, H D = some (.lst l0) → H1 D = none → A i acc H → A i acc (upd H D (.lst l))) (m0 : M 0 H1) (a0 : ∀ D, H1 D = none → A 0 [] (upd H1 D (.lst [])))
    (hs : ∀ i x H H' acc (R : V → Hp → Prop) (R' : Hp → Prop), i < n → Exo S H1 H → M i H → A i acc H → acc.length ≤ i → Y i H x H' →
      (∀ y H4, Exo S H H4 → M (i + 1) H4 → A (i + 1) (acc ++ [y]) H4 → R y H4) → (∀ H4, Exo S H H4 → M (i + 1) H4 → A (i + 1) acc H4 → R' H4) →
      g x (wipe σ vs) H' fun σ2 H2 => wipe σ2 vs = wipe σ vs ∧ tt σ2 H2 fun b H3 => if b = true then te σ2 H3 R else R' H3)
    (hd : ∀ D acc H, H1 D = none → Exo S H1 H → M n H → A n acc H → H D = some (.lst acc) → acc.length ≤ n → Q (.ref D) H) :
    LcB g tt te vs σ Q J H1 := by
  intro D hD
  have nS : D ∉ S := fun z => hS D z hD
  have sl : (1000000 : Nat) < sizeLine := by rw [sizeLine_eq]; decide
  refine lc_it w (fun i H => Exo S H1 H ∧ M i H ∧ ∃ acc, H D = some (.lst acc) ∧ acc.length ≤ i ∧ A i acc H) ⟨(Exo.refl S H1).mut hD, hM 0 _ _ (fun b hb => upd_ne fun z => nS (z ▸ hb)) m0, [], upd_same, Nat.le_refl _, a0 D hD⟩ (fun i H _ p => hG H p.1) ?_ ?_
  · rintro i x H H' hi ⟨e, m, acc, hDH, hl, a⟩ y
    refine hs i x H H' acc _ _ hi e m a hl y (fun z H4 e4 m4 a4 => ?_) (fun H4 e4 m4 a4 => ?_)
    · have h4 := e4 D _ nS hDH
      refine ⟨acc, h4, by omega, (e.trans e4).mut hD, hM _ _ _ (fun b hb => upd_ne fun q => nS (q ▸ hb)) m4, _, upd_same, by rw [List.length_append]; simp; omega, hA _ _ _ _ _ _ h4 hD a4⟩
    · exact ⟨e.trans e4, m4, acc, e4 D _ nS hDH, by omega, a4⟩
  · rintro H ⟨e, m, acc, hDH, hl, a⟩
    exact hd D acc H hD e m a hDH hl
/-- nothing but new things: the values known ahead -/
theorem lc_val (w : Walk J n G Y) {g : TG} {tt : TT} {te : TE} {vs : List Nat} {σ : L2.St} {H1 : Hp} {Q : VK} (V0 : Nat → List V) (hn : n ≤ 1000000) (hV0 : V0 0 = [])
    (hG : ∀ H, Ex H1 H → G H)
    (hs : ∀ i x H H' (R : V → Hp → Prop) (R' : Hp → Prop), i < n → Ex H1 H → Y i H x H' → (∀ y H4, Ex H H4 → V0 (i + 1) = V0 i ++ [y] → R y H4) → (∀ H4, Ex H H4 → V0 (i + 1) = V0 i → R' H4) →
      g x (wipe σ vs) H' fun σ2 H2 => wipe σ2 vs = wipe σ vs ∧ tt σ2 H2 fun b H3 => if b = true then te σ2 H3 R else R' H3)
    (hd : ∀ D H, H1 D = none → Ex H1 H → H D = some (.lst (V0 n)) → Q (.ref D) H) :
    LcB g tt te vs σ Q J H1 :=
  lc_gen w [] (fun _ _ => True) (fun i acc _ => acc = V0 i) hn (fun b hb => by simp at hb) (fun H e => hG H e.ex) (fun _ _ _ _ _ => trivial) (fun _ _ _ _ _ _ _ _ h => h) trivial (fun _ _ => hV0.symm)
    (fun i x H H' acc R R' hi e _ a _ y k k' => by
      subst a
      exact hs i x H H' R R' hi e.ex y (fun z H4 e4 q => k z H4 (e4.exo _) trivial q.symm) (fun H4 e4 q => k' H4 (e4.exo _) trivial q.symm))
    (fun D acc H hD e _ a hDH _ => by subst a; exact hd D H hD e.ex hDH)
/-- a dict comprehension over distinct names, the values integers known ahead -/
theorem dc_names {ns : List Str} (f : Str → Int) (w : Walk J ns.length G Y) {j : Nat} {tv : TE} {vs : List Nat} {σ : L2.St} {H1 : Hp} {Q : VK} (hn : ns.length ≤ 1000000) (hd : ns.Nodup) (hG : ∀ H, Ex H1 H → G H)
    (hY : ∀ (i : Nat) (x : V) (H H' : Hp), i < ns.length → Ex H1 H → Y i H x H' → H' = H ∧ ∃ nm, ns[i]? = some nm ∧ x = .str nm) (hj : (wipe σ vs)[j]? ≠ none) (hw : ∀ x, wipe ((wipe σ vs).set j (some x)) vs = wipe σ vs)
    (hs : ∀ (i : Nat) (nm : Str) (H : Hp) (R : V → Hp → Prop), ns[i]? = some nm → Ex H1 H → (∀ H4, Ex H H4 → R (.int (f nm)) H4) → tv ((wipe σ vs).set j (some (.str nm))) H R)
    (hq : ∀ D H, H1 D = none → Ex H1 H → H D = some (.dK (cK (ns.map fun n => (n, f n)))) → Q (.ref D) H) :
    DcB (gName j) tYes (tVar j) tv vs σ Q J H1 := by
  intro D hD
  have sl : (1000000 : Nat) < sizeLine := by rw [sizeLine_eq]; decide
  let P : Nat → Hp → Prop := fun i H => Ex H1 H ∧ H D = some (.dK (cK ((ns.take i).map fun n => (n, f n))))
  refine ⟨fun i m H => m = ns.length - i ∧ i ≤ ns.length ∧ P i H, ⟨ns.length, by simp, Nat.zero_le _, Ex.new hD, upd_same⟩, ?_⟩
  rintro i m H ⟨rfl, hi, e, hDH⟩
  by_cases hlt : i < ns.length
  · refine .inr ⟨w.goes i H hlt (hG H e), P (i + 1), fun H' p' => ⟨ns.length - (i + 1), by omega, rfl, hlt, p'⟩, fun x H' y => ?_⟩
    obtain ⟨rfl, nm, hnm, rfl⟩ := hY i x H H' hlt e (w.yields i H x H' hlt (hG H e) y)
    refine ⟨hw _, ?_⟩
    unfold tYes
    dsimp only
    rw [if_pos rfl]
    have hjl : j < (wipe σ vs).length := Decidable.byContradiction fun q => hj (List.getElem?_eq_none (by omega))
    refine ⟨.str nm, List.getElem?_set_self hjl, hs i nm H' _ hnm e fun H4 e4 => ?_⟩
    have ht : ns.take (i + 1) = ns.take i ++ [nm] := by
      rw [List.take_add_one, hnm]; rfl
    refine ⟨_, .inr nm, rfl, e4 D _ hDH, ?_, (e.trans e4).mut hD, ?_⟩
    · rw [cK_len, List.length_map, List.length_take]; omega
    · rw [upd_same]
      have hno : nm ∉ ns.take i := by
        intro q
        have h2 : (ns.take i ++ [nm]).Nodup := by rw [← ht]; exact hd.sublist (List.take_sublist _ _)
        rw [List.nodup_append] at h2
        exact h2.2.2 nm q nm (by simp) rfl
      have hany : ((cK ((ns.take i).map fun n => (n, f n))).any fun kv => decide (kv.1 = Sum.inr nm)) = false := by
        rw [List.any_eq_false]
        intro kv hkv
        unfold cK at hkv
        rw [List.map_map] at hkv
        obtain ⟨m, hm, rfl⟩ := List.mem_map.mp hkv
        simp
        intro q
        exact hno (q ▸ hm)
      unfold putK
      rw [hany, if_neg (by simp), ht, List.map_append]
      unfold cK
      rw [List.map_append]; rfl
  · have ei : i = ns.length := by omega
    subst ei
    refine .inl ⟨w.stops H (hG H e), hq D H hD e ?_⟩
    rw [hDH, List.take_length]
end
end K8

set_option Elab.async false
set_option linter.all false
set_option maxRecDepth 100000
set_option maxHeartbeats 4000000
namespace K8
open PySem PySem.Spec PyProof.Rows L2 M8
section
variable {P : Program} {w : World} {K : PySem.W.Frag} {mg : Str → Option Value} {base : Heap}
def geInt (d : Dat) (n : Int) : Bool := match d with | .int i => decide (n ≤ i) | _ => false
def isFrom1 (d : Dat) : Bool := isWhole d && geInt d 1
def spFrom1 (K : PySem.W.Frag) : Sp := fun vs H Q _ => ∃ v d, vs = [v] ∧ SeeF K H v d ∧ Q (.bl (isFrom1 d)) H
abbrev s_is_from_one : Stmt := top 10
theorem sc_is_from_one : FnScope ["thing"] ["thing"] (defScope s_is_from_one) := ⟨rfl, rfl, rfl, by decide +kernel, rfl, by decide +kernel, by decide +kernel⟩
theorem ok_is_from_one (T : Txt K mg) (a : At K mg "is_from_one" s_is_from_one ["thing"]) (Ois_whole : Ok P w K mg base CX0 1 "is_whole" ["thing"] (spWhole K)) : Ok P w K mg base CX0 2 "is_from_one" ["thing"] (spFrom1 K) := a.ok fun f fd F => by
  refine F.ok sc_is_from_one (fun vs H Q E h => ?_) (fun cdv A outer s H vs Q E hr h => ?_)
  · obtain ⟨v, d, rfl, _⟩ := h; rfl
  · obtain ⟨v, d, rfl, hs, q⟩ := h
    refine ⟨_, (pss_one (ps_ret (pe_and (pe_callO Ois_whole (hr.mono (by decide)) rfl (pa_cons (pv 0) pa_nil)) (pe_one (pe_cmpR op_ge (pv 0) pe_int (nomark _)))))), ?_⟩
    refine ⟨_, rfl, v, d, rfl, hs, _, rfl, ?_⟩
    unfold isFrom1 at q
    cases e : isWhole d with
    | false => rw [e] at q; exact q
    | true =>
      rw [e] at q
      cases hs with
      | int i => exact ⟨_, rfl, _, _, rfl, rfl, q⟩
      | bl b => cases e
      | non => cases e
      | str z => cases e
      | lst _ _ => cases e
      | tup _ _ => cases e
      | dct _ _ => cases e
      | fn _ => cases e
def isSq (d : Dat) : Bool := isLst d || isTup d
def spIsList (K : PySem.W.Frag) : Sp := fun vs H Q _ => ∃ v d, vs = [v] ∧ SeeF K H v d ∧ ∀ H', Ex H H' → Q (.bl (isSq d)) H'
abbrev s_is_list : Stmt := top 11
theorem sc_is_list : FnScope ["thing"] ["thing"] (defScope s_is_list) := ⟨rfl, rfl, rfl, by decide +kernel, rfl, by decide +kernel, by decide +kernel⟩
theorem ok_is_list (T : Txt K mg) (a : At K mg "is_list" s_is_list ["thing"]) : Ok P w K mg base CX0 1 "is_list" ["thing"] (spIsList K) := a.ok fun f fd F => by
  refine F.ok sc_is_list (fun vs H Q E h => ?_) (fun cdv A outer s H vs Q E hr h => ?_)
  · obtain ⟨v, d, rfl, _⟩ := h; rfl
  · obtain ⟨v, d, rfl, hs, q⟩ := h
    refine ⟨_, (pss_one (ps_ret (pe_callB call_isiDT rfl T.n_isinstance rfl (pa_cons (pv 0) (pa_cons (pe_tup (pa_cons (pe_tyN (n := "list") rfl T.n_list rfl) (pa_cons (pe_tyN (n := "tuple") rfl T.n_tuple rfl) pa_nil))) pa_nil))))), ?_⟩
    refine ⟨_, rfl, by show 2 ≤ sizeLine; decide, fun p hp => ?_⟩
    exact ⟨v, p, ["list", "tuple"], d, _, rfl, upd_same, hs.mono (Ex.new hp), kit_lt d, q _ (Ex.new hp)⟩
/-! names -/
def letters : Str := "abcdefghijklmnopqrstuvwxyz"
def figures : Str := "0123456789"
def signOk (c : Nat) : Bool := decide (c ∈ letters.cps.toList) || decide (c ∈ figures.cps.toList)
def isRunS (z : Str) : Bool := !decide (z = ("" : Str)) && z.cps.toList.all signOk
def isRun : Dat → Bool | .str z => isRunS z | _ => false
def spRun (K : PySem.W.Frag) : Sp := fun vs H Q _ => ∃ v d, vs = [v] ∧ SeeF K H v d ∧ (∀ z, d = .str z → z.cps.size ≤ 1000000) ∧ ∀ H', Ex H H' → Q (.bl (isRun d)) H'
abbrev s_is_run : Stmt := top 12
theorem sc_is_run : FnScope ["thing", "sign"] ["thing"] (defScope s_is_run) := ⟨rfl, rfl, rfl, by decide +kernel, rfl, by decide +kernel, by decide +kernel⟩
theorem ok_is_run (T : Txt K mg) (a : At K mg "is_run" s_is_run ["thing"]) : Ok P w K mg base CX0 1 "is_run" ["thing"] (spRun K) := a.ok fun f fd F => by
  refine F.ok sc_is_run (fun vs H Q E h => ?_) (fun cdv A outer s H vs Q E hr h => ?_)
  · obtain ⟨v, d, rfl, _⟩ := h; rfl
  · obtain ⟨v, d, rfl, hs, hz, q⟩ := h
    refine ⟨_, (pss_cons (ps_if (PW.pt (pw_or (pt_not (pt_val (pe_callB call_isiD rfl T.n_isinstance rfl (pa_cons (pv 0) (pa_cons (pe_tyN (n := "str") rfl T.n_str rfl) pa_nil))))) (pw_or1 (pt_cmpR op_eq (pv 0) pe_str (nomark _))))) (pss_one (ps_ret pe_bl)) pss_nil)
      (pss_one (ps_ret (pe_callB (cr_all rfl) rfl T.n_all rfl (pa_cons (pe_lc (own := [("sign", 1)]) (g := gName 1) (tt := tYes) rfl sc_is_run.nd (pi_str (pv 0)) (blkOk_by (N := ["thing", "sign"]) (sc := defScope s_is_run) (by decide +kernel)) (fun _ _ _ _ _ => (pg_name (i := 1) sc_is_run.nd rfl (Or.inl rfl))) (fun _ _ _ _ _ => pts_nil) (fun _ _ _ _ _ => (pe_or (pe_cmpR op_inS (pv 1) (pe_glob (v := .str letters) rfl T.c_LETTERS.choose_spec ⟨_, rfl⟩) rfl) (pe_one (pe_cmpR op_inS (pv 1) (pe_glob (v := .str figures) rfl T.c_FIGURES.choose_spec ⟨_, rfl⟩) rfl))))) pa_nil))))), ?_⟩
    refine ⟨_, rfl, v, "str", d, _, rfl, hs, kit_str d, _, rfl, ?_⟩
    cases hs with
    | str z =>
      refine iteF ⟨_, rfl, rfl, _, rfl, ?_⟩
      have hz' := hz z rfl
      by_cases e : z = ("" : Str)
      · have e' : V.str z = V.str "" := by rw [e]
        have e2 : isRunS z = false := by unfold isRunS; rw [decide_eq_true e]; rfl
        rw [decide_eq_true e']
        have q1 := q H (Ex.refl H)
        change Q (.bl (isRunS z)) H at q1
        rw [e2] at q1
        exact iteT q1
      · have e' : ¬ V.str z = V.str "" := fun k => e (V.str.inj k)
        have e2 : isRunS z = z.cps.toList.all signOk := by unfold isRunS; rw [decide_eq_false e]; rfl
        rw [decide_eq_false e']
        refine iteF ?_
        dsimp only [tNext, tRet, tCB, tCons, tNil]
        refine tLc_of ?_
        refine ⟨_, rfl, z, rfl, ?_⟩
        refine lc_val walk_str (fun i => ((z.cps.toList.take i).map signOk).map V.bl) hz' rfl (fun _ _ => trivial) ?_ ?_
        · rintro i x H1 H2 R R' hi e ⟨rfl, c, hc, rfl⟩ k _
          have hc' : z.cps.toList[i]? = some c := by simpa using hc
          have ht : ((z.cps.toList.take (i + 1)).map signOk).map V.bl = ((z.cps.toList.take i).map signOk).map V.bl ++ [V.bl (signOk c)] := by
            rw [List.take_add_one, hc']; simp
          refine ⟨rfl, yesT ?_⟩
          refine ⟨_, rfl, c, letters, rfl, rfl, _, rfl, ?_⟩
          unfold signOk at ht
          by_cases h1 : c ∈ letters.cps.toList
          · rw [decide_eq_true h1] at ht ⊢
            exact iteT (k _ _ (Ex.refl _) ht)
          · rw [decide_eq_false h1] at ht ⊢
            exact iteF ⟨_, rfl, c, figures, rfl, rfl, k _ _ (Ex.refl _) ht⟩
        · intro D H1 hD e hDH
          have hl : z.cps.toList.take z.cps.size = z.cps.toList := List.take_of_length_le (by simp)
          rw [hl] at hDH
          refine ⟨D, _, rfl, SqL.of hDH, ?_⟩
          have q1 := q H1 e
          change Q (.bl (isRunS z)) H1 at q1
          rw [e2] at q1
          rw [List.all_map]
          exact q1
    | bl b => exact iteT (q H (Ex.refl H))
    | non => exact iteT (q H (Ex.refl H))
    | int z => exact iteT (q H (Ex.refl H))
    | lst _ _ => exact iteT (q H (Ex.refl H))
    | tup _ _ => exact iteT (q H (Ex.refl H))
    | dct _ _ => exact iteT (q H (Ex.refl H))
    | fn _ => exact iteT (q H (Ex.refl H))
end
end K8

set_option Elab.async false
set_option linter.all false
set_option maxRecDepth 100000
set_option maxHeartbeats 4000000
namespace K8
open PySem PySem.Spec PyProof.Rows L2 M8
def words : List Str := ["of", "give", "nothing", "and", "or", "not", "all", "any", "divides", "none", "let", "most", "if", "else", "first", "below", "by", "over"]
def isNameS (z : Str) : Bool := isRunS z && (decide (z.cps.size ≤ 8) && (decide (z.cps.getD 0 0 ∈ letters.cps.toList) && !inV (.str z) (words.map V.str)))
def isName : Dat → Bool | .str z => isNameS z | _ => false
def strOk : Dat → Prop | .str z => z.cps.size ≤ 1000000 | _ => True
def flatD : Dat → Bool | .non => true | .bl _ => true | .int _ => true | .str _ => true | _ => false
def keyD : Key → Dat | .inl i => .int i | .inr z => .str z
theorem see_key {F : Addr → Prop} {H : Hp} (k : Key) : See F H (kV k) (keyD k) := by cases k <;> constructor
theorem see_flat {F : Addr → Prop} {H H' : Hp} {v : V} {d : Dat} (h : See F H v d) (f : flatD d = true) : See F H' v d := by
  cases h with
  | non => exact .non
  | bl b => exact .bl b
  | int i => exact .int i
  | str z => exact .str z
  | lst _ _ => cases f
  | tup _ _ => cases f
  | dct _ _ => cases f
  | fn _ => cases f
theorem Ex.unlock {H H2 : Hp} {a : Addr} {u o : HO} (e : Ex (upd H a o) H2) (h : H a = some u) : Ex H (upd H2 a u) := fun b ob hb => by
  by_cases q : b = a
  · rw [q] at hb ⊢; rw [upd_same, ← h, hb]
  · rw [upd_ne q]; exact e b ob (by rw [upd_ne q]; exact hb)
section
variable {P : Program} {w : World} {K : PySem.W.Frag} {mg : Str → Option Value} {base : Heap}
def spName (K : PySem.W.Frag) : Sp := fun vs H Q _ => ∃ v d, vs = [v] ∧ SeeF K H v d ∧ strOk d ∧ ∀ H', Ex H H' → Q (.bl (isName d)) H'
abbrev s_is_name : Stmt := top 13
theorem sc_is_name : FnScope ["thing"] ["thing"] (defScope s_is_name) := ⟨rfl, rfl, rfl, by decide +kernel, rfl, by decide +kernel, by decide +kernel⟩
theorem ok_is_name (T : Txt K mg) (a : At K mg "is_name" s_is_name ["thing"]) (Ois_run : Ok P w K mg base CX0 1 "is_run" ["thing"] (spRun K)) : Ok P w K mg base CX0 2 "is_name" ["thing"] (spName K) := a.ok fun f fd F => by
  refine F.ok sc_is_name (fun vs H Q E h => ?_) (fun cdv A outer s H vs Q E hr h => ?_)
  · obtain ⟨v, d, rfl, _⟩ := h; rfl
  · obtain ⟨v, d, rfl, hs, hz, q⟩ := h
    refine ⟨_, (pss_one (ps_ret (pe_and (pe_callO Ois_run (hr.mono (by decide)) rfl (pa_cons (pv 0) pa_nil)) (pe_and (pe_cmpR op_le (pe_callB call_len_str rfl T.n_len rfl (pa_cons (pv 0) pa_nil)) (pe_glob (v := .int 8) rfl T.c_MOST.choose_spec ⟨_, rfl⟩) (nomark _)) (pe_and (pe_cmpR op_inS (pe_ix ix_str (pv 0) pe_int (fun _ _ => rfl)) (pe_glob (v := .str letters) rfl T.c_LETTERS.choose_spec ⟨_, rfl⟩) rfl) (pe_one (pe_cmpR op_notIn_seq (pv 0) (pe_glob (v := .ref T.c_WORDS.choose) rfl T.c_WORDS.choose_spec.1 rfl) rfl))))))), ?_⟩
    refine ⟨_, rfl, v, d, rfl, hs, fun z e => by subst e; exact hz, fun H1 e1 => ?_⟩
    have q1 := q H1 e1
    cases hs with
    | str z =>
      change Q (.bl (isNameS z)) H1 at q1
      refine ⟨_, rfl, ?_⟩
      change (if isRunS z = true then _ else _)
      unfold isNameS at q1
      cases e : isRunS z with
      | false => rw [e] at q1; exact iteF q1
      | true =>
        rw [e] at q1
        have hne : z.cps.size ≠ 0 := fun k => by
          have : z = ("" : Str) := by
            cases z with
            | mk a => simp at k; subst k; rfl
          rw [this] at e; exact absurd e (by decide +kernel)
        have sl : (1000000 : Nat) ≤ sizeLine := by rw [sizeLine_eq]; decide
        refine iteT ?_
        refine ⟨_, rfl, z, rfl, Nat.le_trans hz sl, _, _, rfl, rfl, _, rfl, ?_⟩
        have ez : decide ((z.length : Int) ≤ 8) = decide (z.cps.size ≤ 8) := decide_eq_decide.mpr (by show ((z.cps.size : Nat) : Int) ≤ 8 ↔ _; omega)
        rw [ez]
        cases e8 : decide (z.cps.size ≤ 8) with
        | false => rw [e8] at q1; exact iteF q1
        | true =>
          rw [e8] at q1
          refine iteT ?_
          have hc : z.cps.toList[0]? = some (z.cps.getD 0 0) := by
            have : 0 < z.cps.size := by omega
            simp [Array.getD, this]
          have ha : atI z.cps.toList 0 = some (z.cps.getD 0 0) := by
            unfold atI ixN
            rw [if_pos (by omega), if_pos (by simp; omega)]
            exact hc
          refine ⟨_, rfl, z, 0, _, rfl, rfl, Nat.le_trans hz sl, ha, _, letters, rfl, rfl, _, rfl, ?_⟩
          cases e9 : decide (z.cps.getD 0 0 ∈ letters.cps.toList) with
          | false => rw [e9] at q1; exact iteF q1
          | true =>
            rw [e9] at q1
            refine iteT ?_
            exact ⟨_, rfl, _, _, rfl, .inr (T.c_WORDS.choose_spec.2 H1), rfl, by decide +kernel, q1⟩
    | bl b => exact ⟨_, rfl, iteF q1⟩
    | non => exact ⟨_, rfl, iteF q1⟩
    | int z => exact ⟨_, rfl, iteF q1⟩
    | lst _ _ => exact ⟨_, rfl, iteF q1⟩
    | tup _ _ => exact ⟨_, rfl, iteF q1⟩
    | dct _ _ => exact ⟨_, rfl, iteF q1⟩
    | fn _ => exact ⟨_, rfl, iteF q1⟩
def keyOk : Key → Prop | .inr z => z.cps.size ≤ 1000000 | _ => True
def dctOk : Dat → Prop | .dct kds => kds.length ≤ 1000 ∧ (∀ p ∈ kds, flatD p.2 = true ∧ keyOk p.1) ∧ (kds.map (·.1)).Nodup | _ => True
def isNumbers : Dat → Bool | .dct kds => kds.all fun p => isName (keyD p.1) && isWhole p.2 | _ => false
def spNumbers (K : PySem.W.Frag) : Sp := fun vs H Q _ => ∃ v d, vs = [v] ∧ SeeF K H v d ∧ dctOk d ∧ ∀ H', Ex H H' → Q (.bl (isNumbers d)) H'
theorem valV_get {kvs : List (Key × V)} (hd : (kvs.map (·.1)).Nodup) {i : Nat} {k : Key} {v : V} (h : kvs[i]? = some (k, v)) : valV kvs k = some v := by
  induction kvs generalizing i with
  | nil => simp at h
  | cons p kvs ih =>
    have hd' := List.nodup_cons.mp hd
    cases i with
    | zero => simp at h; subst h; exact valV_pos rfl
    | succ i =>
      have h' : kvs[i]? = some (k, v) := by simpa using h
      rw [valV_neg fun e => hd'.1 (List.mem_map.mpr ⟨_, List.mem_of_getElem? h', e.symm⟩)]
      exact ih hd'.2 h'
theorem SeeK.keys {F : Addr → Prop} {H : Hp} : ∀ {vs : List (Key × V)} {ds : List (Key × Dat)}, SeeK F H vs ds → vs.map (·.1) = ds.map (·.1)
  | _, _, .nil => rfl
  | _, _, .cons _ t => by simp [SeeK.keys t]
abbrev s_is_numbers : Stmt := top 14
theorem sc_is_numbers : FnScope ["thing", "name"] ["thing"] (defScope s_is_numbers) := ⟨rfl, rfl, rfl, by decide +kernel, rfl, by decide +kernel, by decide +kernel⟩
theorem ok_is_numbers (T : Txt K mg) (a : At K mg "is_numbers" s_is_numbers ["thing"]) (Ois_name : Ok P w K mg base CX0 2 "is_name" ["thing"] (spName K)) (Ois_whole : Ok P w K mg base CX0 1 "is_whole" ["thing"] (spWhole K)) : Ok P w K mg base CX0 3 "is_numbers" ["thing"] (spNumbers K) := a.ok fun f fd F => by
  refine F.ok sc_is_numbers (fun vs H Q E h => ?_) (fun cdv A outer s H vs Q E hr h => ?_)
  · obtain ⟨v, d, rfl, _⟩ := h; rfl
  · obtain ⟨v, d, rfl, hs, hok, q⟩ := h
    refine ⟨_, (pss_cons (ps_if (pt_not (pt_val (pe_callB call_isiD rfl T.n_isinstance rfl (pa_cons (pv 0) (pa_cons (pe_tyN (n := "dict") rfl T.n_dict rfl) pa_nil))))) (pss_one (ps_ret pe_bl)) pss_nil)
      (pss_one (ps_ret (pe_callB (cr_all rfl) rfl T.n_all rfl (pa_cons (pe_lock (pe_lc (own := [("name", 1)]) (g := gName 1) (tt := tYes) rfl sc_is_numbers.nd (pi_keys (pv 0)) (blkOk_by (N := ["thing", "name"]) (sc := defScope s_is_numbers) (by decide +kernel)) (fun _ _ _ _ _ => (pg_name (i := 1) sc_is_numbers.nd rfl (Or.inl rfl))) (fun _ _ _ _ _ => pts_nil) (fun _ _ _ _ _ => (pe_and (pe_callO Ois_name (hr.mono (by decide)) rfl (pa_cons (pv 1) pa_nil)) (pe_one (pe_callO Ois_whole (hr.mono (by decide)) rfl (pa_cons (pe_dget (hu_of hr) (pv 0) (pv 1) (fun _ _ => rfl)) pa_nil))))))) pa_nil))))), ?_⟩
    refine ⟨_, rfl, v, "dict", d, _, rfl, hs, kit_dct d, _, rfl, ?_⟩
    cases hs with
    | @dct a kvs kds ha hk =>
      refine iteF ?_
      dsimp only [tNext, tRet, tCB, tCons, tNil]
      obtain ⟨hl, hf, hnd⟩ := hok
      have hlen := hk.len
      refine ⟨a, .dK kvs, ha, trivial, fun od => ?_⟩
      refine tLc_of ?_
      refine ⟨_, rfl, a, od, rfl, .inl ⟨kvs, upd_same, ?_⟩⟩
      refine lc_val walk_keys (fun i => ((kds.take i).map fun p => isName (keyD p.1) && isWhole p.2).map V.bl) (by omega) rfl (fun H1 e => e _ _ upd_same) ?_ ?_
      · rintro i x H1 H2 R R' hi e ⟨rfl, k, z, hkz, rfl⟩ kk _
        obtain ⟨d, hd, hsd⟩ := hk.get hkz
        have hm := List.mem_of_getElem? hd
        have hfd := hf _ hm
        have ht : ((kds.take (i + 1)).map fun p => isName (keyD p.1) && isWhole p.2).map V.bl = ((kds.take i).map fun p => isName (keyD p.1) && isWhole p.2).map V.bl ++ [V.bl (isName (keyD k) && isWhole d)] := by
          rw [List.take_add_one, hd]; simp
        refine ⟨rfl, yesT ?_⟩
        refine ⟨_, rfl, _, _, rfl, see_key k, by cases k <;> first | trivial | exact hfd.2, fun H3 e3 => ⟨_, rfl, ?_⟩⟩
        have hD3 : H3 a = some (.frz od (.dK kvs)) := e3 _ _ (e _ _ upd_same)
        have hv : valV kvs k = some z := valV_get (by rw [hk.keys]; exact hnd) hkz
        cases e1 : isName (keyD k) with
        | false => rw [e1] at ht; exact iteF (kk _ _ e3 ht)
        | true =>
          rw [e1] at ht
          refine iteT ⟨_, rfl, _, rfl, a, z, rfl, .inl ⟨kvs, k, .inr ⟨od, hD3⟩, rfl, hv.symm⟩, z, d, rfl, see_flat hsd hfd.1, kk _ _ e3 ht⟩
      · intro D H1 hD e hDH
        have hx := e _ _ upd_same
        have hDa : D ≠ a := fun z => by rw [z, upd_same] at hD; cases hD
        have hl2 : kds.take kvs.length = kds := List.take_of_length_le (by omega)
        rw [hl2] at hDH
        refine ⟨hx, D, _, rfl, SqL.of (by rw [upd_ne hDa]; exact hDH), ?_⟩
        have q1 := q _ (e.unlock ha)
        rw [List.all_map]
        exact q1
    | bl b => exact iteT (q H (Ex.refl H))
    | non => exact iteT (q H (Ex.refl H))
    | int z => exact iteT (q H (Ex.refl H))
    | str z => exact iteT (q H (Ex.refl H))
    | lst _ _ => exact iteT (q H (Ex.refl H))
    | tup _ _ => exact iteT (q H (Ex.refl H))
    | fn _ => exact iteT (q H (Ex.refl H))
end
end K8

set_option Elab.async false
set_option linter.all false
set_option maxRecDepth 100000
set_option maxHeartbeats 4000000
namespace K8
open PySem PySem.Spec PyProof.Rows L2 M8
section
variable {P : Program} {w : World} {K : PySem.W.Frag} {mg : Str → Option Value} {base : Heap}
def items : Dat → List Dat | .lst ds => ds | .tup ds => ds | _ => []
/-- a list or a tuple shows its items -/
theorem see_sq {F : Addr → Prop} {H : Hp} {v : V} {d : Dat} (h : See F H v d) (s : isSq d = true) : ∃ a xs, v = .ref a ∧ (H a = some (.lst xs) ∨ H a = some (.tup xs)) ∧ SeeL F H xs (items d) := by
  cases h with
  | lst ha t => exact ⟨_, _, rfl, .inl ha, t⟩
  | tup ha t => exact ⟨_, _, rfl, .inr ha, t⟩
  | non => cases s
  | bl b => cases s
  | int i => cases s
  | str z => cases s
  | dct _ _ => cases s
  | fn _ => cases s
def isTerm (d : Dat) : Bool := isSq d && (match items d with | [x, k] => isNumbers x && isWhole k | _ => false)
def termOk (d : Dat) : Prop := ∀ x ∈ items d, dctOk x
def spTerm (K : PySem.W.Frag) : Sp := fun vs H Q _ => ∃ v d, vs = [v] ∧ SeeF K H v d ∧ termOk d ∧ ∀ H', Ex H H' → Q (.bl (isTerm d)) H'
theorem dec_len {xs : List V} {n : Nat} : decide (V.int (xs.length : Int) = V.int (n : Int)) = decide (xs.length = n) := decide_eq_decide.mpr ⟨fun h => by have := V.int.inj h; omega, fun h => by rw [h]⟩
abbrev s_is_term : Stmt := top 17
theorem sc_is_term : FnScope ["thing"] ["thing"] (defScope s_is_term) := ⟨rfl, rfl, rfl, by decide +kernel, rfl, by decide +kernel, by decide +kernel⟩
theorem ok_is_term (T : Txt K mg) (a : At K mg "is_term" s_is_term ["thing"]) (Ois_list : Ok P w K mg base CX0 1 "is_list" ["thing"] (spIsList K)) (Ois_numbers : Ok P w K mg base CX0 3 "is_numbers" ["thing"] (spNumbers K)) (Ois_whole : Ok P w K mg base CX0 1 "is_whole" ["thing"] (spWhole K)) : Ok P w K mg base CX0 4 "is_term" ["thing"] (spTerm K) := a.ok fun f fd F => by
  refine F.ok sc_is_term (fun vs H Q E h => ?_) (fun cdv A outer s H vs Q E hr h => ?_)
  · obtain ⟨v, d, rfl, _⟩ := h; rfl
  · obtain ⟨v, d, rfl, hs, hok, q⟩ := h
    refine ⟨_, (pss_one (ps_ret (pe_and (pe_callO Ois_list (hr.mono (by decide)) rfl (pa_cons (pv 0) pa_nil)) (pe_and (pe_cmpR op_eq (pe_callB (len_qK (K := K) rfl) rfl T.n_len rfl (pa_cons (pv 0) pa_nil)) pe_int (nomark _)) (pe_and (pe_callO Ois_numbers (hr.mono (by decide)) rfl (pa_cons (pe_ix (ix_qK (K := K) rfl) (pv 0) pe_int (fun _ _ => rfl)) pa_nil)) (pe_one (pe_callO Ois_whole (hr.mono (by decide)) rfl (pa_cons (pe_ix (ix_qK (K := K) rfl) (pv 0) pe_int (fun _ _ => rfl)) pa_nil)))))))), ?_⟩
    refine ⟨_, rfl, v, d, rfl, hs, fun H1 e1 => ⟨_, rfl, ?_⟩⟩
    have q1 := q H1 e1
    unfold isTerm at q q1
    cases e : isSq d with
    | false => rw [e] at q1; exact iteF q1
    | true =>
      rw [e] at q q1
      refine iteT ?_
      obtain ⟨p, xs, rfl, hp, hx⟩ := see_sq (hs.mono e1) e
      have hlen := hx.len
      refine ⟨_, rfl, p, xs, rfl, SqQ.or hp, rfl, _, rfl, ?_⟩
      have dl : decide (V.int (xs.length : Int) = V.int 2) = decide (xs.length = 2) := dec_len (n := 2)
      rw [dl]
      by_cases h2 : xs.length = 2
      · rw [decide_eq_true h2]
        refine iteT ?_
        match hi : items d, hx, hlen with
        | [x, k], .cons h1 (.cons h3 .nil), _ =>
          refine ⟨_, rfl, p, _, 0, _, rfl, rfl, SqQ.or hp, at0, _, x, rfl, h1, hok x (by rw [hi]; simp), fun H2 e2 => ⟨_, rfl, ?_⟩⟩
          have q2 := q H2 (e1.trans e2)
          rw [hi] at q2
          change Q (.bl (isNumbers x && isWhole k)) H2 at q2
          cases en : isNumbers x with
          | false => rw [en] at q2; exact iteF q2
          | true =>
            rw [en] at q2
            exact iteT ⟨_, rfl, p, _, 1, _, rfl, rfl, SqQ.or (hp.imp (e2 _ _) (e2 _ _)), at1, _, k, rfl, h3.mono e2, q2⟩
        | [], _, hl => rw [hl] at h2; cases h2
        | [_], _, hl => rw [hl] at h2; cases h2
        | _ :: _ :: _ :: _, _, hl => rw [hl] at h2; simp at h2
      · rw [decide_eq_false h2]
        refine iteF ?_
        have : (match items d with | [x, k] => isNumbers x && isWhole k | _ => false) = false := by
          split
          · rename_i x k hi; rw [hi] at hlen; exact absurd hlen h2
          · rfl
        rw [this] at q1
        exact q1
/-! the names of a term, ascending -/
def NewT (H H' : Hp) (v : V) (c : Coef) (k : Int) : Prop := ∃ q d, v = .ref q ∧ H q = none ∧ H d = none ∧ H' q = some (.tup [.ref d, .int k]) ∧ H' d = some (.dK (cK c)) ∧ Ex H H'
theorem NewT.at {H H' : Hp} {v : V} {c : Coef} {k : Int} (n : NewT H H' v c k) : TermAt H' v c k := by
  obtain ⟨q, d, rfl, _, _, h1, h2, _⟩ := n
  exact ⟨q, d, rfl, .inr h1, h2⟩
theorem NewT.ex {H H' : Hp} {v : V} {c : Coef} {k : Int} (n : NewT H H' v c k) : Ex H H' := by
  obtain ⟨q, d, rfl, _, _, h1, h2, e⟩ := n; exact e
/-- few names, no name twice -/
structure Few (c : Coef) : Prop where
  nd : (keys c).Nodup
  len : c.length ≤ 60
theorem Few.canon {c : Coef} (h : Few c) : Few (canon c) := ⟨canon_nodup h.nd, by
  have : (M8.canon c).length ≤ c.length := by
    unfold M8.canon nz
    rw [List.length_map, srt_length, List.length_map]
    exact List.length_filter_le _ _
  have := h.len; omega⟩
theorem Few.mapc {c : Coef} (h : Few c) (f : Int → Int) : Few (mapc f c) := ⟨by rw [keys_mapc]; exact h.nd, by unfold M8.mapc; rw [List.length_map]; exact h.len⟩
theorem nz_len {c : Coef} (h : Few c) : (nz c).length ≤ 60 := by
  unfold nz
  rw [srt_length, List.length_map]
  exact Nat.le_trans (List.length_filter_le _ _) h.len
theorem get_cK {c : Coef} {i : Nat} {n : Str} {z : Int} (h : c[i]? = some (n, z)) : (cK c)[i]? = some (.inr n, .int z) := by unfold cK; rw [List.getElem?_map, h]; rfl
theorem keys_cK (c : Coef) : (cK c).map (·.1) = (keys c).map Sum.inr := by unfold cK keys; rw [List.map_map, List.map_map]; rfl
theorem valV_co {c : Coef} {n : Str} (h : n ∈ keys c) (hn : (keys c).Nodup) : valV (cK c) (.inr n) = some (.int (co c n)) := by
  obtain ⟨i, hi⟩ := look_some h hn
  rw [valV_cK, hi]; unfold co; rw [hi]; rfl
def spNamesOf : Sp := fun vs H Q _ => ∃ v c k, vs = [v] ∧ TermAt H v c k ∧ Few c ∧ ∀ p H', H p = none → Ex H H' → H' p = some (.lst ((nz c).map V.str)) → Q (.ref p) H'
abbrev s_names_of : Stmt := top 18
theorem sc_names_of : FnScope ["term", "coefficients", "name"] ["term"] (defScope s_names_of) := ⟨rfl, rfl, rfl, by decide +kernel, rfl, by decide +kernel, by decide +kernel⟩
theorem ok_names_of (T : Txt K mg) (a : At K mg "names_of" s_names_of ["term"]) : Ok P w K mg base CX0 1 "names_of" ["term"] spNamesOf := a.ok fun f fd F => by
  refine F.ok sc_names_of (fun vs H Q E h => ?_) (fun cdv A outer s H vs Q E hr h => ?_)
  · obtain ⟨v, c, k, rfl, _⟩ := h; rfl
  · obtain ⟨v, c, k, rfl, ⟨p, d, rfl, hp, hd⟩, few, q⟩ := h
    refine ⟨_, (pss_cons (ps_set (i := 1) sc_names_of.nd rfl (Or.inr rfl) (pe_ix (ix_qK (K := K) rfl) (pv 0) pe_int (fun _ _ => rfl)))
      (pss_one (ps_ret (pe_callB cr_sortedS rfl T.n_sorted rfl (pa_cons (pe_lock (pe_lc (own := [("name", 2)]) (g := gName 2) (tt := _) rfl sc_names_of.nd (pi_keys (pv 1)) (blkOk_by (N := ["term", "coefficients", "name"]) (sc := defScope s_names_of) (by decide +kernel)) (fun _ _ _ _ _ => (pg_name (i := 2) sc_names_of.nd rfl (Or.inl rfl))) (fun _ _ _ _ _ => (pts_one (pt_cmpR op_ne (pe_dget (hu_of hr) (pv 1) (pv 2) (fun _ _ => rfl)) pe_int (nomark _)))) (fun _ _ _ _ _ => (pv 2)))) pa_nil))))), ?_⟩
    refine ⟨_, rfl, p, _, 0, _, rfl, rfl, SqQ.or hp, at0, ?_⟩
    dsimp only [tNext, tRet, tCB, tCons, tNil, gName]
    refine ⟨d, _, hd, trivial, fun od => ?_⟩
    refine tLc_of ?_
    refine ⟨_, rfl, d, od, rfl, .inl ⟨_, upd_same, ?_⟩⟩
    have hl : (cK c).length = c.length := cK_len c
    refine lc_val walk_keys (fun i => (((c.take i).filter fun p => decide (p.2 ≠ 0)).map (·.1)).map V.str) (by have := few.len; omega) rfl (fun H1 e => e _ _ upd_same) ?_ ?_
    · rintro i x H1 H2 R R' hi e ⟨rfl, k', z, hkz, rfl⟩ kk kk'
      have hci : i < c.length := by omega
      obtain ⟨⟨n, y⟩, hcy'⟩ : ∃ p : Str × Int, c[i]? = some p := ⟨c[i], List.getElem?_eq_getElem hci⟩
      rw [get_cK hcy'] at hkz
      cases hkz
      have hm : n ∈ keys c := List.mem_map.mpr ⟨(n, y), List.mem_of_getElem? hcy', rfl⟩
      have hco : co c n = y := co_of_mem few.nd (List.mem_of_getElem? hcy')
      have hD3 : H2 d = some (.frz od (.dK (cK c))) := e _ _ upd_same
      have ht : c.take (i + 1) = c.take i ++ [(n, y)] := by rw [List.take_add_one, hcy']; rfl
      refine ⟨rfl, ?_⟩
      refine ⟨_, rfl, _, rfl, d, _, rfl, .inl ⟨cK c, .inr n, .inr ⟨od, hD3⟩, rfl, (valV_co hm few.nd).symm⟩, rfl, _, rfl, ?_⟩
      rw [hco]
      by_cases hy : y = 0
      · have e1 : (!decide (V.int y = V.int 0)) = false := by rw [hy]; rfl
        rw [e1]
        refine iteF (kk' _ (Ex.refl _) ?_)
        rw [ht, List.filter_append, hy]; simp
      · have e1 : (!decide (V.int y = V.int 0)) = true := by rw [decide_eq_false fun z => hy (V.int.inj z)]; rfl
        rw [e1]
        refine iteT ⟨_, rfl, kk _ _ (Ex.refl _) ?_⟩
        rw [ht, List.filter_append, List.map_append, List.map_append, List.filter_cons, if_pos (by simpa using hy)]; rfl
    · intro D H1 hD e hDH
      have hx := e _ _ upd_same
      have hDd : D ≠ d := fun z => by rw [z, upd_same] at hD; cases hD
      have hl2 : c.take (cK c).length = c := List.take_of_length_le (by omega)
      rw [hl2] at hDH
      have ex := e.unlock hd
      refine ⟨hx, D, _, rfl, SqL.of (by rw [upd_ne hDd]; exact hDH), ?_, fun ys p2 hperm hsort hp2 => ?_⟩
      · rw [List.length_map]
        have := List.length_filter_le (fun p : Str × Int => decide (p.2 ≠ 0)) c
        have := few.len; omega
      · refine q p2 _ (ex.free hp2) (ex.mut (ex.free hp2)) ?_
        rw [upd_same]
        have : nz c = ys := srt_eq hperm (sorted_pw hsort)
        rw [this]
end
end K8

set_option Elab.async false
set_option linter.all false
set_option maxRecDepth 100000
set_option maxHeartbeats 4000000
namespace K8
open PySem PySem.Spec PyProof.Rows L2 M8
/-! x in a written tuple of texts, x flat or a list of texts -/
def rInT (K : PySem.W.Frag) : R2 := fun x y H Q => ∃ d ds, Dp K H x d ∧ Dp K H y (.tuple ds) ∧ SeqAt.shaped d = true ∧ SeqAt.shaped (.tuple ds) = true ∧ Q (.bl (ds.any fun z => PyData.eqv z d)) H
theorem op_inT {X : Cx} (hu : X.A.units + 65 < cLine) : OpR X (compareOp .In) (rInT X.K) := by
  intro pins s σ H x y v u Q I rx ry h
  obtain ⟨d, ds, hd, he, sd, se, q⟩ := h
  obtain ⟨as, r1⟩ := Dp.reads I d x v hd rx
  obtain ⟨bs, r2⟩ := Dp.reads I (.tuple ds) y u he ry
  have hroom : X.A.units + 1 + min (PyData.depthAll ds) d.depth < cLine := room_in_shaped sd hu
  exact SeqAt.in_tuple_reads r2 r1 (SeqAt.canLay_of_shaped se) (SeqAt.canLay_of_shaped sd) hroom ⟨.bl _, H, I, rfl, q⟩
theorem op_in_z {X : Cx} (hu : X.A.units + 65 < cLine) : OpR X (compareOp .In) (fun x y H Q => rIn X.K false x y H Q ∨ rInT X.K x y H Q) := OpR.or op_in_seq (op_inT hu)
theorem hu65 {A : Around} {k : Nat} (hr : Room (k + 1) A) : A.units + 65 < cLine := by have := hr.un; omega
/-! {name: f(term[0][name]) for name in term[0]} -/
theorem mapc_keys {c : Coef} (few : Few c) (f : Int → Int) : (keys c).map (fun n => (n, f (co c n))) = mapc f c := by
  unfold keys mapc
  rw [List.map_map]
  refine List.map_congr_left fun p hp => ?_
  obtain ⟨n, i⟩ := p
  show (n, f (co c n)) = (n, f i)
  rw [co_of_mem few.nd hp]
theorem dc_lock {H : Hp} {d : Addr} {c : Coef} {td tv : TE} {j : Nat} {vs : List Nat} {σ : L2.St} {Q : VK} (f : Int → Int) (hd : H d = some (.dK (cK c))) (few : Few c)
    (htd : ∀ (H2 : Hp) (R : V → Hp → Prop), (∀ b o, b ≠ d → H b = some o → H2 b = some o) → R (.ref d) H2 → td σ H2 R) (hj : (wipe σ vs)[j]? ≠ none) (hw : ∀ x, wipe ((wipe σ vs).set j (some x)) vs = wipe σ vs)
    (hv : ∀ (nm : Str) (H2 : Hp) (od : Obj) (R : V → Hp → Prop), nm ∈ keys c → H2 d = some (.frz od (.dK (cK c))) → (∀ b o, b ≠ d → H b = some o → H2 b = some o) → (∀ H4, Ex H2 H4 → R (.int (f (co c nm))) H4) → tv ((wipe σ vs).set j (some (.str nm))) H2 R)
    (hq : ∀ p H', H p = none → Ex H H' → H' p = some (.dK (cK (mapc f c))) → Q (.ref p) H') : tLockE (tDc (iKeys td) (gName j) tYes (tVar j) tv vs) σ H Q := by
  refine ⟨d, _, hd, trivial, fun od => ?_⟩
  refine tDc_of ?_
  have out : ∀ H2 : Hp, Ex (upd H d (.frz od (.dK (cK c)))) H2 → ∀ b o, b ≠ d → H b = some o → H2 b = some o := fun H2 e b o hb h => e b o (by rw [upd_ne hb]; exact h)
  refine htd _ _ (fun b o hb h => by rw [upd_ne hb]; exact h) ⟨d, od, rfl, .inl ⟨_, upd_same, ?_⟩⟩
  have hl : (cK c).length = (keys c).length := by rw [cK_len]; unfold keys; rw [List.length_map]
  have w := walk_keys (d := d) (o := od) (kvs := cK c)
  rw [hl] at w
  refine dc_names (ns := keys c) (fun n => f (co c n)) w (by have := few.len; rw [← hl, cK_len]; omega) few.nd (fun H1 e => e _ _ upd_same) ?_ hj hw ?_ ?_
  · rintro i x H1 H2 hi e ⟨rfl, k', z, hkz, rfl⟩
    obtain ⟨⟨n, y⟩, hcy⟩ : ∃ p : Str × Int, c[i]? = some p := ⟨c[i]'(by rw [← hl, cK_len] at hi; exact hi), List.getElem?_eq_getElem _⟩
    rw [get_cK hcy] at hkz
    cases hkz
    exact ⟨rfl, n, by unfold keys; rw [List.getElem?_map, hcy]; rfl, rfl⟩
  · intro i nm H1 R hnm e k
    exact hv nm H1 od R (List.mem_of_getElem? hnm) (e _ _ upd_same) (out H1 e) k
  · intro p H1 hp e hp1
    have hx := e _ _ upd_same
    have hpd : p ≠ d := fun z => by rw [z, upd_same] at hp; cases hp
    rw [mapc_keys few] at hp1
    exact ⟨hx, hq p _ (by rw [upd_ne hpd] at hp; exact hp) (e.unlock hd) (by rw [upd_ne hpd]; exact hp1)⟩
section
variable {P : Program} {w : World} {K : PySem.W.Frag} {mg : Str → Option Value} {base : Heap}
def spTold : Sp := fun vs H Q _ => ∃ v c k, vs = [v] ∧ TermAt H v c k ∧ Few c ∧ ∀ u H', NewT H H' u (canon c) k → Q u H'
abbrev s_told_term : Stmt := top 19
theorem sc_told_term : FnScope ["term", "name"] ["term"] (defScope s_told_term) := ⟨rfl, rfl, rfl, by decide +kernel, rfl, by decide +kernel, by decide +kernel⟩
theorem ok_told_term (T : Txt K mg) (a : At K mg "told_term" s_told_term ["term"]) (Onames_of : Ok P w K mg base CX0 1 "names_of" ["term"] spNamesOf) : Ok P w K mg base CX0 2 "told_term" ["term"] spTold := a.ok fun f fd F => by
  refine F.ok sc_told_term (fun vs H Q E h => ?_) (fun cdv A outer s H vs Q E hr h => ?_)
  · obtain ⟨v, c, k, rfl, _⟩ := h; rfl
  · obtain ⟨v, c, k, rfl, ⟨p, d, rfl, hp, hd⟩, few, q⟩ := h
    refine ⟨_, (pss_one (ps_ret (pe_tup (pa_cons (pe_dc (own := [("name", 1)]) (g := gName 1) (tt := tYes) rfl sc_told_term.nd (pi_list (pe_callO Onames_of (hr.mono (by decide)) rfl (pa_cons (pv 0) pa_nil))) (blkOk_by (N := ["term", "name"]) (sc := defScope s_told_term) (by decide +kernel)) (fun _ _ _ _ _ => (pg_name (i := 1) sc_told_term.nd rfl (Or.inl rfl))) (fun _ _ _ _ _ => pts_nil) (fun _ _ _ _ _ => (pv 1)) (fun _ _ _ _ _ => (pe_dget (hu_of hr) (pe_ix (ix_qK (K := K) rfl) (pv 0) pe_int (fun _ _ => rfl)) (pv 1) (fun _ _ => rfl)))) (pa_cons (pe_ix (ix_qK (K := K) rfl) (pv 0) pe_int (fun _ _ => rfl)) pa_nil))))), ?_⟩
    dsimp only [tNext, tRet, tTup, tCons, tNil]
    refine tDc_of ?_
    refine ⟨_, rfl, _, c, k, rfl, ⟨p, d, rfl, hp, hd⟩, few, fun l H1 hl e1 hl1 => ?_⟩
    refine ⟨l, rfl, ⟨_, SqL.of hl1⟩, ?_⟩
    have hlen : ((nz c).map V.str).length = (nz c).length := List.length_map _
    have wk := walk_list (K := K) (a := l) (xs := (nz c).map V.str)
    rw [hlen] at wk
    refine dc_names (ns := nz c) (co c) wk (by have := nz_len few; omega) (nz_nodup few.nd) (fun H2 e => SqL.of (e _ _ hl1)) ?_ (by simp [wipe, L2.start]) (fun _ => rfl) ?_ ?_
    · rintro i x H2 H3 hi e ⟨rfl, hx⟩
      rw [List.getElem?_map] at hx
      obtain ⟨n, hn, rfl⟩ := Option.map_eq_some_iff.mp hx
      exact ⟨rfl, n, hn, rfl⟩
    · intro i nm H2 R hnm e kk
      have e2 := e1.trans e
      have hm : nm ∈ keys c := Decidable.byContradiction fun z => (mem_nz few.nd).mp (List.mem_of_getElem? hnm) (co_notin z)
      exact ⟨_, rfl, p, _, 0, _, rfl, rfl, SqQ.or (hp.imp (e2 _ _) (e2 _ _)), at0, _, rfl, d, _, rfl, .inl ⟨cK c, .inr nm, .inl (e2 _ _ hd), rfl, (valV_co hm few.nd).symm⟩, kk _ (Ex.refl _)⟩
    · intro D H2 hD e hD2
      have e2 := e1.trans e
      refine ⟨_, rfl, p, _, 1, _, rfl, rfl, SqQ.or (hp.imp (e2 _ _) (e2 _ _)), at1, by show 2 ≤ sizeLine; decide, fun t ht => ?_⟩
      refine q _ _ ⟨t, D, rfl, e2.free ht, e1.free hD, upd_same, ?_, e2.mut (e2.free ht)⟩
      rw [upd_ne (ne_of_none hD2 ht)]
      exact hD2
def spScaled : Sp := fun vs H Q _ => ∃ v c k m, vs = [v, .int m] ∧ TermAt H v c k ∧ Few c ∧ (-(2 ^ 64) < m ∧ m < 2 ^ 64) ∧ ∀ u H', NewT H H' u (canon (mapc (fun i => m * i) c)) (m * k) → Q u H'
abbrev s_scaled : Stmt := top 20
theorem sc_scaled : FnScope ["term", "number", "name"] ["term", "number"] (defScope s_scaled) := ⟨rfl, rfl, rfl, by decide +kernel, rfl, by decide +kernel, by decide +kernel⟩
theorem ok_scaled (T : Txt K mg) (a : At K mg "scaled" s_scaled ["term", "number"]) (Otold_term : Ok P w K mg base CX0 2 "told_term" ["term"] spTold) : Ok P w K mg base CX0 3 "scaled" ["term", "number"] spScaled := a.ok fun f fd F => by
  refine F.ok sc_scaled (fun vs H Q E h => ?_) (fun cdv A outer s H vs Q E hr h => ?_)
  · obtain ⟨v, c, k, m, rfl, _⟩ := h; rfl
  · obtain ⟨v, c, k, m, rfl, ⟨p, d, rfl, hp, hd⟩, few, hm, q⟩ := h
    refine ⟨_, (pss_one (ps_ret (pe_callO Otold_term (hr.mono (by decide)) rfl (pa_cons (pe_tup (pa_cons (pe_lock (pe_dc (own := [("name", 2)]) (g := gName 2) (tt := tYes) rfl sc_scaled.nd (pi_keys (pe_ix (ix_qK (K := K) rfl) (pv 0) pe_int (fun _ _ => rfl))) (blkOk_by (N := ["term", "number", "name"]) (sc := defScope s_scaled) (by decide +kernel)) (fun _ _ _ _ _ => (pg_name (i := 2) sc_scaled.nd rfl (Or.inl rfl))) (fun _ _ _ _ _ => pts_nil) (fun _ _ _ _ _ => (pv 2)) (fun _ _ _ _ _ => (pe_op op_mul (pv 1) (pe_dget (hu_of hr) (pe_ix (ix_qK (K := K) rfl) (pv 0) pe_int (fun _ _ => rfl)) (pv 2) (fun _ _ => rfl)))))) (pa_cons (pe_op op_mul (pv 1) (pe_ix (ix_qK (K := K) rfl) (pv 0) pe_int (fun _ _ => rfl))) pa_nil))) pa_nil)))), ?_⟩
    have pd : p ≠ d := fun z => by rw [z, hd] at hp; rcases hp with hp | hp <;> cases hp
    dsimp only [tNext, tRet, tC0, tTup, tCons, tNil]
    refine dc_lock (fun i => m * i) hd few (fun H2 R o r => ⟨_, rfl, p, _, 0, _, rfl, rfl, SqQ.or (hp.imp (o _ _ pd) (o _ _ pd)), at0, r⟩) (by simp [wipe, L2.start]) (fun _ => rfl) ?_ ?_
    · intro nm H2 od R hnm h2 o kk
      exact ⟨_, rfl, _, rfl, p, _, 0, _, rfl, rfl, SqQ.or (hp.imp (o _ _ pd) (o _ _ pd)), at0, _, rfl, d, _, rfl, .inl ⟨cK c, .inr nm, .inr ⟨od, h2⟩, rfl, (valV_co hnm few.nd).symm⟩, _, _, rfl, rfl, .inl hm, kk _ (Ex.refl _)⟩
    · intro D H1 hD e hD1
      refine ⟨_, rfl, _, rfl, p, _, 1, _, rfl, rfl, SqQ.or (hp.imp (e _ _) (e _ _)), at1, _, _, rfl, rfl, .inl hm, by show 2 ≤ sizeLine; decide, fun t ht => ?_⟩
      refine ⟨_, _, _, rfl, ⟨t, D, rfl, .inr upd_same, by rw [upd_ne (ne_of_none hD1 ht)]; exact hD1⟩, few.mapc _, fun u H' N => ?_⟩
      obtain ⟨t2, d2, rfl, n1, n2, h1, h2, e2⟩ := N
      have ee : Ex H (upd H1 t (.tup [.ref D, .int (m * k)])) := e.mut (e.free ht)
      exact q _ _ ⟨t2, d2, rfl, ee.free n1, ee.free n2, h1, h2, ee.trans e2⟩
end
end K8

set_option Elab.async false
set_option linter.all false
set_option maxRecDepth 100000
set_option maxHeartbeats 4000000
namespace K8
open PySem PySem.Spec PyProof.Rows L2 M8
section
variable {P : Program} {w : World} {K : PySem.W.Frag} {mg : Str → Option Value} {base : Heap}
def spDivided : Sp := fun vs H Q _ => ∃ v c k g, vs = [v, .int g] ∧ TermAt H v c k ∧ Few c ∧ (0 < g ∧ g < 1073741824) ∧ ∀ u H', NewT H H' u (canon (mapc (fun i => i / g) c)) (k / g) → Q u H'
def spRests : Sp := fun vs H Q _ => ∃ v c k g, vs = [v, .int g] ∧ TermAt H v c k ∧ Few c ∧ 0 < g ∧ ∀ u H', NewT H H' u (canon (mapc (fun i => i % g) c)) (k % g) → Q u H'
def spTurned : Sp := fun vs H Q _ => ∃ v c k, vs = [v] ∧ TermAt H v c k ∧ Few c ∧ ∀ u H', NewT H H' u (canon (mapc (fun i => -1 * i) c)) (-1 * k) → Q u H'
abbrev s_turned : Stmt := top 21
theorem sc_turned : FnScope ["term"] ["term"] (defScope s_turned) := ⟨rfl, rfl, rfl, by decide +kernel, rfl, by decide +kernel, by decide +kernel⟩
theorem ok_turned (T : Txt K mg) (a : At K mg "turned" s_turned ["term"]) (Oscaled : Ok P w K mg base CX0 3 "scaled" ["term", "number"] spScaled) : Ok P w K mg base CX0 4 "turned" ["term"] spTurned := a.ok fun f fd F => by
  refine F.ok sc_turned (fun vs H Q E h => ?_) (fun cdv A outer s H vs Q E hr h => ?_)
  · obtain ⟨v, c, k, rfl, _⟩ := h; rfl
  · obtain ⟨v, c, k, rfl, ht, few, q⟩ := h
    refine ⟨_, (pss_one (ps_ret (pe_callO Oscaled (hr.mono (by decide)) rfl (pa_cons (pv 0) (pa_cons (pe_un un_neg pe_int) pa_nil))))), ?_⟩
    exact ⟨_, rfl, _, rfl, _, _, _, _, rfl, ht, few, ⟨by decide, by decide⟩, q⟩
def spDivisor : Sp := fun vs H Q _ => ∃ v c k g0, vs = [v, .int g0] ∧ TermAt H v c k ∧ Few c ∧ ∀ H', Ex H H' → Q (.int (dvs g0 c)) H'
end
end K8

set_option Elab.async false
set_option linter.all false
set_option maxRecDepth 100000
set_option maxHeartbeats 4000000
namespace K8
open PySem PySem.Spec PyProof.Rows L2 M8
/-! a test told, new throughout; a truth -/
def NewTst (H H' : Hp) (u : V) : Tst → Prop
  | .row c k => ∃ q t d, u = .ref q ∧ H q = none ∧ H t = none ∧ H d = none ∧ H' q = some (.tup [.str "row", .ref t]) ∧ H' t = some (.tup [.ref d, .int k]) ∧ H' d = some (.dK (cK c)) ∧ Ex H H'
  | .same c k => ∃ q t d, u = .ref q ∧ H q = none ∧ H t = none ∧ H d = none ∧ H' q = some (.tup [.str "same", .ref t]) ∧ H' t = some (.tup [.ref d, .int k]) ∧ H' d = some (.dK (cK c)) ∧ Ex H H'
  | .div m c k => ∃ q t d, u = .ref q ∧ H q = none ∧ H t = none ∧ H d = none ∧ H' q = some (.tup [.str "by", .int m, .ref t]) ∧ H' t = some (.tup [.ref d, .int k]) ∧ H' d = some (.dK (cK c)) ∧ Ex H H'
def NewR (H H' : Hp) (u : V) : Res → Prop
  | .inl b => u = .bl b ∧ Ex H H'
  | .inr t => NewTst H H' u t
theorem NewT.pair {H H1 : Hp} {v : V} {c : Coef} {k : Int} (n : NewT H H1 v c k) {q : Addr} (hq : H1 q = none) (pre : List V) : ∃ t d, v = .ref t ∧ H q = none ∧ H t = none ∧ H d = none ∧ upd H1 q (.tup (pre ++ [v])) q = some (.tup (pre ++ [.ref t])) ∧
    upd H1 q (.tup (pre ++ [v])) t = some (.tup [.ref d, .int k]) ∧ upd H1 q (.tup (pre ++ [v])) d = some (.dK (cK c)) ∧ Ex H (upd H1 q (.tup (pre ++ [v]))) := by
  obtain ⟨t, d, rfl, ht, hd, h1, h2, e⟩ := n
  refine ⟨t, d, rfl, e.free hq, ht, hd, upd_same, ?_, ?_, e.mut (e.free hq)⟩
  · rw [upd_ne (ne_of_none h1 hq)]; exact h1
  · rw [upd_ne (ne_of_none h2 hq)]; exact h2
/-- coefficients within a thousand million -/
def Lim (c : Coef) : Prop := ∀ p ∈ c, p.2.natAbs ≤ 1000000000
theorem dvs_lim {c : Coef} (few : Few c) (l : Lim c) (h : dvs 0 c ≠ 0) : 0 < dvs 0 c ∧ dvs 0 c < 1073741824 := by
  refine ⟨dvs_pos few.nd h, ?_⟩
  cases e : canon c with
  | nil => exact absurd ((dvs_zero few.nd).mpr e) h
  | cons p r =>
    have hp : p ∈ canon c := by rw [e]; simp
    have := dvs_le (g0 := 0) (b := 1000000000) few.nd hp (by have := l p (canon_sub few.nd hp); omega)
    omega
theorem dec_int0 {i j : Int} : decide (V.int i = V.int j) = decide (i = j) := decide_eq_decide.mpr ⟨fun h => V.int.inj h, fun h => by rw [h]⟩
theorem dec_len0 {n : Nat} : decide (V.int (n : Int) = V.int 0) = decide (n = 0) := decide_eq_decide.mpr ⟨fun h => by have := V.int.inj h; omega, fun h => by rw [h]; rfl⟩
section
variable {P : Program} {w : World} {K : PySem.W.Frag} {mg : Str → Option Value} {base : Heap}
def spTRow : Sp := fun vs H Q _ => ∃ v c k, vs = [v] ∧ TermAt H v c k ∧ Few c ∧ Lim c ∧ ∀ u H', NewR H H' u (pRow c k) → Q u H'
def spTSame : Sp := fun vs H Q _ => ∃ v c k, vs = [v] ∧ TermAt H v c k ∧ Few c ∧ Lim c ∧ ∀ u H', NewR H H' u (pSame c k) → Q u H'
def spTBy : Sp := fun vs H Q _ => ∃ v m c k, vs = [.int m, v] ∧ TermAt H v c k ∧ Few c ∧ 0 < m ∧ m ≤ 1000 ∧ ∀ u H', NewR H H' u (pBy m c k) → Q u H'
end
end K8

set_option Elab.async false
set_option linter.all false
set_option maxRecDepth 100000
set_option maxHeartbeats 4000000
namespace K8
open PySem PySem.Spec PyProof.Rows L2 M8
/-! tests of any object -/
def headRS : Dat → Bool | .str z => inV (.str z) [.str "row", .str "same"] | _ => false
def headBy : Dat → Bool | .str z => decide (z = ("by" : Str)) | _ => false
def isTest (d : Dat) : Bool := isSq d && (match items d with | [h, t] => headRS h && isTerm t | [h, m, t] => headBy h && (isFrom1 m && isTerm t) | _ => false)
/-- what stands ahead: flat, or a list of one text -/
def headOk (d : Dat) : Prop := (flatD d = true ∧ ∀ b, d ≠ .bl b) ∨ d = .lst [.str "row"]
def testOk (d : Dat) : Prop := match items d with | [h, t] => headOk h ∧ termOk t | [h, _, t] => (flatD h = true) ∧ termOk t | _ => True
def spTest (K : PySem.W.Frag) : Sp := fun vs H Q _ => ∃ v d, vs = [v] ∧ SeeF K H v d ∧ testOk d ∧ ∀ H', Ex H H' → Q (.bl (isTest d)) H'
theorem flatV_see {F : Addr → Prop} {H : Hp} {v : V} {d : Dat} (h : See F H v d) (f : flatD d = true) : flatV v = true := by
  cases h <;> first | rfl | cases f
theorem shaped_l : SeqAt.shaped (PyData.list [PyData.str "row"]) = true := by simp [SeqAt.shaped, PyData.canLay0, PyData.canLayAll0, PyData.depth, PyData.depthAll]; decide +kernel
theorem shaped_t : SeqAt.shaped (PyData.tuple [PyData.str "row", PyData.str "same"]) = true := by simp [SeqAt.shaped, PyData.canLay0, PyData.canLayAll0, PyData.depth, PyData.depthAll]; decide +kernel
section
variable {P : Program} {w : World} {K : PySem.W.Frag} {mg : Str → Option Value} {base : Heap}
theorem len_dec {xs : List V} {n : Nat} {m : Int} (hm : m = (n : Int)) : decide (V.int ((xs.length : Nat) : Int) = V.int m) = decide (xs.length = n) := by rw [hm]; exact dec_len
abbrev s_is_test : Stmt := top 26
theorem sc_is_test : FnScope ["thing"] ["thing"] (defScope s_is_test) := ⟨rfl, rfl, rfl, by decide +kernel, rfl, by decide +kernel, by decide +kernel⟩
theorem ok_is_test (T : Txt K mg) (a : At K mg "is_test" s_is_test ["thing"]) (Ois_list : Ok P w K mg base CX0 1 "is_list" ["thing"] (spIsList K)) (Ois_from_one : Ok P w K mg base CX0 2 "is_from_one" ["thing"] (spFrom1 K)) (Ois_term : Ok P w K mg base CX0 4 "is_term" ["thing"] (spTerm K)) : Ok P w K mg base CX0 5 "is_test" ["thing"] (spTest K) := a.ok fun f fd F => by
  refine F.ok sc_is_test (fun vs H Q E h => ?_) (fun cdv A outer s H vs Q E hr h => ?_)
  · obtain ⟨v, d, rfl, _⟩ := h; rfl
  · obtain ⟨v, d, rfl, hs, hok, q⟩ := h
    refine ⟨_, (pss_cons (ps_if (pt_not (pt_val (pe_callO Ois_list (hr.mono (by decide)) rfl (pa_cons (pv 0) pa_nil)))) (pss_one (ps_ret pe_bl)) pss_nil)
      (pss_cons (ps_if (pt_cmpR op_eq (pe_callB (len_qK (K := K) rfl) rfl T.n_len rfl (pa_cons (pv 0) pa_nil)) pe_int (nomark _)) (pss_one (ps_ret (pe_and (pe_cmpR (op_in_z (hu65 hr)) (pe_ix (ix_qK (K := K) rfl) (pv 0) pe_int (fun _ _ => rfl)) (pe_tup (pa_cons pe_str (pa_cons pe_str pa_nil))) rfl) (pe_one (pe_callO Ois_term (hr.mono (by decide)) rfl (pa_cons (pe_ix (ix_qK (K := K) rfl) (pv 0) pe_int (fun _ _ => rfl)) pa_nil)))))) pss_nil)
      (pss_one (ps_ret (pe_and (pe_cmpR op_eq (pe_callB (len_qK (K := K) rfl) rfl T.n_len rfl (pa_cons (pv 0) pa_nil)) pe_int (nomark _)) (pe_and (pe_cmpR op_eq (pe_ix (ix_qK (K := K) rfl) (pv 0) pe_int (fun _ _ => rfl)) pe_str (nomark _)) (pe_and (pe_callO Ois_from_one (hr.mono (by decide)) rfl (pa_cons (pe_ix (ix_qK (K := K) rfl) (pv 0) pe_int (fun _ _ => rfl)) pa_nil)) (pe_one (pe_callO Ois_term (hr.mono (by decide)) rfl (pa_cons (pe_ix (ix_qK (K := K) rfl) (pv 0) pe_int (fun _ _ => rfl)) pa_nil)))))))))), ?_⟩
    refine ⟨_, rfl, v, d, rfl, hs, fun H1 e1 => ⟨_, rfl, ?_⟩⟩
    have q1 := q H1 e1
    unfold isTest at q q1
    cases e : isSq d with
    | false => rw [e] at q1; exact iteT q1
    | true =>
      rw [e] at q q1
      refine iteF ?_
      obtain ⟨p, xs, rfl, hp, hx⟩ := see_sq (hs.mono e1) e
      have hlen := hx.len
      refine ⟨_, rfl, p, xs, rfl, SqQ.or hp, rfl, _, rfl, ?_⟩
      rw [len_dec (n := 2) (m := 2) rfl]
      by_cases h2 : xs.length = 2
      · rw [decide_eq_true h2]
        refine iteT ?_
        match hi : items d, hx, hlen with
        | [x, k], .cons (v := vx) h1 (.cons h3 .nil), _ =>
          have hok' : headOk x ∧ termOk k := by have z := hok; unfold testOk at z; rw [hi] at z; exact z
          rw [hi] at q q1
          refine ⟨_, rfl, p, _, 0, _, rfl, rfl, SqQ.or hp, at0, by show 2 ≤ sizeLine; decide, fun tp htp => ?_⟩
          have e2 : Ex H1 (upd H1 tp (.tup [.str "row", .str "same"])) := Ex.new htp
          have fin : ∀ b : Bool, b = headRS x → (∃ c, V.bl b = V.bl c ∧ if c = true then tC0 (spTerm K) (tCons (tOp (rIxQ K) (tVar 0) (tC (V.int 1))) tNil) (L2.start ["thing"] [V.ref p]) (upd H1 tp (.tup [.str "row", .str "same"])) Q else Q (.bl false) (upd H1 tp (.tup [.str "row", .str "same"]))) := by
            intro b hb
            refine ⟨b, rfl, ?_⟩
            have q2 := q _ (e1.trans e2)
            change Q (.bl (headRS x && isTerm k)) _ at q2
            rw [← hb] at q2
            cases b with
            | false => exact iteF q2
            | true =>
              refine iteT ⟨_, rfl, p, _, 1, _, rfl, rfl, SqQ.or (hp.imp (e2 _ _) (e2 _ _)), at1, _, k, rfl, h3.mono e2, hok'.2, fun H3 e3 => ?_⟩
              have q3 := q _ ((e1.trans e2).trans e3)
              change Q (.bl (headRS x && isTerm k)) _ at q3
              rw [← hb] at q3
              exact q3
          rcases hok'.1 with ⟨hf, hb⟩ | rfl
          · refine .inl ⟨tp, _, rfl, .inr (SqT.of upd_same), flatV_see h1 hf, rfl, fin _ ?_⟩
            cases h1 with
            | str z => rfl
            | non => rfl
            | int i => rfl
            | bl b => exact absurd rfl (hb b)
            | lst _ _ => cases hf
            | tup _ _ => cases hf
            | dct _ _ => cases hf
            | fn _ => cases hf
          · refine .inr ?_
            cases h1 with
            | lst ha t =>
              cases t with
              | cons t1 t2 =>
                cases t1; cases t2
                refine ⟨.list [.str "row"], [.str "row", .str "same"], .lst (SqL.of (e2 _ _ ha)) (.cons (.str _) .nil), .tup (SqT.of upd_same) (.cons (.str _) (.cons (.str _) .nil)), shaped_l, shaped_t, fin _ (by simp [PyData.eqv, headRS])⟩
        | [], _, hl => rw [hl] at h2; cases h2
        | [_], _, hl => rw [hl] at h2; cases h2
        | _ :: _ :: _ :: _, _, hl => rw [hl] at h2; simp at h2
      · rw [decide_eq_false h2]
        refine iteF ?_
        refine ⟨_, rfl, p, xs, rfl, SqQ.or hp, rfl, _, rfl, ?_⟩
        rw [len_dec (n := 3) (m := 3) rfl]
        by_cases h3 : xs.length = 3
        · rw [decide_eq_true h3]
          refine iteT ?_
          match hi : items d, hx, hlen with
          | [x, m, k], .cons (v := vx) h1 (.cons hm (.cons h4 .nil)), _ =>
            have hok' : flatD x = true ∧ termOk k := by have z := hok; unfold testOk at z; rw [hi] at z; exact z
            rw [hi] at q q1
            change Q (.bl (headBy x && (isFrom1 m && isTerm k))) H1 at q1
            change ∀ H', Ex H H' → Q (.bl (headBy x && (isFrom1 m && isTerm k))) H' at q
            refine ⟨_, rfl, p, _, 0, _, rfl, rfl, SqQ.or hp, at0, ?_⟩
            have sc : scal vx (.str "by") = true ∧ decide (vx = .str "by") = headBy x := by
              cases h1 with
              | str z => exact ⟨rfl, decide_eq_decide.mpr ⟨fun h => V.str.inj h, fun h => by rw [h]⟩⟩
              | non => exact ⟨rfl, rfl⟩
              | int i => exact ⟨rfl, rfl⟩
              | bl b => exact ⟨rfl, rfl⟩
              | lst _ _ => cases hok'.1
              | tup _ _ => cases hok'.1
              | dct _ _ => cases hok'.1
              | fn _ => cases hok'.1
            refine ⟨sc.1, _, rfl, ?_⟩
            rw [sc.2]
            cases eb : headBy x with
            | false => rw [eb] at q1; exact iteF q1
            | true =>
              rw [eb] at q q1
              refine iteT ?_
              refine ⟨_, rfl, p, _, 1, _, rfl, rfl, SqQ.or hp, at1, _, m, rfl, hm, _, rfl, ?_⟩
              cases em : isFrom1 m with
              | false => rw [em] at q1; exact iteF q1
              | true =>
                rw [em] at q
                exact iteT ⟨_, rfl, p, _, 2, _, rfl, rfl, SqQ.or hp, at2, _, k, rfl, h4, hok'.2, fun H3 e3 => q _ (e1.trans e3)⟩
          | [], _, hl => rw [hl] at h3; cases h3
          | [_], _, hl => rw [hl] at h3; cases h3
          | [_, _], _, hl => rw [hl] at h3; cases h3
          | _ :: _ :: _ :: _ :: _, _, hl => rw [hl] at h3; simp at h3
        · rw [decide_eq_false h3]
          refine iteF ?_
          have : (match items d with | [h, t] => headRS h && isTerm t | [h, m, t] => headBy h && (isFrom1 m && isTerm t) | _ => false) = false := by
            split
            · rename_i x k hi; rw [hi] at hlen; exact absurd hlen h2
            · rename_i x m k hi; rw [hi] at hlen; exact absurd hlen h3
            · rfl
          rw [this] at q1
          exact q1
end
end K8

set_option Elab.async false
set_option linter.all false
set_option maxRecDepth 100000
set_option maxHeartbeats 4000000
namespace K8
open PySem PySem.Spec PyProof.Rows L2 M8
/-! the error's class -/
abbrev s_init : Stmt := inClass (top 3) 0
theorem sc_init : FnScope ["self", "body"] ["self", "body"] (defScope s_init) := ⟨rfl, rfl, rfl, by decide +kernel, rfl, by decide +kernel, by decide +kernel⟩
structure BadC (K : PySem.W.Frag) (mg : Str → Option Value) (C : Addr) : Prop where
  gC : mg "BadBody" = some (.ref C)
  ox : OexC K C
  xf : XfC K C
  no : PySem.W.findIn K (.ref C) "body" = some none
  te : PySem.W.exmOne K (.ref C) (.ref C) = some true
  ini : ∃ fI fd, PySem.W.findIn K (.ref C) "__init__" = some (some (.ref fI)) ∧ PySem.W.typeIn K (.ref fI) = some (.type "function") ∧ Fun K "__init__" "BadBody.__init__" s_init fI fd ∧ Binds K fd ["self", "body"] []
section
variable {P : Program} {w : World} {K : PySem.W.Frag} {mg : Str → Option Value} {base : Heap} {C : Addr}
def spInit (C : Addr) : Sp := fun vs H Q _ => ∃ a v, vs = [.ref a, v] ∧ H a = some (exo a C none) ∧ ∀ dx, H dx = none → dx ≠ a → Q .non (upd (upd H dx (exd dx [("body", v)])) a (exo a C (some dx)))
theorem ok_init (B : BadC K mg C) {f : Addr} {fd : FuncData} (F : Fun K "__init__" "BadBody.__init__" s_init f fd) : FnOk P w K mg base CX0 1 f fd ["self", "body"] (spInit C) := by
  refine F.ok sc_init (fun vs H Q E h => ?_) (fun cdv A outer s H vs Q E hr h => ?_)
  · obtain ⟨a, v, rfl, _⟩ := h; rfl
  · obtain ⟨a, v, rfl, ha, q⟩ := h
    refine ⟨_, pss_one (ps_ost (pv 0) (pv 1)), ?_⟩
    exact ⟨_, rfl, _, rfl, a, C, rfl, B.ox, B.no, .inl ⟨ha, fun dx hd hn => q dx hd hn⟩⟩
/-! a test in whatever lists and tuples -/
def IsTerm (d : Dat) (c : Coef) (k : Int) : Prop := isSq d = true ∧ items d = [.dct (cD c), .int k]
def IsTst (d : Dat) : Tst → Prop
  | .row c k => isSq d = true ∧ ∃ t, items d = [.str "row", t] ∧ IsTerm t c k
  | .same c k => isSq d = true ∧ ∃ t, items d = [.str "same", t] ∧ IsTerm t c k
  | .div m c k => isSq d = true ∧ ∃ t, items d = [.str "by", .int m, t] ∧ IsTerm t c k
theorem see_term {H : Hp} {v : V} {d : Dat} {c : Coef} {k : Int} (h : SeeF K H v d) (t : IsTerm d c k) : TermAt H v c k := by
  obtain ⟨a, xs, rfl, hp, hx⟩ := see_sq h t.1
  rw [t.2] at hx
  cases hx with
  | cons h1 hx =>
    cases h1 with
    | dct hd hk =>
      cases hx with
      | cons h2 hx =>
        cases h2; cases hx
        exact ⟨a, _, rfl, hp, by rw [← cK_of hk]; exact hd⟩
/-- names of the program's kind -/
structure Good (c : Coef) : Prop where
  few : Few c
  lim : Lim c
  nm : ∀ n ∈ keys c, isNameS n = true ∧ n.cps.size ≤ 1000000
theorem isTerm_of {d : Dat} {c : Coef} {k : Int} (t : IsTerm d c k) (g : Good c) : isTerm d = true ∧ termOk d := by
  refine ⟨?_, ?_⟩
  · unfold isTerm
    rw [t.1, t.2]
    show (isNumbers (.dct (cD c)) && isWhole (.int k)) = true
    have : isNumbers (.dct (cD c)) = true := by
      show ((cD c).all fun p => isName (keyD p.1) && isWhole p.2) = true
      rw [List.all_eq_true]
      intro p hp
      obtain ⟨q, hq, rfl⟩ := List.mem_map.mp hp
      show (isNameS q.1 && true) = true
      rw [(g.nm q.1 (List.mem_map.mpr ⟨q, hq, rfl⟩)).1]; rfl
    rw [this]; rfl
  · intro x hx
    rw [t.2] at hx
    rcases List.mem_cons.mp hx with rfl | hx
    · refine ⟨by unfold cD; rw [List.length_map]; have := g.few.len; omega, fun p hp => ?_, ?_⟩
      · obtain ⟨q, hq, rfl⟩ := List.mem_map.mp hp
        exact ⟨rfl, (g.nm q.1 (List.mem_map.mpr ⟨q, hq, rfl⟩)).2⟩
      · have e : (cD c).map (·.1) = (keys c).map Sum.inr := by unfold cD keys; rw [List.map_map, List.map_map]; rfl
        rw [e]
        exact List.Pairwise.map _ (fun a b h => fun z => h (Sum.inr.inj z)) g.few.nd
    · rcases List.mem_cons.mp hx with rfl | hx
      · trivial
      · cases hx
theorem isTst_of {d : Dat} {t : Tst} (h : IsTst d t) (g : Good (coef t)) (hm : mOk t) : isTest d = true ∧ testOk d := by
  cases t with
  | row c k =>
    obtain ⟨h1, t, h2, h3⟩ := h
    obtain ⟨i1, i2⟩ := isTerm_of h3 g
    unfold isTest testOk
    rw [h1, h2]
    refine ⟨?_, .inl ⟨rfl, fun b z => by cases z⟩, i2⟩
    show (headRS (.str "row") && isTerm t) = true
    rw [i1]; rfl
  | same c k =>
    obtain ⟨h1, t, h2, h3⟩ := h
    obtain ⟨i1, i2⟩ := isTerm_of h3 g
    unfold isTest testOk
    rw [h1, h2]
    refine ⟨?_, .inl ⟨rfl, fun b z => by cases z⟩, i2⟩
    show (headRS (.str "same") && isTerm t) = true
    rw [i1]; rfl
  | div m c k =>
    obtain ⟨h1, t, h2, h3⟩ := h
    obtain ⟨i1, i2⟩ := isTerm_of h3 g
    unfold isTest testOk
    rw [h1, h2]
    refine ⟨?_, rfl, i2⟩
    show (headBy (.str "by") && (isFrom1 (.int m) && isTerm t)) = true
    have : isFrom1 (.int m) = true := by
      show (true && decide (1 ≤ m)) = true
      have := hm.1; simp; omega
    rw [i1, this]; rfl
theorem NewTst.ex {H H1 H2 : Hp} {u : V} {t : Tst} (e : Ex H H1) (n : NewTst H1 H2 u t) : NewTst H H2 u t := by
  cases t with
  | row c k => obtain ⟨q, t, d, h, h1, h2, h3, h4, h5, h6, h7⟩ := n; exact ⟨q, t, d, h, e.free h1, e.free h2, e.free h3, h4, h5, h6, e.trans h7⟩
  | same c k => obtain ⟨q, t, d, h, h1, h2, h3, h4, h5, h6, h7⟩ := n; exact ⟨q, t, d, h, e.free h1, e.free h2, e.free h3, h4, h5, h6, e.trans h7⟩
  | div m c k => obtain ⟨q, t, d, h, h1, h2, h3, h4, h5, h6, h7⟩ := n; exact ⟨q, t, d, h, e.free h1, e.free h2, e.free h3, h4, h5, h6, e.trans h7⟩
theorem NewR.ex {H H1 H2 : Hp} {u : V} {r : Res} (e : Ex H H1) (n : NewR H1 H2 u r) : NewR H H2 u r := by
  cases r with
  | inl b => exact ⟨n.1, e.trans n.2⟩
  | inr t => exact NewTst.ex e n
end
end K8

set_option Elab.async false
set_option linter.all false
set_option maxRecDepth 100000
set_option maxHeartbeats 4000000
namespace K8
open PySem PySem.Spec PyProof.Rows L2 M8
/-! what is drawn -/
def Spr (H : Hp) (a : Addr) (B : Nat) : Prop := ∃ c m n : Int, H a = some (.lst [.int c, .int m, .int n]) ∧ 0 ≤ c ∧ 0 ≤ m ∧ m < 2147483648 ∧ 0 ≤ n ∧ n ≤ (B : Int)
def lot : Nat := 1000000000000
theorem Spr.ne {H : Hp} {a : Addr} {B : Nat} (h : Spr H a B) : H a ≠ none := by
  obtain ⟨c, m, n, e, _⟩ := h; rw [e]; simp
theorem Spr.mono {H : Hp} {a : Addr} {B B' : Nat} (h : Spr H a B) (l : B ≤ B') : Spr H a B' := by
  obtain ⟨c, m, n, e, h1, h2, h3, h4, h5⟩ := h; exact ⟨c, m, n, e, h1, h2, h3, h4, by omega⟩
theorem Spr.ex {H H' : Hp} {a : Addr} {B : Nat} (h : Spr H a B) (e : Ex H H') : Spr H' a B := by
  obtain ⟨c, m, n, e1, h⟩ := h; exact ⟨c, m, n, e _ _ e1, h⟩
theorem Spr.at {H H' : Hp} {a : Addr} {B : Nat} (h : Spr H a B) (e : H' a = H a) : Spr H' a B := by
  obtain ⟨c, m, n, e1, h⟩ := h; exact ⟨c, m, n, by rw [e]; exact e1, h⟩
theorem SqL.exo {K : PySem.W.Frag} {S : List Addr} {H H' : Hp} {l : Addr} {xs : List V} (h : SqL K H l xs) (e : Exo S H H') (n : l ∉ S) : SqL K H' l xs := by
  rcases h with (h | ⟨o, h⟩) | h
  · exact .inl (.inl (e _ _ n h))
  · exact .inl (.inr ⟨o, e _ _ n h⟩)
  · exact .inr h
theorem SqT.exo {K : PySem.W.Frag} {S : List Addr} {H H' : Hp} {l : Addr} {xs : List V} (h : SqT K H l xs) (e : Exo S H H') (n : l ∉ S) : SqT K H' l xs := by
  rcases h with (h | ⟨o, h⟩) | h
  · exact .inl (.inl (e _ _ n h))
  · exact .inl (.inr ⟨o, e _ _ n h⟩)
  · exact .inr h
theorem SqQ.exo {K : PySem.W.Frag} {S : List Addr} {H H' : Hp} {l : Addr} {xs : List V} (h : SqQ K H l xs) (e : Exo S H H') (n : l ∉ S) : SqQ K H' l xs := h.imp (fun h => SqL.exo h e n) (fun h => SqT.exo h e n)
theorem not1 {l a : Addr} (h : l ≠ a) : l ∉ [a] := by simpa using h
section
variable {P : Program} {w : World} {K : PySem.W.Frag} {mg : Str → Option Value} {base : Heap}
def spDraw : Sp := fun vs H Q _ => ∃ a many B, vs = [.ref a, .int many] ∧ Spr H a B ∧ B < lot ∧ 0 < many ∧ many < 1073741824 ∧ ∀ d H', 0 ≤ d → d < many → Exo [a] H H' → Spr H' a (B + 1) → Q (.int d) H'
abbrev s__law_draw : Stmt := top 42
theorem sc__law_draw : FnScope ["spring", "many", "digit", "mixed"] ["spring", "many"] (defScope s__law_draw) := ⟨rfl, rfl, rfl, by decide +kernel, rfl, by decide +kernel, by decide +kernel⟩
theorem ok__law_draw (T : Txt K mg) (a : At K mg "_law_draw" s__law_draw ["spring", "many"]) : Ok P w K mg base CX0 1 "_law_draw" ["spring", "many"] spDraw := a.ok fun f fd F => by
  refine F.ok sc__law_draw (fun vs H Q E h => ?_) (fun cdv A outer s H vs Q E hr h => ?_)
  · obtain ⟨a, many, B, rfl, _⟩ := h; rfl
  · obtain ⟨a, many, B, rfl, ⟨c, m, n, ha, h1, h2, h3, h4, h5⟩, hB, hm0, hm1, q⟩ := h
    refine ⟨_, (pss_cons (ps_if (pt_cmpR op_gt (pe_ix (ix_qK (K := K) rfl) (pv 0) pe_int (fun _ _ => rfl)) pe_int (nomark _)) (pss_cons (ps_set (i := 2) sc__law_draw.nd rfl (Or.inl rfl) (pe_op op_mod (pe_callTy call_int1 rfl T.n_int rfl (pa_cons (pe_ix (ix_qK (K := K) rfl) (pv 0) pe_int (fun _ _ => rfl)) pa_nil)) (pv 1)))
      (pss_cons (ps_asg (pe_op op_fdiv (pe_ix (ix_qK (K := K) rfl) (pv 0) pe_int (fun _ _ => rfl)) (pv 1)) (pg_sub (pv 0) pe_int set_list))
      (pss_one (ps_ret (pv 2))))) pss_nil)
      (pss_cons (ps_asg (pe_op op_add (pe_ix (ix_qK (K := K) rfl) (pv 0) pe_int (fun _ _ => rfl)) pe_int) (pg_sub (pv 0) pe_int set_list))
      (pss_cons (ps_set (i := 3) sc__law_draw.nd rfl (Or.inl rfl) (pe_op op_mod (pe_op op_pow (pe_callTy call_int1 rfl T.n_int rfl (pa_cons (pe_op op_add (pe_op op_add (pe_ix (ix_qK (K := K) rfl) (pv 0) pe_int (fun _ _ => rfl)) (pe_op op_mul pe_int (pe_ix (ix_qK (K := K) rfl) (pv 0) pe_int (fun _ _ => rfl)))) pe_int) pa_nil)) pe_int) pe_int))
      (pss_one (ps_ret (pe_op op_mod (pe_op op_fdiv (pe_op op_mod (pe_op op_pow (pe_callTy call_int1 rfl T.n_int rfl (pa_cons (pe_op op_add (pe_op op_mul (pv 3) pe_int) (pe_op op_mul pe_int (pe_ix (ix_qK (K := K) rfl) (pv 0) pe_int (fun _ _ => rfl)))) pa_nil)) pe_int) pe_int) pe_int) (pv 1))))))), ?_⟩
    have hlot : lot = 1000000000000 := rfl
    refine ⟨_, rfl, a, _, 0, _, rfl, rfl, SqQ.l ha, at0, _, _, rfl, rfl, _, rfl, ?_⟩
    by_cases hc : 0 < c
    · rw [decide_eq_true hc]
      refine iteT ?_
      refine ⟨_, rfl, a, _, 0, _, rfl, rfl, SqQ.l ha, at0, .inl ⟨_, rfl, ?_⟩⟩
      refine ⟨_, rfl, _, _, rfl, rfl, hm0, ?_⟩
      refine ⟨_, rfl, a, _, 0, _, rfl, rfl, SqQ.l ha, at0, _, rfl, _, _, rfl, rfl, ⟨hm0, hm1⟩, ?_⟩
      refine ⟨_, rfl, a, _, 0, 0, rfl, rfl, ha, rfl, ?_⟩
      refine ⟨_, rfl, ?_⟩
      refine q _ _ (Int.emod_nonneg _ (by omega)) (Int.emod_lt_of_pos _ hm0) ((Exo.refl _ _).own (by simp)) ?_
      exact ⟨c / many, m, n, upd_same, Int.ediv_nonneg h1 (by omega), h2, h3, h4, by omega⟩
    · rw [decide_eq_false hc]
      refine iteF ?_
      refine ⟨_, rfl, a, _, 2, _, rfl, rfl, SqQ.l ha, at2, _, _, rfl, rfl, ?_⟩
      refine ⟨_, rfl, a, _, 2, 2, rfl, rfl, ha, rfl, ?_⟩
      have ha2 : upd H a (.lst ([V.int c, V.int m, V.int n].set 2 (.int (n + 1)))) a = some (.lst [.int c, .int m, .int (n + 1)]) := upd_same
      refine ⟨_, rfl, a, _, 1, _, rfl, rfl, SqQ.l ha2, at1, _, rfl, a, _, 2, _, rfl, rfl, SqQ.l ha2, at2, _, _, rfl, rfl, .inl ⟨by decide, by decide⟩, _, _, rfl, rfl, _, _, rfl, rfl, .inl ⟨_, rfl, ?_⟩⟩
      refine ⟨_, _, rfl, rfl, ⟨by decide, by decide, by rw [hlot] at hB; omega⟩, _, _, rfl, rfl, by show (0:Int) < 2147483647; decide, ?_⟩
      have z0 := Int.emod_nonneg ((m + 6364137 * (n + 1) + 1442695) ^ (3 : Int).toNat) (show (2147483647 : Int) ≠ 0 by decide)
      have z1 := Int.emod_lt_of_pos ((m + 6364137 * (n + 1) + 1442695) ^ (3 : Int).toNat) (show (0 : Int) < 2147483647 by decide)
      generalize hz : (m + 6364137 * (n + 1) + 1442695) ^ (3 : Int).toNat % 2147483647 = z at z0 z1
      refine ⟨_, rfl, _, _, rfl, rfl, .inr ⟨by decide, by decide⟩, _, rfl, a, _, 2, _, rfl, rfl, SqQ.l ha2, at2, _, _, rfl, rfl, .inl ⟨by decide, by decide⟩, _, _, rfl, rfl, .inl ⟨_, rfl, ?_⟩⟩
      refine ⟨_, _, rfl, rfl, ⟨by decide, by decide, by rw [hlot] at hB; omega⟩, _, _, rfl, rfl, by show (0:Int) < 2147483629; decide, _, _, rfl, rfl, ⟨by decide, by decide⟩, _, rfl, _, _, rfl, rfl, hm0, ?_⟩
      refine q _ _ (Int.emod_nonneg _ (by omega)) (Int.emod_lt_of_pos _ hm0) ((Exo.refl _ _).own (by simp)) ?_
      exact ⟨c, m, n + 1, upd_same, h1, h2, h3, by omega, by omega⟩
def spPick (K : PySem.W.Frag) : Sp := fun vs H Q _ => ∃ a l xs B, vs = [.ref a, .ref l] ∧ Spr H a B ∧ B < lot ∧ l ≠ a ∧ SqQ K H l xs ∧ 0 < xs.length ∧ xs.length < 1000000 ∧ ∀ (i : Nat) y H', xs[i]? = some y → Exo [a] H H' → Spr H' a (B + 1) → Q y H'
abbrev s__law_pick : Stmt := top 43
theorem sc__law_pick : FnScope ["spring", "some"] ["spring", "some"] (defScope s__law_pick) := ⟨rfl, rfl, rfl, by decide +kernel, rfl, by decide +kernel, by decide +kernel⟩
theorem ok__law_pick (T : Txt K mg) (a : At K mg "_law_pick" s__law_pick ["spring", "some"]) (O_law_draw : Ok P w K mg base CX0 1 "_law_draw" ["spring", "many"] spDraw) : Ok P w K mg base CX0 2 "_law_pick" ["spring", "some"] (spPick K) := a.ok fun f fd F => by
  refine F.ok sc__law_pick (fun vs H Q E h => ?_) (fun cdv A outer s H vs Q E hr h => ?_)
  · obtain ⟨a, l, xs, B, rfl, _⟩ := h; rfl
  · obtain ⟨a, l, xs, B, rfl, hs, hB, hl, hx, h0, h1, q⟩ := h
    refine ⟨_, (pss_one (ps_ret (pe_ix (ix_qK (K := K) rfl) (pv 1) (pe_callO O_law_draw (hr.mono (by decide)) rfl (pa_cons (pv 0) (pa_cons (pe_callB (len_qK (K := K) rfl) rfl T.n_len rfl (pa_cons (pv 1) pa_nil)) pa_nil))) (fun _ _ => rfl)))), ?_⟩
    refine ⟨_, rfl, _, rfl, _, rfl, l, xs, rfl, hx, ?_⟩
    refine ⟨a, _, B, rfl, hs, hB, by omega, by omega, fun d H' d0 d1 e s' => ?_⟩
    have hd : d.toNat < xs.length := by omega
    have hg : xs[d.toNat]? = some xs[d.toNat] := List.getElem?_eq_getElem hd
    have hdd : d = ((d.toNat : Nat) : Int) := by omega
    refine ⟨l, xs, d, _, rfl, rfl, hx.exo e (not1 hl), atZ d0 hg, q _ _ _ hg e s'⟩
theorem seqIx {i : Int} {n : Nat} (h0 : 0 ≤ i) (h1 : i < n) : seqIndex? i n = some i.toNat := by
  unfold seqIndex?
  first
    | (rw [if_pos (by omega)]; done)
    | (simp; omega)
theorem erase_perm {α : Type} : ∀ (l : List α) (k : Nat) (h : k < l.length), (l[k] :: l.eraseIdx k).Perm l
  | x :: l, 0, _ => .refl _
  | x :: l, k + 1, h => by
    have hk : k < l.length := by simpa using h
    have ih := erase_perm l k hk
    rw [List.eraseIdx_cons_succ, List.getElem_cons_succ]
    exact (List.Perm.swap x (l[k]'hk) (l.eraseIdx k)).trans (List.Perm.cons x ih)
def spMixed (K : PySem.W.Frag) : Sp := fun vs H Q _ => ∃ a l xs B, vs = [.ref a, .ref l] ∧ Spr H a B ∧ B + 64 < lot ∧ SqQ K H l xs ∧ xs.length ≤ 63 ∧
  ∀ p ys H', H p = none → Exo [a] H H' → Spr H' a (B + xs.length) → ys.Perm xs → H' p = some (.lst ys) → Q (.ref p) H'
abbrev s__law_mixed : Stmt := top 44
theorem sc__law_mixed : FnScope ["spring", "some", "left", "k"] ["spring", "some"] (defScope s__law_mixed) := ⟨rfl, rfl, rfl, by decide +kernel, rfl, by decide +kernel, by decide +kernel⟩
theorem ok__law_mixed (T : Txt K mg) (a : At K mg "_law_mixed" s__law_mixed ["spring", "some"]) (O_law_draw : Ok P w K mg base CX0 1 "_law_draw" ["spring", "many"] spDraw) : Ok P w K mg base CX0 2 "_law_mixed" ["spring", "some"] (spMixed K) := a.ok fun f fd F => by
  refine F.ok sc__law_mixed (fun vs H Q E h => ?_) (fun cdv A outer s H vs Q E hr h => ?_)
  · obtain ⟨a, l, xs, B, rfl, _⟩ := h; rfl
  · obtain ⟨a, l, xs, B, rfl, hs, hB, hx, h0, q⟩ := h
    refine ⟨_, (pss_cons (ps_set (i := 2) sc__law_mixed.nd rfl (Or.inr rfl) (pe_callTy call_list_of rfl T.n_list rfl (pa_cons (pv 1) pa_nil)))
      (pss_one (ps_ret (pe_lc (own := [("k", 3)]) (g := gName 3) (tt := tYes) rfl sc__law_mixed.nd (pi_range1 rfl T.n_range (pa_cons (pe_callB (len_qK (K := K) rfl) rfl T.n_len rfl (pa_cons (pv 2) pa_nil)) pa_nil)) (blkOk_by (N := ["spring", "some", "left", "k"]) (sc := defScope s__law_mixed) (by decide +kernel)) (fun _ _ _ _ _ => (pg_name (i := 3) sc__law_mixed.nd rfl (Or.inl rfl))) (fun _ _ _ _ _ => pts_nil) (fun _ _ _ _ _ => (pe_bmK (K := K) rfl (pe_bm PySem.F.plainAttrs_list PySem.F.slot_list_pop PySem.F.type_list_pop mt_popAt (pv 2) (pa_cons (pe_callO O_law_draw (hr.mono (by decide)) rfl (pa_cons (pv 0) (pa_cons (pe_callB (len_qK (K := K) rfl) rfl T.n_len rfl (pa_cons (pv 2) pa_nil)) pa_nil))) pa_nil)))))))), ?_⟩
    refine ⟨_, rfl, l, xs, rfl, hx, fun L hL => ?_⟩
    dsimp only [tNext, tRet, gName]
    refine tLc_of ?_
    have hla : upd H L (.lst xs) L = some (.lst xs) := upd_same
    have nLa : L ≠ a := fun z => hs.ne (z ▸ hL)
    refine ⟨_, rfl, L, xs, rfl, SqQ.l hla, _, rfl, by omega, by omega, ?_⟩
    have e0 : ((xs.length : Nat) : Int).toNat = xs.length := by omega
    rw [e0]
    refine lc_gen walk_range [a, L] (fun i H' => Spr H' a (B + i)) (fun i acc H' => ∃ rest, H' L = some (.lst rest) ∧ rest.length + i = xs.length ∧ (acc ++ rest).Perm xs) (by omega) ?_ (fun _ _ => trivial) ?_ ?_ ?_ ?_ ?_ ?_
    · intro b hb
      rcases List.mem_cons.mp hb with rfl | hb
      · rw [upd_ne nLa.symm]; exact hs.ne
      · rcases List.mem_cons.mp hb with rfl | hb
        · rw [upd_same]; simp
        · cases hb
    · intro i H1 H2 hb h
      exact h.at (hb a (by simp))
    · rintro i acc H1 D l0 l1 hD hn ⟨rest, hr, h2⟩
      have : L ≠ D := fun z => by rw [← z, upd_same] at hn; cases hn
      exact ⟨rest, by rw [upd_ne this]; exact hr, h2⟩
    · exact hs.at (upd_ne nLa.symm)
    · intro D hn
      have : L ≠ D := fun z => by rw [← z, upd_same] at hn; cases hn
      exact ⟨xs, by rw [upd_ne this, upd_same], by simp, .refl _⟩
    · rintro i x H1 H2 acc R R' hi e m ⟨rest, hr, hl, hp⟩ hacc ⟨rfl, rfl⟩ k k'
      refine ⟨rfl, yesT ?_⟩
      refine ⟨_, rfl, .inl ⟨rfl, _, SqL.of hr⟩, ?_⟩
      refine ⟨_, rfl, _, rfl, L, rest, rfl, SqQ.l hr, ?_⟩
      refine ⟨a, _, B + i, rfl, m, by omega, by omega, by omega, fun d H3 d0 d1 e3 s3 => ?_⟩
      have hr3 : H3 L = some (.lst rest) := e3 _ _ (not1 nLa) hr
      have hd : d.toNat < rest.length := by omega
      have hg : rest[d.toNat]? = some rest[d.toNat] := List.getElem?_eq_getElem hd
      refine ⟨L, rest, d, d.toNat, _, rfl, rfl, hr3, by omega, by omega, seqIx d0 d1, hg, ?_⟩
      refine k _ _ (fun b o nb hb => ?_) ?_ ⟨_, upd_same, ?_, ?_⟩
      · have n1 : b ≠ L := fun z => nb (by simp [z])
        have n2 : b ∉ [a] := fun z => nb (by simp at z; simp [z])
        rw [upd_ne n1]; exact e3 b o n2 hb
      · exact (s3.mono (by omega)).at (upd_ne nLa.symm)
      · rw [List.length_eraseIdx_of_lt hd]; omega
      · refine List.Perm.trans ?_ hp
        rw [List.append_assoc]
        refine List.Perm.append_left acc ?_
        exact erase_perm rest _ hd
    · rintro D acc H1 hD e m ⟨rest, hr, hl, hp⟩ hDH hacc
      have hD' : H D = none := by
        have : D ≠ L := fun z => by rw [z, upd_same] at hD; cases hD
        rw [upd_ne this] at hD; exact hD
      have : rest = [] := List.eq_nil_of_length_eq_zero (by omega)
      rw [this, List.append_nil] at hp
      refine q D acc H1 hD' (fun b o nb hb => ?_) m hp hDH
      have n1 : b ≠ L := ne_of_none hb hL
      exact e b o (fun z => by rcases List.mem_cons.mp z with z | z; exact nb (by simp [z]); exact n1 (by simpa using z)) (by rw [upd_ne n1]; exact hb)
end
end K8

set_option Elab.async false
set_option linter.all false
set_option maxRecDepth 100000
set_option maxHeartbeats 4000000
namespace K8
open PySem PySem.Spec PyProof.Rows L2 M8
section
variable {P : Program} {w : World} {K : PySem.W.Frag} {mg : Str → Option Value} {base : Heap}
def spSpring (K : PySem.W.Frag) : Sp := fun vs H Q _ => ∃ (a : Addr) (ns : List Int) (t : Int), vs = [.ref a, .int t] ∧ SqL K H a (ns.map V.int) ∧ ns.length ≤ 63 ∧ 0 ≤ t ∧ t ≤ 1000 ∧ ∀ p H', H p = none → Ex H H' → Spr H' p 0 → Q (.ref p) H'
abbrev s__law_spring : Stmt := top 41
theorem sc__law_spring : FnScope ["script", "turn", "cell", "mix", "at", "one"] ["script", "turn"] (defScope s__law_spring) := ⟨rfl, rfl, rfl, by decide +kernel, rfl, by decide +kernel, by decide +kernel⟩
theorem ok__law_spring (T : Txt K mg) (a : At K mg "_law_spring" s__law_spring ["script", "turn"]) : Ok P w K mg base CX0 1 "_law_spring" ["script", "turn"] (spSpring K) := a.ok fun f fd F => by
  refine F.ok sc__law_spring (fun vs H Q E h => ?_) (fun cdv A outer s H vs Q E hr h => ?_)
  · obtain ⟨a, ns, t, rfl, _⟩ := h; rfl
  · obtain ⟨a, ns, t, rfl, hS, hn, t0, t1, q⟩ := h
    refine ⟨_, (pss_cons (ps_par (i := 2) (j := 3) rfl sc__law_spring.nd rfl rfl (by decide) rfl rfl (pa_cons (pe_ifExp (pt_cmpR op_lt (pv 1) (pe_callB (len_qK (K := K) rfl) rfl T.n_len rfl (pa_cons (pv 0) pa_nil)) (nomark _)) (pe_ix (ix_qK (K := K) rfl) (pv 0) (pv 1) (fun _ _ => rfl)) (pe_op op_add (pe_op op_mul pe_int (pv 1)) (pe_callB (len_qK (K := K) rfl) rfl T.n_len rfl (pa_cons (pv 0) pa_nil)))) (pa_cons (pe_op op_add pe_int (pe_op op_mul pe_int (pv 1))) pa_nil)) rfl)
      (pss_cons (ps_for PassesOwn.never rfl (pi_enum rfl T.n_enumerate (pa_cons (pe_slice sl_list (pv 0) po_none (po_some pe_int)) pa_nil)) (pg_tup rfl (pgs_cons (pg_name (i := 4) sc__law_spring.nd rfl (Or.inl rfl)) (pgs_cons (pg_name (i := 5) sc__law_spring.nd rfl (Or.inl rfl)) pgs_nil))) (pss_one (ps_set (i := 3) sc__law_spring.nd rfl (Or.inl rfl) (pe_op op_mod (pe_callTy call_int1 rfl T.n_int rfl (pa_cons (pe_op op_add (pe_op op_add (pe_op op_add (pe_op op_mul (pv 3) pe_int) (pv 5)) (pe_op op_mul pe_int (pv 4))) pe_int) pa_nil)) pe_int))))
      (pss_one (ps_ret (pe_lst (pa_cons (pe_ifExp (pt_cmpR op_ge (pv 2) (pe_op op_pow pe_int pe_int) (nomark _)) (pv 2) pe_int) (pa_cons (pe_op op_mod (pe_callTy call_int1 rfl T.n_int rfl (pa_cons (pe_op op_add (pv 3) (pe_op op_mul (pv 2) pe_int)) pa_nil)) pe_int) (pa_cons pe_int pa_nil)))))))), ?_⟩
    have rest : ∀ (cell mix : Int), tSeq (tFor (iEnum K (tCons (tSl (rSlL K) (tVar 0) tNoPart (tPart (tC (.int 63)))) tNil)) (gTup K 2 (gCons (gName 4) (gCons (gName 5) gNil)))
        (tAsg (tOp (rI (fun _ j => 0 < j) fun i j => V.int (i % j)) (tCB (fun xs H Q => (∃ i, xs = [V.int i] ∧ Q (.int i) H) ∨ ∃ k, xs = [V.bl k] ∧ Q (.int (if k then 1 else 0)) H) (tCons (tOp (rI0 fun i j => V.int (i + j)) (tOp (rI0 fun i j => V.int (i + j)) (tOp (rI0 fun i j => V.int (i + j)) (tOp (rI CMul fun i j => V.int (i * j)) (tVar 3) (tC (.int 69069))) (tVar 5)) (tOp (rI CMul fun i j => V.int (i * j)) (tC (.int 5)) (tVar 4))) (tC (.int 1))) tNil)) (tC (.int 2147483629))) (gName 3)))
        (tRet (tLst (tCons (tIf (tTest (tOp (rI0 fun i j => V.bl (decide (j ≤ i))) (tVar 2) (tOp (rI CPow fun i j => V.int (i ^ j.toNat)) (tC (.int 10)) (tC (.int 18))))) (tVar 2) (tC (.int 0))) (tCons (tOp (rI (fun _ j => 0 < j) fun i j => V.int (i % j)) (tCB (fun xs H Q => (∃ i, xs = [V.int i] ∧ Q (.int i) H) ∨ ∃ k, xs = [V.bl k] ∧ Q (.int (if k then 1 else 0)) H) (tCons (tOp (rI0 fun i j => V.int (i + j)) (tVar 3) (tOp (rI CMul fun i j => V.int (i * j)) (tVar 2) (tC (.int 31)))) tNil)) (tC (.int 2147483647))) (tCons (tC (.int 0)) tNil)))))
        { nx := fun _ H' => Q .non H', rt := Q } [some (.ref a), some (.int t), some (.int cell), some (.int mix), none, none] H := by
      intro cell mix
      dsimp only [tSeq]
      refine tFor_of ?_
      refine ⟨_, rfl, _, rfl, a, _, rfl, hS, fun L hL => ?_⟩
      refine ⟨L, _, rfl, SqL.of upd_same, ?_⟩
      generalize hxs : cutV (ns.map V.int) none (some 63) = xs
      have hall : ∀ x ∈ xs, ∃ i, x = V.int i := by
        intro x hx
        rw [← hxs] at hx
        have := List.mem_of_mem_drop (List.mem_of_mem_take hx)
        obtain ⟨i, _, rfl⟩ := List.mem_map.mp this
        exact ⟨i, rfl⟩
      refine for_itB walk_enum (fun i σ H' => ∃ (m : Int) (x y : Option V), σ = [some (.ref a), some (.int t), some (.int cell), some (.int m), x, y] ∧ Ex (upd H L (.lst xs)) H') ⟨mix, none, none, rfl, Ex.refl _⟩ (fun i σ H' _ ⟨_, _, _, _, e⟩ => SqL.of (e _ _ upd_same)) ?_ ?_
      · rintro i x σ H1 H2 hi ⟨m, x4, x5, rfl, e⟩ ⟨tp, y1, y2, rfl, htp, rfl, e1, e2⟩
        cases e1
        obtain ⟨z, rfl⟩ := hall y2 (List.mem_of_getElem? e2)
        refine ⟨tp, _, rfl, SqT.of upd_same, rfl, _, _, rfl, _, _, rfl, rfl, ?_⟩
        refine ⟨_, rfl, _, _, rfl, rfl, .inr ⟨by decide, by decide⟩, _, rfl, _, _, rfl, rfl, _, rfl, _, _, rfl, rfl, .inl ⟨by decide, by decide⟩, _, _, rfl, rfl, _, _, rfl, rfl, .inl ⟨_, rfl, _, _, rfl, rfl, by show (0:Int) < 2147483629; decide, ?_⟩⟩
        exact ⟨_, _, _, rfl, e.mut (e.free htp)⟩
      · rintro σ H1 ⟨m, x4, x5, rfl, e⟩
        have ee : Ex H H1 := (Ex.new hL).trans e
        refine ⟨_, rfl, _, _, rfl, rfl, ⟨by decide, by decide, by decide⟩, _, _, rfl, rfl, _, rfl, ?_⟩
        have fin : ∀ c : Int, 0 ≤ c → tCons (tOp (rI (fun _ j => 0 < j) fun i j => V.int (i % j)) (tCB (fun xs H Q => (∃ i, xs = [V.int i] ∧ Q (.int i) H) ∨ ∃ k, xs = [V.bl k] ∧ Q (.int (if k then 1 else 0)) H) (tCons (tOp (rI0 fun i j => V.int (i + j)) (tVar 3) (tOp (rI CMul fun i j => V.int (i * j)) (tVar 2) (tC (.int 31)))) tNil)) (tC (.int 2147483647))) (tCons (tC (.int 0)) tNil) [some (.ref a), some (.int t), some (.int cell), some (.int m), x4, x5] H1
            fun xs H2 => (V.int c :: xs).length ≤ sizeLine ∧ ∀ p, H2 p = none → Q (.ref p) (upd H2 p (.lst (V.int c :: xs))) := by
          intro c hc
          refine ⟨_, rfl, _, rfl, _, _, rfl, rfl, .inr ⟨by decide, by decide⟩, _, _, rfl, rfl, .inl ⟨_, rfl, _, _, rfl, rfl, by show (0:Int) < 2147483647; decide, by show 3 ≤ sizeLine; decide, fun p hp => ?_⟩⟩
          have z0 := Int.emod_nonneg (m + cell * 31) (show (2147483647 : Int) ≠ 0 by decide)
          have z1 := Int.emod_lt_of_pos (m + cell * 31) (show (0 : Int) < 2147483647 by decide)
          exact q p _ (ee.free hp) (ee.mut (ee.free hp)) ⟨c, _, 0, upd_same, hc, z0, by omega, by decide, by decide⟩
        by_cases hc : (10 : Int) ^ (18 : Int).toNat ≤ cell
        · rw [decide_eq_true hc]
          have : (0 : Int) ≤ cell := Int.le_trans (by decide) hc
          exact iteT ⟨_, rfl, fin cell this⟩
        · rw [decide_eq_false hc]
          exact iteF (fin 0 (by decide))
    refine ⟨_, rfl, _, rfl, a, _, rfl, .inl hS, _, _, rfl, rfl, _, rfl, ?_⟩
    have lp : ((ns.map V.int).length : Int) = (ns.length : Int) := by rw [List.length_map]
    rw [lp]
    by_cases ht : t < (ns.length : Int)
    · rw [decide_eq_true ht]
      have hk : t.toNat < ns.length := by omega
      have hg : (ns.map V.int)[t.toNat]? = some (.int (ns[t.toNat]'hk)) := by rw [List.getElem?_map, List.getElem?_eq_getElem hk]; rfl
      refine iteT ⟨_, rfl, _, rfl, a, _, t, _, rfl, rfl, .inl hS, atZ t0 hg, ?_⟩
      exact ⟨_, rfl, _, _, rfl, rfl, .inl ⟨by decide, by decide⟩, _, _, rfl, rfl, _, _, rfl, rest _ _⟩
    · rw [decide_eq_false ht]
      refine iteF ⟨_, rfl, _, _, rfl, rfl, .inl ⟨by decide, by decide⟩, _, rfl, a, _, rfl, .inl hS, _, _, rfl, rfl, ?_⟩
      exact ⟨_, rfl, _, _, rfl, rfl, .inl ⟨by decide, by decide⟩, _, _, rfl, rfl, _, _, rfl, rest _ _⟩
end
end K8

set_option Elab.async false
set_option linter.all false
set_option maxRecDepth 100000
set_option maxHeartbeats 4000000
namespace K8
open PySem PySem.Spec PyProof.Rows L2 M8
def rEqF (K : PySem.W.Frag) : R2 := fun x y H Q => ∃ a, x = .ref a ∧ y = .ref a ∧ FnK K a ∧ Q (.bl true) H
theorem op_eqF {X : Cx} {K : PySem.W.Frag} (hu : X.A.units + 1 < cLine) (hK : X.K = K) : OpR X (compareOp .Eq) (rEqF K) := by
  subst hK
  intro pins s σ H x y v u Q I rx ry h
  obtain ⟨a, rfl, rfl, hf, q⟩ := h
  cases (show v = Value.ref a from rx)
  cases (show u = Value.ref a from ry)
  exact hf.1 _ _ _ _ _ _ hu I.kIn fun tk => ⟨.bl true, H, I.tok tk, rfl, q⟩
theorem op_eq_z {X : Cx} {K : PySem.W.Frag} (hu : X.A.units + 1 < cLine) (hK : X.K = K) : OpR X (compareOp .Eq) (fun x y H Q => rEq x y H Q ∨ rEqF K x y H Q) := OpR.or op_eq (op_eqF hu hK)
theorem walk_zipT {K : PySem.W.Frag} {a b : Addr} {xs ys : List V} {n : Nat} (hn : n = min xs.length ys.length) : Walk (RZ.ItzT K a b) n (fun H => SqT K H a xs ∧ SqT K H b ys) (YPair (fun i => xs[i]?) (fun i => ys[i]?)) := by
  subst hn
  constructor
  · intro i H hi q
    exact ⟨xs, ys, xs[i]'(by omega), ys[i]'(by omega), q.1, q.2, List.getElem?_eq_getElem _, List.getElem?_eq_getElem _⟩
  · intro H q
    exact ⟨xs, ys, q.1, q.2, by omega⟩
  · intro i H v H' _ q y
    obtain ⟨t, x, z, h1, h2, h3, h4, h5⟩ := y
    exact ⟨t, x, z, h1, h2, h3, h4 xs q.1, h5 ys q.2⟩
/-! the law's own look at two things -/
def rows (kds : List (Key × Dat)) : Dat := .lst (kds.map fun p => .tup [keyD p.1, p.2])
def Step (G : Dat → Prop) : Dat → Prop
  | .lst ds => ds.length ≤ 1000 ∧ ∀ d ∈ ds, G d
  | .tup ds => ds.length ≤ 1000 ∧ ∀ d ∈ ds, G d
  | .dct kds => G (rows kds)
  | _ => True
def Dep : Nat → Dat → Prop
  | 0 => Step fun _ => False
  | n + 1 => Step (Dep n)
def spSameG (K : PySem.W.Frag) (G : Dat → Prop) : Sp := fun vs H Q _ => ∃ v u d, vs = [v, u] ∧ SeeF K H v d ∧ SeeF K H u d ∧ G d ∧ ∀ H', Ex H H' → Q (.bl true) H'
theorem see_rows {F : Addr → Prop} {H : Hp} : ∀ {ts : List Addr} {kvs : List (Key × V)} {kds : List (Key × Dat)}, Paired (fun (t : Addr) (q : Key × V) => H t = some (.tup [kV q.1, q.2])) ts kvs → SeeK F H kvs kds →
    SeeL F H (ts.map V.ref) (kds.map fun p => .tup [keyD p.1, p.2])
  | _, _, _, .nil, .nil => .nil
  | _, _, _, .cons h t, .cons s k => .cons (.tup h (.cons (see_key _) (.cons s .nil))) (see_rows t k)
section
variable {P : Program} {w : World} {K : PySem.W.Frag} {mg : Str → Option Value} {base : Heap}
abbrev s__law_same : Stmt := top 45
theorem sc__law_same : FnScope ["found", "due", "one", "other"] ["found", "due"] (defScope s__law_same) := ⟨rfl, rfl, rfl, by decide +kernel, rfl, by decide +kernel, by decide +kernel⟩
theorem zip_all {K : PySem.W.Frag} {G : Dat → Prop} {sub : Sp} (hsub : ∀ (v u : V) (d : Dat) (H : Hp) (Q : VK) (E : XK), SeeF K H v d → SeeF K H u d → G d → (∀ H', Ex H H' → Q (.bl true) H') → sub [v, u] H Q E)
    {J : It} {n : Nat} {Gd : Hp → Prop} {xs ys : List V} {ds : List Dat} {σ : L2.St} {H : Hp} {Q : VK} (wk : Walk J n Gd (YPair (fun i => xs[i]?) (fun i => ys[i]?))) (hG : ∀ H', Ex H H' → Gd H') (hn : n = ds.length) (h1 : n ≤ 1000) (hx : SeeL (FnK K) H xs ds) (hy : SeeL (FnK K) H ys ds) (hg : ∀ d ∈ ds, G d)
    (hw : ∀ x y, wipe (((wipe σ [2, 3]).set 2 (some x)).set 3 (some y)) [2, 3] = wipe σ [2, 3]) (h2 : ∀ x y, (((wipe σ [2, 3]).set 2 (some x)).set 3 (some y))[2]? = some (some x)) (h3 : ∀ x y, (((wipe σ [2, 3]).set 2 (some x)).set 3 (some y))[3]? = some (some y))
    (q : ∀ D H', H D = none → Ex H H' → H' D = some (.lst ((List.replicate n true).map V.bl)) → Q (.ref D) H') :
    LcB (gTup K 2 (gCons (gName 2) (gCons (gName 3) gNil))) tYes (tC0 sub (tCons (tVar 2) (tCons (tVar 3) tNil))) [2, 3] σ Q J H := by
  refine lc_val wk (fun i => (List.replicate i true).map V.bl) (by omega) rfl hG ?_ ?_
  · rintro i x H1 H2 R R' hi e ⟨t, y1, y2, rfl, ht, rfl, e1, e2⟩ k _
    obtain ⟨d, hd, s1⟩ := hx.getV e1
    obtain ⟨d', hd', s2⟩ := hy.getV e2
    have : d' = d := by rw [hd] at hd'; exact (Option.some.inj hd').symm
    subst this
    refine ⟨t, _, rfl, SqT.of upd_same, rfl, _, _, rfl, _, _, rfl, rfl, hw _ _, yesT ?_⟩
    have e3 : Ex H (upd H1 t (.tup [y1, y2])) := e.mut (e.free ht)
    refine ⟨_, h2 _ _, _, h3 _ _, hsub _ _ _ _ _ _ (s1.mono e3) (s2.mono e3) (hg _ (List.mem_of_getElem? hd)) fun H3 e4 => k _ _ ((Ex.new ht).trans e4) ?_⟩
    rw [List.replicate_succ', List.map_append]; rfl
  · intro D H1 hD e hDH
    exact q D H1 hD e hDH
theorem ok_same_step (T : Txt K mg) (a : At K mg "_law_same" s__law_same ["found", "due"]) {k : Nat} {sub : Sp} {G : Dat → Prop} (O_law_same : Ok P w K mg base CX0 k "_law_same" ["found", "due"] sub)
    (hsub : ∀ (v u : V) (d : Dat) (H : Hp) (Q : VK) (E : XK), SeeF K H v d → SeeF K H u d → G d → (∀ H', Ex H H' → Q (.bl true) H') → sub [v, u] H Q E) : Ok P w K mg base CX0 (k + 1) "_law_same" ["found", "due"] (spSameG K (Step G)) := a.ok fun f fd F => by
  refine F.ok sc__law_same (fun vs H Q E h => ?_) (fun cdv A outer s H vs Q E hr h => ?_)
  · obtain ⟨v, u, d, rfl, _⟩ := h; rfl
  · obtain ⟨v, u, d, rfl, hv, hu', hg, q⟩ := h
    refine ⟨_, (pss_cons (ps_if (pt_val (pe_callB call_isiD rfl T.n_isinstance rfl (pa_cons (pv 1) (pa_cons (pe_tyN (n := "dict") rfl T.n_dict rfl) pa_nil)))) (pss_one (ps_ret (pe_and (pe_callB call_isiD rfl T.n_isinstance rfl (pa_cons (pv 0) (pa_cons (pe_tyN (n := "dict") rfl T.n_dict rfl) pa_nil))) (pe_one (pe_callO O_law_same hr rfl (pa_cons (LiI.pe_listItems rfl (pv 0) rfl T.n_list rfl) (pa_cons (LiI.pe_listItems rfl (pv 1) rfl T.n_list rfl) pa_nil))))))) pss_nil)
      (pss_cons (ps_if (pt_val (pe_callB call_isiDT rfl T.n_isinstance rfl (pa_cons (pv 1) (pa_cons (pe_tup (pa_cons (pe_tyN (n := "list") rfl T.n_list rfl) (pa_cons (pe_tyN (n := "tuple") rfl T.n_tuple rfl) pa_nil))) pa_nil)))) (pss_cons (ps_if (PW.pt (pw_or (pt_cmpR op_ne (pe_callB call_isiD rfl T.n_isinstance rfl (pa_cons (pv 0) (pa_cons (pe_tyN (n := "list") rfl T.n_list rfl) pa_nil))) (pe_callB call_isiD rfl T.n_isinstance rfl (pa_cons (pv 1) (pa_cons (pe_tyN (n := "list") rfl T.n_list rfl) pa_nil))) (nomark _)) (pw_or1 (pt_cmpR op_ne (pe_callB call_isiD rfl T.n_isinstance rfl (pa_cons (pv 0) (pa_cons (pe_tyN (n := "tuple") rfl T.n_tuple rfl) pa_nil))) (pe_callB call_isiD rfl T.n_isinstance rfl (pa_cons (pv 1) (pa_cons (pe_tyN (n := "tuple") rfl T.n_tuple rfl) pa_nil))) (nomark _))))) (pss_one (ps_ret pe_bl)) pss_nil)
      (pss_one (ps_ret (pe_and (pe_cmpR op_eq (pe_callB (len_qK (K := K) rfl) rfl T.n_len rfl (pa_cons (pv 0) pa_nil)) (pe_callB (len_qK (K := K) rfl) rfl T.n_len rfl (pa_cons (pv 1) pa_nil)) (nomark _)) (pe_one (pe_callB (cr_all rfl) rfl T.n_all rfl (pa_cons (pe_lc (own := [("one", 2), ("other", 3)]) (g := gTup K 2 (gCons (gName 2) (gCons (gName 3) gNil))) (tt := tYes) rfl sc__law_same.nd (RZ.pi_zipA rfl T.n_zip (pa_cons (pv 0) (pa_cons (pv 1) pa_nil))) (blkOk_by (N := ["found", "due", "one", "other"]) (sc := defScope s__law_same) (by decide +kernel)) (fun _ _ _ _ _ => (pg_tup rfl (pgs_cons (pg_name (i := 2) sc__law_same.nd rfl (Or.inl rfl)) (pgs_cons (pg_name (i := 3) sc__law_same.nd rfl (Or.inl rfl)) pgs_nil)))) (fun _ _ _ _ _ => pts_nil) (fun _ _ _ _ _ => (pe_callO O_law_same hr rfl (pa_cons (pv 2) (pa_cons (pv 3) pa_nil))))) pa_nil))))))) pss_nil)
      (pss_cons (ps_if (PW.pt (pw_or (pt_val (pe_callB call_isiDT rfl T.n_isinstance rfl (pa_cons (pv 0) (pa_cons (pe_tup (pa_cons (pe_tyN (n := "dict") rfl T.n_dict rfl) (pa_cons (pe_tyN (n := "list") rfl T.n_list rfl) (pa_cons (pe_tyN (n := "tuple") rfl T.n_tuple rfl) pa_nil)))) pa_nil)))) (pw_or1 (pt_cmpR op_ne (pe_callB call_isiD rfl T.n_isinstance rfl (pa_cons (pv 0) (pa_cons (pe_tyN (n := "bool") rfl T.n_bool rfl) pa_nil))) (pe_callB call_isiD rfl T.n_isinstance rfl (pa_cons (pv 1) (pa_cons (pe_tyN (n := "bool") rfl T.n_bool rfl) pa_nil))) (nomark _))))) (pss_one (ps_ret pe_bl)) pss_nil)
      (pss_one (ps_ret (pe_cmpR (op_eq_z (hu_of hr) (K := K) rfl) (pv 0) (pv 1) (nomark _))))))), ?_⟩
    refine ⟨_, rfl, u, "dict", d, _, rfl, hu', kit_dct d, _, rfl, ?_⟩
    have sq : ∀ (H0 : Hp) (ds : List Dat) (xs ys : List V), Ex H H0 → SeeL (FnK K) H0 xs ds → SeeL (FnK K) H0 ys ds → ds.length ≤ 1000 → (∀ d ∈ ds, G d) → ∀ b1 b2 : Addr, v = .ref b1 → u = .ref b2 → ((SqL K H0 b1 xs ∧ SqL K H0 b2 ys ∧ (∀ H', Ex H0 H' → SqL K H' b1 xs ∧ SqL K H' b2 ys)) ∨ (SqT K H0 b1 xs ∧ SqT K H0 b2 ys ∧ (∀ H', Ex H0 H' → SqT K H' b1 xs ∧ SqT K H' b2 ys))) →
        tAndV (tOp rEq (tCB (rLenQ K) (tCons (tVar 0) tNil)) (tCB (rLenQ K) (tCons (tVar 1) tNil))) (tCB (rAll K) (tCons (tLc (RZ.iZipA K (tCons (tVar 0) (tCons (tVar 1) tNil))) (gTup K 2 (gCons (gName 2) (gCons (gName 3) gNil))) tYes (tC0 sub (tCons (tVar 2) (tCons (tVar 3) tNil))) [2, 3]) tNil)) [some v, some u, none, none] H0 Q := by
      rintro H0 ds xs ys e0 hx hy hl hgd b1 b2 rfl rfl hsq
      have l1 := hx.len
      have l2 := hy.len
      have q1 : SqQ K H0 b1 xs := hsq.elim (fun z => .inl z.1) (fun z => .inr z.1)
      have q2 : SqQ K H0 b2 ys := hsq.elim (fun z => .inl z.2.1) (fun z => .inr z.2.1)
      refine ⟨_, rfl, b1, xs, rfl, q1, _, rfl, b2, ys, rfl, q2, rfl, _, rfl, ?_⟩
      have e1 : decide (V.int ((xs.length : Nat) : Int) = V.int ((ys.length : Nat) : Int)) = true := decide_eq_true (by rw [l1, l2])
      rw [e1]
      refine iteT ?_
      dsimp only [tCB, tCons, tNil]
      refine tLc_of ?_
      have fin : ∀ D H', H0 D = none → Ex H0 H' → H' D = some (.lst ((List.replicate ds.length true).map V.bl)) → rAll K [.ref D] H' Q := by
        intro D H' hD e hDH
        refine ⟨D, _, rfl, SqL.of hDH, ?_⟩
        have : (List.replicate ds.length true).all id = true := by rw [List.all_eq_true]; intro x hx; exact (List.mem_replicate.mp hx).2
        rw [this]
        exact q H' (e0.trans e)
      have hn : ds.length = min xs.length ys.length := by omega
      refine ⟨_, rfl, _, rfl, b1, b2, xs, ys, rfl, ?_⟩
      rcases hsq with ⟨z1, z2, z3⟩ | ⟨z1, z2, z3⟩
      · exact .inl ⟨z1, z2, zip_all hsub (walk_zip hn) z3 rfl hl hx hy hgd (fun _ _ => rfl) (fun _ _ => rfl) (fun _ _ => rfl) fin⟩
      · exact .inr ⟨z1, z2, zip_all hsub (walk_zipT hn) z3 rfl hl hx hy hgd (fun _ _ => rfl) (fun _ _ => rfl) (fun _ _ => rfl) fin⟩
    cases hu' with
    | @dct b2 kvs2 kds h2 k2 =>
      refine iteT ?_
      cases hv with
      | @dct b1 kvs1 _ h1 k1 =>
        refine ⟨_, rfl, _, "dict", .dct kds, _, rfl, .dct h1 k1, kit_dct _, _, rfl, iteT ?_⟩
        refine ⟨_, rfl, b1, kvs1, rfl, h1, fun H1 p1 ts1 e1 n1 _ _ hp1 hr1 => ?_⟩
        refine ⟨_, rfl, b2, kvs2, rfl, e1 _ _ h2, fun H2 p2 ts2 e2 n2 _ _ hp2 hr2 => ?_⟩
        have s1 : SeeF K H1 (.ref p1) (rows kds) := .lst hp1 (see_rows hr1 (SeeK.mono e1 k1))
        have s2 : SeeF K H2 (.ref p2) (rows kds) := .lst hp2 (see_rows hr2 (SeeK.mono (Ex.trans e1 e2) k2))
        exact hsub _ _ _ _ _ _ (s1.mono e2) s2 hg fun H3 e3 => q _ (Ex.trans (Ex.trans e1 e2) e3)
    | @lst b2 ys ds h2 k2 =>
      refine iteF ?_
      cases hv with
      | @lst b1 xs _ h1 k1 =>
        refine ⟨_, rfl, by show 2 ≤ sizeLine; decide, fun tp htp => ⟨_, tp, ["list", "tuple"], _, _, rfl, upd_same, .lst ((Ex.new htp) _ _ h2) (SeeL.mono (Ex.new htp) k2), kit_lt (.lst ds), _, rfl, iteT ?_⟩⟩
        have e0 : Ex H (upd H tp (.tup (["list", "tuple"].map V.ty))) := Ex.new htp
        have v1 := See.lst (F := FnK K) (e0 _ _ h1) (SeeL.mono e0 k1)
        have v2 := See.lst (F := FnK K) (e0 _ _ h2) (SeeL.mono e0 k2)
        refine ⟨_, rfl, _, "list", _, _, rfl, v1, kit_lst _, _, rfl, _, "list", _, _, rfl, v2, kit_lst _, rfl, _, rfl, iteF ?_⟩
        refine ⟨_, rfl, _, "tuple", _, _, rfl, v1, kit_tup _, _, rfl, _, "tuple", _, _, rfl, v2, kit_tup _, rfl, _, rfl, iteF ?_⟩
        exact sq _ ds xs ys e0 (SeeL.mono e0 k1) (SeeL.mono e0 k2) hg.1 hg.2 b1 b2 rfl rfl (.inl ⟨SqL.of (e0 _ _ h1), SqL.of (e0 _ _ h2), fun H' e => ⟨SqL.of (e _ _ (e0 _ _ h1)), SqL.of (e _ _ (e0 _ _ h2))⟩⟩)
    | @tup b2 ys ds h2 k2 =>
      refine iteF ?_
      cases hv with
      | @tup b1 xs _ h1 k1 =>
        refine ⟨_, rfl, by show 2 ≤ sizeLine; decide, fun tp htp => ⟨_, tp, ["list", "tuple"], _, _, rfl, upd_same, .tup ((Ex.new htp) _ _ h2) (SeeL.mono (Ex.new htp) k2), kit_lt (.tup ds), _, rfl, iteT ?_⟩⟩
        have e0 : Ex H (upd H tp (.tup (["list", "tuple"].map V.ty))) := Ex.new htp
        have v1 := See.tup (F := FnK K) (e0 _ _ h1) (SeeL.mono e0 k1)
        have v2 := See.tup (F := FnK K) (e0 _ _ h2) (SeeL.mono e0 k2)
        refine ⟨_, rfl, _, "list", _, _, rfl, v1, kit_lst _, _, rfl, _, "list", _, _, rfl, v2, kit_lst _, rfl, _, rfl, iteF ?_⟩
        refine ⟨_, rfl, _, "tuple", _, _, rfl, v1, kit_tup _, _, rfl, _, "tuple", _, _, rfl, v2, kit_tup _, rfl, _, rfl, iteF ?_⟩
        exact sq _ ds xs ys e0 (SeeL.mono e0 k1) (SeeL.mono e0 k2) hg.1 hg.2 b1 b2 rfl rfl (.inr ⟨SqT.of (e0 _ _ h1), SqT.of (e0 _ _ h2), fun H' e => ⟨SqT.of (e _ _ (e0 _ _ h1)), SqT.of (e _ _ (e0 _ _ h2))⟩⟩)
    | non => cases hv with
      | non =>
        refine iteF ?_
        refine ⟨_, rfl, by show 2 ≤ sizeLine; decide, fun tp htp => ⟨_, tp, ["list", "tuple"], .non, _, rfl, upd_same, .non, kit_lt .non, _, rfl, iteF ?_⟩⟩
        refine ⟨_, rfl, by show 3 ≤ sizeLine; decide, fun t2 h2 => ⟨_, t2, ["dict", "list", "tuple"], .non, _, rfl, upd_same, .non, kit_dlt .non, _, rfl, iteF ?_⟩⟩
        refine ⟨_, rfl, _, "bool", .non, _, rfl, .non, kit_bool .non, _, rfl, _, "bool", .non, _, rfl, .non, kit_bool .non, rfl, _, rfl, iteF ?_⟩
        exact ⟨_, rfl, _, rfl, .inl ⟨rfl, by rw [decide_eq_true rfl]; exact q _ (Ex.trans (Ex.new htp) (Ex.new h2))⟩⟩
    | bl b => cases hv with
      | bl _ =>
        refine iteF ?_
        refine ⟨_, rfl, by show 2 ≤ sizeLine; decide, fun tp htp => ⟨_, tp, ["list", "tuple"], (.bl b), _, rfl, upd_same, (.bl b), kit_lt (.bl b), _, rfl, iteF ?_⟩⟩
        refine ⟨_, rfl, by show 3 ≤ sizeLine; decide, fun t2 h2 => ⟨_, t2, ["dict", "list", "tuple"], (.bl b), _, rfl, upd_same, (.bl b), kit_dlt (.bl b), _, rfl, iteF ?_⟩⟩
        refine ⟨_, rfl, _, "bool", (.bl b), _, rfl, (.bl b), kit_bool (.bl b), _, rfl, _, "bool", (.bl b), _, rfl, (.bl b), kit_bool (.bl b), rfl, _, rfl, iteF ?_⟩
        exact ⟨_, rfl, _, rfl, .inl ⟨rfl, by rw [decide_eq_true rfl]; exact q _ (Ex.trans (Ex.new htp) (Ex.new h2))⟩⟩
    | int i => cases hv with
      | int _ =>
        refine iteF ?_
        refine ⟨_, rfl, by show 2 ≤ sizeLine; decide, fun tp htp => ⟨_, tp, ["list", "tuple"], (.int i), _, rfl, upd_same, (.int i), kit_lt (.int i), _, rfl, iteF ?_⟩⟩
        refine ⟨_, rfl, by show 3 ≤ sizeLine; decide, fun t2 h2 => ⟨_, t2, ["dict", "list", "tuple"], (.int i), _, rfl, upd_same, (.int i), kit_dlt (.int i), _, rfl, iteF ?_⟩⟩
        refine ⟨_, rfl, _, "bool", (.int i), _, rfl, (.int i), kit_bool (.int i), _, rfl, _, "bool", (.int i), _, rfl, (.int i), kit_bool (.int i), rfl, _, rfl, iteF ?_⟩
        exact ⟨_, rfl, _, rfl, .inl ⟨rfl, by rw [decide_eq_true rfl]; exact q _ (Ex.trans (Ex.new htp) (Ex.new h2))⟩⟩
    | str z => cases hv with
      | str _ =>
        refine iteF ?_
        refine ⟨_, rfl, by show 2 ≤ sizeLine; decide, fun tp htp => ⟨_, tp, ["list", "tuple"], (.str z), _, rfl, upd_same, (.str z), kit_lt (.str z), _, rfl, iteF ?_⟩⟩
        refine ⟨_, rfl, by show 3 ≤ sizeLine; decide, fun t2 h2 => ⟨_, t2, ["dict", "list", "tuple"], (.str z), _, rfl, upd_same, (.str z), kit_dlt (.str z), _, rfl, iteF ?_⟩⟩
        refine ⟨_, rfl, _, "bool", (.str z), _, rfl, (.str z), kit_bool (.str z), _, rfl, _, "bool", (.str z), _, rfl, (.str z), kit_bool (.str z), rfl, _, rfl, iteF ?_⟩
        exact ⟨_, rfl, _, rfl, .inl ⟨rfl, by rw [decide_eq_true rfl]; exact q _ (Ex.trans (Ex.new htp) (Ex.new h2))⟩⟩
    | fn hf => cases hv with
      | fn _ =>
        refine iteF ?_
        refine ⟨_, rfl, by show 2 ≤ sizeLine; decide, fun tp htp => ⟨_, tp, ["list", "tuple"], (.fn _), _, rfl, upd_same, (.fn hf), kit_lt (.fn _), _, rfl, iteF ?_⟩⟩
        refine ⟨_, rfl, by show 3 ≤ sizeLine; decide, fun t2 h2 => ⟨_, t2, ["dict", "list", "tuple"], (.fn _), _, rfl, upd_same, (.fn hf), kit_dlt (.fn _), _, rfl, iteF ?_⟩⟩
        refine ⟨_, rfl, _, "bool", (.fn _), _, rfl, (.fn hf), kit_bool (.fn _), _, rfl, _, "bool", (.fn _), _, rfl, (.fn hf), kit_bool (.fn _), rfl, _, rfl, iteF ?_⟩
        exact ⟨_, rfl, _, rfl, .inr ⟨_, rfl, rfl, hf, q _ (Ex.trans (Ex.new htp) (Ex.new h2))⟩⟩

theorem Step.imp {G G' : Dat → Prop} (h : ∀ d, G d → G' d) : ∀ d, Step G d → Step G' d
  | .lst _, x => ⟨x.1, fun d m => h d (x.2 d m)⟩
  | .tup _, x => ⟨x.1, fun d m => h d (x.2 d m)⟩
  | .dct _, x => h _ x
  | .non, _ => trivial
  | .bl _, _ => trivial
  | .int _, _ => trivial
  | .str _, _ => trivial
  | .fn _, _ => trivial
theorem ok_same (T : Txt K mg) (a : At K mg "_law_same" s__law_same ["found", "due"]) : ∀ n, Ok P w K mg base CX0 (n + 2) "_law_same" ["found", "due"] (spSameG K (Dep n))
  | 0 => ok_same_step T a (sub := fun _ _ _ _ => False) (a.ok fun f fd F => F.ok sc__law_same (fun vs H Q E h => h.elim) (fun cdv A outer s H vs Q E hr h => h.elim)) (fun _ _ _ _ _ _ _ _ h _ => h.elim)
  | n + 1 => ok_same_step T a (ok_same T a n) (fun v u d H Q E h1 h2 h3 h4 => ⟨v, u, d, rfl, h1, h2, h3, h4⟩)
end
end K8

set_option Elab.async false
set_option linter.all false
set_option maxRecDepth 100000
set_option maxHeartbeats 4000000
namespace K8
open PySem PySem.Spec PyProof.Rows L2 M8
/-! a heap without the spring -/
def sans (a : Addr) (H : Hp) : Hp := fun b => if b = a then none else H b
theorem sans_ne {a b : Addr} {H : Hp} (h : b ≠ a) : sans a H b = H b := if_neg h
theorem sans_ex (a : Addr) (H : Hp) : Ex (sans a H) H := fun b o h => by
  unfold sans at h
  split at h
  · cases h
  · exact h
theorem Exo.sans {a : Addr} {H H' : Hp} (e : Exo [a] H H') : Ex (sans a H) (sans a H') := fun b o h => by
  unfold K8.sans at h
  split at h
  · cases h
  · rename_i n
    rw [sans_ne n]; exact e b o (by simpa using n) h
theorem Ex.sans {a : Addr} {H H' : Hp} (e : Ex H H') : Ex (sans a H) (sans a H') := (e.exo [a]).sans
theorem Exo.at1 {a : Addr} {H H' : Hp} {b : Addr} {o : HO} (e : Exo [a] H H') (n : b ≠ a) (h : H b = some o) : H' b = some o := e b o (by simpa using n) h
theorem Exo.free {S : List Addr} {H H' : Hp} {p : Addr} (e : Exo S H H') (n : p ∉ S) (h : H' p = none) : H p = none := by
  cases q : H p with
  | none => rfl
  | some o => rw [e p o n q] at h; cases h
/-! pairs made into a dict -/
theorem putK_new {kvs : List (Key × V)} {k : Key} {v : V} (h : k ∉ kvs.map (·.1)) : putK kvs k v = kvs ++ [(k, v)] := by
  unfold putK
  rw [if_neg]
  rw [Bool.not_eq_true, List.any_eq_false]
  intro kv hkv z
  exact h (List.mem_map.mpr ⟨kv, hkv, by simpa using z⟩)
theorem mergeK_app : ∀ (more kvs : List (Key × V)), ((kvs ++ more).map (·.1)).Nodup → mergeK kvs more = kvs ++ more
  | [], kvs, _ => by simp [mergeK]
  | kv :: more, kvs, h => by
    unfold mergeK
    rw [List.foldl_cons]
    have h1 : kv.1 ∉ kvs.map (·.1) := by
      intro z
      rw [List.map_append, List.map_cons, List.nodup_append] at h
      exact h.2.2 _ z _ (by simp) rfl
    rw [putK_new h1]
    have := mergeK_app more (kvs ++ [(kv.1, kv.2)]) (by simpa using h)
    unfold mergeK at this
    rw [this]; simp
theorem mergeK_nil {kvs : List (Key × V)} (h : (kvs.map (·.1)).Nodup) : mergeK [] kvs = kvs := mergeK_app kvs [] (by simpa using h)
def rDictC (K : PySem.W.Frag) : List V → Hp → VK → Prop := fun xs H Q => ∃ (a : Addr) (ps : List Addr) (kvs : List (Key × V)), xs = [.ref a] ∧ H a = some (.lst (ps.map V.ref)) ∧ Paired (fun p kv => H p = some (.tup [kV kv.1, kv.2])) ps kvs ∧ (kvs.map (·.1)).Nodup ∧
    ∀ p, H p = none → Q (.ref p) (upd H p (.dK kvs))
theorem Paired.imp {α β : Type} {R R' : α → β → Prop} (h : ∀ a b, R a b → R' a b) : ∀ {as : List α} {bs : List β}, Paired R as bs → Paired R' as bs
  | _, _, .nil => .nil
  | _, _, .cons x t => .cons (h _ _ x) (Paired.imp h t)
theorem Paired.app {α β : Type} {R : α → β → Prop} : ∀ {as cs : List α} {bs ds : List β}, Paired R as bs → Paired R cs ds → Paired R (as ++ cs) (bs ++ ds)
  | _, _, _, _, .nil, h => h
  | _, _, _, _, .cons x t, h => .cons x (Paired.app t h)
theorem call_dictC {X : Cx} {K : PySem.W.Frag} (hK : X.K = K) (hc : X.calm = true) : CallR X (.type "dict") (rDictC K) := by
  subst hK
  intro pins s σ H xs us Q I r q
  obtain ⟨a, ps, kvs, ex, ha, hp, hn, q⟩ := q
  refine call_dictP hc pins s σ H xs us Q I r ⟨a, ps, kvs, ex, SqL.of ha, Paired.imp (fun _ _ h => SqT.of h) hp, ?_⟩
  rw [mergeK_nil hn]; exact q
theorem cK_nodup {c : Coef} (h : (keys c).Nodup) : ((cK c).map (·.1)).Nodup := by
  rw [keys_cK]
  exact List.Pairwise.map _ (fun a b h => fun z => h (Sum.inr.inj z)) h
theorem keys_app (c d : Coef) : keys (c ++ d) = keys c ++ keys d := by unfold keys; rw [List.map_append]
theorem cK_app (c d : Coef) : cK (c ++ d) = cK c ++ cK d := by unfold cK; rw [List.map_append]
/-! a comprehension of pairs of a name and a number -/
def PairAt (H : Hp) (p : Addr) (kv : Str × Int) : Prop := H p = some (.tup [.str kv.1, .int kv.2])
theorem pairs_cK {H : Hp} : ∀ {ps : List Addr} {c : Coef}, Paired (PairAt H) ps c → Paired (fun p kv => H p = some (.tup [kV kv.1, kv.2])) ps (cK c)
  | _, _, .nil => .nil
  | _, _, .cons h t => .cons h (pairs_cK t)
theorem Paired.exo {S : List Addr} {H H' : Hp} (e : Exo S H H') : ∀ {ps : List Addr} {c : Coef}, (∀ p ∈ ps, p ∉ S) → Paired (PairAt H) ps c → Paired (PairAt H') ps c
  | _, _, _, .nil => .nil
  | _, _, n, .cons h t => .cons (e _ _ (n _ (by simp)) h) (Paired.exo e (fun p hp => n p (by simp [hp])) t)
theorem lc_pairs {J : It} {n : Nat} {G : Hp → Prop} {Y : Nat → Hp → V → Hp → Prop} (w : Walk J n G Y) {g : TG} {tt : TT} {te : TE} {vs : List Nat} {σ : L2.St} {H1 : Hp} {Q : VK} (S : List Addr) (M : Nat → Hp → Prop) (Iv : Nat → Coef → Prop) (hn : n ≤ 1000000)
    (hG : ∀ H, Exo S H1 H → G H) (hM : ∀ i H H', (∀ b ∈ S, H' b = H b) → M i H → M i H') (hMS : ∀ i H, M i H → ∀ b ∈ S, H b ≠ none) (m0 : M 0 H1) (i0 : Iv 0 [])
    (hs : ∀ i x H H' c (R : V → Hp → Prop) (R' : Hp → Prop), i < n → Exo S H1 H → M i H → Iv i c → Y i H x H' →
      (∀ p nm z H4, H p = none → Exo S H H4 → M (i + 1) H4 → Iv (i + 1) (c ++ [(nm, z)]) → H4 p = some (.tup [.str nm, .int z]) → R (.ref p) H4) → (∀ H4, Exo S H H4 → M (i + 1) H4 → Iv (i + 1) c → R' H4) →
      g x (wipe σ vs) H' fun σ2 H2 => wipe σ2 vs = wipe σ vs ∧ tt σ2 H2 fun b H3 => if b = true then te σ2 H3 R else R' H3)
    (hd : ∀ D ps c H, H1 D = none → Exo S H1 H → M n H → Iv n c → H D = some (.lst (ps.map V.ref)) → Paired (PairAt H) ps c → Q (.ref D) H) :
    LcB g tt te vs σ Q J H1 := by
  refine lc_gen w S M (fun i acc H => ∃ ps c, acc = ps.map V.ref ∧ Paired (PairAt H) ps c ∧ Iv i c ∧ ∀ p ∈ ps, p ∉ S) hn (hMS 0 _ m0) hG hM ?_ m0 ?_ ?_ ?_
  · rintro i acc H D l0 l hD hN ⟨ps, c, e1, e2, e3, e4⟩
    refine ⟨ps, c, e1, ?_, e3, e4⟩
    have : ∀ {ps : List Addr} {c : Coef}, Paired (PairAt H) ps c → Paired (PairAt (upd H D (.lst l))) ps c := by
      intro ps c h
      refine Paired.imp (fun p kv h => ?_) h
      show upd H D (.lst l) p = _
      rw [upd_ne fun z => by rw [z] at h; rw [show H D = _ from h] at hD; cases hD]
      exact h
    exact this e2
  · intro D hD
    exact ⟨[], [], rfl, .nil, i0, by simp⟩
  · rintro i x H H' acc R R' hi e m ⟨ps, c, rfl, e2, e3, e4⟩ hl y k k'
    refine hs i x H H' c R R' hi e m e3 y (fun p nm z H4 hp e' m' i' h4 => ?_) (fun H4 e' m' i' => k' H4 e' m' ⟨ps, c, rfl, Paired.exo e' e4 e2, i', e4⟩)
    refine k _ _ e' m' ⟨ps ++ [p], c ++ [(nm, z)], by simp, Paired.app (Paired.exo e' e4 e2) (.cons h4 .nil), i', fun q hq => ?_⟩
    rcases List.mem_append.mp hq with hq | hq
    · exact e4 q hq
    · have : q = p := by simpa using hq
      rw [this]
      exact fun z => hMS i H m p z hp
  · rintro D acc H hD e m ⟨ps, c, rfl, e2, e3, e4⟩ hDH hl
    exact hd D ps c H hD e m e3 hDH e2
/-! literals -/
def tLit (K : PySem.W.Frag) (Γ : List (Nat × Dat)) (d : Dat) : TE := fun σ H Q => (∀ p ∈ Γ, ∃ v, σ[p.1]? = some (some v) ∧ SeeF K H v p.2) ∧ ∀ v H', Ex H H' → SeeF K H' v d → Q v H'
def tLits (K : PySem.W.Frag) (Γ : List (Nat × Dat)) (ds : List Dat) : TA := fun σ H Q => (∀ p ∈ Γ, ∃ v, σ[p.1]? = some (some v) ∧ SeeF K H v p.2) ∧ ∀ vs H', Ex H H' → SeeL (FnK K) H' vs ds → Q vs H'
section
variable {X : Cx} {K : PySem.W.Frag} {Γ : List (Nat × Dat)}
theorem PE.lit {e : Expr} {v : V} {d : Dat} (h : PE X e (tC v)) (hs : ∀ H, SeeF K H v d) : PE X e (tLit K Γ d) := ⟨fun pins s σ H Q I q => h.run pins s σ H Q I (q.2 _ _ (Ex.refl _) (hs H))⟩
theorem PE.litV {e : Expr} {i : Nat} {d : Dat} (h : PE X e (tVar i)) (hi : (i, d) ∈ Γ) : PE X e (tLit K Γ d) := ⟨fun pins s σ H Q I q => h.run pins s σ H Q I (by
  obtain ⟨v, h1, h2⟩ := q.1 _ hi
  exact ⟨v, h1, q.2 _ _ (Ex.refl _) h2⟩)⟩
theorem ls_nil : PA X [] (tLits K Γ []) := ⟨fun pos pins s σ H Q I q => pa_nil.run pos pins s σ H Q I (q.2 _ _ (Ex.refl _) .nil)⟩
theorem ls_cons {e : Expr} {es : List Expr} {d : Dat} {ds : List Dat} (h : PE X e (tLit K Γ d)) (hr : PA X es (tLits K Γ ds)) (hs : starEach (e :: es) X.env = (false, eval e X.env) :: starEach es X.env := by rfl) : PA X (e :: es) (tLits K Γ (d :: ds)) :=
  ⟨fun pos pins s σ H Q I q => (pa_cons h hr hs).run pos pins s σ H Q I ⟨q.1, fun v H1 e1 s1 => ⟨fun p hp => by
    obtain ⟨v, h1, h2⟩ := q.1 p hp
    exact ⟨v, h1, h2.mono e1⟩, fun vs H2 e2 s2 => q.2 _ _ (e1.trans e2) (.cons (s1.mono e2) s2)⟩⟩⟩
theorem big15 (n : Nat) (h : n ≤ 1000000) : n ≤ sizeLine := by rw [sizeLine_eq]; omega
theorem lt_tup {es : List Expr} {ds : List Dat} {x1} {pos : Pos} (h : PA X es (tLits K Γ ds)) (hn : ds.length ≤ 1000000 := by decide) : PE X (.Tuple es x1 pos) (tLit K Γ (.tup ds)) :=
  ⟨fun pins s σ H Q I q => (pe_tup h).run pins s σ H Q I ⟨q.1, fun vs H1 e1 s1 => ⟨by rw [s1.len]; exact big15 _ hn, fun p hp => q.2 _ _ (e1.mut (e1.free hp)) (.tup upd_same (SeeL.mono (Ex.new hp) s1))⟩⟩⟩
theorem lt_lst {es : List Expr} {ds : List Dat} {pos : Pos} (h : PA X es (tLits K Γ ds)) (hn : ds.length ≤ 1000000 := by decide) : PE X (.List es pos) (tLit K Γ (.lst ds)) :=
  ⟨fun pins s σ H Q I q => (pe_lst h).run pins s σ H Q I ⟨q.1, fun vs H1 e1 s1 => ⟨by rw [s1.len]; exact big15 _ hn, fun p hp => q.2 _ _ (e1.mut (e1.free hp)) (.lst upd_same (SeeL.mono (Ex.new hp) s1))⟩⟩⟩
theorem lt_dnil {pos : Pos} : PE X (.Dict [] [] pos) (tLit K Γ (.dct [])) := ⟨fun pins s σ H Q I q => pe_dnewK.run pins s σ H Q I (fun p hp => q.2 _ _ (Ex.new hp) (.dct upd_same .nil))⟩
/-- a dict written with one key -/
theorem lt_d1 {pos : Pos} {k e : Expr} {key : Key} {v : V} {d : Dat} (hk : PE X k (tC (kV key))) (hv : PE X e (tC v)) (hs : ∀ H, SeeF K H v d) : PE X (.Dict [some k] [e] pos) (tLit K Γ (.dct [(key, d)])) := by
  refine ⟨fun pins s σ H Q I q => (pe_disp (pps_cons hk hv pps_nil) rfl rfl (by simp) (by simp)).run pins s σ H Q I ?_⟩
  intro p hp
  refine ⟨upd_same, [(key, v)], rfl, by simp, q.2 _ _ ((Ex.new hp).mut hp) (.dct upd_same (.cons (hs _) .nil))⟩
end
end K8

set_option Elab.async false
set_option linter.all false
set_option maxRecDepth 100000
set_option maxHeartbeats 4000000
namespace K8
open PySem PySem.Spec PyProof.Rows L2 M8
/-! list(d.values()) -/
def tListVals (te : TE) : TE := fun σ H Q => te σ H fun x H1 => ∃ (d : Addr) (kvs : List (Key × V)), x = .ref d ∧ H1 d = some (.dK kvs) ∧ ∀ p, H1 p = none → Q (.ref p) (upd H1 p (.lst (kvs.map (·.2))))
section
variable {X : Cx} {e : Expr} {te : TE} {p apos cpos pos : Pos}
theorem vals_snd : ∀ {kvs : List (Key × V)} {vs : List (Key × Value)}, KV kvs vs → Vals (kvs.map (·.2)) (vs.map (·.2)) := by
  intro kvs vs r
  unfold KV at r
  induction r with
  | nil => exact .nil
  | cons h t ih => exact .cons h.2 ih
theorem pe_listValues (hc : X.calm = true) (he : PE X e te) (hg : Gl X "list") (hm : X.mg "list" = none) (hv : bootBuiltins "list" = some (.type "list")) (hbase : attributeBase e "values" X.env (eval e X.env) = eval e X.env := by rfl) (hline : (apos.endLine == cpos.line) = true := by rfl)
    (hs : starEach [.Call (.Attribute e "values" apos) [] [] cpos] X.env = (false, eval (.Call (.Attribute e "values" apos) [] [] cpos) X.env) :: starEach [] X.env := by rfl) :
    PE X (.Call (.Name "list" p) [.Call (.Attribute e "values" apos) [] [] cpos] [] pos) (tListVals te) := by
  refine ⟨fun pins s σ H Q I hq => ?_⟩
  refine wpAny_Call_Name_kw (ld_blt I hg hm hv ?_)
  refine PyProof.Rows.callWith_type1 ?_ hs rfl
  rw [hs]
  show wpAny _ _ (spliced ((false, eval (.Call (.Attribute e "values" apos) [] [] cpos) X.env) :: backTo pos (starEach [] X.env))) _ _ s
  refine Calls.spliced_cons ?_
  refine wpAny_Call_method (T := "dict") (id := "dict.values") hbase rfl hline F.plainAttrs_dict F.slot_dict_values F.type_dict_values (thn (he.run pins s σ H _ I hq) fun u s1 ⟨x, H1, I1, rx, d, kvs, ex, hd, q⟩ => ?_)
  subst ex
  obtain rfl : u = Value.ref d := rx
  obtain ⟨hz, hs0, vs, kv, hdo⟩ := I1.hok d _ hd
  obtain ⟨ep, hat⟩ := hdo.dictAt
  have lk : kvs.length = vs.length := Paired.length kv
  have I2 : Inv X pins σ H1 { s1 with heap := s1.heap.push { cls := .type "dict_values", data := .fields #[.ref d] } } := I1.kept (t' := s1.toks) fun b ob q => Heap.get?_push_of_some _ q
  refine ⟨hdo.typeIs, hdo.mapOf.noDict, ?_⟩
  show wpAny _ _ (callWith cpos (.builtin "dict.values") [.ref d] [] []) _ X.xe s1
  refine method_meetsIn F.slot_dict_values F.entry_dict_values rfl (PySem.evalArgs_none ⟨rfl, hdo.typeIs, F.args_dict_values_1 _, _, meets_dict_values (mixKind X.prog X.w) d hs0, ⟨vs, hdo⟩, ?_⟩)
  refine Calls.spliced_nil ?_
  refine PySem.W.kdl_call (PySem.W.kdl_values (knd := mixKind X.prog X.w) (kvs := vs) (ep := ep)) (I1.ok.hd hc) ⟨⟨_, Heap.get?_push_size _ rfl, rfl, rfl⟩, hat.push _⟩ (by omega) fun h' tk acc c' hk hD hacc => ?_
  have hva : acc.toList = vs.map (·.2) := PySem.W.kdl_vals_eq _ (by rw [Array.length_toList]; exact hacc.1) fun j v e => hacc.2 j v (by rw [← Array.getElem?_toList]; exact e)
  refine ⟨.ref _, _, I2.laid (t' := tk) (o := .lst (kvs.map (·.2))) hk (Nat.le_refl _) (show ObjOk X.prog X.w _ _ _ (.lst (kvs.map (·.2))) from ⟨by rw [List.length_map]; exact hz, acc.toList, c', by rw [hva]; exact vals_snd kv, by rw [Array.toArray_toList]; exact hD⟩), rfl, q _ (I2.hok.fresh (Nat.le_refl _))⟩
/-- d == {} -/
def rEq0 : R2 := fun x y H Q => ∃ a b ks, x = .ref a ∧ y = .ref b ∧ H a = some (.dK ks) ∧ H b = some (.dK []) ∧ Q (.bl ks.isEmpty) H
theorem op_eq0 (hu : X.A.units + 1 < cLine) : OpR X (compareOp .Eq) rEq0 := by
  intro pins s σ H x y v u Q I rx ry h
  obtain ⟨a, b, ks, rfl, rfl, ea, eb, q⟩ := h
  obtain rfl : v = Value.ref a := rx
  obtain rfl : u = Value.ref b := ry
  obtain ⟨_, ya, va, ra, da⟩ := (show ObjOk X.prog X.w H s.heap a (.dK ks) from I.hok a _ ea)
  obtain ⟨_, yb, vb, rb, db⟩ := (show ObjOk X.prog X.w H s.heap b (.dK []) from I.hok b _ eb)
  have hla : ks.length = va.length := ra.length
  have hlb : 0 = vb.length := rb.length
  refine PySem.W.keq_eq (knd := mixKind X.prog X.w) (r := true) ya yb da db (by omega) (fun hl => ?_) (fin_bl I q ?_)
  · have hk : ks = [] := List.eq_nil_of_length_eq_zero (by omega)
    subst hk
    exact hits_all rb ra (by simp)
  · cases ks with
    | nil => simp at hla; simp [← hla, ← hlb]
    | cons p t =>
      have : va.length ≠ vb.length := by simp at hla; omega
      simp [this]
end
/-! pairs of a dict's own names, made into a dict -/
theorem lp_lock {H : Hp} {d : Addr} {c : Coef} {td te : TE} {tt : TT} {j : Nat} {vs : List Nat} {σ : L2.St} {Q : VK} (f : Str × Int → Int) (kp : Str × Int → Bool) (hd : H d = some (.dK (cK c))) (few : Few c)
    (htd : ∀ (H2 : Hp) (R : V → Hp → Prop), (∀ b o, b ≠ d → H b = some o → H2 b = some o) → R (.ref d) H2 → td σ H2 R) (hj : (wipe σ vs)[j]? ≠ none) (hw : ∀ x, wipe ((wipe σ vs).set j (some x)) vs = wipe σ vs)
    (hv : ∀ (n : Str) (z : Int) (H2 : Hp) (od : Obj) (R : V → Hp → Prop) (R' : Hp → Prop), (n, z) ∈ c → H2 d = some (.frz od (.dK (cK c))) → (∀ b o, b ≠ d → H b = some o → H2 b = some o) →
      (kp (n, z) = true → ∀ p H4, H2 p = none → Ex H2 H4 → H4 p = some (.tup [.str n, .int (f (n, z))]) → R (.ref p) H4) → (kp (n, z) = false → ∀ H4, Ex H2 H4 → R' H4) →
      tt ((wipe σ vs).set j (some (.str n))) H2 fun b H3 => if b = true then te ((wipe σ vs).set j (some (.str n))) H3 R else R' H3)
    (hq : ∀ D ps H', H D = none → Ex H H' → H' D = some (.lst (ps.map V.ref)) → Paired (PairAt H') ps ((c.filter kp).map fun p => (p.1, f p)) → Q (.ref D) H') :
    tLockE (tLc (iKeys td) (gName j) tt te vs) σ H Q := by
  refine ⟨d, _, hd, trivial, fun od => ?_⟩
  refine tLc_of ?_
  have out : ∀ H2 : Hp, Ex (upd H d (.frz od (.dK (cK c)))) H2 → ∀ b o, b ≠ d → H b = some o → H2 b = some o := fun H2 e b o hb h => e b o (by rw [upd_ne hb]; exact h)
  refine htd _ _ (fun b o hb h => by rw [upd_ne hb]; exact h) ⟨d, od, rfl, .inl ⟨_, upd_same, ?_⟩⟩
  have hl : (cK c).length = c.length := cK_len c
  refine lc_pairs walk_keys [] (fun _ _ => True) (fun i c' => c' = ((c.take i).filter kp).map fun p => (p.1, f p)) (by have := few.len; omega) (fun H1 e => e.ex _ _ upd_same) (fun _ _ _ _ _ => trivial) (fun _ _ _ b hb => by simp at hb) trivial rfl ?_ ?_
  · rintro i x H1 H2 c' R R' hi e _ rfl ⟨rfl, k', z, hkz, rfl⟩ k1 k2
    have hci : i < c.length := by omega
    obtain ⟨⟨n, y⟩, hcy⟩ : ∃ p : Str × Int, c[i]? = some p := ⟨c[i], List.getElem?_eq_getElem hci⟩
    rw [get_cK hcy] at hkz
    cases hkz
    have ht : c.take (i + 1) = c.take i ++ [(n, y)] := by rw [List.take_add_one, hcy]; rfl
    have hjl : j < (wipe σ vs).length := Decidable.byContradiction fun q => hj (List.getElem?_eq_none (by omega))
    refine ⟨hw _, hv n y H2 od R R' (List.mem_of_getElem? hcy) (e.ex _ _ upd_same) (out _ e.ex) (fun hk p H4 hp e4 h4 => ?_) (fun hk H4 e4 => ?_)⟩
    · refine k1 p n (f (n, y)) H4 hp (e4.exo _) trivial ?_ h4
      rw [ht, List.filter_append, List.map_append, List.filter_cons, if_pos hk]; rfl
    · refine k2 H4 (e4.exo _) trivial ?_
      rw [ht, List.filter_append, List.filter_cons, if_neg (by rw [hk]; simp)]; simp
  · rintro D ps c' H1 hD e _ rfl hDH hp
    have hx := e.ex _ _ upd_same
    have hDd : D ≠ d := fun z => by rw [z, upd_same] at hD; cases hD
    have ht : c.take (cK c).length = c := List.take_of_length_le (by omega)
    rw [ht] at hp
    refine ⟨hx, hq D ps _ (by rw [upd_ne hDd] at hD; exact hD) (e.ex.unlock hd) (by rw [upd_ne hDd]; exact hDH) (Paired.imp (fun p kv h => ?_) hp)⟩
    show upd H1 d _ p = _
    rw [upd_ne fun z => by rw [z] at h; rw [show H1 d = _ from h] at hx; cases hx]
    exact h
theorem keys_fm {c : Coef} {f : Str × Int → Int} {kp : Str × Int → Bool} (h : (keys c).Nodup) : (keys ((c.filter kp).map fun p => (p.1, f p))).Nodup := by
  unfold keys
  rw [List.map_map]
  exact h.sublist (List.filter_sublist.map _)
theorem dp_lock {K : PySem.W.Frag} {H : Hp} {d : Addr} {c : Coef} {td te : TE} {tt : TT} {j : Nat} {vs : List Nat} {σ : L2.St} {Q : VK} (f : Str × Int → Int) (kp : Str × Int → Bool) (hd : H d = some (.dK (cK c))) (few : Few c)
    (htd : ∀ (H2 : Hp) (R : V → Hp → Prop), (∀ b o, b ≠ d → H b = some o → H2 b = some o) → R (.ref d) H2 → td σ H2 R) (hj : (wipe σ vs)[j]? ≠ none) (hw : ∀ x, wipe ((wipe σ vs).set j (some x)) vs = wipe σ vs)
    (hv : ∀ (n : Str) (z : Int) (H2 : Hp) (od : Obj) (R : V → Hp → Prop) (R' : Hp → Prop), (n, z) ∈ c → H2 d = some (.frz od (.dK (cK c))) → (∀ b o, b ≠ d → H b = some o → H2 b = some o) →
      (kp (n, z) = true → ∀ p H4, H2 p = none → Ex H2 H4 → H4 p = some (.tup [.str n, .int (f (n, z))]) → R (.ref p) H4) → (kp (n, z) = false → ∀ H4, Ex H2 H4 → R' H4) →
      tt ((wipe σ vs).set j (some (.str n))) H2 fun b H3 => if b = true then te ((wipe σ vs).set j (some (.str n))) H3 R else R' H3)
    (hq : ∀ p H', H p = none → Ex H H' → H' p = some (.dK (cK ((c.filter kp).map fun p => (p.1, f p)))) → Q (.ref p) H') :
    tCB (rDictC K) (tCons (tLockE (tLc (iKeys td) (gName j) tt te vs)) tNil) σ H Q := by
  refine lp_lock f kp hd few htd hj hw hv fun D ps H' hD e hDH hp => ?_
  refine ⟨D, ps, _, rfl, hDH, pairs_cK hp, cK_nodup (keys_fm few.nd), fun r hr => hq r _ (e.free hr) (e.mut (e.free hr)) upd_same⟩
/-- the whole dict's pairs -/
theorem yesK {σ : L2.St} {H : Hp} {A : Hp → Prop} {B : Hp → Prop} (h : A H) : tYes σ H (fun b H3 => if b = true then A H3 else B H3) := yesT h
theorem filt_all (c : Coef) (f : Str × Int → Int) : ((c.filter fun _ => true).map fun p => (p.1, f p)) = c.map fun p => (p.1, f p) := by rw [List.filter_eq_self.mpr (by simp)]
end K8

set_option Elab.async false
set_option linter.all false
set_option maxRecDepth 100000
set_option maxHeartbeats 4000000
namespace K8
open PySem PySem.Spec PyProof.Rows L2 M8
/-! what a term comes to, whether a test is so -/
def worth (c : Coef) (k : Int) (cn : Coef) : Int := k + ((c.filter fun p => decide (p.2 ≠ 0)).map fun p => p.2 * co cn p.1).sum
def so (cn : Coef) : Tst → Bool
  | .row c k => decide (0 ≤ worth c k cn)
  | .same c k => decide (worth c k cn = 0)
  | .div m c k => decide (worth c k cn % m = 0)
def PairT (H : Hp) (t d : Addr) (c : Coef) (k : Int) : Prop := H t = some (.tup [.ref d, .int k]) ∧ H d = some (.dK (cK c))
def TAt (H : Hp) (q t d : Addr) : Tst → Prop
  | .row c k => H q = some (.tup [.str "row", .ref t]) ∧ PairT H t d c k
  | .same c k => H q = some (.tup [.str "same", .ref t]) ∧ PairT H t d c k
  | .div m c k => H q = some (.tup [.str "by", .int m, .ref t]) ∧ PairT H t d c k
section
variable {P : Program} {w : World} {K : PySem.W.Frag} {mg : Str → Option Value} {base : Heap}
def spWorth : Sp := fun vs H Q _ => ∃ p d nd c k cn, vs = [.ref p, .ref nd] ∧ PairT H p d c k ∧ H nd = some (.dK (cK cn)) ∧ nd ≠ d ∧ Few c ∧ Lim c ∧ (keys cn).Nodup ∧ (∀ p ∈ c, p.2 ≠ 0 → p.1 ∈ keys cn) ∧ ∀ H', Ex H H' → Q (.int (worth c k cn)) H'
abbrev s__law_w_worth : Stmt := top 52
theorem sc__law_w_worth : FnScope ["term", "numbers", "name"] ["term", "numbers"] (defScope s__law_w_worth) := ⟨rfl, rfl, rfl, by decide +kernel, rfl, by decide +kernel, by decide +kernel⟩
theorem ok__law_w_worth (T : Txt K mg) (a : At K mg "_law_w_worth" s__law_w_worth ["term", "numbers"]) : Ok P w K mg base CX0 1 "_law_w_worth" ["term", "numbers"] spWorth := a.ok fun f fd F => by
  refine F.ok sc__law_w_worth (fun vs H Q E h => ?_) (fun cdv A outer s H vs Q E hr h => ?_)
  · obtain ⟨p, d, nd, c, k, cn, rfl, _⟩ := h; rfl
  · obtain ⟨p, d, nd, c, k, cn, rfl, ⟨hp, hd⟩, hn, ndd, few, lim, ndn, hin, q⟩ := h
    refine ⟨_, (pss_one (ps_ret (pe_op op_add (pe_ix (ix_qK (K := K) rfl) (pv 0) pe_int (fun _ _ => rfl)) (pe_callB (cr_sum rfl) rfl T.n_sum rfl (pa_cons (pe_lock (pe_lc (own := [("name", 2)]) (g := gName 2) (tt := _) rfl sc__law_w_worth.nd (pi_keys (pe_ix (ix_qK (K := K) rfl) (pv 0) pe_int (fun _ _ => rfl))) (blkOk_by (N := ["term", "numbers", "name"]) (sc := defScope s__law_w_worth) (by decide +kernel)) (fun _ _ _ _ _ => (pg_name (i := 2) sc__law_w_worth.nd rfl (Or.inl rfl))) (fun _ _ _ _ _ => (pts_one (pt_cmpR op_ne (pe_dget (hu_of hr) (pe_ix (ix_qK (K := K) rfl) (pv 0) pe_int (fun _ _ => rfl)) (pv 2) (fun _ _ => rfl)) pe_int (nomark _)))) (fun _ _ _ _ _ => (pe_op op_mul (pe_dget (hu_of hr) (pe_ix (ix_qK (K := K) rfl) (pv 0) pe_int (fun _ _ => rfl)) (pv 2) (fun _ _ => rfl)) (pe_dget (hu_of hr) (pv 1) (pv 2) (fun _ _ => rfl)))))) pa_nil))))), ?_⟩
    have pd : p ≠ d := fun z => by rw [z, hd] at hp; cases hp
    refine ⟨_, rfl, p, _, 1, _, rfl, rfl, SqQ.t hp, at1, ?_⟩
    dsimp only [tNext, tRet, tCB, tCons, tNil, gName]
    refine ⟨d, _, hd, trivial, fun od => ?_⟩
    refine tLc_of ?_
    have hp0 : upd H d (.frz od (.dK (cK c))) p = some (.tup [.ref d, .int k]) := by rw [upd_ne pd]; exact hp
    have hn0 : upd H d (.frz od (.dK (cK c))) nd = some (.dK (cK cn)) := by rw [upd_ne ndd]; exact hn
    refine ⟨_, rfl, p, _, 0, _, rfl, rfl, SqQ.t hp0, at0, d, od, rfl, .inl ⟨_, upd_same, ?_⟩⟩
    have hl : (cK c).length = c.length := cK_len c
    refine lc_val walk_keys (fun i => (((c.take i).filter fun p => decide (p.2 ≠ 0)).map fun p => p.2 * co cn p.1).map V.int) (by have := few.len; omega) rfl (fun H1 e => e _ _ upd_same) ?_ ?_
    · rintro i x H1 H2 R R' hi e ⟨rfl, k', z, hkz, rfl⟩ kk kk'
      have hci : i < c.length := by omega
      obtain ⟨⟨n, y⟩, hcy'⟩ : ∃ p : Str × Int, c[i]? = some p := ⟨c[i], List.getElem?_eq_getElem hci⟩
      rw [get_cK hcy'] at hkz
      cases hkz
      have hmem := List.mem_of_getElem? hcy'
      have hm : n ∈ keys c := List.mem_map.mpr ⟨(n, y), hmem, rfl⟩
      have hco : co c n = y := co_of_mem few.nd hmem
      have hD3 : H2 d = some (.frz od (.dK (cK c))) := e _ _ upd_same
      have hP3 := e _ _ hp0
      have hN3 := e _ _ hn0
      have ht : c.take (i + 1) = c.take i ++ [(n, y)] := by rw [List.take_add_one, hcy']; rfl
      refine ⟨rfl, ?_⟩
      refine ⟨_, rfl, p, _, 0, _, rfl, rfl, SqQ.t hP3, at0, _, rfl, d, _, rfl, .inl ⟨cK c, .inr n, .inr ⟨od, hD3⟩, rfl, (valV_co hm few.nd).symm⟩, rfl, _, rfl, ?_⟩
      rw [hco]
      by_cases hy : y = 0
      · have e1 : (!decide (V.int y = V.int 0)) = false := by rw [hy]; rfl
        rw [e1]
        refine iteF (kk' _ (Ex.refl _) ?_)
        rw [ht, List.filter_append, hy]; simp
      · have e1 : (!decide (V.int y = V.int 0)) = true := by rw [decide_eq_false fun z => hy (V.int.inj z)]; rfl
        rw [e1]
        refine iteT ⟨_, rfl, p, _, 0, _, rfl, rfl, SqQ.t hP3, at0, _, rfl, d, _, rfl, .inl ⟨cK c, .inr n, .inr ⟨od, hD3⟩, rfl, (valV_co hm few.nd).symm⟩, ?_⟩
        refine ⟨_, rfl, _, rfl, nd, _, rfl, .inl ⟨cK cn, .inr n, .inl hN3, rfl, (valV_co (hin _ hmem hy) ndn).symm⟩, _, _, rfl, rfl, .inl ?_, kk _ _ (Ex.refl _) ?_⟩
        · rw [hco]; have := lim _ hmem; simp only at this; constructor <;> omega
        · rw [hco, ht, List.filter_append, List.map_append, List.map_append, List.filter_cons, if_pos (by simpa using hy)]; rfl
    · intro D H1 hD e hDH
      have hx := e _ _ upd_same
      have hDd : D ≠ d := fun z => by rw [z, upd_same] at hD; cases hD
      have hl2 : c.take (cK c).length = c := List.take_of_length_le (by omega)
      rw [hl2] at hDH
      have ex := e.unlock hd
      refine ⟨hx, D, _, rfl, SqL.of (by rw [upd_ne hDd]; exact hDH), _, _, rfl, rfl, q _ ex⟩
def spIsSo : Sp := fun vs H Q _ => ∃ q t d nd ts cn, vs = [.ref q, .ref nd] ∧ TAt H q t d ts ∧ H nd = some (.dK (cK cn)) ∧ nd ≠ d ∧ Few (coef ts) ∧ Lim (coef ts) ∧ mOk ts ∧ (keys cn).Nodup ∧ (∀ p ∈ coef ts, p.2 ≠ 0 → p.1 ∈ keys cn) ∧ ∀ H', Ex H H' → Q (.bl (so cn ts)) H'
abbrev s__law_w_is_so : Stmt := top 53
theorem sc__law_w_is_so : FnScope ["body", "numbers", "some", "comes", "part"] ["body", "numbers"] (defScope s__law_w_is_so) := ⟨rfl, rfl, rfl, by decide +kernel, rfl, by decide +kernel, by decide +kernel⟩
theorem ok__law_w_is_so (T : Txt K mg) (a : At K mg "_law_w_is_so" s__law_w_is_so ["body", "numbers"]) (O_law_w_worth : Ok P w K mg base CX0 1 "_law_w_worth" ["term", "numbers"] spWorth) : Ok P w K mg base CX0 2 "_law_w_is_so" ["body", "numbers"] spIsSo := by
  have O_law_w_is_so : Ok P w K mg base CX0 1 "_law_w_is_so" ["body", "numbers"] (fun _ _ _ _ => False) := a.ok fun f fd F => F.ok sc__law_w_is_so (fun vs H Q E h => h.elim) (fun cdv A outer s H vs Q E hr h => h.elim)
  refine a.ok fun f fd F => ?_
  refine F.ok sc__law_w_is_so (fun vs H Q E h => ?_) (fun cdv A outer s H vs Q E hr h => ?_)
  · obtain ⟨q, t, d, nd, ts, cn, rfl, _⟩ := h; rfl
  · obtain ⟨q, t, d, nd, ts, cn, rfl, ht, hn, ndd, few, lim, hm, ndn, hin, qq⟩ := h
    refine ⟨_, (pss_cons (ps_if (pt_cmpR op_eq (pe_ix (ix_qK (K := K) rfl) (pv 0) pe_int (fun _ _ => rfl)) pe_str (nomark _)) (pss_one (ps_ret (pe_not (pe_callO O_law_w_is_so hr rfl (pa_cons (pe_ix (ix_qK (K := K) rfl) (pv 0) pe_int (fun _ _ => rfl)) (pa_cons (pv 1) pa_nil)))))) pss_nil)
      (pss_cons (ps_if (pt_cmpR op_in_seq (pe_ix (ix_qK (K := K) rfl) (pv 0) pe_int (fun _ _ => rfl)) (pe_tup (pa_cons pe_str (pa_cons pe_str pa_nil))) rfl) (pss_cons (ps_setLc (i := 2) (own := [("part", 4)]) (g := gName 4) (tt := tYes) rfl sc__law_w_is_so.nd rfl rfl (sw_true rfl rfl rfl (by decide +kernel)) (pi_list (pe_ix (ix_qK (K := K) rfl) (pv 0) pe_int (fun _ _ => rfl))) (blkOk_by (N := ["body", "numbers", "some", "comes", "part"]) (sc := defScope s__law_w_is_so) (by decide +kernel)) (fun _ _ _ _ _ => (pg_name (i := 4) sc__law_w_is_so.nd rfl (Or.inl rfl))) (fun _ _ _ _ _ => pts_nil) (fun _ _ _ _ _ => (pe_callO O_law_w_is_so hr rfl (pa_cons (pv 4) (pa_cons (pv 1) pa_nil)))))
      (pss_one (ps_ret (pe_ifExp (pt_cmpR op_eq (pe_ix (ix_qK (K := K) rfl) (pv 0) pe_int (fun _ _ => rfl)) pe_str (nomark _)) (pe_callB (cr_all rfl) rfl T.n_all rfl (pa_cons (pv 2) pa_nil)) (pe_callB (cr_any rfl) rfl T.n_any rfl (pa_cons (pv 2) pa_nil)))))) pss_nil)
      (pss_cons (ps_set (i := 3) sc__law_w_is_so.nd rfl (Or.inl rfl) (pe_callO O_law_w_worth (hr.mono (by decide)) rfl (pa_cons (pe_ix (ix_qK (K := K) rfl) (pv 0) (pe_un un_neg pe_int) (fun _ _ => rfl)) (pa_cons (pv 1) pa_nil))))
      (pss_cons (ps_if (pt_cmpR op_eq (pe_ix (ix_qK (K := K) rfl) (pv 0) pe_int (fun _ _ => rfl)) pe_str (nomark _)) (pss_one (ps_ret (pe_cmpR op_eq (pe_op op_mod (pe_callTy call_int1 rfl T.n_int rfl (pa_cons (pv 3) pa_nil)) (pe_ix (ix_qK (K := K) rfl) (pv 0) pe_int (fun _ _ => rfl))) pe_int (nomark _)))) pss_nil)
      (pss_one (ps_ret (pe_ifExp (pt_cmpR op_eq (pe_ix (ix_qK (K := K) rfl) (pv 0) pe_int (fun _ _ => rfl)) pe_str (nomark _)) (pe_cmpR op_ge (pv 3) pe_int (nomark _)) (pe_cmpR op_eq (pv 3) pe_int (nomark _))))))))), ?_⟩
    have kst : ∀ (r : V) (xs : List V) (z : Str), H q = some (.tup (.str z :: xs)) → z ≠ "not" → z ≠ "all" → z ≠ "any" → True := fun _ _ _ _ _ _ _ => trivial
    cases ts with
    | row c k =>
      obtain ⟨hq, hp, hd⟩ := ht
      refine ⟨_, rfl, q, _, 0, _, rfl, rfl, SqQ.t hq, at0, rfl, _, rfl, iteF ?_⟩
      refine ⟨_, rfl, q, _, 0, _, rfl, rfl, SqQ.t hq, at0, by show 2 ≤ sizeLine; decide, fun tp htp => ?_⟩
      have e1 : Ex H (upd H tp (.tup [.str "all", .str "any"])) := Ex.new htp
      refine ⟨tp, _, rfl, .inr (SqT.of upd_same), rfl, rfl, _, rfl, iteF ?_⟩
      refine ⟨_, rfl, _, rfl, q, _, _, _, rfl, rfl, SqQ.t (e1 _ _ hq), (by rfl), _, rfl, t, d, nd, c, k, cn, rfl, ⟨e1 _ _ hp, e1 _ _ hd⟩, e1 _ _ hn, ndd, few, lim, ndn, hin, fun H2 e2 => ?_⟩
      have e3 := e1.trans e2
      refine ⟨_, rfl, q, _, 0, _, rfl, rfl, SqQ.t (e3 _ _ hq), at0, rfl, _, rfl, iteF ?_⟩
      refine ⟨_, rfl, q, _, 0, _, rfl, rfl, SqQ.t (e3 _ _ hq), at0, rfl, _, rfl, iteT ?_⟩
      exact ⟨_, rfl, _, _, rfl, rfl, qq _ e3⟩
    | same c k =>
      obtain ⟨hq, hp, hd⟩ := ht
      refine ⟨_, rfl, q, _, 0, _, rfl, rfl, SqQ.t hq, at0, rfl, _, rfl, iteF ?_⟩
      refine ⟨_, rfl, q, _, 0, _, rfl, rfl, SqQ.t hq, at0, by show 2 ≤ sizeLine; decide, fun tp htp => ?_⟩
      have e1 : Ex H (upd H tp (.tup [.str "all", .str "any"])) := Ex.new htp
      refine ⟨tp, _, rfl, .inr (SqT.of upd_same), rfl, rfl, _, rfl, iteF ?_⟩
      refine ⟨_, rfl, _, rfl, q, _, _, _, rfl, rfl, SqQ.t (e1 _ _ hq), (by rfl), _, rfl, t, d, nd, c, k, cn, rfl, ⟨e1 _ _ hp, e1 _ _ hd⟩, e1 _ _ hn, ndd, few, lim, ndn, hin, fun H2 e2 => ?_⟩
      have e3 := e1.trans e2
      refine ⟨_, rfl, q, _, 0, _, rfl, rfl, SqQ.t (e3 _ _ hq), at0, rfl, _, rfl, iteF ?_⟩
      refine ⟨_, rfl, q, _, 0, _, rfl, rfl, SqQ.t (e3 _ _ hq), at0, rfl, _, rfl, iteF ?_⟩
      have := qq _ e3
      refine ⟨_, rfl, rfl, ?_⟩
      rw [show decide (V.int (worth c k cn) = V.int 0) = so cn (.same c k) from decide_eq_decide.mpr ⟨fun z => V.int.inj z, fun z => by rw [z]⟩]
      exact this
    | div m c k =>
      obtain ⟨hq, hp, hd⟩ := ht
      refine ⟨_, rfl, q, _, 0, _, rfl, rfl, SqQ.t hq, at0, rfl, _, rfl, iteF ?_⟩
      refine ⟨_, rfl, q, _, 0, _, rfl, rfl, SqQ.t hq, at0, by show 2 ≤ sizeLine; decide, fun tp htp => ?_⟩
      have e1 : Ex H (upd H tp (.tup [.str "all", .str "any"])) := Ex.new htp
      refine ⟨tp, _, rfl, .inr (SqT.of upd_same), rfl, rfl, _, rfl, iteF ?_⟩
      refine ⟨_, rfl, _, rfl, q, _, _, _, rfl, rfl, SqQ.t (e1 _ _ hq), (by rfl), _, rfl, t, d, nd, c, k, cn, rfl, ⟨e1 _ _ hp, e1 _ _ hd⟩, e1 _ _ hn, ndd, few, lim, ndn, hin, fun H2 e2 => ?_⟩
      have e3 := e1.trans e2
      refine ⟨_, rfl, q, _, 0, _, rfl, rfl, SqQ.t (e3 _ _ hq), at0, rfl, _, rfl, iteT ?_⟩
      have := qq _ e3
      refine ⟨_, rfl, .inl ⟨_, rfl, _, rfl, q, _, 1, _, rfl, rfl, SqQ.t (e3 _ _ hq), at1, _, _, rfl, rfl, hm.1, rfl, ?_⟩⟩
      rw [show decide (V.int (worth c k cn % m) = V.int 0) = so cn (.div m c k) from decide_eq_decide.mpr ⟨fun z => V.int.inj z, fun z => by rw [z]⟩]
      exact this
end
end K8

set_option Elab.async false
set_option linter.all false
set_option maxRecDepth 100000
set_option maxHeartbeats 4000000
namespace K8
open PySem PySem.Spec PyProof.Rows L2 M8
def NewP (H H' : Hp) (t d : Addr) (c : Coef) (k : Int) : Prop := H t = none ∧ H d = none ∧ PairT H' t d c k
def spToldL : Sp := fun vs H Q _ => ∃ v c k, vs = [v] ∧ TermAt H v c k ∧ Few c ∧ ∀ t d H', Ex H H' → NewP H H' t d (canon c) k → Q (.ref t) H'
section
variable {P : Program} {w : World} {K : PySem.W.Frag} {mg : Str → Option Value} {base : Heap}
abbrev s__law_w_told : Stmt := top 47
theorem sc__law_w_told : FnScope ["term", "name"] ["term"] (defScope s__law_w_told) := ⟨rfl, rfl, rfl, by decide +kernel, rfl, by decide +kernel, by decide +kernel⟩
theorem ok__law_w_told (T : Txt K mg) (a : At K mg "_law_w_told" s__law_w_told ["term"]) : Ok P w K mg base CX0 1 "_law_w_told" ["term"] spToldL := a.ok fun f fd F => by
  refine F.ok sc__law_w_told (fun vs H Q E h => ?_) (fun cdv A outer s H vs Q E hr h => ?_)
  · obtain ⟨v, c, k, rfl, _⟩ := h; rfl
  · obtain ⟨v, c, k, rfl, ⟨p, d, rfl, hp, hd⟩, few, q⟩ := h
    refine ⟨_, (pss_one (ps_ret (pe_tup (pa_cons (pe_callTy (call_dictC (K := K) rfl rfl) rfl T.n_dict rfl (pa_cons (pe_lc (own := [("name", 1)]) (g := gName 1) (tt := _) rfl sc__law_w_told.nd (pi_list (pe_callB (call_sortedD rfl) rfl T.n_sorted rfl (pa_cons (pe_ix (ix_qK (K := K) rfl) (pv 0) pe_int (fun _ _ => rfl)) pa_nil))) (blkOk_by (N := ["term", "name"]) (sc := defScope s__law_w_told) (by decide +kernel)) (fun _ _ _ _ _ => (pg_name (i := 1) sc__law_w_told.nd rfl (Or.inl rfl))) (fun _ _ _ _ _ => (pts_one (pt_cmpR op_ne (pe_dget (hu_of hr) (pe_ix (ix_qK (K := K) rfl) (pv 0) pe_int (fun _ _ => rfl)) (pv 1) (fun _ _ => rfl)) pe_int (nomark _)))) (fun _ _ _ _ _ => (pe_tup (pa_cons (pv 1) (pa_cons (pe_dget (hu_of hr) (pe_ix (ix_qK (K := K) rfl) (pv 0) pe_int (fun _ _ => rfl)) (pv 1) (fun _ _ => rfl)) pa_nil))))) pa_nil)) (pa_cons (pe_ix (ix_qK (K := K) rfl) (pv 0) pe_int (fun _ _ => rfl)) pa_nil))))), ?_⟩
    have pd : p ≠ d := fun z => by rw [z, hd] at hp; rcases hp with hp | hp <;> cases hp
    dsimp only [tNext, tRet, tCB, tCons, tNil, gName, tTup]
    refine tLc_of ?_
    refine ⟨_, rfl, p, _, 0, _, rfl, rfl, SqQ.or hp, at0, d, cK c, keys c, rfl, .inl hd, keys_cK c, ?_, fun ys L hperm hsort hL => ?_⟩
    · have := few.len; unfold keys; rw [List.length_map]; omega
    have hys : srt (keys c) = ys := srt_eq hperm (sorted_pw hsort)
    have hyn : ys.Nodup := hperm.nodup_iff.mpr few.nd
    have hyl : ys.length ≤ 60 := by rw [hperm.length_eq]; unfold keys; rw [List.length_map]; exact few.len
    have e0 : Ex H (upd H L (.lst (ys.map V.str))) := Ex.new hL
    refine ⟨L, rfl, ⟨_, SqL.of upd_same⟩, ?_⟩
    refine lc_pairs walk_list [] (fun _ _ => True) (fun i c' => c' = ((ys.take i).filter fun n => decide (co c n ≠ 0)).map fun n => (n, co c n)) (by rw [List.length_map]; omega) (fun H1 e => SqL.of (e.ex _ _ upd_same)) (fun _ _ _ _ _ => trivial) (fun _ _ _ b hb => by simp at hb) trivial rfl ?_ ?_
    · rintro i x H1 H2 c' R R' hi e _ rfl ⟨rfl, hx⟩ k1 k2
      rw [List.length_map] at hi
      obtain ⟨n, hn, rfl⟩ : ∃ n, ys[i]? = some n ∧ x = .str n := by
        rw [List.getElem?_map, List.getElem?_eq_getElem hi] at hx
        exact ⟨ys[i], List.getElem?_eq_getElem hi, (Option.some.inj hx).symm⟩
      have e3 : Ex H H2 := e0.trans e.ex
      have hm : n ∈ keys c := hperm.mem_iff.mp (List.mem_of_getElem? hn)
      have ht : ys.take (i + 1) = ys.take i ++ [n] := by rw [List.take_add_one, hn]; rfl
      refine ⟨rfl, ?_⟩
      refine ⟨_, rfl, p, _, 0, _, rfl, rfl, SqQ.or (hp.imp (e3 _ _) (e3 _ _)), at0, _, rfl, d, _, rfl, .inl ⟨cK c, .inr n, .inl (e3 _ _ hd), rfl, (valV_co hm few.nd).symm⟩, rfl, _, rfl, ?_⟩
      by_cases hy : co c n = 0
      · have e1 : (!decide (V.int (co c n) = V.int 0)) = false := by rw [hy]; rfl
        rw [e1]
        refine iteF (k2 _ (Exo.refl _ _) trivial ?_)
        rw [ht, List.filter_append, List.filter_cons, if_neg (by simpa using hy)]; simp
      · have e1 : (!decide (V.int (co c n) = V.int 0)) = true := by rw [decide_eq_false fun z => hy (V.int.inj z)]; rfl
        rw [e1]
        refine iteT ⟨_, rfl, _, rfl, p, _, 0, _, rfl, rfl, SqQ.or (hp.imp (e3 _ _) (e3 _ _)), at0, _, rfl, d, _, rfl, .inl ⟨cK c, .inr n, .inl (e3 _ _ hd), rfl, (valV_co hm few.nd).symm⟩, by show 2 ≤ sizeLine; decide, fun r hr => ?_⟩
        refine k1 r n (co c n) _ hr ((Ex.new hr).exo _) trivial ?_ upd_same
        rw [ht, List.filter_append, List.map_append, List.filter_cons, if_pos (by simpa using hy)]; rfl
    · rintro D ps c' H1 hD e _ hc hDH hps
      rw [List.length_map, List.take_length] at hc
      have hcc : c' = canon c := by rw [hc]; unfold canon; rw [nz_eq few.nd, hys]
      have e3 : Ex H H1 := e0.trans e.ex
      refine ⟨D, ps, _, rfl, hDH, pairs_cK hps, cK_nodup (by rw [hcc]; exact canon_nodup few.nd), fun r hr => ?_⟩
      have e4 := e3.mut (e3.free hr) (o := .dK (cK c'))
      refine ⟨_, rfl, p, _, 1, _, rfl, rfl, SqQ.or (hp.imp (e4 _ _) (e4 _ _)), at1, by show 2 ≤ sizeLine; decide, fun t ht => ?_⟩
      have ht1 : H1 t = none := by
        by_cases z : t = r
        · rw [z]; exact hr
        · rw [upd_ne z] at ht; exact ht
      refine q t r _ (e4.mut (e4.free ht)) ⟨e4.free ht, e3.free hr, upd_same, ?_⟩
      have hrt : r ≠ t := fun z => by rw [← z, upd_same] at ht; cases ht
      rw [upd_ne hrt, upd_same, hcc]
noncomputable def canonT : Tst → Tst | .row c k => .row (canon c) k | .same c k => .same (canon c) k | .div m c k => .div m (canon c) k
def NewA (H H' : Hp) (q t d : Addr) (ts : Tst) : Prop := H q = none ∧ H t = none ∧ H d = none ∧ TAt H' q t d ts
def spBodyTold : Sp := fun vs H Q _ => ∃ q t d ts, vs = [.ref q] ∧ TAt H q t d ts ∧ Few (coef ts) ∧ ∀ q' t' d' H', Ex H H' → NewA H H' q' t' d' (canonT ts) → Q (.ref q') H'
abbrev s__law_w_body_told : Stmt := top 48
theorem sc__law_w_body_told : FnScope ["body", "part"] ["body"] (defScope s__law_w_body_told) := ⟨rfl, rfl, rfl, by decide +kernel, rfl, by decide +kernel, by decide +kernel⟩
theorem ok__law_w_body_told (T : Txt K mg) (a : At K mg "_law_w_body_told" s__law_w_body_told ["body"]) (O_law_w_told : Ok P w K mg base CX0 1 "_law_w_told" ["term"] spToldL) : Ok P w K mg base CX0 2 "_law_w_body_told" ["body"] spBodyTold := by
  have O_law_w_body_told : Ok P w K mg base CX0 1 "_law_w_body_told" ["body"] (fun _ _ _ _ => False) := a.ok fun f fd F => F.ok sc__law_w_body_told (fun vs H Q E h => h.elim) (fun cdv A outer s H vs Q E hr h => h.elim)
  refine a.ok fun f fd F => ?_
  refine F.ok sc__law_w_body_told (fun vs H Q E h => ?_) (fun cdv A outer s H vs Q E hr h => ?_)
  · obtain ⟨q, t, d, ts, rfl, _⟩ := h; rfl
  · obtain ⟨q, t, d, ts, rfl, ht, few, qq⟩ := h
    refine ⟨_, (pss_cons (ps_if (pt_cmpR op_in_seq (pe_ix (ix_qK (K := K) rfl) (pv 0) pe_int (fun _ _ => rfl)) (pe_tup (pa_cons pe_str (pa_cons pe_str pa_nil))) rfl) (pss_one (ps_ret (pe_tup (pa_cons (pe_ix (ix_qK (K := K) rfl) (pv 0) pe_int (fun _ _ => rfl)) (pa_cons (pe_lc (own := [("part", 1)]) (g := gName 1) (tt := tYes) rfl sc__law_w_body_told.nd (pi_list (pe_ix (ix_qK (K := K) rfl) (pv 0) pe_int (fun _ _ => rfl))) (blkOk_by (N := ["body", "part"]) (sc := defScope s__law_w_body_told) (by decide +kernel)) (fun _ _ _ _ _ => (pg_name (i := 1) sc__law_w_body_told.nd rfl (Or.inl rfl))) (fun _ _ _ _ _ => pts_nil) (fun _ _ _ _ _ => (pe_callO O_law_w_body_told hr rfl (pa_cons (pv 1) pa_nil)))) pa_nil))))) pss_nil)
      (pss_cons (ps_if (pt_cmpR op_eq (pe_ix (ix_qK (K := K) rfl) (pv 0) pe_int (fun _ _ => rfl)) pe_str (nomark _)) (pss_one (ps_ret (pe_tup (pa_cons pe_str (pa_cons (pe_callO O_law_w_body_told hr rfl (pa_cons (pe_ix (ix_qK (K := K) rfl) (pv 0) pe_int (fun _ _ => rfl)) pa_nil)) pa_nil))))) pss_nil)
      (pss_one (ps_ret (pe_ifExp (pt_cmpR op_eq (pe_ix (ix_qK (K := K) rfl) (pv 0) pe_int (fun _ _ => rfl)) pe_str (nomark _)) (pe_tup (pa_cons pe_str (pa_cons (pe_ix (ix_qK (K := K) rfl) (pv 0) pe_int (fun _ _ => rfl)) (pa_cons (pe_callO O_law_w_told (hr.mono (by decide)) rfl (pa_cons (pe_ix (ix_qK (K := K) rfl) (pv 0) pe_int (fun _ _ => rfl)) pa_nil)) pa_nil)))) (pe_tup (pa_cons (pe_ix (ix_qK (K := K) rfl) (pv 0) pe_int (fun _ _ => rfl)) (pa_cons (pe_callO O_law_w_told (hr.mono (by decide)) rfl (pa_cons (pe_ix (ix_qK (K := K) rfl) (pv 0) pe_int (fun _ _ => rfl)) pa_nil)) pa_nil)))))))), ?_⟩
    have fin : ∀ {H0 H1 H2 : Hp} {t' d' : Addr} {c : Coef} {k : Int} {r : Addr} {o : HO}, Ex H H0 → Ex H0 H1 → NewP H0 H1 t' d' c k → H1 r = none → Ex H (upd H1 r o) ∧ H r = none ∧ H t' = none ∧ H d' = none ∧ PairT (upd H1 r o) t' d' c k := by
      intro H0 H1 H2 t' d' c k r o e0 e1 n hr
      have e2 := e0.trans e1
      exact ⟨e2.mut (e2.free hr), e2.free hr, e0.free n.1, e0.free n.2.1, by rw [PairT, upd_ne (ne_of_none n.2.2.1 hr), upd_ne (ne_of_none n.2.2.2 hr)]; exact n.2.2⟩
    cases ts with
    | row c k =>
      obtain ⟨hq, hp, hd⟩ := ht
      refine ⟨_, rfl, q, _, 0, _, rfl, rfl, SqQ.t hq, at0, by show 2 ≤ sizeLine; decide, fun tp htp => ?_⟩
      have e1 : Ex H (upd H tp (.tup [.str "all", .str "any"])) := Ex.new htp
      refine ⟨tp, _, rfl, .inr (SqT.of upd_same), rfl, rfl, _, rfl, iteF ?_⟩
      refine ⟨_, rfl, q, _, 0, _, rfl, rfl, SqQ.t (e1 _ _ hq), at0, rfl, _, rfl, iteF ?_⟩
      refine ⟨_, rfl, q, _, 0, _, rfl, rfl, SqQ.t (e1 _ _ hq), at0, rfl, _, rfl, iteF ?_⟩
      refine ⟨_, rfl, q, _, 0, _, rfl, rfl, SqQ.t (e1 _ _ hq), at0, _, rfl, q, _, 1, _, rfl, rfl, SqQ.t (e1 _ _ hq), at1, _, c, k, rfl, ⟨t, d, rfl, .inr (e1 _ _ hp), e1 _ _ hd⟩, few, fun t' d' H2 e2 n => ?_⟩
      refine ⟨by show 2 ≤ sizeLine; decide, fun r hr => ?_⟩
      obtain ⟨f1, f2, f3, f4, f5⟩ := fin (H2 := H) e1 e2 n hr (o := .tup [.str "row", .ref t'])
      exact qq r t' d' _ f1 ⟨f2, f3, f4, upd_same, f5⟩
    | same c k =>
      obtain ⟨hq, hp, hd⟩ := ht
      refine ⟨_, rfl, q, _, 0, _, rfl, rfl, SqQ.t hq, at0, by show 2 ≤ sizeLine; decide, fun tp htp => ?_⟩
      have e1 : Ex H (upd H tp (.tup [.str "all", .str "any"])) := Ex.new htp
      refine ⟨tp, _, rfl, .inr (SqT.of upd_same), rfl, rfl, _, rfl, iteF ?_⟩
      refine ⟨_, rfl, q, _, 0, _, rfl, rfl, SqQ.t (e1 _ _ hq), at0, rfl, _, rfl, iteF ?_⟩
      refine ⟨_, rfl, q, _, 0, _, rfl, rfl, SqQ.t (e1 _ _ hq), at0, rfl, _, rfl, iteF ?_⟩
      refine ⟨_, rfl, q, _, 0, _, rfl, rfl, SqQ.t (e1 _ _ hq), at0, _, rfl, q, _, 1, _, rfl, rfl, SqQ.t (e1 _ _ hq), at1, _, c, k, rfl, ⟨t, d, rfl, .inr (e1 _ _ hp), e1 _ _ hd⟩, few, fun t' d' H2 e2 n => ?_⟩
      refine ⟨by show 2 ≤ sizeLine; decide, fun r hr => ?_⟩
      obtain ⟨f1, f2, f3, f4, f5⟩ := fin (H2 := H) e1 e2 n hr (o := .tup [.str "same", .ref t'])
      exact qq r t' d' _ f1 ⟨f2, f3, f4, upd_same, f5⟩
    | div m c k =>
      obtain ⟨hq, hp, hd⟩ := ht
      refine ⟨_, rfl, q, _, 0, _, rfl, rfl, SqQ.t hq, at0, by show 2 ≤ sizeLine; decide, fun tp htp => ?_⟩
      have e1 : Ex H (upd H tp (.tup [.str "all", .str "any"])) := Ex.new htp
      refine ⟨tp, _, rfl, .inr (SqT.of upd_same), rfl, rfl, _, rfl, iteF ?_⟩
      refine ⟨_, rfl, q, _, 0, _, rfl, rfl, SqQ.t (e1 _ _ hq), at0, rfl, _, rfl, iteF ?_⟩
      refine ⟨_, rfl, q, _, 0, _, rfl, rfl, SqQ.t (e1 _ _ hq), at0, rfl, _, rfl, iteT ?_⟩
      refine ⟨_, rfl, q, _, 1, _, rfl, rfl, SqQ.t (e1 _ _ hq), at1, _, rfl, q, _, 2, _, rfl, rfl, SqQ.t (e1 _ _ hq), at2, _, c, k, rfl, ⟨t, d, rfl, .inr (e1 _ _ hp), e1 _ _ hd⟩, few, fun t' d' H2 e2 n => ?_⟩
      refine ⟨by show 3 ≤ sizeLine; decide, fun r hr => ?_⟩
      obtain ⟨f1, f2, f3, f4, f5⟩ := fin (H2 := H) e1 e2 n hr (o := .tup [.str "by", .int m, .ref t'])
      exact qq r t' d' _ f1 ⟨f2, f3, f4, upd_same, f5⟩
end
end K8

set_option Elab.async false
set_option linter.all false
set_option maxRecDepth 100000
set_option maxHeartbeats 4000000
namespace K8
open PySem PySem.Spec PyProof.Rows L2 M8
def pool : List Str := ["b", "a", "x", "y1", "zed", "k9", "eight888", "q", "m", "u2", "aa", "b0", "h"]
def unS : V → Str | .str s => s | _ => ""
structure Nms (ns : List Str) : Prop where
  nd : ns.Nodup
  l1 : 1 ≤ ns.length
  l4 : ns.length ≤ 4
  mem : ∀ n ∈ ns, n ∈ pool
theorem pool_nd : pool.Nodup := by decide +kernel
theorem pool_nm : ∀ n ∈ pool, isNameS n = true ∧ n.cps.size ≤ 1000000 := by decide +kernel
theorem zero_nm : isNameS "zero0" = true ∧ ("zero0" : Str).cps.size ≤ 1000000 := by decide +kernel
theorem zero_out : ("zero0" : Str) ∉ pool := by decide +kernel
theorem cutV_take {xs : List V} {i : Int} (h : 0 ≤ i) : cutV xs none (some i) = xs.take i.toNat := by
  unfold cutV HT.sIx
  simp only [List.drop_zero, Nat.sub_zero]
  try rw [if_neg (by omega)]
  try simp only [List.drop_zero, Nat.sub_zero]
  by_cases z : i.toNat ≤ xs.length
  · congr 1; omega
  · rw [List.take_of_length_le (by omega), List.take_of_length_le (by omega)]
section
variable {P : Program} {w : World} {K : PySem.W.Frag} {mg : Str → Option Value} {base : Heap}
def spNames : Sp := fun vs H Q _ => ∃ a B, vs = [.ref a, .int 1, .int 4] ∧ Spr H a B ∧ B + 100 < lot ∧ ∀ p ns H', H p = none → Exo [a] H H' → Spr H' a (B + 14) → Nms ns → H' p = some (.lst (ns.map V.str)) → Q (.ref p) H'
abbrev s__law_w_names : Stmt := top 46
theorem sc__law_w_names : FnScope ["spring", "least", "most", "some"] ["spring", "least", "most"] (defScope s__law_w_names) := ⟨rfl, rfl, rfl, by decide +kernel, rfl, by decide +kernel, by decide +kernel⟩
theorem ok__law_w_names (T : Txt K mg) (a : At K mg "_law_w_names" s__law_w_names ["spring", "least", "most"]) (O_law_draw : Ok P w K mg base CX0 1 "_law_draw" ["spring", "many"] spDraw) (O_law_mixed : Ok P w K mg base CX0 2 "_law_mixed" ["spring", "some"] (spMixed K)) : Ok P w K mg base CX0 3 "_law_w_names" ["spring", "least", "most"] spNames := a.ok fun f fd F => by
  refine F.ok sc__law_w_names (fun vs H Q E h => ?_) (fun cdv A outer s H vs Q E hr h => ?_)
  · obtain ⟨a, B, rfl, _⟩ := h; rfl
  · obtain ⟨a, B, rfl, hs, hB, q⟩ := h
    refine ⟨_, (pss_cons (ps_set (i := 3) sc__law_w_names.nd rfl (Or.inl rfl) (pe_lst (pa_cons pe_str (pa_cons pe_str (pa_cons pe_str (pa_cons pe_str (pa_cons pe_str (pa_cons pe_str (pa_cons pe_str (pa_cons pe_str (pa_cons pe_str (pa_cons pe_str (pa_cons pe_str (pa_cons pe_str (pa_cons pe_str pa_nil)))))))))))))))
      (pss_one (ps_ret (pe_slice sl_list (pe_callO O_law_mixed (hr.mono (by decide)) rfl (pa_cons (pv 0) (pa_cons (pv 3) pa_nil))) po_none (po_some (pe_op op_add (pv 1) (pe_callO O_law_draw (hr.mono (by decide)) rfl (pa_cons (pv 0) (pa_cons (pe_op op_add (pe_op op_sub (pv 2) (pv 1)) pe_int) pa_nil))))))))), ?_⟩
    refine ⟨by rw [sizeLine_eq]; decide, fun L hL => ?_⟩
    have hs1 := hs.ex (Ex.new (o := .lst (pool.map V.str)) hL)
    refine ⟨_, rfl, _, rfl, a, L, pool.map V.str, B, rfl, hs1, by omega, SqQ.l upd_same, by decide, fun p ys H1 hp e1 s1 hperm h1 => ?_⟩
    refine ⟨_, rfl, _, rfl, _, rfl, _, rfl, _, _, rfl, rfl, _, _, rfl, rfl, a, _, _, rfl, s1, ?_, by decide, by decide, fun d H2 d0 d1 e2 s2 => ⟨_, _, rfl, rfl, ?_⟩⟩
    · show B + 13 < lot; omega
    have npa : p ≠ a := fun z => by rw [z] at hp; exact hs1.ne hp
    have hp2 := e2.at1 npa h1
    refine ⟨_, rfl, p, ys, rfl, SqL.of hp2, fun r hr => ?_⟩
    rw [cutV_take (by omega)]
    obtain ⟨ns, rfl⟩ : ∃ ns : List Str, ys = ns.map V.str := by
      have : ∀ y ∈ ys, ∃ n : Str, y = .str n := fun y hy => by
        obtain ⟨n, _, rfl⟩ := List.mem_map.mp (hperm.mem_iff.mp hy)
        exact ⟨n, rfl⟩
      clear hperm h1 hp2
      induction ys with
      | nil => exact ⟨[], rfl⟩
      | cons y ys ih =>
        obtain ⟨n, rfl⟩ := this y (by simp)
        obtain ⟨ns, rfl⟩ := ih fun z hz => this z (by simp [hz])
        exact ⟨n :: ns, rfl⟩
    have hpn : ns.Perm pool := by
      have := hperm.map unS
      rwa [List.map_map, List.map_map, show (unS ∘ V.str) = id from rfl, List.map_id, List.map_id] at this
    rw [← List.map_take]
    have hlen : ns.length = 13 := hpn.length_eq
    have hH : Exo [a] H (upd H2 r (.lst ((ns.take (1 + d).toNat).map V.str))) := ((((Ex.new hL).exo _).trans e1).trans e2).mut (by
      have h2 := e2.free (by simpa using fun z : r = a => s2.ne (by rw [← z]; exact hr)) hr
      have h3 := e1.free (by simpa using fun z : r = a => s2.ne (by rw [← z]; exact hr)) h2
      exact (Ex.new hL).free h3)
    have nra : r ≠ a := fun z => s2.ne (by rw [← z]; exact hr)
    refine q r (ns.take (1 + d).toNat) _ ?_ hH ((s2.at (upd_ne nra.symm)).mono ?_) ⟨(hpn.nodup_iff.mpr pool_nd).sublist (List.take_sublist _ _), ?_, ?_, fun n hn => hpn.mem_iff.mp (List.mem_of_mem_take hn)⟩ upd_same
    · have h2 := e2.free (by simpa using nra) hr
      have h3 := e1.free (by simpa using nra) h2
      exact (Ex.new hL).free h3
    · show B + 13 + 1 ≤ B + 14; omega
    · rw [List.length_take]; omega
    · rw [List.length_take]; omega
end
end K8

set_option Elab.async false
set_option linter.all false
set_option maxRecDepth 100000
set_option maxHeartbeats 4000000
namespace K8
open PySem PySem.Spec PyProof.Rows L2 M8
structure TermIn (ns : List Str) (g : Int) (c : Coef) : Prop where
  nd : (keys c).Nodup
  sub : ∀ n ∈ keys c, n ∈ ns
  far : ∀ p ∈ c, -g ≤ p.2 ∧ p.2 ≤ g
def spTermW : Sp := fun vs H Q _ => ∃ a l ns g B, vs = [.ref a, .ref l, .int g] ∧ Spr H a B ∧ B + 200 < lot ∧ H l = some (.lst (ns.map V.str)) ∧ l ≠ a ∧ ns.Nodup ∧ ns.length ≤ 4 ∧ 0 < g ∧ g ≤ 1000000 ∧
  ∀ t d c k H', Exo [a] H H' → Spr H' a (B + 13) → NewP H H' t d c k → TermIn ns g c → -(3 * g) ≤ k ∧ k ≤ 3 * g → Q (.ref t) H'
theorem _root_.List.subset_of_nodup_length {α : Type} [DecidableEq α] : ∀ {l m : List α}, l.Nodup → (∀ x ∈ l, x ∈ m) → l.length ≤ m.length
  | [], _, _, _ => Nat.zero_le _
  | x :: l, m, h, hs => by
    have hx : x ∈ m := hs x (by simp)
    have h1 : l.length ≤ (m.erase x).length := List.subset_of_nodup_length (List.nodup_cons.mp h).2 fun y hy => by
      have hne : y ≠ x := fun z => (List.nodup_cons.mp h).1 (z ▸ hy)
      exact (List.mem_erase_of_ne hne).mpr (hs y (by simp [hy]))
    rw [List.length_erase_of_mem hx] at h1
    have := List.length_pos_of_mem hx
    simp; omega
section
variable {P : Program} {w : World} {K : PySem.W.Frag} {mg : Str → Option Value} {base : Heap}
abbrev s__law_w_term : Stmt := top 49
theorem sc__law_w_term : FnScope ["spring", "names", "great", "found", "name"] ["spring", "names", "great"] (defScope s__law_w_term) := ⟨rfl, rfl, rfl, by decide +kernel, rfl, by decide +kernel, by decide +kernel⟩
theorem ok__law_w_term (T : Txt K mg) (a : At K mg "_law_w_term" s__law_w_term ["spring", "names", "great"]) (O_law_draw : Ok P w K mg base CX0 1 "_law_draw" ["spring", "many"] spDraw) (O_law_mixed : Ok P w K mg base CX0 2 "_law_mixed" ["spring", "some"] (spMixed K)) : Ok P w K mg base CX0 3 "_law_w_term" ["spring", "names", "great"] spTermW := a.ok fun f fd F => by
  refine F.ok sc__law_w_term (fun vs H Q E h => ?_) (fun cdv A outer s H vs Q E hr h => ?_)
  · obtain ⟨a, l, ns, g, B, rfl, _⟩ := h; rfl
  · obtain ⟨a, l, ns, g, B, rfl, hs, hB, hl, hla, hnd, h4, g0, g1, q⟩ := h
    refine ⟨_, (pss_cons (ps_set (i := 3) sc__law_w_term.nd rfl (Or.inl rfl) pe_dnewK)
      (pss_cons (ps_for PassesOwn.never rfl (pi_list (pe_callO O_law_mixed (hr.mono (by decide)) rfl (pa_cons (pv 0) (pa_cons (pv 1) pa_nil)))) (pg_name (i := 4) sc__law_w_term.nd rfl (Or.inl rfl)) (pss_one (ps_if (pt_cmpR op_gt (pe_callO O_law_draw (hr.mono (by decide)) rfl (pa_cons (pv 0) (pa_cons pe_int pa_nil))) pe_int (nomark _)) (pss_one (ps_dput (hu_of hr) (pv 3) (pv 4) (pe_op op_sub (pe_callO O_law_draw (hr.mono (by decide)) rfl (pa_cons (pv 0) (pa_cons (pe_op op_add (pe_op op_mul pe_int (pv 2)) pe_int) pa_nil))) (pv 2)) rfl)) pss_nil)))
      (pss_one (ps_ret (pe_tup (pa_cons (pv 3) (pa_cons (pe_op op_sub (pe_callO O_law_draw (hr.mono (by decide)) rfl (pa_cons (pv 0) (pa_cons (pe_op op_add (pe_op op_mul pe_int (pv 2)) pe_int) pa_nil))) (pe_op op_mul pe_int (pv 2))) pa_nil))))))), ?_⟩
    intro d hd
    have nda : d ≠ a := fun z => hs.ne (by rw [← z]; exact hd)
    have hs0 := hs.ex (Ex.new (o := .dK []) hd)
    dsimp only [tNext, tSeq, gName]
    refine tFor_of ?_
    refine ⟨_, rfl, _, rfl, a, l, _, B, rfl, hs0, by omega, SqQ.l ((Ex.new hd) _ _ hl), by rw [List.length_map]; omega, fun L ys H1 hL e1 s1 hperm h1 => ?_⟩
    rw [List.length_map] at s1
    have npn : ns.length ≤ 4 := h4
    obtain ⟨ms, rfl, hpm⟩ : ∃ ms : List Str, ys = ms.map V.str ∧ ms.Perm ns := by
      refine ⟨ys.map unS, ?_, ?_⟩
      · rw [List.map_map]
        have : ∀ y ∈ ys, (V.str ∘ unS) y = y := fun y hy => by
          obtain ⟨n, _, rfl⟩ := List.mem_map.mp (hperm.mem_iff.mp hy); rfl
        rw [List.map_congr_left this, List.map_id']
      · have := hperm.map unS
        rwa [List.map_map, show (unS ∘ V.str) = id from rfl, List.map_id] at this
    have hml : ms.length = ns.length := hpm.length_eq
    have hmn : ms.Nodup := hpm.nodup_iff.mpr hnd
    have hd1 : H1 d = some (.dK (cK [])) := e1.at1 nda upd_same
    have nLa : L ≠ a := fun z => hs0.ne (by rw [← z]; exact hL)
    have nLd : L ≠ d := fun z => by rw [z, upd_same] at hL; cases hL
    refine ⟨L, rfl, ⟨_, SqL.of h1⟩, ?_⟩
    refine for_itB walk_list (fun i σ H' => ∃ (x : Option V) (c : Coef), σ = [some (.ref a), some (.ref l), some (.int g), some (.ref d), x] ∧ Exo [a, d] H1 H' ∧ H' d = some (.dK (cK c)) ∧ Spr H' a (B + 4 + 2 * i) ∧ TermIn (ms.take i) g c)
      ⟨none, [], rfl, Exo.refl _ _, hd1, s1.mono (by omega), by simp [keys], by simp [keys], by simp⟩ (fun i σ H' _ ⟨_, _, _, e, _⟩ => SqL.of (e _ _ (by simp [nLa, nLd]) h1)) ?_ ?_
    · rintro i x σ H2 H3 hi ⟨x4, c, rfl, e, hdc, s2, hc⟩ ⟨rfl, hx⟩
      rw [List.length_map] at hi
      obtain ⟨n, hn, rfl⟩ : ∃ n, ms[i]? = some n ∧ x = .str n := by
        rw [List.getElem?_map, List.getElem?_eq_getElem hi] at hx
        exact ⟨ms[i], List.getElem?_eq_getElem hi, (Option.some.inj hx).symm⟩
      have ht : ms.take (i + 1) = ms.take i ++ [n] := by rw [List.take_add_one, hn]; rfl
      have hno : n ∉ keys c := fun z => by
        have h2 : (ms.take i ++ [n]).Nodup := by rw [← ht]; exact hmn.sublist (List.take_sublist _ _)
        rw [List.nodup_append] at h2
        exact h2.2.2 n (hc.sub n z) n (by simp) rfl
      have sub : ∀ n' ∈ keys c, n' ∈ ms.take (i + 1) := fun n' h => by rw [ht]; exact List.mem_append_left _ (hc.sub n' h)
      refine ⟨_, rfl, a, _, _, rfl, s2, by omega, by decide, by decide, fun u H4 u0 u1 e4 s4 => ?_⟩
      refine ⟨_, _, rfl, rfl, _, rfl, ?_⟩
      have e5 : Exo [a, d] H1 H4 := e.trans fun b o nb h => e4 b o (fun z => nb (by simp at z; simp [z])) h
      have hd4 : H4 d = some (.dK (cK c)) := e4.at1 nda hdc
      by_cases hu : 0 < u
      · rw [decide_eq_true hu]
        refine iteT ?_
        refine ⟨_, rfl, _, rfl, _, _, rfl, rfl, .inl ⟨by decide, by decide⟩, _, _, rfl, rfl, a, _, _, rfl, s4, by omega, by omega, by omega, fun y H5 y0 y1 e6 s6 => ?_⟩
        refine ⟨_, rfl, _, _, rfl, rfl, _, rfl, _, rfl, d, _, rfl, .inl ⟨cK c, .inr n, e6.at1 nda hd4, rfl, ?_, rfl⟩, ?_⟩
        · have : c.length ≤ 4 := by
            have h1 : (keys c).length ≤ (ms.take i).length := (List.subset_of_nodup_length hc.nd hc.sub)
            unfold keys at h1
            rw [List.length_map, List.length_take] at h1
            omega
          rw [cK_len, sizeLine_eq]; omega
        · have hp : putK (cK c) (.inr n) (.int (y - g)) = cK (c ++ [(n, y - g)]) := by
            rw [putK_new (by rw [keys_cK]; simpa using hno), cK_app]; rfl
          rw [hp]
          refine ⟨_, _, rfl, ?_, upd_same, (s6.at (upd_ne nda.symm)).mono (by omega), ?_⟩
          · exact (e5.trans fun b o nb h => e6 b o (fun z => nb (by simp at z; simp [z])) h).own (by simp)
          · refine ⟨?_, ?_, ?_⟩
            · rw [keys_app, List.nodup_append]
              exact ⟨hc.nd, by simp [keys], fun z hz z' hz' e => hno (by rw [show z' = n by simpa [keys] using hz'] at e; rw [← e]; exact hz)⟩
            · intro n' h'
              rw [keys_app] at h'
              rcases List.mem_append.mp h' with h' | h'
              · exact sub n' h'
              · rw [show n' = n by simpa [keys] using h', ht]; simp
            · intro q' hq
              rcases List.mem_append.mp hq with hq | hq
              · exact hc.far q' hq
              · rw [show q' = (n, y - g) by simpa using hq]; constructor <;> (show _ ≤ _; simp only; omega)
      · rw [decide_eq_false hu]
        exact iteF ⟨_, c, rfl, e5, hd4, s4.mono (by omega), hc.nd, sub, hc.far⟩
    · rintro σ H2 ⟨x4, c, rfl, e, hdc, s2, hc⟩
      rw [List.length_map] at s2 hc
      rw [List.take_length] at hc
      refine ⟨_, rfl, _, rfl, _, rfl, _, _, rfl, rfl, .inl ⟨by decide, by decide⟩, _, _, rfl, rfl, a, _, _, rfl, s2, by omega, by omega, by omega, fun y H3 y0 y1 e3 s3 => ?_⟩
      refine ⟨_, rfl, _, _, rfl, rfl, .inl ⟨by decide, by decide⟩, _, _, rfl, rfl, by show 2 ≤ sizeLine; decide, fun t ht => ?_⟩
      have hd3 : H3 d = some (.dK (cK c)) := e3.at1 nda hdc
      have nta : t ≠ a := fun z => s3.ne (by rw [← z]; exact ht)
      have ntd : t ≠ d := fun z => by rw [z, hd3] at ht; cases ht
      have eA : Exo [a, d] H1 H3 := e.trans fun b o nb h => e3 b o (fun z => nb (by simp at z; simp [z])) h
      have eB : Exo [a] H H3 := fun b o nb h => by
        have nbd : b ≠ d := ne_of_none h hd
        refine eA b o (by simp at nb; simp [nb, nbd]) (e1 b o nb ?_)
        rw [upd_ne nbd]; exact h
      have ht0 : H t = none := eB.free (by simpa using nta) ht
      refine q t d c (y - 3 * g) _ (eB.mut ht0) ((s3.at (upd_ne nta.symm)).mono (by omega)) ⟨ht0, hd, upd_same, by rw [upd_ne ntd.symm]; exact hd3⟩ ⟨hc.nd, fun n hn => hpm.mem_iff.mp (hc.sub n hn), hc.far⟩ ⟨by omega, by omega⟩
end
end K8

set_option Elab.async false
set_option linter.all false
set_option maxRecDepth 100000
set_option maxHeartbeats 4000000
namespace K8
open PySem PySem.Spec PyProof.Rows L2 M8
def kst : Tst → Int | .row _ k => k | .same _ k => k | .div _ _ k => k
def m6 : Tst → Prop | .div m _ _ => m ≤ 6 | _ => True
structure TstIn (ns : List Str) (g : Int) (ts : Tst) : Prop where
  t : TermIn ns g (coef ts)
  k : -(3 * g) ≤ kst ts ∧ kst ts ≤ 3 * g
  m : mOk ts
  m6 : m6 ts
def spTestW : Sp := fun vs H Q _ => ∃ a l ns g B, vs = [.ref a, .ref l, .int g] ∧ Spr H a B ∧ B + 200 < lot ∧ H l = some (.lst (ns.map V.str)) ∧ l ≠ a ∧ ns.Nodup ∧ ns.length ≤ 4 ∧ 0 < g ∧ g ≤ 1000000 ∧
  ∀ q t d ts H', Exo [a] H H' → Spr H' a (B + 16) → NewA H H' q t d ts → TstIn ns g ts → Q (.ref q) H'
theorem Exo.freeS {a p : Addr} {B : Nat} {H H' : Hp} (e : Exo [a] H H') (s : Spr H' a B) (h : H' p = none) : H p = none ∧ p ≠ a := by
  have n : p ≠ a := fun z => s.ne (by rw [← z]; exact h)
  exact ⟨e.free (by simpa using n) h, n⟩
section
variable {P : Program} {w : World} {K : PySem.W.Frag} {mg : Str → Option Value} {base : Heap}
abbrev s__law_w_test : Stmt := top 50
theorem sc__law_w_test : FnScope ["spring", "names", "great", "term", "way"] ["spring", "names", "great"] (defScope s__law_w_test) := ⟨rfl, rfl, rfl, by decide +kernel, rfl, by decide +kernel, by decide +kernel⟩
theorem ok__law_w_test (T : Txt K mg) (a : At K mg "_law_w_test" s__law_w_test ["spring", "names", "great"]) (O_law_draw : Ok P w K mg base CX0 1 "_law_draw" ["spring", "many"] spDraw) (O_law_w_term : Ok P w K mg base CX0 3 "_law_w_term" ["spring", "names", "great"] spTermW) : Ok P w K mg base CX0 4 "_law_w_test" ["spring", "names", "great"] spTestW := a.ok fun f fd F => by
  refine F.ok sc__law_w_test (fun vs H Q E h => ?_) (fun cdv A outer s H vs Q E hr h => ?_)
  · obtain ⟨a, l, ns, g, B, rfl, _⟩ := h; rfl
  · obtain ⟨a, l, ns, g, B, rfl, hs, hB, hl, hla, hnd, h4, g0, g1, q⟩ := h
    refine ⟨_, (pss_cons (ps_par (i := 3) (j := 4) rfl sc__law_w_test.nd rfl rfl (by decide) rfl rfl (pa_cons (pe_callO O_law_w_term (hr.mono (by decide)) rfl (pa_cons (pv 0) (pa_cons (pv 1) (pa_cons (pv 2) pa_nil)))) (pa_cons (pe_callO O_law_draw (hr.mono (by decide)) rfl (pa_cons (pv 0) (pa_cons pe_int pa_nil))) pa_nil)) rfl)
      (pss_cons (ps_if (pt_cmpR op_eq (pv 4) pe_int (nomark _)) (pss_one (ps_ret (pe_tup (pa_cons pe_str (pa_cons (pe_op op_add pe_int (pe_callO O_law_draw (hr.mono (by decide)) rfl (pa_cons (pv 0) (pa_cons pe_int pa_nil)))) (pa_cons (pv 3) pa_nil)))))) pss_nil)
      (pss_one (ps_ret (pe_tup (pa_cons (pe_ifExp (pt_cmpR op_eq (pv 4) pe_int (nomark _)) pe_str pe_str) (pa_cons (pv 3) pa_nil))))))), ?_⟩
    refine ⟨_, rfl, _, rfl, _, rfl, a, l, ns, g, B, rfl, hs, by omega, hl, hla, hnd, h4, g0, g1, fun t d c k H1 e1 s1 n hc hk => ?_⟩
    refine ⟨_, rfl, a, _, _, rfl, s1, by omega, by decide, by decide, fun y H2 y0 y1 e2 s2 => ?_⟩
    refine ⟨_, _, rfl, ?_⟩
    have e3 := e1.trans e2
    obtain ⟨n1, n2, n3, n4⟩ := n
    have nta : t ≠ a := fun z => hs.ne (by rw [← z]; exact n1)
    have nda : d ≠ a := fun z => hs.ne (by rw [← z]; exact n2)
    have p2 : PairT H2 t d c k := ⟨e2.at1 nta n3, e2.at1 nda n4⟩
    have fin : ∀ {H3 : Hp} {r : Addr} {o : HO}, Exo [a] H H3 → Spr H3 a (B + 15) → PairT H3 t d c k → H3 r = none → Exo [a] H (upd H3 r o) ∧ Spr (upd H3 r o) a (B + 16) ∧ H r = none ∧ PairT (upd H3 r o) t d c k := by
      intro H3 r o e s p hr
      obtain ⟨f1, f2⟩ := e.freeS s hr
      exact ⟨e.mut f1, (s.at (upd_ne f2.symm)).mono (by omega), f1, by rw [PairT, upd_ne (ne_of_none p.1 hr), upd_ne (ne_of_none p.2 hr)]; exact p⟩
    refine ⟨_, rfl, rfl, _, rfl, ?_⟩
    by_cases h5 : y = 5
    · rw [decide_eq_true (by rw [h5])]
      refine iteT ?_
      refine ⟨_, rfl, a, _, _, rfl, s2, by omega, by decide, by decide, fun z H3 z0 z1 e4 s4 => ⟨_, _, rfl, rfl, _, rfl, by show 3 ≤ sizeLine; decide, fun r hr => ?_⟩⟩
      obtain ⟨f1, f2, f3, f4⟩ := fin (o := .tup [.str "by", .int (1 + z), .ref t]) (e3.trans e4) (s4.mono (by omega)) ⟨e4.at1 nta p2.1, e4.at1 nda p2.2⟩ hr
      exact q r t d (.div (1 + z) c k) _ f1 f2 ⟨f3, n1, n2, upd_same, f4⟩ ⟨hc, hk, by constructor <;> omega, by show (1 + z : Int) ≤ 6; omega⟩
    · rw [decide_eq_false fun z => h5 (V.int.inj z)]
      refine iteF ?_
      refine ⟨_, rfl, rfl, _, rfl, ?_⟩
      by_cases h6 : y = 4
      · rw [decide_eq_true (by rw [h6])]
        refine iteT ?_
        refine ⟨_, rfl, by show 2 ≤ sizeLine; decide, fun r hr => ?_⟩
        obtain ⟨f1, f2, f3, f4⟩ := fin (o := .tup [.str "same", .ref t]) e3 (s2.mono (by omega)) p2 hr
        exact q r t d (.same c k) _ f1 f2 ⟨f3, n1, n2, upd_same, f4⟩ ⟨hc, hk, trivial, trivial⟩
      · rw [decide_eq_false fun z => h6 (V.int.inj z)]
        refine iteF ?_
        refine ⟨_, rfl, by show 2 ≤ sizeLine; decide, fun r hr => ?_⟩
        obtain ⟨f1, f2, f3, f4⟩ := fin (o := .tup [.str "row", .ref t]) e3 (s2.mono (by omega)) p2 hr
        exact q r t d (.row c k) _ f1 f2 ⟨f3, n1, n2, upd_same, f4⟩ ⟨hc, hk, trivial, trivial⟩
end
end K8

set_option Elab.async false
set_option linter.all false
set_option maxRecDepth 100000
set_option maxHeartbeats 4000000
namespace K8
open PySem PySem.Spec PyProof.Rows L2 M8
def spTurnL : Sp := fun vs H Q _ => ∃ p d c k, vs = [.ref p] ∧ PairT H p d c k ∧ Few c ∧ ∀ t d' H', Ex H H' → NewP H H' t d' (mapc (fun i => 0 - i) c) (0 - k) → Q (.ref t) H'
section
variable {P : Program} {w : World} {K : PySem.W.Frag} {mg : Str → Option Value} {base : Heap}
abbrev s__law_w_turned : Stmt := top 57
theorem sc__law_w_turned : FnScope ["term", "name"] ["term"] (defScope s__law_w_turned) := ⟨rfl, rfl, rfl, by decide +kernel, rfl, by decide +kernel, by decide +kernel⟩
theorem ok__law_w_turned (T : Txt K mg) (a : At K mg "_law_w_turned" s__law_w_turned ["term"]) : Ok P w K mg base CX0 1 "_law_w_turned" ["term"] spTurnL := a.ok fun f fd F => by
  refine F.ok sc__law_w_turned (fun vs H Q E h => ?_) (fun cdv A outer s H vs Q E hr h => ?_)
  · obtain ⟨p, d, c, k, rfl, _⟩ := h; rfl
  · obtain ⟨p, d, c, k, rfl, ⟨hp, hd⟩, few, q⟩ := h
    refine ⟨_, (pss_one (ps_ret (pe_tup (pa_cons (pe_callTy (call_dictC (K := K) rfl rfl) rfl T.n_dict rfl (pa_cons (pe_lock (pe_lc (own := [("name", 1)]) (g := gName 1) (tt := tYes) rfl sc__law_w_turned.nd (pi_keys (pe_ix (ix_qK (K := K) rfl) (pv 0) pe_int (fun _ _ => rfl))) (blkOk_by (N := ["term", "name"]) (sc := defScope s__law_w_turned) (by decide +kernel)) (fun _ _ _ _ _ => (pg_name (i := 1) sc__law_w_turned.nd rfl (Or.inl rfl))) (fun _ _ _ _ _ => pts_nil) (fun _ _ _ _ _ => (pe_tup (pa_cons (pv 1) (pa_cons (pe_op op_sub pe_int (pe_dget (hu_of hr) (pe_ix (ix_qK (K := K) rfl) (pv 0) pe_int (fun _ _ => rfl)) (pv 1) (fun _ _ => rfl))) pa_nil)))))) pa_nil)) (pa_cons (pe_op op_sub pe_int (pe_ix (ix_qK (K := K) rfl) (pv 0) pe_int (fun _ _ => rfl))) pa_nil))))), ?_⟩
    have pd : p ≠ d := fun z => by rw [z, hd] at hp; cases hp
    dsimp only [tNext, tRet, tTup, tCons, tNil]
    refine dp_lock (fun p => 0 - p.2) (fun _ => true) hd few (fun H2 R o r => ⟨_, rfl, p, _, 0, _, rfl, rfl, SqQ.t (o _ _ pd hp), at0, r⟩) (by simp [wipe, L2.start]) (fun _ => rfl) ?_ ?_
    · intro n z H2 od R R' hm2 h2 o k1 k2
      have hmk : n ∈ keys c := List.mem_map.mpr ⟨(n, z), hm2, rfl⟩
      have hco : co c n = z := co_of_mem few.nd hm2
      refine yesT ⟨_, rfl, _, rfl, p, _, 0, _, rfl, rfl, SqQ.t (o _ _ pd hp), at0, _, rfl, d, _, rfl, .inl ⟨cK c, .inr n, .inr ⟨od, h2⟩, rfl, (valV_co hmk few.nd).symm⟩, _, _, rfl, rfl, by show 2 ≤ sizeLine; decide, fun r hr => ?_⟩
      rw [hco]
      exact k1 rfl r _ hr (Ex.new hr) upd_same
    · intro D H2 hD e hD2
      rw [filt_all] at hD2
      refine ⟨_, rfl, p, _, 1, _, rfl, rfl, SqQ.t (e _ _ hp), at1, _, _, rfl, rfl, by show 2 ≤ sizeLine; decide, fun t ht => ?_⟩
      refine q t D _ (e.mut (e.free ht)) ⟨e.free ht, hD, upd_same, ?_⟩
      rw [upd_ne (ne_of_none hD2 ht)]; exact hD2
theorem mul_far {w g i : Int} (h0 : 1 ≤ w) (h1 : w ≤ 10) (h2 : -g ≤ i) (h3 : i ≤ g) : -(10 * g) ≤ w * i ∧ w * i ≤ 10 * g := by
  have : w = 1 ∨ w = 2 ∨ w = 3 ∨ w = 4 ∨ w = 5 ∨ w = 6 ∨ w = 7 ∨ w = 8 ∨ w = 9 ∨ w = 10 := by omega
  rcases this with rfl | rfl | rfl | rfl | rfl | rfl | rfl | rfl | rfl | rfl <;> omega
def tagS : Tst → String | .row _ _ => "row" | .same _ _ => "same" | .div _ _ _ => "by"
theorem TAt.view {H : Hp} {q t d : Addr} {ts : Tst} (h : TAt H q t d ts) : ∃ xs, H q = some (.tup xs) ∧ atI xs 0 = some (.str (tagS ts)) ∧ atI xs (-1) = some (.ref t) ∧ PairT H t d (coef ts) (kst ts) := by
  cases ts with
  | row c k => exact ⟨_, h.1, rfl, rfl, h.2⟩
  | same c k => exact ⟨_, h.1, rfl, rfl, h.2⟩
  | div m c k => exact ⟨_, h.1, rfl, rfl, h.2⟩
theorem TAt.exo {a : Addr} {H H' : Hp} {q t d : Addr} {ts : Tst} (e : Exo [a] H H') (nq : q ≠ a) (nt : t ≠ a) (nd : d ≠ a) (h : TAt H q t d ts) : TAt H' q t d ts := by
  cases ts with
  | row c k => exact ⟨e.at1 nq h.1, e.at1 nt h.2.1, e.at1 nd h.2.2⟩
  | same c k => exact ⟨e.at1 nq h.1, e.at1 nt h.2.1, e.at1 nd h.2.2⟩
  | div m c k => exact ⟨e.at1 nq h.1, e.at1 nt h.2.1, e.at1 nd h.2.2⟩
theorem TAt.ex {H H' : Hp} {q t d : Addr} {ts : Tst} (e : Ex H H') (h : TAt H q t d ts) : TAt H' q t d ts := by
  cases ts with
  | row c k => exact ⟨e _ _ h.1, e _ _ h.2.1, e _ _ h.2.2⟩
  | same c k => exact ⟨e _ _ h.1, e _ _ h.2.1, e _ _ h.2.2⟩
  | div m c k => exact ⟨e _ _ h.1, e _ _ h.2.1, e _ _ h.2.2⟩
theorem TermIn.mapc {ns : List Str} {g g' : Int} {c : Coef} {f : Int → Int} (h : TermIn ns g c) (hf : ∀ i, -g ≤ i → i ≤ g → -g' ≤ f i ∧ f i ≤ g') : TermIn ns g' (mapc f c) := by
  refine ⟨by rw [keys_mapc]; exact h.nd, by rw [keys_mapc]; exact h.sub, fun p hp => ?_⟩
  unfold M8.mapc at hp
  obtain ⟨q, hq, rfl⟩ := List.mem_map.mp hp
  exact hf _ (h.far q hq).1 (h.far q hq).2
theorem TermIn.few {ns : List Str} {g : Int} {c : Coef} (h : TermIn ns g c) (h4 : ns.length ≤ 4) : Few c := ⟨h.nd, by
  have := List.subset_of_nodup_length h.nd h.sub
  unfold keys at this; rw [List.length_map] at this; omega⟩
def spDrawn : Sp := fun vs H Q _ => ∃ a l ns g B, vs = [.ref a, .ref l, .int g] ∧ Spr H a B ∧ B + 300 < lot ∧ H l = some (.lst (ns.map V.str)) ∧ l ≠ a ∧ ns.Nodup ∧ ns.length ≤ 4 ∧ 0 < g ∧ g ≤ 1000000 ∧
  ∀ q t d ts H', Exo [a] H H' → Spr H' a (B + 19) → NewA H H' q t d ts → TstIn ns (10 * g) ts → Q (.ref q) H'
end
end K8

set_option Elab.async false
set_option linter.all false
set_option maxRecDepth 100000
set_option maxHeartbeats 4000000
namespace K8
open PySem PySem.Spec PyProof.Rows L2 M8
/-! the law hands a thing over: other lists, other order, one more coefficient 0 -/
def Hnd0 (d d' : Dat) : Prop := match d with
  | .dct _ => ∃ c c', d = .dct (cD c) ∧ d' = .dct (cD c') ∧ (c'.Perm c ∨ c'.Perm (c ++ [(("zero0" : Str), (0 : Int))]))
  | _ => d' = d
inductive Pair2 {α : Type} (R : α → α → Prop) : List α → List α → Prop
  | nil : Pair2 R [] []
  | cons {x y : α} {xs ys : List α} : R x y → Pair2 R xs ys → Pair2 R (x :: xs) (y :: ys)
theorem Pair2.snoc {α : Type} {R : α → α → Prop} : ∀ {xs ys : List α} {x y : α}, Pair2 R xs ys → R x y → Pair2 R (xs ++ [x]) (ys ++ [y])
  | _, _, _, _, .nil, h => .cons h .nil
  | _, _, _, _, .cons a t, h => .cons a (Pair2.snoc t h)
/-- one level more -/
def HndS (R : Dat → Dat → Prop) (d d' : Dat) : Prop := match d with
  | .lst ds => isSq d' = true ∧ Pair2 R ds (items d')
  | .tup ds => isSq d' = true ∧ Pair2 R ds (items d')
  | d => Hnd0 d d'
def Pre0 : Dat → Prop
  | .dct kds => ∃ c, kds = cD c ∧ c.length ≤ 4 ∧ (keys c).Nodup ∧ ("zero0" : Str) ∉ keys c
  | .lst _ => False | .tup _ => False | .fn _ => False
  | _ => True
def PreS (G : Dat → Prop) : Dat → Prop
  | .lst ds => ds.length ≤ 4 ∧ ∀ d ∈ ds, G d
  | .tup ds => ds.length ≤ 4 ∧ ∀ d ∈ ds, G d
  | d => Pre0 d
def sansL (N : List Addr) (H : Hp) : Hp := fun b => if b ∈ N then none else H b
theorem sansL_ex (N : List Addr) (H : Hp) : Ex (sansL N H) H := fun b o h => by
  unfold sansL at h
  split at h
  · cases h
  · exact h
theorem sansL_at {N : List Addr} {H : Hp} {b : Addr} {o : HO} (n : b ∉ N) (h : H b = some o) : sansL N H b = some o := by
  unfold sansL; rw [if_neg n]; exact h
theorem sansL_mono {N N' : List Addr} {H H' : Hp} (e : ∀ b o, b ∉ N → H b = some o → b ∉ N' ∧ H' b = some o) : Ex (sansL N H) (sansL N' H') := fun b o h => by
  unfold sansL at h
  split at h
  · cases h
  · rename_i n
    exact sansL_at (e b o n h).1 (e b o n h).2
theorem pi_lt {X : Cx} {tg e : Expr} {t : TE} (h : PE X e t) : PI X tg e (fun σ H R => iList X.K t σ H R ∨ iTup X.K t σ H R) :=
  ⟨fun pins s σ H R I q => q.elim (fun q => (pi_list h).run pins s σ H R I q) (fun q => (pi_tup h).run pins s σ H R I q)⟩
theorem lc_genD {J : It} {n : Nat} {G : Hp → Prop} {Y : Nat → Hp → V → Hp → Prop} (w : Walk J n G Y) {g : TG} {tt : TT} {te : TE} {vs : List Nat} {σ : L2.St} {H1 : Hp} {Q : VK} (S : List Addr) (M : Nat → Hp → Prop) (A : Addr → Nat → List V → Hp → Prop) (hn : n ≤ 1000000) (hS : ∀ b ∈ S, H1 b ≠ none)
    (hG : ∀ H, Exo S H1 H → G H) (hM : ∀ i H H', (∀ b ∈ S, H' b = H b) → M i H → M i H')
    (hA : ∀ i acc H D l0 l, H D = some (.lst l0) → H1 D = none → A D i acc H → A D i acc (upd H D (.lst l))) (m0 : M 0 H1) (a0 : ∀ D, H1 D = none → A D 0 [] (upd H1 D (.lst [])))
    (hs : ∀ i x H H' D acc (R : V → Hp → Prop) (R' : Hp → Prop), i < n → Exo S H1 H → M i H → H1 D = none → H D = some (.lst acc) → A D i acc H → acc.length ≤ i → Y i H x H' →
      (∀ y H4, Exo S H H4 → M (i + 1) H4 → A D (i + 1) (acc ++ [y]) H4 → R y H4) → (∀ H4, Exo S H H4 → M (i + 1) H4 → A D (i + 1) acc H4 → R' H4) →
      g x (wipe σ vs) H' fun σ2 H2 => wipe σ2 vs = wipe σ vs ∧ tt σ2 H2 fun b H3 => if b = true then te σ2 H3 R else R' H3)
    (hd : ∀ D acc H, H1 D = none → Exo S H1 H → M n H → A D n acc H → H D = some (.lst acc) → acc.length ≤ n → Q (.ref D) H) :
    LcB g tt te vs σ Q J H1 := by
  intro D hD
  have nS : D ∉ S := fun z => hS D z hD
  have sl : (1000000 : Nat) < sizeLine := by rw [sizeLine_eq]; decide
  refine lc_it w (fun i H => Exo S H1 H ∧ M i H ∧ ∃ acc, H D = some (.lst acc) ∧ acc.length ≤ i ∧ A D i acc H) ⟨(Exo.refl S H1).mut hD, hM 0 _ _ (fun b hb => upd_ne fun z => nS (z ▸ hb)) m0, [], upd_same, Nat.le_refl _, a0 D hD⟩ (fun i H _ p => hG H p.1) ?_ ?_
  · rintro i x H H' hi ⟨e, m, acc, hDH, hl, a⟩ y
    refine hs i x H H' D acc _ _ hi e m hD hDH a hl y (fun z H4 e4 m4 a4 => ?_) (fun H4 e4 m4 a4 => ?_)
    · have h4 := e4 D _ nS hDH
      refine ⟨acc, h4, by omega, (e.trans e4).mut hD, hM _ _ _ (fun b hb => upd_ne fun q => nS (q ▸ hb)) m4, _, upd_same, by rw [List.length_append]; simp; omega, hA _ _ _ _ _ _ h4 hD a4⟩
    · exact ⟨e.trans e4, m4, acc, e4 D _ nS hDH, by omega, a4⟩
  · rintro H ⟨e, m, acc, hDH, hl, a⟩
    exact hd D acc H hD e m a hDH hl
theorem paired_perm {α β : Type} {R : α → β → Prop} {us ts : List α} (p : us.Perm ts) : ∀ {cs : List β}, Paired R ts cs → ∃ cs', cs'.Perm cs ∧ Paired R us cs' := by
  induction p with
  | nil => intro cs h; exact ⟨cs, .refl _, h⟩
  | cons x p ih =>
    intro cs h
    cases h with
    | cons h t =>
      obtain ⟨cs', p', h'⟩ := ih t
      exact ⟨_, p'.cons _, .cons h h'⟩
  | swap x y l =>
    intro cs h
    cases h with
    | cons h t =>
      cases t with
      | cons h2 t => exact ⟨_, .swap _ _ _, .cons h2 (.cons h t)⟩
  | trans p1 p2 ih1 ih2 =>
    intro cs h
    obtain ⟨c1, q1, h1⟩ := ih2 h
    obtain ⟨c2, q2, h2⟩ := ih1 h1
    exact ⟨c2, q2.trans q1, h2⟩
def unR : V → Addr | .ref a => a | _ => 0
theorem perm_refs {ys : List V} {ts : List Addr} (h : ys.Perm (ts.map V.ref)) : ∃ us : List Addr, ys = us.map V.ref ∧ us.Perm ts := by
  refine ⟨ys.map unR, ?_, ?_⟩
  · rw [List.map_map]
    have : ∀ y ∈ ys, (V.ref ∘ unR) y = y := fun y hy => by
      obtain ⟨n, _, rfl⟩ := List.mem_map.mp (h.mem_iff.mp hy); rfl
    rw [List.map_congr_left this, List.map_id']
  · have := h.map unR
    rwa [List.map_map, show (unR ∘ V.ref) = id from rfl, List.map_id] at this
theorem keys_perm {c c' : Coef} (h : c'.Perm c) : (keys c').Perm (keys c) := h.map _
theorem cK_perm {kvs : List (Key × V)} {c : Coef} (h : kvs.Perm (cK c)) : ∃ c', kvs = cK c' ∧ c'.Perm c := by
  let un : Key × V → Str × Int := fun p => (match p.1 with | .inr s => s | .inl _ => "", match p.2 with | .int i => i | _ => 0)
  have hu : ∀ d : Coef, (cK d).map un = d := fun d => by
    unfold cK; rw [List.map_map]
    exact List.map_id'' (fun _ => rfl) d
  refine ⟨kvs.map un, ?_, ?_⟩
  · unfold cK; rw [List.map_map]
    have : ∀ y ∈ kvs, ((fun p : Str × Int => ((Sum.inr p.1, V.int p.2) : Key × V)) ∘ un) y = y := fun y hy => by
      have := h.mem_iff.mp hy
      unfold cK at this
      obtain ⟨n, _, rfl⟩ := List.mem_map.mp this; rfl
    rw [List.map_congr_left this, List.map_id']
  · have := h.map un
    rwa [hu] at this
def spHand (K : PySem.W.Frag) (b : Nat) (G : Dat → Prop) (R : Dat → Dat → Prop) : Sp := fun vs H Q _ => ∃ a v d B N, vs = [.ref a, v] ∧ Spr H a B ∧ B + b + 100 < lot ∧ a ∈ N ∧ (∀ b ∈ N, H b ≠ none) ∧ SeeF K (sansL N H) v d ∧ G d ∧
  ∀ v' d' H', Exo [a] H H' → Spr H' a (B + b) → SeeF K (sansL N H') v' d' → R d d' → Q v' H'
section
variable {P : Program} {w : World} {K : PySem.W.Frag} {mg : Str → Option Value} {base : Heap}
abbrev s__law_w_handed : Stmt := top 55
theorem sc__law_w_handed : FnScope ["spring", "thing", "rows", "some", "part"] ["spring", "thing"] (defScope s__law_w_handed) := ⟨rfl, rfl, rfl, by decide +kernel, rfl, by decide +kernel, by decide +kernel⟩
theorem ok_hand_step (T : Txt K mg) (a : At K mg "_law_w_handed" s__law_w_handed ["spring", "thing"]) (O_law_draw : Ok P w K mg base CX0 1 "_law_draw" ["spring", "many"] spDraw) (O_law_mixed : Ok P w K mg base CX0 2 "_law_mixed" ["spring", "some"] (spMixed K)) {k b : Nat} {G : Dat → Prop} {R : Dat → Dat → Prop} (O_law_w_handed : Ok P w K mg base CX0 (k+2) "_law_w_handed" ["spring", "thing"] (spHand K b G R)) : Ok P w K mg base CX0 (k+3) "_law_w_handed" ["spring", "thing"] (spHand K (4 * b + 8) (PreS G) (HndS R)) := a.ok fun f fd F => by
  refine F.ok sc__law_w_handed (fun vs H Q E h => ?_) (fun cdv A outer s H vs Q E hr h => ?_)
  · obtain ⟨a, v, d, B, N, rfl, _⟩ := h; rfl
  · obtain ⟨a, v, d, B, N, rfl, hs, hB, haN, hN, hv, hg, q⟩ := h
    refine ⟨_, (pss_cons (ps_if (pt_val (pe_callB call_isiD rfl T.n_isinstance rfl (pa_cons (pv 1) (pa_cons (pe_tyN (n := "dict") rfl T.n_dict rfl) pa_nil)))) (pss_cons (ps_set (i := 2) sc__law_w_handed.nd rfl (Or.inl rfl) (pe_callO O_law_mixed (hr.mono (by first | decide | omega)) rfl (pa_cons (pv 0) (pa_cons (LiI.pe_listItems rfl (pv 1) rfl T.n_list rfl) pa_nil))))
      (pss_one (ps_ret (pe_callTy (call_dictC (K := K) rfl rfl) rfl T.n_dict rfl (pa_cons (pe_op op_cat (pv 2) (pe_op op_rep (pe_lst (pa_cons (pe_tup (pa_cons pe_str (pa_cons pe_int pa_nil))) pa_nil)) (pe_callTy call_int1 rfl T.n_int rfl (pa_cons (pe_cmpR op_eq (pe_callO O_law_draw (hr.mono (by first | decide | omega)) rfl (pa_cons (pv 0) (pa_cons pe_int pa_nil))) pe_int (nomark _)) pa_nil)))) pa_nil))))) pss_nil)
      (pss_cons (ps_if (pt_val (pe_callB call_isiDT rfl T.n_isinstance rfl (pa_cons (pv 1) (pa_cons (pe_tup (pa_cons (pe_tyN (n := "list") rfl T.n_list rfl) (pa_cons (pe_tyN (n := "tuple") rfl T.n_tuple rfl) pa_nil))) pa_nil)))) (pss_cons (ps_setLc (i := 3) (own := [("part", 4)]) (g := gName 4) (tt := tYes) rfl sc__law_w_handed.nd rfl rfl (sw_true rfl rfl rfl (by decide +kernel)) (pi_lt (pv 1)) (blkOk_by (N := ["spring", "thing", "rows", "some", "part"]) (sc := defScope s__law_w_handed) (by decide +kernel)) (fun _ _ _ _ _ => (pg_name (i := 4) sc__law_w_handed.nd rfl (Or.inl rfl))) (fun _ _ _ _ _ => pts_nil) (fun _ _ _ _ _ => (pe_callO O_law_w_handed hr rfl (pa_cons (pv 0) (pa_cons (pv 4) pa_nil)))))
      (pss_one (ps_ret (pe_ifExp (pt_cmpR op_eq (pe_callO O_law_draw (hr.mono (by first | decide | omega)) rfl (pa_cons (pv 0) (pa_cons pe_int pa_nil))) pe_int (nomark _)) (pv 3) (pe_callTy call_tuple_of rfl T.n_tuple rfl (pa_cons (pv 3) pa_nil)))))) pss_nil)
      (pss_one (ps_ret (pv 1))))), ?_⟩
    have hv1 := See.mono (sansL_ex N H) hv
    have newN : ∀ {H' : Hp} {p : Addr}, Exo [a] H H' → (∃ B', Spr H' a B') → H' p = none → p ∉ N := by
      intro H' p e ⟨B', s'⟩ hp hpN
      by_cases z : p = a
      · exact s'.ne (by rw [← z]; exact hp)
      · exact hN p hpN (e.free (by simpa using z) hp)
    refine ⟨_, rfl, v, "dict", d, _, rfl, hv1, kit_dct d, _, rfl, ?_⟩
    cases hv with
    | @dct p kvs kds h1 k1 =>
      refine iteT ?_
      obtain ⟨c, rfl, h4, hnd, hz⟩ : Pre0 (.dct kds) := hg
      have hkv := cK_of k1
      subst hkv
      have hpH := sansL_ex N H _ _ h1
      refine ⟨_, rfl, _, rfl, p, cK c, rfl, hpH, fun H1 L ts e1 hL _ _ hL1 hts => ?_⟩
      have hlt : ts.length = c.length := by rw [hts.length, cK_len]
      refine ⟨a, L, ts.map V.ref, B, rfl, hs.ex e1, by omega, SqQ.l hL1, by rw [List.length_map]; omega, fun Y ys H2 hY e2 s2 hperm hY2 => ?_⟩
      obtain ⟨us, rfl, hup⟩ := perm_refs hperm
      have nYa : Y ≠ a := fun z => (hs.ex e1).ne (by rw [← z]; exact hY)
      refine ⟨_, rfl, by show 2 ≤ sizeLine; decide, fun z hz0 => ⟨by show 1 ≤ sizeLine; decide, fun Z hZ => ?_⟩⟩
      have z1 : Ex H2 (upd H2 z (.tup [.str "zero0", .int 0])) := Ex.new hz0
      have z2 : Ex H2 (upd (upd H2 z (.tup [.str "zero0", .int 0])) Z (.lst [.ref z])) := z1.mut (z1.free hZ)
      have nza : z ≠ a := fun e => s2.ne (by rw [← e]; exact hz0)
      have nZa : Z ≠ a := fun e => s2.ne (by rw [← e]; exact z1.free hZ)
      have nzZ : z ≠ Z := ne_of_none upd_same hZ
      refine ⟨_, rfl, a, _, _, rfl, s2.ex z2, by rw [List.length_map]; omega, by decide, by decide, fun u H3 u0 u1 e3 s3 => ?_⟩
      have e13 : Exo [a] H1 H3 := (e2.trans (z2.exo _)).trans e3
      have hz3 : H3 z = some (.tup [.str "zero0", .int 0]) := e3.at1 nza (by rw [upd_ne nzZ, upd_same])
      have hZ3 : H3 Z = some (.lst [.ref z]) := e3.at1 nZa upd_same
      have hY3 : H3 Y = some (.lst (us.map V.ref)) := e3.at1 nYa (z2 _ _ hY2)
      obtain ⟨kvs', hkp, hpu⟩ := paired_perm hup hts
      obtain ⟨c', rfl, hcp⟩ := cK_perm hkp
      have hnd' : (keys c').Nodup := (keys_perm hcp).nodup_iff.mpr hnd
      have hz' : ("zero0" : Str) ∉ keys c' := fun h => hz ((keys_perm hcp).mem_iff.mp h)
      have hl' : c'.length = c.length := hcp.length_eq
      have hul : us.length = c.length := by rw [hup.length_eq, hlt]
      have at3 : ∀ {H4 : Hp}, Ex H3 H4 → Paired (fun p kv => H4 p = some (.tup [kV kv.1, kv.2])) us (cK c') := fun e4 => Paired.imp (fun p kv h => e4 _ _ (e13.at1 (fun z => by
        obtain ⟨x1, x2, x3, x4, _⟩ := hs.ex e1
        rw [z, x4] at h; cases h) h)) hpu
      refine ⟨rfl, .inr ⟨_, rfl, ?_⟩⟩
      have done : ∀ (D : Addr) (cc : Coef) (H5 : Hp), Exo [a] H H5 → Spr H5 a (B + 5) → H5 D = none → (cc.Perm c ∨ cc.Perm (c ++ [(("zero0" : Str), (0 : Int))])) → Q (.ref D) (upd H5 D (.dK (cK cc))) := by
        intro D cc H5 e5 s5 hD hcc
        have nDa : D ≠ a := fun e => s5.ne (by rw [← e]; exact hD)
        have nDN : D ∉ N := newN e5 ⟨_, s5⟩ hD
        refine q (.ref D) (.dct (cD cc)) _ (e5.mut (e5.free (by simpa using nDa) hD)) ((s5.at (upd_ne nDa.symm)).mono (by omega)) (.dct (sansL_at nDN upd_same) (seeK_c _)) ⟨c, cc, rfl, rfl, hcc⟩
      have e03 : Exo [a] H H3 := (Ex.exo e1 _).trans e13
      have s3' : Spr H3 a (B + 5) := s3.mono (by rw [List.length_map]; omega)
      by_cases hu0 : u = 0
      · rw [show decide (V.int u = V.int 0) = true from decide_eq_true (by rw [hu0])]
        refine ⟨Z, _, _, rfl, rfl, hZ3, by decide, by decide, by rw [sizeLine_eq]; simp, fun Rp hRp => ?_⟩
        have r1 : Ex H3 (upd H3 Rp (.lst (List.replicate (Int.toNat (if true = true then 1 else 0)) [V.ref z]).flatten)) := Ex.new hRp
        refine ⟨Y, Rp, _, _, rfl, rfl, r1 _ _ hY3, upd_same, by rw [List.length_map, hul, sizeLine_eq]; show c.length + 1 ≤ _; omega, fun C hC => ?_⟩
        have r2 := r1.mut (r1.free hC) (o := .lst (us.map V.ref ++ (List.replicate (Int.toNat (if true = true then 1 else 0)) [V.ref z]).flatten))
        refine ⟨C, us ++ [z], cK (c' ++ [(("zero0" : Str), (0 : Int))]), rfl, by rw [upd_same, List.map_append]; rfl, ?_, cK_nodup ?_, fun D hD => ?_⟩
        · rw [cK_app]
          exact Paired.app (at3 r2) (.cons (r2 _ _ hz3) .nil)
        · rw [keys_app, List.nodup_append]
          exact ⟨hnd', by simp [keys], fun x hx y hy e => hz' (by rw [show y = "zero0" by simpa [keys] using hy] at e; rw [← e]; exact hx)⟩
        · exact done D _ _ (e03.trans (r2.exo _)) (s3'.ex r2) hD (.inr (hcp.append_right _))
      · rw [show decide (V.int u = V.int 0) = false from decide_eq_false fun e => hu0 (V.int.inj e)]
        refine ⟨Z, _, _, rfl, rfl, hZ3, by decide, by decide, by rw [sizeLine_eq]; simp, fun Rp hRp => ?_⟩
        have r1 : Ex H3 (upd H3 Rp (.lst (List.replicate (Int.toNat (if false = true then 1 else 0)) [V.ref z]).flatten)) := Ex.new hRp
        refine ⟨Y, Rp, _, _, rfl, rfl, r1 _ _ hY3, upd_same, by rw [List.length_map, hul, sizeLine_eq]; show c.length + 0 ≤ _; omega, fun C hC => ?_⟩
        have r2 := r1.mut (r1.free hC) (o := .lst (us.map V.ref ++ (List.replicate (Int.toNat (if false = true then 1 else 0)) [V.ref z]).flatten))
        refine ⟨C, us, cK c', rfl, by rw [upd_same]; show some (HO.lst (us.map V.ref ++ [])) = _; rw [List.append_nil], at3 r2, cK_nodup hnd', fun D hD => ?_⟩
        exact done D _ _ (e03.trans (r2.exo _)) (s3'.ex r2) hD (.inl hcp)
    | @lst a1 xs ds h1 k1 =>
      refine iteF ?_
      have hpH := sansL_ex N H _ _ h1
      have e0H : ∀ {tp : Addr}, H tp = none → Ex H (upd H tp (.tup (["list", "tuple"].map V.ty))) := fun h => Ex.new h
      refine ⟨_, rfl, by show 2 ≤ sizeLine; decide, fun tp htp => ⟨_, tp, ["list", "tuple"], .lst ds, _, rfl, upd_same, See.mono (e0H htp) hv1, kit_lt (.lst ds), _, rfl, iteT ?_⟩⟩
      have e0 := e0H htp
      have hs0 := hs.ex e0
      have hN0 : ∀ b ∈ N, upd H tp (.tup (["list", "tuple"].map V.ty)) b ≠ none := fun b hb => by
        have := hN b hb
        rw [upd_ne (fun z => this (by rw [z]; exact htp))]; exact this
      have hl := k1.len
      obtain ⟨hl4, hgd⟩ : ds.length ≤ 4 ∧ ∀ d ∈ ds, G d := hg
      dsimp only [tSeq, gName]
      refine tLc_of ?_
      refine .inl ⟨_, rfl, a1, rfl, ⟨xs, SqL.of (e0 _ _ hpH)⟩, ?_⟩
      refine lc_genD (walk_list (xs := xs)) [a] (fun i H' => Spr H' a (B + i * b)) (fun D i acc H' => ∃ ds', SeeL (FnK K) (sansL (D :: N) H') acc ds' ∧ Pair2 R (ds.take i) ds') (by omega) (fun b hb => by rw [show b = a by simpa using hb]; exact hs0.ne) ?_ (fun i H1 H2 hb h => h.at (hb a (by simp))) ?_ (by simpa using hs0) ?_ ?_ ?_
      · intro H1 e
        have nal : a1 ≠ a := fun z => by
          unfold sansL at h1
          rw [z, if_pos haN] at h1; cases h1
        exact SqL.of (e.at1 nal (e0 _ _ hpH))
      · rintro i acc H1 D l0 l hD hN1 ⟨ds', h1', h2'⟩
        exact ⟨ds', SeeL.mono (sansL_mono fun b o nb hb => ⟨nb, by rw [upd_ne fun z => nb (by simp [z])]; exact hb⟩) h1', h2'⟩
      · intro D hD
        exact ⟨[], .nil, .nil⟩
      · rintro i x H1 H2 D acc R1 R2 hi e m hD hDH ⟨ds', h1', h2'⟩ hacc ⟨rfl, hx⟩ k' _
        obtain ⟨dd, hdd, sd⟩ := k1.getV hx
        have hi' : i < ds.length := by omega
        refine ⟨rfl, yesT ⟨_, rfl, _, rfl, a, x, dd, B + i * b, D :: N, rfl, m, ?_, by simp [haN], ?_, ?_, hgd _ (List.mem_of_getElem? hdd), fun v' d' H4 e4 s4 sv hr' => ?_⟩⟩
        · have : i * b ≤ 3 * b := Nat.mul_le_mul_right _ (by omega)
          omega
        · intro b' hb'
          rcases List.mem_cons.mp hb' with rfl | hb'
          · rw [hDH]; simp
          · by_cases z : b' = a
            · rw [z]; exact m.ne
            · have h0 := hN0 b' hb'
              cases hq0 : upd H tp (.tup (["list", "tuple"].map V.ty)) b' with
              | none => exact absurd hq0 h0
              | some o => rw [e.at1 z hq0]; simp
        · refine See.mono (sansL_mono fun b' o nb hb' => ?_) sd
          have nba : b' ≠ a := fun z => nb (by rw [z]; exact haN)
          have hb0 := e0 _ _ hb'
          refine ⟨fun z => ?_, e.at1 nba hb0⟩
          rcases List.mem_cons.mp z with z | z
          · have hD' : upd H tp (.tup (["list", "tuple"].map V.ty)) D = none := hD
            rw [z, hD'] at hb0; cases hb0
          · exact nb z
        · have hDa : D ≠ a := fun z => hs0.ne (by rw [← z]; exact hD)
          refine k' v' H4 e4 (s4.mono (by rw [Nat.succ_mul]; omega)) ⟨ds' ++ [d'], SeeL.append (SeeL.mono (sansL_mono fun b' o nb hb' => ⟨nb, e4.at1 (fun z => nb (by rw [z]; simp [haN])) hb'⟩) h1') (.cons sv .nil), ?_⟩
          rw [List.take_add_one, hdd]
          exact Pair2.snoc h2' hr'
      · rintro D acc H1 hD e m ⟨ds', h1', h2'⟩ hDH hacc
        have hDa : D ≠ a := fun z => hs0.ne (by rw [← z]; exact hD)
        have hDN : D ∉ N := fun z => hN0 D z hD
        rw [List.take_of_length_le (by omega)] at h2'
        have m' : Spr H1 a (B + 4 * b) := m.mono (by have : xs.length * b ≤ 4 * b := Nat.mul_le_mul_right _ (by omega); omega)
        have e01 : Exo [a] H H1 := (e0.exo _).trans e
        refine ⟨_, rfl, a, _, _, rfl, m', by omega, by decide, by decide, fun u H2 u0 u1 e2 s2 => ?_⟩
        refine ⟨rfl, _, rfl, ?_⟩
        have hD2 := e2.at1 hDa hDH
        have see2 : SeeL (FnK K) (sansL (D :: N) H2) acc ds' := SeeL.mono (sansL_mono fun b' o nb hb' => ⟨nb, e2.at1 (fun z => nb (by rw [z]; simp [haN])) hb'⟩) h1'
        by_cases hu0 : u = 0
        · rw [show decide (V.int u = V.int 0) = true from decide_eq_true (by rw [hu0])]
          refine iteT ⟨_, rfl, ?_⟩
          exact q (.ref D) (.lst ds') H2 (e01.trans e2) (s2.mono (by omega)) (.lst (sansL_at hDN hD2) (SeeL.mono (sansL_mono fun b' o nb hb' => ⟨fun z => nb (by simp [z]), hb'⟩) see2)) ⟨rfl, h2'⟩
        · rw [show decide (V.int u = V.int 0) = false from decide_eq_false fun e => hu0 (V.int.inj e)]
          refine iteF ⟨_, rfl, D, acc, rfl, .inl ⟨SqL.of hD2, fun T hT => ?_⟩⟩
          have nTa : T ≠ a := fun z => s2.ne (by rw [← z]; exact hT)
          have nTN : T ∉ N := newN (e01.trans e2) ⟨_, s2⟩ hT
          refine q (.ref T) (.tup ds') _ ((e01.trans e2).mut ((e01.trans e2).free (by simpa using nTa) hT)) ((s2.at (upd_ne nTa.symm)).mono (by omega)) (.tup (sansL_at nTN upd_same) (SeeL.mono (sansL_mono fun b' o nb hb' => ⟨fun z => nb (by simp [z]), by rw [upd_ne (ne_of_none hb' hT)]; exact hb'⟩) see2)) ⟨rfl, h2'⟩
    | @tup a1 xs ds h1 k1 =>
      refine iteF ?_
      have hpH := sansL_ex N H _ _ h1
      have e0H : ∀ {tp : Addr}, H tp = none → Ex H (upd H tp (.tup (["list", "tuple"].map V.ty))) := fun h => Ex.new h
      refine ⟨_, rfl, by show 2 ≤ sizeLine; decide, fun tp htp => ⟨_, tp, ["list", "tuple"], .tup ds, _, rfl, upd_same, See.mono (e0H htp) hv1, kit_lt (.tup ds), _, rfl, iteT ?_⟩⟩
      have e0 := e0H htp
      have hs0 := hs.ex e0
      have hN0 : ∀ b ∈ N, upd H tp (.tup (["list", "tuple"].map V.ty)) b ≠ none := fun b hb => by
        have := hN b hb
        rw [upd_ne (fun z => this (by rw [z]; exact htp))]; exact this
      have hl := k1.len
      obtain ⟨hl4, hgd⟩ : ds.length ≤ 4 ∧ ∀ d ∈ ds, G d := hg
      dsimp only [tSeq, gName]
      refine tLc_of ?_
      refine .inr ⟨_, rfl, a1, rfl, ⟨xs, SqT.of (e0 _ _ hpH)⟩, ?_⟩
      refine lc_genD (walk_tup (xs := xs)) [a] (fun i H' => Spr H' a (B + i * b)) (fun D i acc H' => ∃ ds', SeeL (FnK K) (sansL (D :: N) H') acc ds' ∧ Pair2 R (ds.take i) ds') (by omega) (fun b hb => by rw [show b = a by simpa using hb]; exact hs0.ne) ?_ (fun i H1 H2 hb h => h.at (hb a (by simp))) ?_ (by simpa using hs0) ?_ ?_ ?_
      · intro H1 e
        have nal : a1 ≠ a := fun z => by
          unfold sansL at h1
          rw [z, if_pos haN] at h1; cases h1
        exact SqT.of (e.at1 nal (e0 _ _ hpH))
      · rintro i acc H1 D l0 l hD hN1 ⟨ds', h1', h2'⟩
        exact ⟨ds', SeeL.mono (sansL_mono fun b o nb hb => ⟨nb, by rw [upd_ne fun z => nb (by simp [z])]; exact hb⟩) h1', h2'⟩
      · intro D hD
        exact ⟨[], .nil, .nil⟩
      · rintro i x H1 H2 D acc R1 R2 hi e m hD hDH ⟨ds', h1', h2'⟩ hacc ⟨rfl, hx⟩ k' _
        obtain ⟨dd, hdd, sd⟩ := k1.getV hx
        have hi' : i < ds.length := by omega
        refine ⟨rfl, yesT ⟨_, rfl, _, rfl, a, x, dd, B + i * b, D :: N, rfl, m, ?_, by simp [haN], ?_, ?_, hgd _ (List.mem_of_getElem? hdd), fun v' d' H4 e4 s4 sv hr' => ?_⟩⟩
        · have : i * b ≤ 3 * b := Nat.mul_le_mul_right _ (by omega)
          omega
        · intro b' hb'
          rcases List.mem_cons.mp hb' with rfl | hb'
          · rw [hDH]; simp
          · by_cases z : b' = a
            · rw [z]; exact m.ne
            · have h0 := hN0 b' hb'
              cases hq0 : upd H tp (.tup (["list", "tuple"].map V.ty)) b' with
              | none => exact absurd hq0 h0
              | some o => rw [e.at1 z hq0]; simp
        · refine See.mono (sansL_mono fun b' o nb hb' => ?_) sd
          have nba : b' ≠ a := fun z => nb (by rw [z]; exact haN)
          have hb0 := e0 _ _ hb'
          refine ⟨fun z => ?_, e.at1 nba hb0⟩
          rcases List.mem_cons.mp z with z | z
          · have hD' : upd H tp (.tup (["list", "tuple"].map V.ty)) D = none := hD
            rw [z, hD'] at hb0; cases hb0
          · exact nb z
        · have hDa : D ≠ a := fun z => hs0.ne (by rw [← z]; exact hD)
          refine k' v' H4 e4 (s4.mono (by rw [Nat.succ_mul]; omega)) ⟨ds' ++ [d'], SeeL.append (SeeL.mono (sansL_mono fun b' o nb hb' => ⟨nb, e4.at1 (fun z => nb (by rw [z]; simp [haN])) hb'⟩) h1') (.cons sv .nil), ?_⟩
          rw [List.take_add_one, hdd]
          exact Pair2.snoc h2' hr'
      · rintro D acc H1 hD e m ⟨ds', h1', h2'⟩ hDH hacc
        have hDa : D ≠ a := fun z => hs0.ne (by rw [← z]; exact hD)
        have hDN : D ∉ N := fun z => hN0 D z hD
        rw [List.take_of_length_le (by omega)] at h2'
        have m' : Spr H1 a (B + 4 * b) := m.mono (by have : xs.length * b ≤ 4 * b := Nat.mul_le_mul_right _ (by omega); omega)
        have e01 : Exo [a] H H1 := (e0.exo _).trans e
        refine ⟨_, rfl, a, _, _, rfl, m', by omega, by decide, by decide, fun u H2 u0 u1 e2 s2 => ?_⟩
        refine ⟨rfl, _, rfl, ?_⟩
        have hD2 := e2.at1 hDa hDH
        have see2 : SeeL (FnK K) (sansL (D :: N) H2) acc ds' := SeeL.mono (sansL_mono fun b' o nb hb' => ⟨nb, e2.at1 (fun z => nb (by rw [z]; simp [haN])) hb'⟩) h1'
        by_cases hu0 : u = 0
        · rw [show decide (V.int u = V.int 0) = true from decide_eq_true (by rw [hu0])]
          refine iteT ⟨_, rfl, ?_⟩
          exact q (.ref D) (.lst ds') H2 (e01.trans e2) (s2.mono (by omega)) (.lst (sansL_at hDN hD2) (SeeL.mono (sansL_mono fun b' o nb hb' => ⟨fun z => nb (by simp [z]), hb'⟩) see2)) ⟨rfl, h2'⟩
        · rw [show decide (V.int u = V.int 0) = false from decide_eq_false fun e => hu0 (V.int.inj e)]
          refine iteF ⟨_, rfl, D, acc, rfl, .inl ⟨SqL.of hD2, fun T hT => ?_⟩⟩
          have nTa : T ≠ a := fun z => s2.ne (by rw [← z]; exact hT)
          have nTN : T ∉ N := newN (e01.trans e2) ⟨_, s2⟩ hT
          refine q (.ref T) (.tup ds') _ ((e01.trans e2).mut ((e01.trans e2).free (by simpa using nTa) hT)) ((s2.at (upd_ne nTa.symm)).mono (by omega)) (.tup (sansL_at nTN upd_same) (SeeL.mono (sansL_mono fun b' o nb hb' => ⟨fun z => nb (by simp [z]), by rw [upd_ne (ne_of_none hb' hT)]; exact hb'⟩) see2)) ⟨rfl, h2'⟩
    | non =>
      refine iteF ?_
      refine ⟨_, rfl, by show 2 ≤ sizeLine; decide, fun tp htp => ⟨_, tp, ["list", "tuple"], .non, _, rfl, upd_same, .non, kit_lt .non, _, rfl, iteF ?_⟩⟩
      refine ⟨_, rfl, q _ .non _ ((Ex.new htp).exo _) ((hs.ex (Ex.new htp)).mono (by omega)) .non rfl⟩
    | bl b =>
      refine iteF ?_
      refine ⟨_, rfl, by show 2 ≤ sizeLine; decide, fun tp htp => ⟨_, tp, ["list", "tuple"], (.bl b), _, rfl, upd_same, (.bl b), kit_lt (.bl b), _, rfl, iteF ?_⟩⟩
      refine ⟨_, rfl, q _ (.bl b) _ ((Ex.new htp).exo _) ((hs.ex (Ex.new htp)).mono (by omega)) (.bl b) rfl⟩
    | int i =>
      refine iteF ?_
      refine ⟨_, rfl, by show 2 ≤ sizeLine; decide, fun tp htp => ⟨_, tp, ["list", "tuple"], (.int i), _, rfl, upd_same, (.int i), kit_lt (.int i), _, rfl, iteF ?_⟩⟩
      refine ⟨_, rfl, q _ (.int i) _ ((Ex.new htp).exo _) ((hs.ex (Ex.new htp)).mono (by omega)) (.int i) rfl⟩
    | str z =>
      refine iteF ?_
      refine ⟨_, rfl, by show 2 ≤ sizeLine; decide, fun tp htp => ⟨_, tp, ["list", "tuple"], (.str z), _, rfl, upd_same, (.str z), kit_lt (.str z), _, rfl, iteF ?_⟩⟩
      refine ⟨_, rfl, q _ (.str z) _ ((Ex.new htp).exo _) ((hs.ex (Ex.new htp)).mono (by omega)) (.str z) rfl⟩
    | fn hf => exact hg.elim

theorem ok_hand (T : Txt K mg) (a : At K mg "_law_w_handed" s__law_w_handed ["spring", "thing"]) (O_law_draw : Ok P w K mg base CX0 1 "_law_draw" ["spring", "many"] spDraw) (O_law_mixed : Ok P w K mg base CX0 2 "_law_mixed" ["spring", "some"] (spMixed K)) : Ok P w K mg base CX0 5 "_law_w_handed" ["spring", "thing"] (spHand K 168 (PreS (PreS (PreS fun _ => False))) (HndS (HndS (HndS fun _ _ => False)))) := by
  have O0 : Ok P w K mg base CX0 (0+2) "_law_w_handed" ["spring", "thing"] (spHand K 0 (fun _ => False) (fun _ _ => False)) := a.ok fun f fd F => F.ok sc__law_w_handed (fun vs H Q E h => by obtain ⟨a, v, d, B, N, rfl, _⟩ := h; rfl) (fun cdv A outer s H vs Q E hr h => by obtain ⟨a, v, d, B, N, rfl, _, _, _, _, _, hg, _⟩ := h; exact hg.elim)
  have O1 := ok_hand_step T a O_law_draw O_law_mixed O0
  have O2 := ok_hand_step T a O_law_draw O_law_mixed (k := 1) O1
  exact ok_hand_step T a O_law_draw O_law_mixed (k := 2) O2
end
def tstDat : Tst → Dat | .row c k => .tup [.str "row", tDat c k] | .same c k => .tup [.str "same", tDat c k] | .div m c k => .tup [.str "by", .int m, tDat c k]
theorem see_term_at {F : Addr → Prop} {H : Hp} {t d : Addr} {c : Coef} {k : Int} (h : PairT H t d c k) : See F H (.ref t) (tDat c k) := .tup h.1 (.cons (.dct h.2 (seeK_c c)) (.cons (.int k) .nil))
theorem see_tst {F : Addr → Prop} {H : Hp} {q t d : Addr} {ts : Tst} (h : TAt H q t d ts) : See F H (.ref q) (tstDat ts) := by
  cases ts with
  | row c k => exact .tup h.1 (.cons (.str _) (.cons (see_term_at h.2) .nil))
  | same c k => exact .tup h.1 (.cons (.str _) (.cons (see_term_at h.2) .nil))
  | div m c k => exact .tup h.1 (.cons (.str _) (.cons (.int m) (.cons (see_term_at h.2) .nil)))
theorem pre_tst {ts : Tst} (h4 : (coef ts).length ≤ 4) (hn : (keys (coef ts)).Nodup) (hz : ("zero0" : Str) ∉ keys (coef ts)) : PreS (PreS (PreS fun _ => False)) (tstDat ts) := by
  have ht : ∀ k : Int, PreS (PreS fun _ => False) (tDat (coef ts) k) := fun k => ⟨by simp, fun d hd => by
    rcases List.mem_cons.mp hd with rfl | hd
    · exact ⟨_, rfl, h4, hn, hz⟩
    · rcases List.mem_cons.mp hd with rfl | hd
      · trivial
      · cases hd⟩
  cases ts with
  | row c k => exact ⟨by simp, fun d hd => by
      rcases List.mem_cons.mp hd with rfl | hd
      · trivial
      · rcases List.mem_cons.mp hd with rfl | hd
        · exact ht k
        · cases hd⟩
  | same c k => exact ⟨by simp, fun d hd => by
      rcases List.mem_cons.mp hd with rfl | hd
      · trivial
      · rcases List.mem_cons.mp hd with rfl | hd
        · exact ht k
        · cases hd⟩
  | div m c k => exact ⟨by simp, fun d hd => by
      rcases List.mem_cons.mp hd with rfl | hd
      · trivial
      · rcases List.mem_cons.mp hd with rfl | hd
        · trivial
        · rcases List.mem_cons.mp hd with rfl | hd
          · exact ht k
          · cases hd⟩
def setC (c : Coef) : Tst → Tst | .row _ k => .row c k | .same _ k => .same c k | .div m _ k => .div m c k
def HC (c c' : Coef) : Prop := c'.Perm c ∨ c'.Perm (c ++ [(("zero0" : Str), (0 : Int))])
theorem cD_inj : ∀ {c c' : Coef}, cD c = cD c' → c = c'
  | [], [], _ => rfl
  | [], _ :: _, h => by cases h
  | _ :: _, [], h => by cases h
  | (n, i) :: c, (n', i') :: c', h => by
    unfold cD at h
    rw [List.map_cons, List.map_cons] at h
    injection h with h1 h2
    injection h1 with h3 h4
    injection h3 with h3
    injection h4 with h4
    have h3' : n = n' := h3
    have h4' : i = i' := h4
    rw [h3', h4', cD_inj h2]
theorem hand_term {R : Dat → Dat → Prop} {c : Coef} {k : Int} {d' : Dat} (h : HndS (HndS R) (tDat c k) d') : ∃ c', IsTerm d' c' k ∧ HC c c' := by
  obtain ⟨h1, h2⟩ : isSq d' = true ∧ Pair2 (HndS R) [.dct (cD c), .int k] (items d') := h
  generalize hi : items d' = ys at h2
  cases h2 with
  | cons hx ht =>
    cases ht with
    | cons hy ht =>
      cases ht
      obtain ⟨c0, c', e1, rfl, hp⟩ : ∃ c0 c', Dat.dct (cD c) = .dct (cD c0) ∧ _ = Dat.dct (cD c') ∧ (c'.Perm c0 ∨ c'.Perm (c0 ++ [(("zero0" : Str), (0 : Int))])) := hx
      have hk : _ = Dat.int k := hy
      subst hk
      have : c = c0 := cD_inj (by injection e1)
      subst this
      exact ⟨c', ⟨h1, hi⟩, hp⟩
theorem hand_tst {ts : Tst} {d' : Dat} (h : HndS (HndS (HndS fun _ _ => False)) (tstDat ts) d') : ∃ c', IsTst d' (setC c' ts) ∧ HC (coef ts) c' := by
  cases ts with
  | row c k =>
    obtain ⟨h1, h2⟩ : isSq d' = true ∧ Pair2 (HndS (HndS fun _ _ => False)) [.str "row", tDat c k] (items d') := h
    generalize hi : items d' = ys at h2
    cases h2 with
    | cons hx ht =>
      cases ht with
      | cons hy ht =>
        cases ht
        have hk : _ = Dat.str "row" := hx
        subst hk
        obtain ⟨c', h3, h4⟩ := hand_term hy
        exact ⟨c', ⟨h1, _, hi, h3⟩, h4⟩
  | same c k =>
    obtain ⟨h1, h2⟩ : isSq d' = true ∧ Pair2 (HndS (HndS fun _ _ => False)) [.str "same", tDat c k] (items d') := h
    generalize hi : items d' = ys at h2
    cases h2 with
    | cons hx ht =>
      cases ht with
      | cons hy ht =>
        cases ht
        have hk : _ = Dat.str "same" := hx
        subst hk
        obtain ⟨c', h3, h4⟩ := hand_term hy
        exact ⟨c', ⟨h1, _, hi, h3⟩, h4⟩
  | div m c k =>
    obtain ⟨h1, h2⟩ : isSq d' = true ∧ Pair2 (HndS (HndS fun _ _ => False)) [.str "by", .int m, tDat c k] (items d') := h
    generalize hi : items d' = ys at h2
    cases h2 with
    | cons hx ht =>
      cases ht with
      | cons hy ht =>
        cases ht with
        | cons hz ht =>
          cases ht
          have hk : _ = Dat.str "by" := hx
          subst hk
          have hk : _ = Dat.int m := hy
          subst hk
          obtain ⟨c', h3, h4⟩ := hand_term hz
          exact ⟨c', ⟨h1, _, hi, h3⟩, h4⟩
end K8

set_option Elab.async false
set_option linter.all false
set_option maxRecDepth 100000
set_option maxHeartbeats 4000000
namespace K8
open PySem PySem.Spec PyProof.Rows L2 M8
/-! what is written in the text, with names of which it is known what they show -/
structure GamAt (K : PySem.W.Frag) (N : List Addr) (U : List Nat) (Γ : Nat → Dat) (σ : L2.St) (H : Hp) : Prop where
  al : ∀ b ∈ N, H b ≠ none
  vr : ∀ i ∈ U, ∃ v, σ[i]? = some (some v) ∧ SeeF K (sansL N H) v (Γ i)
theorem GamAt.ex {K : PySem.W.Frag} {N : List Addr} {U : List Nat} {Γ : Nat → Dat} {σ : L2.St} {H H' : Hp} (g : GamAt K N U Γ σ H) (e : Ex H H') : GamAt K N U Γ σ H' := by
  refine ⟨fun b hb => ?_, fun i hi => ?_⟩
  · cases q : H b with
    | none => exact absurd q (g.al b hb)
    | some o => rw [e _ _ q]; simp
  · obtain ⟨v, h1, h2⟩ := g.vr i hi
    exact ⟨v, h1, h2.mono (sansL_mono fun b o n h => ⟨n, e _ _ h⟩)⟩
def tL (K : PySem.W.Frag) (U : List Nat) (F : (Nat → Dat) → Dat) : TE := fun σ H Q => ∃ N Γ, GamAt K N U Γ σ H ∧ ∀ v H', Ex H H' → SeeF K (sansL N H') v (F Γ) → Q v H'
def tLs (K : PySem.W.Frag) (U : List Nat) (n : Nat) (F : (Nat → Dat) → List Dat) : TA := fun σ H Q => ∃ N Γ, GamAt K N U Γ σ H ∧ ∀ vs H', vs.length = n → Ex H H' → SeeL (FnK K) (sansL N H') vs (F Γ) → Q vs H'
theorem newL {N : List Addr} {H : Hp} {p : Addr} (al : ∀ b ∈ N, H b ≠ none) (hp : H p = none) : p ∉ N := fun z => al p z hp
section
variable {X : Cx} {K : PySem.W.Frag} {U : List Nat}
theorem litE {e : Expr} {F : (Nat → Dat) → Dat} (h : PE X e (tL K U F)) : PE X e (tL K U F) := h
theorem litA {es : List Expr} {n : Nat} {F : (Nat → Dat) → List Dat} (h : PA X es (tLs K U n F)) : PA X es (tLs K U n F) := h
theorem PE.lC {e : Expr} {v : V} {d : Dat} (h : PE X e (tC v)) (hs : ∀ H, SeeF K H v d) : PE X e (tL K U fun _ => d) := ⟨fun pins s σ H Q I q => by
  obtain ⟨N, Γ, g, q⟩ := q
  exact h.run pins s σ H Q I (q _ _ (Ex.refl _) (hs _))⟩
theorem PE.lV {e : Expr} {i : Nat} (h : PE X e (tVar i)) (hi : i ∈ U) : PE X e (tL K U fun Γ => Γ i) := ⟨fun pins s σ H Q I q => h.run pins s σ H Q I (by
  obtain ⟨N, Γ, g, q⟩ := q
  obtain ⟨v, h1, h2⟩ := g.vr i hi
  exact ⟨v, h1, q _ _ (Ex.refl _) h2⟩)⟩
theorem lz_neg {i : Int} {p1 : Pos} {k : Nat} {pos : Pos} : PE X (.UnaryOp .USub (.Constant (.int i) k p1) pos) (tL K U fun _ => .int (-i)) := ⟨fun pins s σ H Q I q => by
  obtain ⟨N, Γ, g, q⟩ := q
  exact (pe_un un_neg pe_int).run pins s σ H Q I ⟨i, rfl, q _ _ (Ex.refl _) (.int _)⟩⟩
theorem lz_nil : PA X [] (tLs K U 0 fun _ => []) := ⟨fun pos pins s σ H Q I q => by
  obtain ⟨N, Γ, g, q⟩ := q
  exact pa_nil.run pos pins s σ H Q I (q _ _ rfl (Ex.refl _) .nil)⟩
theorem lz_cons {e : Expr} {es : List Expr} {d : (Nat → Dat) → Dat} {ds : (Nat → Dat) → List Dat} (h : PE X e (tL K U d)) {n : Nat} (hr : PA X es (tLs K U n ds)) (hs : starEach (e :: es) X.env = (false, eval e X.env) :: starEach es X.env := by rfl) : PA X (e :: es) (tLs K U (n + 1) fun Γ => d Γ :: ds Γ) :=
  ⟨fun pos pins s σ H Q I q => by
    obtain ⟨N, Γ, g, q⟩ := q
    exact (pa_cons h hr hs).run pos pins s σ H Q I ⟨N, Γ, g, fun v H1 e1 s1 => ⟨N, Γ, g.ex e1, fun vs H2 hl e2 s2 => q _ _ (by rw [List.length_cons, hl]) (e1.trans e2) (.cons (s1.mono (sansL_mono fun b o n h => ⟨n, e2 _ _ h⟩)) s2)⟩⟩⟩
theorem big6 (n : Nat) (h : n ≤ 1000000) : n ≤ sizeLine := by rw [sizeLine_eq]; omega
theorem lz_tup {es : List Expr} {ds : (Nat → Dat) → List Dat} {x1} {pos : Pos} {n : Nat} (h : PA X es (tLs K U n ds)) (hn : n ≤ 1000000 := by decide) : PE X (.Tuple es x1 pos) (tL K U fun Γ => .tup (ds Γ)) :=
  ⟨fun pins s σ H Q I q => by
    obtain ⟨N, Γ, g, q⟩ := q
    exact (pe_tup h).run pins s σ H Q I ⟨N, Γ, g, fun vs H1 hl e1 s1 => ⟨by rw [hl]; exact big6 _ hn, fun p hp => q _ _ (e1.mut (e1.free hp)) (.tup (sansL_at (newL (g.ex e1).al hp) upd_same) (SeeL.mono (sansL_mono fun b o n h => ⟨n, by rw [upd_ne (ne_of_none h hp)]; exact h⟩) s1))⟩⟩⟩
theorem lz_lst {es : List Expr} {ds : (Nat → Dat) → List Dat} {pos : Pos} {n : Nat} (h : PA X es (tLs K U n ds)) (hn : n ≤ 1000000 := by decide) : PE X (.List es pos) (tL K U fun Γ => .lst (ds Γ)) :=
  ⟨fun pins s σ H Q I q => by
    obtain ⟨N, Γ, g, q⟩ := q
    exact (pe_lst h).run pins s σ H Q I ⟨N, Γ, g, fun vs H1 hl e1 s1 => ⟨by rw [hl]; exact big6 _ hn, fun p hp => q _ _ (e1.mut (e1.free hp)) (.lst (sansL_at (newL (g.ex e1).al hp) upd_same) (SeeL.mono (sansL_mono fun b o n h => ⟨n, by rw [upd_ne (ne_of_none h hp)]; exact h⟩) s1))⟩⟩⟩
theorem lz_dnil {pos : Pos} : PE X (.Dict [] [] pos) (tL K U fun _ => .dct []) := ⟨fun pins s σ H Q I q => by
  obtain ⟨N, Γ, g, q⟩ := q
  exact pe_dnewK.run pins s σ H Q I (fun p hp => q _ _ (Ex.new hp) (.dct (sansL_at (newL g.al hp) upd_same) .nil))⟩
theorem lz_d1 {pos : Pos} {k e : Expr} {key : Key} {v : V} {d : Dat} (hk : PE X k (tC (kV key))) (hv : PE X e (tC v)) (hs : ∀ H, SeeF K H v d) : PE X (.Dict [some k] [e] pos) (tL K U fun _ => .dct [(key, d)]) := by
  refine ⟨fun pins s σ H Q I q => (pe_disp (pps_cons hk hv pps_nil) rfl rfl (by simp) (by simp)).run pins s σ H Q I ?_⟩
  obtain ⟨N, Γ, g, q⟩ := q
  intro p hp
  refine ⟨upd_same, [(key, v)], rfl, by simp, q _ _ ((Ex.new hp).mut hp) (.dct (sansL_at (newL g.al hp) upd_same) (.cons (hs _) .nil))⟩
end
section
variable {P : Program} {w : World} {K : PySem.W.Frag} {mg : Str → Option Value} {base : Heap}
def tmD : Dat := .tup [.dct [(.inr "a", .int 1)], .int 0]
def odds7 : List Dat := [.tup [.dct [(.inr "1a", .int 1)], .int 0], .tup [.dct [(.inr "or", .int 1)], .int 0], .tup [.dct [(.inr "a", .bl true)], .int 0], .tup [.dct [(.inr "a", .int 1)], .bl true], .tup [.dct [(.inr "a", .str "1")], .int 0], .tup [.dct [(.inr "a", .int 1)]], .lst [.lst [], .int 0]]
def perOdd (o : Dat) : List Dat := [.tup [.str "row", o], .lst [.str "same", o], .tup [.str "by", .int 2, o], .tup [.str "not", .tup [.str "row", o]]]
def ms6 : List Dat := [.int 0, .int (-1), .bl true, .str "2", .non, .lst [.int 2]]
def nb1 : List Dat := [.non, .int 5, .str "row", .bl true, .tup [], .lst [], .dct [], .tup [.str "row"], .tup [.str "row", .non]]
def nb2 : List Dat := [.tup [.str "row", .tup [.dct [(.inl 5, .int 1)], .int 0]], .tup [.str "row", .tup [.dct [(.inr "a", .non)], .int 0]], .tup [.str "same", .tup [.dct [(.inr "ninesigns", .int 1)], .int 0]]]
structure NbI (K : PySem.W.Frag) (H : Hp) (g : Dat) (L : Addr) (v t o : V) (ds : List Dat) (σ : L2.St) (H' : Hp) : Prop where
  ex : ∃ (x y : Option V) (xs : List V), σ = [some v, some t, some (.ref L), some o, x, y] ∧ Ex H H' ∧ H' L = some (.lst xs) ∧ SeeL (FnK K) (sansL [L] H') xs ds ∧ SeeF K (sansL [L] H') v g ∧ SeeF K (sansL [L] H') t tmD ∧ SeeF K (sansL [L] H') o (.lst odds7)
theorem mono1 {K : PySem.W.Frag} {L : Addr} {H H' : Hp} {v : V} {d : Dat} (e : Ex H H') (h : SeeF K (sansL [L] H) v d) : SeeF K (sansL [L] H') v d := h.mono (sansL_mono fun _ _ n h => ⟨n, e _ _ h⟩)
theorem mono2 {K : PySem.W.Frag} {L : Addr} {H : Hp} {o : HO} {v : V} {d : Dat} (h : SeeF K (sansL [L] H) v d) : SeeF K (sansL [L] (upd H L o)) v d := h.mono (sansL_mono fun b _ n h => ⟨n, by rw [upd_ne (by simpa using n)]; exact h⟩)
theorem mono1L {K : PySem.W.Frag} {L : Addr} {H H' : Hp} {v : List V} {d : List Dat} (e : Ex H H') (h : SeeL (FnK K) (sansL [L] H) v d) : SeeL (FnK K) (sansL [L] H') v d := h.mono (sansL_mono fun _ _ n h => ⟨n, e _ _ h⟩)
theorem mono2L {K : PySem.W.Frag} {L : Addr} {H : Hp} {o : HO} {v : List V} {d : List Dat} (h : SeeL (FnK K) (sansL [L] H) v d) : SeeL (FnK K) (sansL [L] (upd H L o)) v d := h.mono (sansL_mono fun b _ n h => ⟨n, by rw [upd_ne (by simpa using n)]; exact h⟩)
/-- one more at the end -/
theorem NbI.step {K : PySem.W.Frag} {H : Hp} {g : Dat} {L : Addr} (hL : H L = none) {ds es : List Dat} {v t o : V} {x y : Option V} {xs ys : List V} {H1 H2 : Hp} (e : Ex H H1) (h : H1 L = some (.lst xs)) (s : SeeL (FnK K) (sansL [L] H1) xs ds) (hv : SeeF K (sansL [L] H1) v g) (ht : SeeF K (sansL [L] H1) t tmD) (ho : SeeF K (sansL [L] H1) o (.lst odds7))
    (e2 : Ex H1 H2) (s2 : SeeL (FnK K) (sansL [L] H2) ys es) : NbI K H g L v t o (ds ++ es) [some v, some t, some (.ref L), some o, x, y] (upd H2 L (.lst (xs ++ ys))) :=
  ⟨_, _, _, rfl, (e.trans e2).mut hL, upd_same, SeeL.append (mono2L (mono1L e2 s)) (mono2L s2), mono2 (mono1 e2 hv), mono2 (mono1 e2 ht), mono2 (mono1 e2 ho)⟩
def nb3 (g : Dat) : List Dat := [.tup [.str "by", .int 2], .tup [.str "by", tmD, .int 2], .tup [.str "not"], .tup [.str "not", .non], .tup [.str "not", g, g], .tup [.str "all", .non], .tup [.str "all", .dct []]]
def noB (g : Dat) : List Dat := ((((((nb1 ++ (odds7.map perOdd).flatten) ++ [.tup [.str "row", tmD, .int 1]]) ++ nb2) ++ [.tup [.str "row", .tup [tmD, .int 0]]]) ++ (ms6.map fun m => .tup [.str "by", m, tmD])) ++ nb3 g) ++ [.tup [.str "any", .str "ab"], .tup [.str "all", .lst [.non]], .tup [.str "any", .lst [g, .int 5]], .tup [.str "all", g, g]] ++ [.tup [.str "none", .lst []], .tup [.str "rows", tmD]] ++
  [.tup [.int 0, .lst [g]], .tup [.str "all", .lst [g, .tup [.str "any", .lst [g, .tup [.str "by", .int 0, tmD]]]]], .lst [.lst [.str "row"], tmD]]
def spNoB (K : PySem.W.Frag) (fa : Addr) : Sp := fun vs H Q _ => ∃ v g, vs = [v] ∧ SeeF K H v g ∧ ∀ R zs H', H R = none → Ex H H' → H' R = some (.lst zs) → SeeL (FnK K) H' zs (noB g ++ [.fn fa]) → Q (.ref R) H'
abbrev s__law_w_no_bodies : Stmt := top 59
theorem sc__law_w_no_bodies : FnScope ["good", "term", "found", "odds", "odd", "m"] ["good"] (defScope s__law_w_no_bodies) := ⟨rfl, rfl, rfl, by decide +kernel, rfl, by decide +kernel, by decide +kernel⟩
theorem ok__law_w_no_bodies (T : Txt K mg) (a : At K mg "_law_w_no_bodies" s__law_w_no_bodies ["good"]) {fa : Addr} (hfa : mg "_law_w_no_bodies" = some (.ref fa)) (hkf : PySem.W.keepIn K (.ref fa) = true) (hfn : FnK K fa) : Ok P w K mg base CX0 1 "_law_w_no_bodies" ["good"] (spNoB K fa) := a.ok fun f fd F => by
  refine F.ok sc__law_w_no_bodies (fun vs H Q E h => ?_) (fun cdv A outer s H vs Q E hr h => ?_)
  · obtain ⟨v, g, rfl, _⟩ := h; rfl
  · obtain ⟨v, g, rfl, hv, q⟩ := h
    refine ⟨_, (pss_cons (ps_par (i := 1) (j := 2) rfl sc__law_w_no_bodies.nd rfl rfl (by decide) rfl rfl (pa_cons (litE (K := K) (U := []) (lz_tup (lz_cons (lz_d1 (key := .inr "a") pe_str pe_int (fun _ => by constructor)) (lz_cons (PE.lC pe_int (fun _ => .int _)) lz_nil)))) (pa_cons (pe_lst (litA (K := K) (U := []) (lz_cons (PE.lC pe_non (fun _ => .non)) (lz_cons (PE.lC pe_int (fun _ => .int _)) (lz_cons (PE.lC pe_str (fun _ => .str _)) (lz_cons (PE.lC pe_bl (fun _ => .bl _)) (lz_cons (lz_tup lz_nil) (lz_cons (lz_lst lz_nil) (lz_cons lz_dnil (lz_cons (lz_tup (lz_cons (PE.lC pe_str (fun _ => .str _)) lz_nil)) (lz_cons (lz_tup (lz_cons (PE.lC pe_str (fun _ => .str _)) (lz_cons (PE.lC pe_non (fun _ => .non)) lz_nil))) lz_nil))))))))))) pa_nil)) rfl)
      (pss_cons (ps_set (i := 3) sc__law_w_no_bodies.nd rfl (Or.inl rfl) (litE (K := K) (U := []) (lz_lst (lz_cons (lz_tup (lz_cons (lz_d1 (key := .inr "1a") pe_str pe_int (fun _ => by constructor)) (lz_cons (PE.lC pe_int (fun _ => .int _)) lz_nil))) (lz_cons (lz_tup (lz_cons (lz_d1 (key := .inr "or") pe_str pe_int (fun _ => by constructor)) (lz_cons (PE.lC pe_int (fun _ => .int _)) lz_nil))) (lz_cons (lz_tup (lz_cons (lz_d1 (key := .inr "a") pe_str pe_bl (fun _ => by constructor)) (lz_cons (PE.lC pe_int (fun _ => .int _)) lz_nil))) (lz_cons (lz_tup (lz_cons (lz_d1 (key := .inr "a") pe_str pe_int (fun _ => by constructor)) (lz_cons (PE.lC pe_bl (fun _ => .bl _)) lz_nil))) (lz_cons (lz_tup (lz_cons (lz_d1 (key := .inr "a") pe_str pe_str (fun _ => by constructor)) (lz_cons (PE.lC pe_int (fun _ => .int _)) lz_nil))) (lz_cons (lz_tup (lz_cons (lz_d1 (key := .inr "a") pe_str pe_int (fun _ => by constructor)) lz_nil)) (lz_cons (lz_lst (lz_cons (lz_lst lz_nil) (lz_cons (PE.lC pe_int (fun _ => .int _)) lz_nil))) lz_nil))))))))))
      (pss_cons (ps_for PassesOwn.never rfl (pi_list (pv 3)) (pg_name (i := 4) sc__law_w_no_bodies.nd rfl (Or.inl rfl)) (pss_one (ps_expr (pe_bmK (K := K) rfl (pe_bm PySem.F.plainAttrs_list PySem.F.slot_list_extend PySem.F.type_list_extend mt_extend (pv 2) (pa_cons (litE (K := K) (U := [4]) (lz_lst (lz_cons (lz_tup (lz_cons (PE.lC pe_str (fun _ => .str _)) (lz_cons (PE.lV (U := [4]) (pv 4) (by decide)) lz_nil))) (lz_cons (lz_lst (lz_cons (PE.lC pe_str (fun _ => .str _)) (lz_cons (PE.lV (U := [4]) (pv 4) (by decide)) lz_nil))) (lz_cons (lz_tup (lz_cons (PE.lC pe_str (fun _ => .str _)) (lz_cons (PE.lC pe_int (fun _ => .int _)) (lz_cons (PE.lV (U := [4]) (pv 4) (by decide)) lz_nil)))) (lz_cons (lz_tup (lz_cons (PE.lC pe_str (fun _ => .str _)) (lz_cons (lz_tup (lz_cons (PE.lC pe_str (fun _ => .str _)) (lz_cons (PE.lV (U := [4]) (pv 4) (by decide)) lz_nil))) lz_nil))) lz_nil)))))) pa_nil))))))
      (pss_cons (ps_expr (pe_bmK (K := K) rfl (pe_bm PySem.F.plainAttrs_list PySem.F.slot_list_append PySem.F.type_list_append mt_append (pv 2) (pa_cons (litE (K := K) (U := [1]) (lz_tup (lz_cons (PE.lC pe_str (fun _ => .str _)) (lz_cons (PE.lV (U := [1]) (pv 1) (by decide)) (lz_cons (PE.lC pe_int (fun _ => .int _)) lz_nil))))) pa_nil))))
      (pss_cons (ps_expr (pe_bmK (K := K) rfl (pe_bm PySem.F.plainAttrs_list PySem.F.slot_list_extend PySem.F.type_list_extend mt_extend (pv 2) (pa_cons (litE (K := K) (U := []) (lz_lst (lz_cons (lz_tup (lz_cons (PE.lC pe_str (fun _ => .str _)) (lz_cons (lz_tup (lz_cons (lz_d1 (key := .inl 5) pe_int pe_int (fun _ => by constructor)) (lz_cons (PE.lC pe_int (fun _ => .int _)) lz_nil))) lz_nil))) (lz_cons (lz_tup (lz_cons (PE.lC pe_str (fun _ => .str _)) (lz_cons (lz_tup (lz_cons (lz_d1 (key := .inr "a") pe_str pe_non (fun _ => by constructor)) (lz_cons (PE.lC pe_int (fun _ => .int _)) lz_nil))) lz_nil))) (lz_cons (lz_tup (lz_cons (PE.lC pe_str (fun _ => .str _)) (lz_cons (lz_tup (lz_cons (lz_d1 (key := .inr "ninesigns") pe_str pe_int (fun _ => by constructor)) (lz_cons (PE.lC pe_int (fun _ => .int _)) lz_nil))) lz_nil))) lz_nil))))) pa_nil))))
      (pss_cons (ps_expr (pe_bmK (K := K) rfl (pe_bm PySem.F.plainAttrs_list PySem.F.slot_list_append PySem.F.type_list_append mt_append (pv 2) (pa_cons (litE (K := K) (U := [1]) (lz_tup (lz_cons (PE.lC pe_str (fun _ => .str _)) (lz_cons (lz_tup (lz_cons (PE.lV (U := [1]) (pv 1) (by decide)) (lz_cons (PE.lC pe_int (fun _ => .int _)) lz_nil))) lz_nil)))) pa_nil))))
      (pss_cons (ps_for PassesOwn.never rfl (pi_tup (litE (K := K) (U := []) (lz_tup (lz_cons (PE.lC pe_int (fun _ => .int _)) (lz_cons (lz_neg) (lz_cons (PE.lC pe_bl (fun _ => .bl _)) (lz_cons (PE.lC pe_str (fun _ => .str _)) (lz_cons (PE.lC pe_non (fun _ => .non)) (lz_cons (lz_lst (lz_cons (PE.lC pe_int (fun _ => .int _)) lz_nil)) lz_nil))))))))) (pg_name (i := 5) sc__law_w_no_bodies.nd rfl (Or.inl rfl)) (pss_one (ps_expr (pe_bmK (K := K) rfl (pe_bm PySem.F.plainAttrs_list PySem.F.slot_list_append PySem.F.type_list_append mt_append (pv 2) (pa_cons (litE (K := K) (U := [1, 5]) (lz_tup (lz_cons (PE.lC pe_str (fun _ => .str _)) (lz_cons (PE.lV (U := [1, 5]) (pv 5) (by decide)) (lz_cons (PE.lV (U := [1, 5]) (pv 1) (by decide)) lz_nil))))) pa_nil))))))
      (pss_cons (ps_expr (pe_bmK (K := K) rfl (pe_bm PySem.F.plainAttrs_list PySem.F.slot_list_extend PySem.F.type_list_extend mt_extend (pv 2) (pa_cons (litE (K := K) (U := [0, 1]) (lz_lst (lz_cons (lz_tup (lz_cons (PE.lC pe_str (fun _ => .str _)) (lz_cons (PE.lC pe_int (fun _ => .int _)) lz_nil))) (lz_cons (lz_tup (lz_cons (PE.lC pe_str (fun _ => .str _)) (lz_cons (PE.lV (U := [0, 1]) (pv 1) (by decide)) (lz_cons (PE.lC pe_int (fun _ => .int _)) lz_nil)))) (lz_cons (lz_tup (lz_cons (PE.lC pe_str (fun _ => .str _)) lz_nil)) (lz_cons (lz_tup (lz_cons (PE.lC pe_str (fun _ => .str _)) (lz_cons (PE.lC pe_non (fun _ => .non)) lz_nil))) (lz_cons (lz_tup (lz_cons (PE.lC pe_str (fun _ => .str _)) (lz_cons (PE.lV (U := [0, 1]) (pv 0) (by decide)) (lz_cons (PE.lV (U := [0, 1]) (pv 0) (by decide)) lz_nil)))) (lz_cons (lz_tup (lz_cons (PE.lC pe_str (fun _ => .str _)) (lz_cons (PE.lC pe_non (fun _ => .non)) lz_nil))) (lz_cons (lz_tup (lz_cons (PE.lC pe_str (fun _ => .str _)) (lz_cons lz_dnil lz_nil))) lz_nil))))))))) pa_nil))))
      (pss_cons (ps_expr (pe_bmK (K := K) rfl (pe_bm PySem.F.plainAttrs_list PySem.F.slot_list_extend PySem.F.type_list_extend mt_extend (pv 2) (pa_cons (litE (K := K) (U := [0]) (lz_lst (lz_cons (lz_tup (lz_cons (PE.lC pe_str (fun _ => .str _)) (lz_cons (PE.lC pe_str (fun _ => .str _)) lz_nil))) (lz_cons (lz_tup (lz_cons (PE.lC pe_str (fun _ => .str _)) (lz_cons (lz_lst (lz_cons (PE.lC pe_non (fun _ => .non)) lz_nil)) lz_nil))) (lz_cons (lz_tup (lz_cons (PE.lC pe_str (fun _ => .str _)) (lz_cons (lz_lst (lz_cons (PE.lV (U := [0]) (pv 0) (by decide)) (lz_cons (PE.lC pe_int (fun _ => .int _)) lz_nil))) lz_nil))) (lz_cons (lz_tup (lz_cons (PE.lC pe_str (fun _ => .str _)) (lz_cons (PE.lV (U := [0]) (pv 0) (by decide)) (lz_cons (PE.lV (U := [0]) (pv 0) (by decide)) lz_nil)))) lz_nil)))))) pa_nil))))
      (pss_cons (ps_expr (pe_bmK (K := K) rfl (pe_bm PySem.F.plainAttrs_list PySem.F.slot_list_extend PySem.F.type_list_extend mt_extend (pv 2) (pa_cons (litE (K := K) (U := [1]) (lz_lst (lz_cons (lz_tup (lz_cons (PE.lC pe_str (fun _ => .str _)) (lz_cons (lz_lst lz_nil) lz_nil))) (lz_cons (lz_tup (lz_cons (PE.lC pe_str (fun _ => .str _)) (lz_cons (PE.lV (U := [1]) (pv 1) (by decide)) lz_nil))) lz_nil)))) pa_nil))))
      (pss_cons (ps_expr (pe_bmK (K := K) rfl (pe_bm PySem.F.plainAttrs_list PySem.F.slot_list_extend PySem.F.type_list_extend mt_extend (pv 2) (pa_cons (litE (K := K) (U := [0, 1]) (lz_lst (lz_cons (lz_tup (lz_cons (PE.lC pe_int (fun _ => .int _)) (lz_cons (lz_lst (lz_cons (PE.lV (U := [0, 1]) (pv 0) (by decide)) lz_nil)) lz_nil))) (lz_cons (lz_tup (lz_cons (PE.lC pe_str (fun _ => .str _)) (lz_cons (lz_lst (lz_cons (PE.lV (U := [0, 1]) (pv 0) (by decide)) (lz_cons (lz_tup (lz_cons (PE.lC pe_str (fun _ => .str _)) (lz_cons (lz_lst (lz_cons (PE.lV (U := [0, 1]) (pv 0) (by decide)) (lz_cons (lz_tup (lz_cons (PE.lC pe_str (fun _ => .str _)) (lz_cons (PE.lC pe_int (fun _ => .int _)) (lz_cons (PE.lV (U := [0, 1]) (pv 1) (by decide)) lz_nil)))) lz_nil))) lz_nil))) lz_nil))) lz_nil))) (lz_cons (lz_lst (lz_cons (lz_lst (lz_cons (PE.lC pe_str (fun _ => .str _)) lz_nil)) (lz_cons (PE.lV (U := [0, 1]) (pv 1) (by decide)) lz_nil))) lz_nil))))) pa_nil))))
      (pss_one (ps_ret (pe_op op_cat (pv 2) (pe_lst (pa_cons (pe_glob (v := .ref fa) rfl hfa rfl) pa_nil)))))))))))))))), ?_⟩
    refine ⟨[], fun _ => .non, ⟨fun _ h => by simp at h, fun _ h => by simp at h⟩, fun t H1 e1 s1 => ⟨[], fun _ => .non, ⟨fun _ h => by simp at h, fun _ h => by simp at h⟩, fun xs H2 hl e2 s2 => ⟨by rw [hl]; exact big6 _ (by decide), fun L hL => ⟨_, _, rfl, ?_⟩⟩⟩⟩
    have e12 := e1.trans e2
    have hL0 : H L = none := e12.free hL
    refine ⟨[L], fun _ => .non, ⟨fun b hb => by rw [show b = L by simpa using hb, upd_same]; simp, fun _ h => by simp at h⟩, fun o H3 e3 s3 => ?_⟩
    have toN : ∀ {v : V} {d : Dat}, SeeF K H2 v d → SeeF K (sansL [L] H3) v d := fun h => h.mono fun b o hb => sansL_at (by simpa using ne_of_none hb hL) (e3 _ _ (by rw [upd_ne (ne_of_none hb hL)]; exact hb))
    have toNL : ∀ {v : List V} {d : List Dat}, SeeL (FnK K) H2 v d → SeeL (FnK K) (sansL [L] H3) v d := fun h => h.mono fun b o hb => sansL_at (by simpa using ne_of_none hb hL) (e3 _ _ (by rw [upd_ne (ne_of_none hb hL)]; exact hb))
    have I0 : NbI K H g L v t o nb1 [some v, some t, some (.ref L), some o, none, none] H3 := ⟨none, none, xs, rfl, (Ex.mut e12 hL0).trans e3, e3 _ _ upd_same, toNL (SeeL.mono (sansL_ex _ _) s2), toN (hv.mono e12), toN ((See.mono (sansL_ex _ _) s1).mono e2), s3⟩
    obtain ⟨O, os, rfl, hO, hos⟩ : ∃ O os, o = .ref O ∧ sansL [L] H3 O = some (.lst os) ∧ SeeL (FnK K) (sansL [L] H3) os odds7 := by
      cases s3 with
      | lst ha t => exact ⟨_, _, rfl, ha, t⟩
    clear s3
    have atO : ∀ {H' : Hp}, SeeF K (sansL [L] H') (.ref O) (.lst odds7) → ∃ os', H' O = some (.lst os') := fun h => by
      cases h with
      | lst ha t => exact ⟨_, sansL_ex _ _ _ _ ha⟩
    -- what is put at the end
    have put : ∀ {ds es : List Dat} {x y : Option V} {xs : List V} {H1 H2 : Hp} {m : V} {R : V → Hp → Prop}, Ex H H1 → H1 L = some (.lst xs) → SeeL (FnK K) (sansL [L] H1) xs ds → SeeF K (sansL [L] H1) v g → SeeF K (sansL [L] H1) t tmD → SeeF K (sansL [L] H1) (.ref O) (.lst odds7) → xs.length ≤ 100000 → es.length ≤ 100 →
        Ex H1 H2 → SeeF K (sansL [L] H2) m (.lst es) → (∀ H3, NbI K H g L v t (.ref O) (ds ++ es) [some v, some t, some (.ref L), some (.ref O), x, y] H3 → Ex (sansL [L] H1) (sansL [L] H3) → R .non H3) → rExtend (.ref L) [m] H2 R := by
      intro ds es x y xs H1 H2 m R h1 h2 h3 h4 h5 h6 h7 h8 h9 h10 h11
      cases h10 with
      | @lst M ys _ hM hys =>
        have hl := hys.len
        refine ⟨L, M, xs, ys, rfl, rfl, h9 _ _ h2, sansL_ex _ _ _ _ hM, by rw [sizeLine_eq]; omega, h11 _ (NbI.step hL0 h1 h2 h3 h4 h5 h6 h9 hys) (sansL_mono fun b _ n h => ⟨n, by rw [upd_ne (by simpa using n)]; exact h9 _ _ h⟩)⟩
    have putA : ∀ {ds : List Dat} {e : Dat} {x y : Option V} {xs : List V} {H1 H2 : Hp} {m : V} {R : V → Hp → Prop}, Ex H H1 → H1 L = some (.lst xs) → SeeL (FnK K) (sansL [L] H1) xs ds → SeeF K (sansL [L] H1) v g → SeeF K (sansL [L] H1) t tmD → SeeF K (sansL [L] H1) (.ref O) (.lst odds7) → xs.length ≤ 100000 →
        Ex H1 H2 → SeeF K (sansL [L] H2) m e → (∀ H3, NbI K H g L v t (.ref O) (ds ++ [e]) [some v, some t, some (.ref L), some (.ref O), x, y] H3 → Ex (sansL [L] H1) (sansL [L] H3) → R .non H3) → rAppend (.ref L) [m] H2 R := by
      intro ds e x y xs H1 H2 m R h1 h2 h3 h4 h5 h6 h7 h9 h10 h11
      exact ⟨L, xs, m, rfl, rfl, h9 _ _ h2, by rw [sizeLine_eq]; omega, h11 _ (NbI.step (ys := [m]) hL0 h1 h2 h3 h4 h5 h6 h9 (.cons h10 .nil)) (sansL_mono fun b _ n h => ⟨n, by rw [upd_ne (by simpa using n)]; exact h9 _ _ h⟩)⟩
    dsimp only [tSeq, gName]
    refine tFor_of ?_
    refine ⟨_, rfl, O, rfl, ⟨_, SqL.of (sansL_ex _ _ _ _ hO)⟩, ?_⟩
    have len7 : ∀ n : Nat, ((odds7.take n).map perOdd).flatten.length ≤ 28 := fun n => by
      have : n < 8 ∨ 8 ≤ n := by omega
      rcases this with h | h
      · have : n = 0 ∨ n = 1 ∨ n = 2 ∨ n = 3 ∨ n = 4 ∨ n = 5 ∨ n = 6 ∨ n = 7 := by omega
        rcases this with rfl | rfl | rfl | rfl | rfl | rfl | rfl | rfl <;> decide
      · rw [List.take_of_length_le (by show 7 ≤ n; omega)]; decide
    have al : ∀ {H1 : Hp} {xs : List V}, H1 L = some (.lst xs) → ∀ b ∈ [L], H1 b ≠ none := fun h b hb => by rw [show b = L by simpa using hb, h]; simp
    refine for_itB (walk_list (xs := os)) (fun i σ H' => NbI K H g L v t (.ref O) (nb1 ++ ((odds7.take i).map perOdd).flatten) σ H' ∧ sansL [L] H' O = some (.lst os) ∧ SeeL (FnK K) (sansL [L] H') os odds7) ⟨by rw [List.take_zero, List.map_nil, List.flatten_nil, List.append_nil]; exact I0, hO, hos⟩ (fun i σ H' _ h => SqL.of (sansL_ex _ _ _ _ h.2.1)) ?_ ?_
    · rintro i z σ H1 H1' hi ⟨⟨x, y, xs, rfl, h1, h2, h3, h4, h5, h6⟩, hO1, hos1⟩ ⟨rfl, hz⟩
      obtain ⟨od, hod, sod⟩ := hos1.getV hz
      refine ⟨_, rfl, .inl ⟨rfl, _, SqL.of h2⟩, [L], fun _ => od, ⟨al h2, fun i hi => ⟨z, by rw [show i = 4 by simpa using hi]; rfl, sod⟩⟩, fun m H2 e2 s2 => ?_⟩
      dsimp only [tNil]
      refine put (x := some z) (y := y) h1 h2 h3 h4 h5 h6 (by have := h3.len; rw [this, List.length_append]; have := len7 i; show 9 + _ ≤ _; omega) (show (perOdd od).length ≤ 100 by show 4 ≤ 100; decide) e2 s2 fun H3 n e3 => ⟨?_, e3 _ _ hO1, SeeL.mono e3 hos1⟩
      rw [List.take_add_one, hod, List.map_append, List.flatten_append, ← List.append_assoc]
      simpa using n
    · rintro σ H1 ⟨⟨x, y, xs, rfl, h1, h2, h3, h4, h5, h6⟩, hO1, hos1⟩
      have hol : os.length = 7 := hos.len
      rw [hol, show odds7.take 7 = odds7 from rfl] at h3
      have l1 : xs.length = 37 := h3.len
      refine ⟨_, rfl, .inl ⟨rfl, _, SqL.of h2⟩, [L], fun _ => tmD, ⟨al h2, fun i hi => ⟨t, by rw [show i = 1 by simpa using hi]; rfl, h5⟩⟩, fun m H2 e2 s2 => ?_⟩
      dsimp only [tNil]
      refine putA (x := x) (y := y) h1 h2 h3 h4 h5 h6 (by omega) e2 s2 ?_
      clear h1 h2 h3 h4 h5 h6 hO1 hos1 e2 s2
      rintro H3 ⟨_, _, xs, _, h1, h2, h3, h4, h5, h6⟩ _
      have l1 : xs.length = 38 := h3.len
      refine ⟨_, rfl, .inl ⟨rfl, _, SqL.of h2⟩, [L], fun _ => .non, ⟨al h2, fun _ h => by simp at h⟩, fun m H2 e2 s2 => ?_⟩
      dsimp only [tNil]
      refine put (x := x) (y := y) (es := nb2) h1 h2 h3 h4 h5 h6 (by omega) (by decide) e2 s2 ?_
      clear h1 h2 h3 h4 h5 h6 e2 s2
      rintro H3 ⟨_, _, xs, _, h1, h2, h3, h4, h5, h6⟩ _
      have l1 : xs.length = 41 := h3.len
      refine ⟨_, rfl, .inl ⟨rfl, _, SqL.of h2⟩, [L], fun _ => tmD, ⟨al h2, fun i hi => ⟨t, by rw [show i = 1 by simpa using hi]; rfl, h5⟩⟩, fun m H2 e2 s2 => ?_⟩
      dsimp only [tNil]
      refine putA (x := x) (y := y) h1 h2 h3 h4 h5 h6 (by omega) e2 s2 ?_
      clear h1 h2 h3 h4 h5 h6 e2 s2
      rintro H3 ⟨_, _, xs, _, h1, h2, h3, h4, h5, h6⟩ _
      have l1 : xs.length = 42 := h3.len
      dsimp only [tSeq, gName]
      refine tFor_of ?_
      refine ⟨[L], fun _ => .non, ⟨al h2, fun _ h => by simp at h⟩, fun tm' H4 e4 s4 => ?_⟩
      obtain ⟨M, ms, rfl, hM, hms⟩ : ∃ M ms, tm' = .ref M ∧ sansL [L] H4 M = some (.tup ms) ∧ SeeL (FnK K) (sansL [L] H4) ms ms6 := by
        cases s4 with
        | tup ha t => exact ⟨_, _, rfl, ha, t⟩
      have hml : ms.length = 6 := hms.len
      refine ⟨M, rfl, ⟨_, SqT.of (sansL_ex _ _ _ _ hM)⟩, ?_⟩
      refine for_itB (walk_tup (xs := ms)) (fun i σ H' => NbI K H g L v t (.ref O) (((((nb1 ++ (odds7.map perOdd).flatten) ++ [.tup [.str "row", tmD, .int 1]]) ++ nb2) ++ [.tup [.str "row", .tup [tmD, .int 0]]]) ++ (ms6.take i).map fun m => .tup [.str "by", m, tmD]) σ H' ∧ sansL [L] H' M = some (.tup ms) ∧ SeeL (FnK K) (sansL [L] H') ms ms6)
        ⟨⟨x, y, xs, rfl, h1.trans e4, e4 _ _ h2, by rw [List.take_zero, List.map_nil, List.append_nil]; exact mono1L e4 h3, mono1 e4 h4, mono1 e4 h5, mono1 e4 h6⟩, hM, hms⟩ (fun i σ H' _ h => SqT.of (sansL_ex _ _ _ _ h.2.1)) ?_ ?_
      · rintro i z σ H1 H1' hi ⟨⟨x, y, xs, rfl, h1, h2, h3, h4, h5, h6⟩, hM1, hms1⟩ ⟨rfl, hz⟩
        obtain ⟨od, hod, sod⟩ := hms1.getV hz
        refine ⟨_, rfl, .inl ⟨rfl, _, SqL.of h2⟩, [L], fun i => if i = 1 then tmD else od, ⟨al h2, fun i hi => ?_⟩, fun m H2 e2 s2 => ?_⟩
        · rcases List.mem_cons.mp hi with rfl | hi
          · exact ⟨t, rfl, h5⟩
          · rw [show i = 5 by simpa using hi]; exact ⟨z, rfl, sod⟩
        · have l2 : xs.length ≤ 42 + 6 := by
            have := h3.len
            rw [this, List.length_append, List.length_map, List.length_take]
            show 42 + min i 6 ≤ _; omega
          dsimp only [tNil]
          refine putA (x := x) (y := some z) h1 h2 h3 h4 h5 h6 (by omega) e2 s2 fun H3 n e3 => ⟨?_, e3 _ _ hM1, SeeL.mono e3 hms1⟩
          rw [List.take_add_one, hod, List.map_append, ← List.append_assoc]
          exact n
      · rintro σ H1 ⟨⟨x, y, xs, rfl, h1, h2, h3, h4, h5, h6⟩, hM1, hms1⟩
        rw [hml, show ms6.take 6 = ms6 from rfl] at h3
        have l1 : xs.length = 48 := h3.len
        refine ⟨_, rfl, .inl ⟨rfl, _, SqL.of h2⟩, [L], fun i => if i = 0 then g else tmD, ⟨al h2, fun i hi => ?_⟩, fun m H2 e2 s2 => ?_⟩
        rotate_left
        dsimp only [tNil]
        refine put (x := x) (y := y) (es := nb3 g) h1 h2 h3 h4 h5 h6 (by omega) (by show 7 ≤ 100; decide) e2 s2 ?_
        rotate_left
        · rcases List.mem_cons.mp hi with rfl | hi
          · exact ⟨v, rfl, h4⟩
          · rw [show i = 1 by simpa using hi]; exact ⟨t, rfl, h5⟩
        clear h1 h2 h3 h4 h5 h6 hM1 hms1 e2 s2
        rintro H3 ⟨_, _, xs, _, h1, h2, h3, h4, h5, h6⟩ _
        have l1 : xs.length = 55 := h3.len
        refine ⟨_, rfl, .inl ⟨rfl, _, SqL.of h2⟩, [L], fun i => g, ⟨al h2, fun i hi => ⟨v, by rw [show i = 0 by simpa using hi]; rfl, h4⟩⟩, fun m H2 e2 s2 => ?_⟩
        dsimp only [tNil]
        refine put (x := x) (y := y) h1 h2 h3 h4 h5 h6 (by omega) (by show 4 ≤ 100; decide) e2 s2 ?_
        clear h1 h2 h3 h4 h5 h6 e2 s2
        rintro H3 ⟨_, _, xs, _, h1, h2, h3, h4, h5, h6⟩ _
        have l1 : xs.length = 59 := h3.len
        refine ⟨_, rfl, .inl ⟨rfl, _, SqL.of h2⟩, [L], fun i => tmD, ⟨al h2, fun i hi => ⟨t, by rw [show i = 1 by simpa using hi]; rfl, h5⟩⟩, fun m H2 e2 s2 => ?_⟩
        dsimp only [tNil]
        refine put (x := x) (y := y) h1 h2 h3 h4 h5 h6 (by omega) (by show 2 ≤ 100; decide) e2 s2 ?_
        clear h1 h2 h3 h4 h5 h6 e2 s2
        rintro H3 ⟨_, _, xs, _, h1, h2, h3, h4, h5, h6⟩ _
        have l1 : xs.length = 61 := h3.len
        refine ⟨_, rfl, .inl ⟨rfl, _, SqL.of h2⟩, [L], fun i => if i = 0 then g else tmD, ⟨al h2, fun i hi => ?_⟩, fun m H2 e2 s2 => ?_⟩
        rotate_left
        dsimp only [tNil]
        refine put (x := x) (y := y) h1 h2 h3 h4 h5 h6 (by omega) (by show 3 ≤ 100; decide) e2 s2 ?_
        rotate_left
        · rcases List.mem_cons.mp hi with rfl | hi
          · exact ⟨v, rfl, h4⟩
          · rw [show i = 1 by simpa using hi]; exact ⟨t, rfl, h5⟩
        clear h1 h2 h3 h4 h5 h6 e2 s2
        rintro H3 ⟨_, _, xs, _, h1, h2, h3, h4, h5, h6⟩ _
        have l1 : xs.length = 64 := h3.len
        refine ⟨_, rfl, by show 1 ≤ sizeLine; decide, fun W hW => ⟨L, W, xs, [.ref fa], rfl, rfl, by rw [upd_ne (ne_of_none h2 hW)]; exact h2, upd_same, by rw [l1]; exact big6 _ (by show 64 + 1 ≤ 1000000; decide), fun R hR => ?_⟩⟩
        have eW : Ex H (upd H3 W (.lst [.ref fa])) := h1.mut (h1.free hW)
        refine q R _ _ (eW.free hR) (eW.mut (eW.free hR)) upd_same ?_
        refine SeeL.append ?_ (.cons (.fn hfn) .nil)
        exact SeeL.mono ((Ex.new hW).mut (Ex.free (Ex.new hW) hR)) (SeeL.mono (sansL_ex _ _) h3)
end
end K8

set_option Elab.async false
set_option linter.all false
set_option maxRecDepth 100000
set_option maxHeartbeats 4000000
namespace K8
open PySem PySem.Spec PyProof.Rows L2 M8
/-! sums do not mind the order -/
theorem sum_perm {l m : List Int} (h : l.Perm m) : l.sum = m.sum := by
  induction h with
  | nil => rfl
  | cons x _ ih => rw [List.sum_cons, List.sum_cons, ih]
  | swap x y l => rw [List.sum_cons, List.sum_cons, List.sum_cons, List.sum_cons]; omega
  | trans _ _ a b => rw [a, b]
def lin (c : Coef) (cn : Coef) : Int := (c.map fun p => p.2 * co cn p.1).sum
theorem worth_lin (c : Coef) (k : Int) (cn : Coef) : worth c k cn = k + lin c cn := by
  unfold worth lin
  congr 1
  induction c with
  | nil => rfl
  | cons p c ih =>
    by_cases h : p.2 = 0
    · rw [List.filter_cons, if_neg (by simpa using h), List.map_cons, List.sum_cons, ih, h]; simp
    · rw [List.filter_cons, if_pos (by simpa using h), List.map_cons, List.map_cons, List.sum_cons, List.sum_cons, ih]
theorem canon_perm {c : Coef} (h : (keys c).Nodup) : (canon c).Perm (c.filter fun p => decide (p.2 ≠ 0)) := by
  have e : (c.filter fun p => decide (p.2 ≠ 0)) = ((c.filter fun p => decide (p.2 ≠ 0)).map (·.1)).map fun n => (n, co c n) := by
    rw [List.map_map]
    conv => lhs; rw [← List.map_id (c.filter fun p => decide (p.2 ≠ 0))]
    refine List.map_congr_left fun p hp => ?_
    have hm := (List.mem_filter.mp hp).1
    show p = (p.1, co c p.1)
    rw [co_of_mem (n := p.1) (i := p.2) h hm]
  rw [e]
  unfold canon nz
  exact (srt_perm _).map _
theorem lin_canon {c : Coef} (h : (keys c).Nodup) (cn : Coef) : lin (canon c) cn = lin c cn := by
  have h1 : lin (canon c) cn = ((c.filter fun p => decide (p.2 ≠ 0)).map fun p => p.2 * co cn p.1).sum := sum_perm ((canon_perm h).map _)
  rw [h1]
  have := worth_lin c 0 cn
  unfold worth at this
  omega
theorem so_canon {ts : Tst} (h : (keys (coef ts)).Nodup) (cn : Coef) : so cn (canonT ts) = so cn ts := by
  cases ts with
  | row c k => show decide (0 ≤ worth (canon c) k cn) = decide (0 ≤ worth c k cn); rw [worth_lin, worth_lin, lin_canon (c := c) h]
  | same c k => show decide (worth (canon c) k cn = 0) = decide (worth c k cn = 0); rw [worth_lin, worth_lin, lin_canon (c := c) h]
  | div m c k => show decide (worth (canon c) k cn % m = 0) = decide (worth c k cn % m = 0); rw [worth_lin, worth_lin, lin_canon (c := c) h]
theorem lin_mul (g : Int) (c cn : Coef) : lin (mapc (fun i => g * i) c) cn = g * lin c cn := by
  unfold lin mapc
  induction c with
  | nil => simp
  | cons p c ih =>
    simp only [List.map_cons, List.sum_cons] at ih ⊢
    rw [ih, Int.mul_add, Int.mul_assoc]

/-! ### bodies -/
inductive Bd where
  | t (ts : Tst) | neg (b : Bd) | grp (w : Bool) (bs : List Bd)
def kw (w : Bool) : Str := if w = true then "all" else "any"
/-- what a test comes to without its "not": told coefficients -/
noncomputable def rowN (c : Coef) (k : Int) : Bd := .t (.row (mapc (fun i => 0 - i) (canon c)) (0 - k - 1))
noncomputable def denT : Tst → Bd
  | .row c k => rowN c k
  | .same c k => .grp false [.t (.row (canon c) (k - 1)), rowN c k]
  | .div m c k => .grp false ((List.range (m - 1).toNat).map fun (r : Nat) => .t (.div m (canon c) (k - ((r : Int) + 1))))
mutual
noncomputable def plainB (w : Bool) : Bd → Bd
  | .t ts => if w = true then .t (canonT ts) else denT ts
  | .neg b => plainB (!w) b
  | .grp k bs => .grp (k == w) (plainL w bs)
noncomputable def plainL (w : Bool) : List Bd → List Bd
  | [] => []
  | b :: bs => plainB w b :: plainL w bs
end
theorem plainL_map (w : Bool) : ∀ bs : List Bd, plainL w bs = bs.map (plainB w)
  | [] => by rw [plainL]; rfl
  | b :: bs => by rw [plainL, plainL_map w bs]; rfl
mutual
def soB (cn : Coef) : Bd → Bool
  | .t ts => so cn ts
  | .neg b => !soB cn b
  | .grp true bs => soAll cn bs
  | .grp false bs => soAny cn bs
def soAll (cn : Coef) : List Bd → Bool
  | [] => true
  | b :: bs => soB cn b && soAll cn bs
def soAny (cn : Coef) : List Bd → Bool
  | [] => false
  | b :: bs => soB cn b || soAny cn bs
end
theorem soAll_map (cn : Coef) : ∀ bs : List Bd, soAll cn bs = bs.all (soB cn)
  | [] => by rw [soAll]; rfl
  | b :: bs => by rw [soAll, soAll_map cn bs]; rfl
theorem soAny_map (cn : Coef) : ∀ bs : List Bd, soAny cn bs = bs.any (soB cn)
  | [] => by rw [soAny]; rfl
  | b :: bs => by rw [soAny, soAny_map cn bs]; rfl
/-- a body at most n deep, all of whose tests are as p says -/
def AllT (p : Tst → Prop) : Nat → Bd → Prop
  | 0, b => match b with | .t ts => p ts | _ => False
  | n + 1, b => match b with | .t ts => p ts | .neg b => AllT p n b | .grp _ bs => bs.length ≤ 60 ∧ ∀ b ∈ bs, AllT p n b
theorem AllT.tst {p : Tst → Prop} {n : Nat} {ts : Tst} : AllT p n (.t ts) ↔ p ts := by cases n <;> exact Iff.rfl
theorem AllT.imp {p q : Tst → Prop} (h : ∀ ts, p ts → q ts) : ∀ {n : Nat} {b : Bd}, AllT p n b → AllT q n b
  | 0, .t _, x => h _ x
  | 0, .neg _, x => x.elim
  | 0, .grp _ _, x => x.elim
  | _ + 1, .t _, x => h _ x
  | n + 1, .neg b, x => AllT.imp h (n := n) (b := b) x
  | n + 1, .grp _ bs, x => ⟨x.1, fun b hb => AllT.imp h (n := n) (x.2 b hb)⟩
theorem AllT.up {p : Tst → Prop} : ∀ {n m : Nat} {b : Bd}, n ≤ m → AllT p n b → AllT p m b
  | n, m, .t _, _, x => AllT.tst.mpr (AllT.tst.mp x)
  | 0, _, .neg _, _, x => x.elim
  | 0, _, .grp _ _, _, x => x.elim
  | n + 1, 0, .neg _, l, _ => absurd l (by omega)
  | n + 1, 0, .grp _ _, l, _ => absurd l (by omega)
  | n + 1, m + 1, .neg b, l, x => AllT.up (n := n) (m := m) (b := b) (by omega) x
  | n + 1, m + 1, .grp _ bs, l, x => ⟨x.1, fun b hb => AllT.up (n := n) (m := m) (by omega) (x.2 b hb)⟩
/-! just one of a body and its denied one is so -/
theorem lin_neg (c cn : Coef) : lin (mapc (fun i => 0 - i) c) cn = 0 - lin c cn := by
  have := lin_mul (-1) c cn
  have e : mapc (fun i => -1 * i) c = mapc (fun i => 0 - i) c := mapc_congr fun p _ => by omega
  rw [e] at this; omega
theorem so_rowN {c : Coef} (h : (keys c).Nodup) (k : Int) (cn : Coef) : soB cn (rowN c k) = !so cn (.row c k) := by
  show decide (0 ≤ worth (mapc (fun i => 0 - i) (canon c)) (0 - k - 1) cn) = !decide (0 ≤ worth c k cn)
  rw [worth_lin, worth_lin, lin_neg, lin_canon h, ← decide_not]
  exact decide_eq_decide.mpr (by omega)
theorem any_div {m x : Int} (hm : 0 < m) : ((List.range (m - 1).toNat).any fun r => decide ((x - ((r : Int) + 1)) % m = 0)) = !decide (x % m = 0) := by
  rw [← decide_not]
  have h0 := Int.emod_nonneg x (Int.ne_of_gt hm)
  have h1 := Int.emod_lt_of_pos x hm
  by_cases h : x % m = 0
  · rw [decide_eq_false (fun z => z h), List.any_eq_false]
    intro r hr
    have hr' := List.mem_range.mp hr
    simp only [decide_eq_true_eq]
    intro z
    have d1 := Int.dvd_of_emod_eq_zero h
    have d2 := Int.dvd_of_emod_eq_zero z
    have d3 : m ∣ ((r : Int) + 1) := by
      have := Int.dvd_sub d1 d2
      have e : x - (x - ((r : Int) + 1)) = (r : Int) + 1 := by omega
      rwa [e] at this
    have := Int.le_of_dvd (by omega) d3
    omega
  · rw [decide_eq_true h, List.any_eq_true]
    refine ⟨(x % m - 1).toNat, List.mem_range.mpr (by omega), ?_⟩
    have e : (((x % m - 1).toNat : Nat) : Int) + 1 = x % m := by omega
    rw [e, decide_eq_true_eq]
    have := Int.emod_emod_of_dvd x (Int.dvd_refl m)
    rw [Int.sub_emod, this, Int.sub_self, Int.zero_emod]
theorem so_denT {ts : Tst} (h : (keys (coef ts)).Nodup) (hm : mOk ts) (cn : Coef) : soB cn (denT ts) = !so cn ts := by
  cases ts with
  | row c k => exact so_rowN h k cn
  | same c k =>
    show soAny cn [.t (.row (canon c) (k - 1)), rowN c k] = !decide (worth c k cn = 0)
    rw [soAny_map]
    show (decide (0 ≤ worth (canon c) (k - 1) cn) || (soB cn (rowN c k) || false)) = _
    rw [so_rowN (c := c) h]
    show (decide (0 ≤ worth (canon c) (k - 1) cn) || (!decide (0 ≤ worth c k cn) || false)) = _
    rw [worth_lin, worth_lin, lin_canon (c := c) h, Bool.or_false, ← decide_not, ← decide_not, ← Bool.decide_or]
    exact decide_eq_decide.mpr (by omega)
  | div m c k =>
    show soAny cn ((List.range (m - 1).toNat).map fun (r : Nat) => .t (.div m (canon c) (k - ((r : Int) + 1)))) = !decide (worth c k cn % m = 0)
    rw [soAny_map, List.any_map, ← any_div (x := worth c k cn) hm.1]
    congr 1
    funext r
    show decide (worth (canon c) (k - ((r : Int) + 1)) cn % m = 0) = _
    rw [worth_lin, worth_lin, lin_canon (c := c) h]
    congr 1
    rw [show k - ((r : Int) + 1) + lin c cn = k + lin c cn - ((r : Int) + 1) by omega]
theorem so_plain (cn : Coef) : ∀ {n : Nat} {b : Bd} (w : Bool), AllT (fun ts => (keys (coef ts)).Nodup ∧ mOk ts) n b → soB cn (plainB w b) = (soB cn b == w) := by
  have tst : ∀ (ts : Tst) (w : Bool), (keys (coef ts)).Nodup ∧ mOk ts → soB cn (plainB w (.t ts)) = (soB cn (.t ts) == w) := by
    intro ts w h
    rw [plainB]
    cases w with
    | true =>
      rw [if_pos rfl]
      show so cn (canonT ts) = (so cn ts == true)
      rw [so_canon h.1]
      cases so cn ts <;> rfl
    | false =>
      rw [if_neg (by simp), so_denT h.1 h.2]
      show (!so cn ts) = (so cn ts == false)
      cases so cn ts <;> rfl
  intro n
  induction n with
  | zero =>
    intro b w h
    match b, h with
    | .t ts, h => exact tst ts w h
  | succ n ih =>
    intro b w h
    match b, h with
    | .t ts, h => exact tst ts w h
    | .neg b, h =>
      rw [plainB, ih (!w) h]
      show _ = ((!soB cn b) == w)
      cases soB cn b <;> cases w <;> rfl
    | .grp k bs, h =>
      rw [plainB, plainL_map]
      have e : ∀ b ∈ bs, soB cn (plainB w b) = (soB cn b == w) := fun b hb => ih w (h.2 b hb)
      have all : ∀ (l : List Bd), (∀ b ∈ l, soB cn (plainB w b) = (soB cn b == w)) → (w = true → (l.map (plainB w)).all (soB cn) = l.all (soB cn) ∧ (l.map (plainB w)).any (soB cn) = l.any (soB cn)) ∧ (w = false → (l.map (plainB w)).all (soB cn) = !l.any (soB cn) ∧ (l.map (plainB w)).any (soB cn) = !l.all (soB cn)) := by
        intro l
        induction l with
        | nil => intro _; exact ⟨fun _ => ⟨rfl, rfl⟩, fun _ => ⟨rfl, rfl⟩⟩
        | cons b l il =>
          intro hl
          obtain ⟨i1, i2⟩ := il fun b hb => hl b (List.mem_cons_of_mem _ hb)
          have hb := hl b List.mem_cons_self
          refine ⟨fun hw => ?_, fun hw => ?_⟩
          · obtain ⟨j1, j2⟩ := i1 hw
            rw [List.map_cons, List.all_cons, List.any_cons, List.all_cons, List.any_cons, j1, j2, hb, hw]
            cases soB cn b <;> exact ⟨rfl, rfl⟩
          · obtain ⟨j1, j2⟩ := i2 hw
            rw [List.map_cons, List.all_cons, List.any_cons, List.all_cons, List.any_cons, j1, j2, hb, hw]
            cases soB cn b <;> simp
      obtain ⟨a1, a2⟩ := all bs e
      cases w with
      | true =>
        obtain ⟨j1, j2⟩ := a1 rfl
        cases k with
        | true => show soAll cn _ = (soAll cn bs == true); rw [soAll_map, soAll_map, j1]; cases bs.all (soB cn) <;> rfl
        | false => show soAny cn _ = (soAny cn bs == true); rw [soAny_map, soAny_map, j2]; cases bs.any (soB cn) <;> rfl
      | false =>
        obtain ⟨j1, j2⟩ := a2 rfl
        cases k with
        | true => show soAny cn _ = (soAll cn bs == false); rw [soAll_map, soAny_map, j2]; cases bs.all (soB cn) <;> rfl
        | false => show soAll cn _ = (soAny cn bs == false); rw [soAll_map, soAny_map, j1]; cases bs.any (soB cn) <;> rfl
end K8

set_option Elab.async false
set_option linter.all false
set_option maxRecDepth 100000
set_option maxHeartbeats 4000000
namespace K8
open PySem PySem.Spec PyProof.Rows L2 M8
/-! what a term, a test comes to, by the program -/
theorem good_numbers {cn : Coef} (g : Good cn) : isNumbers (.dct (cD cn)) = true ∧ dctOk (.dct (cD cn)) := by
  constructor
  · show ((cD cn).all fun p => isName (keyD p.1) && isWhole p.2) = true
    rw [List.all_eq_true]
    intro p hp
    obtain ⟨q, hq, rfl⟩ := List.mem_map.mp hp
    show (isNameS q.1 && true) = true
    rw [(g.nm q.1 (List.mem_map.mpr ⟨q, hq, rfl⟩)).1]; rfl
  · have t : IsTerm (.tup [.dct (cD cn), .int 0]) cn 0 := ⟨rfl, rfl⟩
    exact (isTerm_of t g).2 _ (by simp [items])
section
variable {P : Program} {w : World} {K : PySem.W.Frag} {mg : Str → Option Value} {base : Heap}
def spNumsWith : Sp := fun vs H Q _ => ∃ (nd l : Addr) (cn : Coef) (ys : List Str), vs = [.ref nd, .ref l] ∧ H nd = some (.dK (cK cn)) ∧ Good cn ∧ H l = some (.lst (ys.map V.str)) ∧ (∀ y ∈ ys, y ∈ keys cn) ∧ ys.length ≤ 1000000 ∧ ∀ H', Ex H H' → Q (.bl true) H'
abbrev s_is_numbers_with : Stmt := top 15
theorem sc_is_numbers_with : FnScope ["thing", "names", "name"] ["thing", "names"] (defScope s_is_numbers_with) := ⟨rfl, rfl, rfl, by decide +kernel, rfl, by decide +kernel, by decide +kernel⟩
theorem ok_is_numbers_with (T : Txt K mg) (a : At K mg "is_numbers_with" s_is_numbers_with ["thing", "names"]) (Ois_numbers : Ok P w K mg base CX0 3 "is_numbers" ["thing"] (spNumbers K)) : Ok P w K mg base CX0 4 "is_numbers_with" ["thing", "names"] spNumsWith := a.ok fun f fd F => by
  refine F.ok sc_is_numbers_with (fun vs H Q E h => ?_) (fun cdv A outer s H vs Q E hr h => ?_)
  · obtain ⟨nd, l, cn, ys, rfl, _⟩ := h; rfl
  · obtain ⟨nd, l, cn, ys, rfl, hn, g, hl, hin, len, q⟩ := h
    refine ⟨_, (pss_one (ps_ret (pe_and (pe_callO Ois_numbers (hr.mono (by first | decide | omega)) rfl (pa_cons (pv 0) pa_nil)) (pe_one (pe_callB (cr_all rfl) rfl T.n_all rfl (pa_cons (pe_lc (own := [("name", 2)]) (g := gName 2) (tt := tYes) rfl sc_is_numbers_with.nd (pi_list (pv 1)) (blkOk_by (N := ["thing", "names", "name"]) (sc := defScope s_is_numbers_with) (by decide +kernel)) (fun _ _ _ _ _ => (pg_name (i := 2) sc_is_numbers_with.nd rfl (Or.inl rfl))) (fun _ _ _ _ _ => pts_nil) (fun _ _ _ _ _ => (pe_cmp (pc_din (hu_of hr) (pv 2) (pv 0))))) pa_nil)))))), ?_⟩
    obtain ⟨g1, g2⟩ := good_numbers g
    refine ⟨_, rfl, _, _, rfl, .dct hn (seeK_c _), g2, fun H1 e1 => ⟨_, rfl, ?_⟩⟩
    rw [g1]
    refine iteT ?_
    dsimp only [tCB, tCons, tNil]
    refine tLc_of ⟨_, rfl, l, rfl, ⟨_, SqL.of (e1 _ _ hl)⟩, ?_⟩
    refine lc_val (walk_list (xs := ys.map V.str)) (fun i => (List.replicate i true).map V.bl) (by rw [List.length_map]; exact len) rfl (fun H2 e2 => SqL.of (e2 _ _ (e1 _ _ hl))) ?_ ?_
    · rintro i x H1' H2 R R' hi e ⟨rfl, hx⟩ kk _
      rw [List.getElem?_map] at hx
      cases hy : ys[i]? with
      | none => rw [hy] at hx; cases hx
      | some y =>
        rw [hy] at hx
        cases hx
        have hm := hin y (List.mem_of_getElem? hy)
        refine ⟨rfl, yesT ⟨_, rfl, _, rfl, nd, _, rfl, DGet.k (k := Sum.inr y) (e _ _ (e1 _ _ hn)), kk _ _ (Ex.refl _) ?_⟩⟩
        rw [valV_co hm g.few.nd, List.replicate_succ', List.map_append]
        rfl
    · intro D H2 hD e hDH
      refine ⟨D, _, rfl, SqL.of hDH, ?_⟩
      have : (List.replicate (ys.map V.str).length true).all id = true := by rw [List.all_eq_true]; intro x hx; exact (List.mem_replicate.mp hx).2
      rw [this]
      exact q _ (e1.trans e)
def spLess : Sp := fun vs H Q _ => ∃ v c k r, vs = [v, .int r] ∧ TermAt H v c k ∧ Few c ∧ ∀ u H', NewT H H' u (canon c) (k - r) → Q u H'
abbrev s_less : Stmt := top 22
theorem sc_less : FnScope ["term", "number"] ["term", "number"] (defScope s_less) := ⟨rfl, rfl, rfl, by decide +kernel, rfl, by decide +kernel, by decide +kernel⟩
theorem ok_less (T : Txt K mg) (a : At K mg "less" s_less ["term", "number"]) (Otold_term : Ok P w K mg base CX0 2 "told_term" ["term"] spTold) : Ok P w K mg base CX0 3 "less" ["term", "number"] spLess := a.ok fun f fd F => by
  refine F.ok sc_less (fun vs H Q E h => ?_) (fun cdv A outer s H vs Q E hr h => ?_)
  · obtain ⟨v, c, k, r, rfl, _⟩ := h; rfl
  · obtain ⟨v, c, k, r, rfl, ⟨p, d, rfl, hp, hd⟩, few, q⟩ := h
    refine ⟨_, (pss_one (ps_ret (pe_callO Otold_term (hr.mono (by first | decide | omega)) rfl (pa_cons (pe_tup (pa_cons (pe_ix (ix_qK (K := K) rfl) (pv 0) pe_int (fun _ _ => rfl)) (pa_cons (pe_op op_sub (pe_ix (ix_qK (K := K) rfl) (pv 0) pe_int (fun _ _ => rfl)) (pv 1)) pa_nil))) pa_nil)))), ?_⟩
    refine ⟨_, rfl, p, _, 0, _, rfl, rfl, SqQ.or hp, at0, _, rfl, p, _, 1, _, rfl, rfl, SqQ.or hp, at1, _, rfl, _, _, rfl, rfl, by show 2 ≤ sizeLine; decide, fun t ht => ?_⟩
    have e1 : Ex H (upd H t (.tup [.ref d, .int (k - r)])) := Ex.new ht
    refine ⟨_, c, k - r, rfl, ⟨t, d, rfl, .inr upd_same, e1 _ _ hd⟩, few, fun u H' N => ?_⟩
    obtain ⟨t2, d2, rfl, n1, n2, h1, h2, e2⟩ := N
    exact q _ _ ⟨t2, d2, rfl, e1.free n1, e1.free n2, h1, h2, e1.trans e2⟩
/-- numbers for all names with a coefficient -/
structure Has (c cn : Coef) : Prop where
  nd : (keys cn).Nodup
  mem : ∀ p ∈ c, p.2 ≠ 0 → p.1 ∈ keys cn
def spAlong : Sp := fun vs H Q _ => ∃ v c k nd cn, vs = [v, .ref nd] ∧ TermAt H v c k ∧ H nd = some (.dK (cK cn)) ∧ Few c ∧ Lim c ∧ Has c cn ∧ ∀ H', Ex H H' → Q (.int (lin c cn)) H'
abbrev s_change_along : Stmt := top 23
theorem sc_change_along : FnScope ["term", "ray", "name"] ["term", "ray"] (defScope s_change_along) := ⟨rfl, rfl, rfl, by decide +kernel, rfl, by decide +kernel, by decide +kernel⟩
theorem ok_change_along (T : Txt K mg) (a : At K mg "change_along" s_change_along ["term", "ray"]) (Onames_of : Ok P w K mg base CX0 1 "names_of" ["term"] spNamesOf) : Ok P w K mg base CX0 2 "change_along" ["term", "ray"] spAlong := a.ok fun f fd F => by
  refine F.ok sc_change_along (fun vs H Q E h => ?_) (fun cdv A outer s H vs Q E hr h => ?_)
  · obtain ⟨v, c, k, nd, cn, rfl, _⟩ := h; rfl
  · obtain ⟨v, c, k, nd, cn, rfl, ht, hn, few, lim, has, q⟩ := h
    obtain ⟨p, d, rfl, hp, hd⟩ := id ht
    refine ⟨_, (pss_one (ps_ret (pe_callB (cr_sum rfl) rfl T.n_sum rfl (pa_cons (pe_lc (own := [("name", 2)]) (g := gName 2) (tt := tYes) rfl sc_change_along.nd (pi_list (pe_callO Onames_of (hr.mono (by first | decide | omega)) rfl (pa_cons (pv 0) pa_nil))) (blkOk_by (N := ["term", "ray", "name"]) (sc := defScope s_change_along) (by decide +kernel)) (fun _ _ _ _ _ => (pg_name (i := 2) sc_change_along.nd rfl (Or.inl rfl))) (fun _ _ _ _ _ => pts_nil) (fun _ _ _ _ _ => (pe_op op_mul (pe_dget (hu_of hr) (pe_ix (ix_qK (K := K) rfl) (pv 0) pe_int (fun _ _ => rfl)) (pv 2) (fun _ _ => rfl)) (pe_dget (hu_of hr) (pv 1) (pv 2) (fun _ _ => rfl))))) pa_nil)))), ?_⟩
    dsimp only [tRet, tCB, tCons, tNil]
    refine tLc_of ⟨_, rfl, _, c, k, rfl, ht, few, fun l H1 hl e1 hl1 => ⟨l, rfl, ⟨_, SqL.of hl1⟩, ?_⟩⟩
    have hnz : ∀ n ∈ nz c, n ∈ keys c := fun n hm => by
      have h0 := (mem_nz few.nd).mp hm
      exact List.mem_map.mpr ⟨_, co_mem h0, rfl⟩
    refine lc_val (walk_list (xs := (nz c).map V.str)) (fun i => ((nz c).take i).map fun n => V.int (co c n * co cn n)) ?_ rfl (fun H2 e2 => SqL.of (e2 _ _ hl1)) ?_ ?_
    · rw [List.length_map]
      have h1 := few.canon.len
      unfold M8.canon at h1
      rw [List.length_map] at h1
      omega
    · rintro i x H1' H2 R R' hi e ⟨rfl, hx⟩ kk _
      rw [List.getElem?_map] at hx
      cases hy : (nz c)[i]? with
      | none => rw [hy] at hx; cases hx
      | some n =>
        rw [hy] at hx
        cases hx
        have hm := List.mem_of_getElem? hy
        have hk := hnz n hm
        have h0 := (mem_nz few.nd).mp hm
        have e2 := e1.trans e
        refine ⟨rfl, yesT ⟨_, rfl, p, _, 0, _, rfl, rfl, SqQ.or (hp.imp (e2 _ _) (e2 _ _)), at0, _, rfl, d, _, rfl, .inl ⟨cK c, .inr n, .inl (e2 _ _ hd), rfl, (valV_co hk few.nd).symm⟩, ?_⟩⟩
        refine ⟨_, rfl, _, rfl, nd, _, rfl, .inl ⟨cK cn, .inr n, .inl (e2 _ _ hn), rfl, (valV_co (has.mem _ (co_mem h0) h0) has.nd).symm⟩, _, _, rfl, rfl, .inl ?_, kk _ _ (Ex.refl _) ?_⟩
        · have := lim _ (co_mem h0); simp only at this; constructor <;> omega
        · rw [List.take_add_one, hy, List.map_append]; rfl
    · intro D H2 hD e hDH
      have hl2 : (nz c).take ((nz c).map V.str).length = nz c := List.take_of_length_le (by rw [List.length_map]; exact Nat.le_refl _)
      rw [hl2] at hDH
      refine ⟨D, (nz c).map fun n => co c n * co cn n, rfl, SqL.of (by rw [hDH, List.map_map]; rfl), ?_⟩
      have : ((nz c).map fun n => co c n * co cn n).sum = lin c cn := by
        rw [← lin_canon few.nd]
        unfold lin M8.canon
        rw [List.map_map]; rfl
      rw [this]
      exact q _ (e1.trans e)
def spValue : Sp := fun vs H Q _ => ∃ v c k nd cn, vs = [v, .ref nd] ∧ TermAt H v c k ∧ H nd = some (.dK (cK cn)) ∧ Few c ∧ Lim c ∧ Has c cn ∧ ∀ H', Ex H H' → Q (.int (worth c k cn)) H'
abbrev s_value_of : Stmt := top 24
theorem sc_value_of : FnScope ["term", "numbers"] ["term", "numbers"] (defScope s_value_of) := ⟨rfl, rfl, rfl, by decide +kernel, rfl, by decide +kernel, by decide +kernel⟩
theorem ok_value_of (T : Txt K mg) (a : At K mg "value_of" s_value_of ["term", "numbers"]) (Ochange_along : Ok P w K mg base CX0 2 "change_along" ["term", "ray"] spAlong) : Ok P w K mg base CX0 3 "value_of" ["term", "numbers"] spValue := a.ok fun f fd F => by
  refine F.ok sc_value_of (fun vs H Q E h => ?_) (fun cdv A outer s H vs Q E hr h => ?_)
  · obtain ⟨v, c, k, nd, cn, rfl, _⟩ := h; rfl
  · obtain ⟨v, c, k, nd, cn, rfl, ht, hn, few, lim, has, q⟩ := h
    obtain ⟨p, d, rfl, hp, hd⟩ := id ht
    refine ⟨_, (pss_one (ps_ret (pe_op op_add (pe_ix (ix_qK (K := K) rfl) (pv 0) pe_int (fun _ _ => rfl)) (pe_callO Ochange_along (hr.mono (by first | decide | omega)) rfl (pa_cons (pv 0) (pa_cons (pv 1) pa_nil)))))), ?_⟩
    refine ⟨_, rfl, p, _, 1, _, rfl, rfl, SqQ.or hp, at1, _, rfl, _, rfl, _, c, k, nd, cn, rfl, ht, hn, few, lim, has, fun H1 e1 => ⟨_, _, rfl, rfl, ?_⟩⟩
    show Q (.int (k + lin c cn)) H1
    rw [← worth_lin]
    exact q _ e1
end
end K8

set_option Elab.async false
set_option linter.all false
set_option maxRecDepth 100000
set_option maxHeartbeats 4000000
namespace K8
open PySem PySem.Spec PyProof.Rows L2 M8
/-! tests told, their term, whether they are so; bodies of any object -/
theorem shaped_n : SeqAt.shaped (PyData.str "not") = true := by simp [SeqAt.shaped, PyData.canLay0, PyData.canLayAll0, PyData.depth, PyData.depthAll]; decide +kernel
theorem shaped_aa : SeqAt.shaped (PyData.tuple [PyData.str "all", PyData.str "any"]) = true := by simp [SeqAt.shaped, PyData.canLay0, PyData.canLayAll0, PyData.depth, PyData.depthAll]; decide +kernel
def rNinT (K : PySem.W.Frag) : R2 := fun x y H Q => ∃ d ds, Dp K H x d ∧ Dp K H y (.tuple ds) ∧ SeqAt.shaped d = true ∧ SeqAt.shaped (.tuple ds) = true ∧ Q (.bl (!ds.any fun z => PyData.eqv z d)) H
theorem op_ninT {X : Cx} (hu : X.A.units + 65 < cLine) : OpR X (compareOp .NotIn) (rNinT X.K) := by
  intro pins s σ H x y v u Q I rx ry h
  obtain ⟨d, ds, hd, he, sd, se, q⟩ := h
  obtain ⟨as, r1⟩ := Dp.reads I d x v hd rx
  obtain ⟨bs, r2⟩ := Dp.reads I (.tuple ds) y u he ry
  have room : X.A.units + 1 + min (PyData.depthAll ds) d.depth < cLine := room_in_shaped sd hu
  exact SeqAt.notIn_tuple_reads r2 r1 (SeqAt.canLay_of_shaped se) (SeqAt.canLay_of_shaped sd) room ⟨.bl _, H, I, rfl, q⟩
theorem op_nin_h {X : Cx} (hu : X.A.units + 65 < cLine) : OpR X (compareOp .NotIn) (fun x y H Q => rIn X.K true x y H Q ∨ rNinT X.K x y H Q) := OpR.or op_notIn_seq (op_ninT hu)
theorem op_eq_h {X : Cx} (hu : X.A.units + 65 < cLine) : OpR X (compareOp .Eq) (fun x y H Q => rEq x y H Q ∨ rEqD X.K x y H Q) := OpR.or op_eq (op_eqD (by omega))
def isNot : Dat → Bool | .str z => decide (z = ("not" : Str)) | _ => false
def isGrp : Dat → Bool | .str z => inV (.str z) [.str "all", .str "any"] | _ => false
def pairB (B : Dat → Bool) : List Dat → Bool
  | [h, e] => if isNot h = true then B e else isGrp h && (isSq e && (items e).all B)
  | _ => false
def okP (G : Dat → Prop) : List Dat → Prop
  | [h, e] => headOk h ∧ (isNot h = true → G e) ∧ (isNot h = false → isGrp h = true → isSq e = true → (items e).length ≤ 1000 ∧ ∀ x ∈ items e, G x)
  | _ => True
def isBodyS (B : Dat → Bool) (d : Dat) : Bool := isTest d || (isSq d && pairB B (items d))
def okS (G : Dat → Prop) (d : Dat) : Prop := testOk d ∧ (isTest d = false → okP G (items d))
theorem pairB_no (B : Dat → Bool) {ds : List Dat} (h : ds.length ≠ 2) : pairB B ds = false := by
  match ds, h with
  | [], _ => rfl
  | [_], _ => rfl
  | [_, _], h => exact absurd rfl h
  | _ :: _ :: _ :: _, _ => rfl
theorem two_of {F : Addr → Prop} {H : Hp} {xs : List V} {ds : List Dat} (h : SeeL F H xs ds) (l : xs.length = 2) : ∃ a b x t, xs = [a, b] ∧ ds = [x, t] ∧ See F H a x ∧ See F H b t := by
  cases h with
  | nil => cases l
  | cons h1 h =>
    cases h with
    | nil => cases l
    | cons h2 h =>
      cases h with
      | nil => exact ⟨_, _, _, _, rfl, rfl, h1, h2⟩
      | cons _ _ => simp at l
section
variable {P : Program} {w : World} {K : PySem.W.Frag} {mg : Str → Option Value} {base : Heap}
def spToldT (K : PySem.W.Frag) : Sp := fun vs H Q _ => ∃ v d ts, vs = [v] ∧ SeeF K H v d ∧ IsTst d ts ∧ Few (coef ts) ∧ ∀ u H', NewTst H H' u (canonT ts) → Q u H'
abbrev s_told_test : Stmt := top 27
theorem sc_told_test : FnScope ["test"] ["test"] (defScope s_told_test) := ⟨rfl, rfl, rfl, by decide +kernel, rfl, by decide +kernel, by decide +kernel⟩
theorem ok_told_test (T : Txt K mg) (a : At K mg "told_test" s_told_test ["test"]) (Otold_term : Ok P w K mg base CX0 2 "told_term" ["term"] spTold) : Ok P w K mg base CX0 3 "told_test" ["test"] (spToldT K) := a.ok fun f fd F => by
  refine F.ok sc_told_test (fun vs H Q E h => ?_) (fun cdv A outer s H vs Q E hr h => ?_)
  · obtain ⟨v, d, ts, rfl, _⟩ := h; rfl
  · obtain ⟨v, d, ts, rfl, hs, ht, few, q⟩ := h
    refine ⟨_, (pss_cons (ps_if (pt_cmpR op_eq (pe_ix (ix_qK (K := K) rfl) (pv 0) pe_int (fun _ _ => rfl)) pe_str (nomark _)) (pss_one (ps_ret (pe_tup (pa_cons pe_str (pa_cons (pe_ix (ix_qK (K := K) rfl) (pv 0) pe_int (fun _ _ => rfl)) (pa_cons (pe_callO Otold_term (hr.mono (by first | decide | omega)) rfl (pa_cons (pe_ix (ix_qK (K := K) rfl) (pv 0) pe_int (fun _ _ => rfl)) pa_nil)) pa_nil)))))) pss_nil)
      (pss_one (ps_ret (pe_tup (pa_cons (pe_ix (ix_qK (K := K) rfl) (pv 0) pe_int (fun _ _ => rfl)) (pa_cons (pe_callO Otold_term (hr.mono (by first | decide | omega)) rfl (pa_cons (pe_ix (ix_qK (K := K) rfl) (pv 0) pe_int (fun _ _ => rfl)) pa_nil)) pa_nil)))))), ?_⟩
    cases ts with
    | row c k =>
      obtain ⟨h1, td, h2, h3⟩ := ht
      obtain ⟨p, xs, rfl, hp, hx⟩ := see_sq hs h1
      rw [h2] at hx
      cases hx with
      | cons y1 hx =>
        cases y1
        cases hx with
        | cons y2 hx =>
          cases hx
          refine ⟨_, rfl, p, _, 0, _, rfl, rfl, SqQ.or hp, at0, rfl, _, rfl, iteF ?_⟩
          refine ⟨_, rfl, p, _, 0, _, rfl, rfl, SqQ.or hp, at0, _, rfl, p, _, 1, _, rfl, rfl, SqQ.or hp, at1, _, c, k, rfl, see_term y2 h3, few, fun u H2 n => ⟨by show 2 ≤ sizeLine; decide, fun q1 hq1 => ?_⟩⟩
          obtain ⟨t, dd, rfl, n1, n2, n3, g1, g2, g3, e⟩ := n.pair hq1 [.str "row"]
          exact q _ _ ⟨q1, t, dd, rfl, n1, n2, n3, g1, g2, g3, e⟩
    | same c k =>
      obtain ⟨h1, td, h2, h3⟩ := ht
      obtain ⟨p, xs, rfl, hp, hx⟩ := see_sq hs h1
      rw [h2] at hx
      cases hx with
      | cons y1 hx =>
        cases y1
        cases hx with
        | cons y2 hx =>
          cases hx
          refine ⟨_, rfl, p, _, 0, _, rfl, rfl, SqQ.or hp, at0, rfl, _, rfl, iteF ?_⟩
          refine ⟨_, rfl, p, _, 0, _, rfl, rfl, SqQ.or hp, at0, _, rfl, p, _, 1, _, rfl, rfl, SqQ.or hp, at1, _, c, k, rfl, see_term y2 h3, few, fun u H2 n => ⟨by show 2 ≤ sizeLine; decide, fun q1 hq1 => ?_⟩⟩
          obtain ⟨t, dd, rfl, n1, n2, n3, g1, g2, g3, e⟩ := n.pair hq1 [.str "same"]
          exact q _ _ ⟨q1, t, dd, rfl, n1, n2, n3, g1, g2, g3, e⟩
    | div m c k =>
      obtain ⟨h1, td, h2, h3⟩ := ht
      obtain ⟨p, xs, rfl, hp, hx⟩ := see_sq hs h1
      rw [h2] at hx
      cases hx with
      | cons y1 hx =>
        cases y1
        cases hx with
        | cons y2 hx =>
          cases y2
          cases hx with
          | cons y3 hx =>
            cases hx
            refine ⟨_, rfl, p, _, 0, _, rfl, rfl, SqQ.or hp, at0, rfl, _, rfl, iteT ?_⟩
            refine ⟨_, rfl, p, _, 1, _, rfl, rfl, SqQ.or hp, at1, _, rfl, p, _, 2, _, rfl, rfl, SqQ.or hp, at2, _, c, k, rfl, see_term y3 h3, few, fun u H2 n => ⟨by show 3 ≤ sizeLine; decide, fun q1 hq1 => ?_⟩⟩
            obtain ⟨t, dd, rfl, n1, n2, n3, g1, g2, g3, e⟩ := n.pair hq1 [.str "by", .int m]
            exact q _ _ ⟨q1, t, dd, rfl, n1, n2, n3, g1, g2, g3, e⟩
/-- a test's term -/
def spTermOf (K : PySem.W.Frag) : Sp := fun vs H Q _ => ∃ v d ts, vs = [v] ∧ SeeF K H v d ∧ IsTst d ts ∧ ∀ u, TermAt H u (coef ts) (kst ts) → Q u H
abbrev s_term_of : Stmt := top 28
theorem sc_term_of : FnScope ["test"] ["test"] (defScope s_term_of) := ⟨rfl, rfl, rfl, by decide +kernel, rfl, by decide +kernel, by decide +kernel⟩
theorem ok_term_of (T : Txt K mg) (a : At K mg "term_of" s_term_of ["test"]) : Ok P w K mg base CX0 1 "term_of" ["test"] (spTermOf K) := a.ok fun f fd F => by
  refine F.ok sc_term_of (fun vs H Q E h => ?_) (fun cdv A outer s H vs Q E hr h => ?_)
  · obtain ⟨v, d, ts, rfl, _⟩ := h; rfl
  · obtain ⟨v, d, ts, rfl, hs, ht, q⟩ := h
    refine ⟨_, (pss_one (ps_ret (pe_ix (ix_qK (K := K) rfl) (pv 0) (pe_un un_neg pe_int) (fun _ _ => rfl)))), ?_⟩
    cases ts with
    | row c k =>
      obtain ⟨h1, td, h2, h3⟩ := ht
      obtain ⟨p, xs, rfl, hp, hx⟩ := see_sq hs h1
      rw [h2] at hx
      cases hx with
      | cons y1 hx =>
        cases hx with
        | cons y2 hx =>
          cases hx
          exact ⟨_, rfl, _, rfl, p, _, _, _, rfl, rfl, SqQ.or hp, atLast (xs := [_]), q _ (see_term y2 h3)⟩
    | same c k =>
      obtain ⟨h1, td, h2, h3⟩ := ht
      obtain ⟨p, xs, rfl, hp, hx⟩ := see_sq hs h1
      rw [h2] at hx
      cases hx with
      | cons y1 hx =>
        cases hx with
        | cons y2 hx =>
          cases hx
          exact ⟨_, rfl, _, rfl, p, _, _, _, rfl, rfl, SqQ.or hp, atLast (xs := [_]), q _ (see_term y2 h3)⟩
    | div m c k =>
      obtain ⟨h1, td, h2, h3⟩ := ht
      obtain ⟨p, xs, rfl, hp, hx⟩ := see_sq hs h1
      rw [h2] at hx
      cases hx with
      | cons y1 hx =>
        cases hx with
        | cons y2 hx =>
          cases hx with
          | cons y3 hx =>
            cases hx
            exact ⟨_, rfl, _, rfl, p, _, _, _, rfl, rfl, SqQ.or hp, atLast (xs := [_, _]), q _ (see_term y3 h3)⟩
def spTstSo (K : PySem.W.Frag) : Sp := fun vs H Q _ => ∃ v d ts nd cn, vs = [v, .ref nd] ∧ SeeF K H v d ∧ IsTst d ts ∧ H nd = some (.dK (cK cn)) ∧ Few (coef ts) ∧ Lim (coef ts) ∧ mOk ts ∧ Has (coef ts) cn ∧ ∀ H', Ex H H' → Q (.bl (so cn ts)) H'
abbrev s_is_test_so : Stmt := top 29
theorem sc_is_test_so : FnScope ["test", "numbers", "value"] ["test", "numbers"] (defScope s_is_test_so) := ⟨rfl, rfl, rfl, by decide +kernel, rfl, by decide +kernel, by decide +kernel⟩
theorem ok_is_test_so (T : Txt K mg) (a : At K mg "is_test_so" s_is_test_so ["test", "numbers"]) (Ovalue_of : Ok P w K mg base CX0 3 "value_of" ["term", "numbers"] spValue) (Oterm_of : Ok P w K mg base CX0 1 "term_of" ["test"] (spTermOf K)) : Ok P w K mg base CX0 4 "is_test_so" ["test", "numbers"] (spTstSo K) := a.ok fun f fd F => by
  refine F.ok sc_is_test_so (fun vs H Q E h => ?_) (fun cdv A outer s H vs Q E hr h => ?_)
  · obtain ⟨v, d, ts, nd, cn, rfl, _⟩ := h; rfl
  · obtain ⟨v, d, ts, nd, cn, rfl, hs, ht, hn, few, lim, hm, has, q⟩ := h
    refine ⟨_, (pss_cons (ps_set (i := 2) sc_is_test_so.nd rfl (Or.inl rfl) (pe_callO Ovalue_of (hr.mono (by first | decide | omega)) rfl (pa_cons (pe_callO Oterm_of (hr.mono (by first | decide | omega)) rfl (pa_cons (pv 0) pa_nil)) (pa_cons (pv 1) pa_nil))))
      (pss_cons (ps_if (pt_cmpR op_eq (pe_ix (ix_qK (K := K) rfl) (pv 0) pe_int (fun _ _ => rfl)) pe_str (nomark _)) (pss_one (ps_ret (pe_cmpR op_ge (pv 2) pe_int (nomark _)))) pss_nil)
      (pss_cons (ps_if (pt_cmpR op_eq (pe_ix (ix_qK (K := K) rfl) (pv 0) pe_int (fun _ _ => rfl)) pe_str (nomark _)) (pss_one (ps_ret (pe_cmpR op_eq (pv 2) pe_int (nomark _)))) pss_nil)
      (pss_one (ps_ret (pe_cmpR op_eq (pe_op op_mod (pv 2) (pe_ix (ix_qK (K := K) rfl) (pv 0) pe_int (fun _ _ => rfl))) pe_int (nomark _))))))), ?_⟩
    refine ⟨_, rfl, _, _, ts, rfl, hs, ht, fun u hu => ⟨_, rfl, _, _, _, nd, cn, rfl, hu, hn, few, lim, has, fun H1 e1 => ?_⟩⟩
    have hs1 := hs.mono e1
    have q1 := q _ e1
    cases ts with
    | row c k =>
      obtain ⟨h1, td, h2, h3⟩ := ht
      obtain ⟨p, xs, rfl, hp, hx⟩ := see_sq hs1 h1
      rw [h2] at hx
      cases hx with
      | cons y1 hx =>
        cases y1
        refine ⟨_, rfl, p, _, 0, _, rfl, rfl, SqQ.or hp, at0, rfl, _, rfl, iteT ?_⟩
        exact ⟨_, rfl, _, _, rfl, rfl, q1⟩
    | same c k =>
      obtain ⟨h1, td, h2, h3⟩ := ht
      obtain ⟨p, xs, rfl, hp, hx⟩ := see_sq hs1 h1
      rw [h2] at hx
      cases hx with
      | cons y1 hx =>
        cases y1
        refine ⟨_, rfl, p, _, 0, _, rfl, rfl, SqQ.or hp, at0, rfl, _, rfl, iteF ?_⟩
        refine ⟨_, rfl, p, _, 0, _, rfl, rfl, SqQ.or hp, at0, rfl, _, rfl, iteT ?_⟩
        refine ⟨_, rfl, rfl, ?_⟩
        show Q (.bl (decide (V.int (worth c k cn) = V.int 0))) H1
        rw [show decide (V.int (worth c k cn) = V.int 0) = so cn (.same c k) from decide_eq_decide.mpr ⟨fun z => V.int.inj z, fun z => by rw [z]⟩]
        exact q1
    | div m c k =>
      obtain ⟨h1, td, h2, h3⟩ := ht
      obtain ⟨p, xs, rfl, hp, hx⟩ := see_sq hs1 h1
      rw [h2] at hx
      cases hx with
      | cons y1 hx =>
        cases y1
        cases hx with
        | cons y2 hx =>
          cases y2
          refine ⟨_, rfl, p, _, 0, _, rfl, rfl, SqQ.or hp, at0, rfl, _, rfl, iteF ?_⟩
          refine ⟨_, rfl, p, _, 0, _, rfl, rfl, SqQ.or hp, at0, rfl, _, rfl, iteF ?_⟩
          refine ⟨_, rfl, _, rfl, p, _, 1, _, rfl, rfl, SqQ.or hp, at1, _, _, rfl, rfl, hm.1, rfl, ?_⟩
          show Q (.bl (decide (V.int (worth c k cn % m) = V.int 0))) H1
          rw [show decide (V.int (worth c k cn % m) = V.int 0) = so cn (.div m c k) from decide_eq_decide.mpr ⟨fun z => V.int.inj z, fun z => by rw [z]⟩]
          exact q1
end
end K8

set_option Elab.async false
set_option linter.all false
set_option maxRecDepth 100000
set_option maxHeartbeats 4000000
namespace K8
open PySem PySem.Spec PyProof.Rows L2 M8
section
variable {P : Program} {w : World} {K : PySem.W.Frag} {mg : Str → Option Value} {base : Heap}
def spBodyG (K : PySem.W.Frag) (G : Dat → Prop) (B : Dat → Bool) : Sp := fun vs H Q _ => ∃ v d, vs = [v] ∧ SeeF K H v d ∧ G d ∧ ∀ H', Ex H H' → Q (.bl (B d)) H'
/-- what stands ahead of a pair, as is_body asks it -/
theorem head_not {H : Hp} {v : V} {h : Dat} (s : SeeF K H v h) (ok : headOk h) {Q : VK} (q : Q (.bl (isNot h)) H) : rEq v (.str "not") H Q ∨ rEqD K v (.str "not") H Q := by
  rcases ok with ⟨hf, hb⟩ | rfl
  · refine .inl ?_
    cases s with
    | str z => exact ⟨rfl, by rw [show decide (V.str z = V.str "not") = isNot (.str z) from decide_eq_decide.mpr ⟨fun h => V.str.inj h, fun h => by rw [h]⟩]; exact q⟩
    | non => exact ⟨rfl, q⟩
    | int i => exact ⟨rfl, q⟩
    | bl b => exact absurd rfl (hb b)
    | lst _ _ => cases hf
    | tup _ _ => cases hf
    | dct _ _ => cases hf
    | fn _ => cases hf
  · refine .inr ?_
    cases s with
    | lst ha t =>
      cases t with
      | cons t1 t2 =>
        cases t1; cases t2
        exact ⟨.list [.str "row"], .str "not", .lst (SqL.of ha) (.cons (.str _) .nil), .str _, shaped_l, shaped_n, by rw [show PyData.eqv (PyData.list [PyData.str "row"]) (PyData.str "not") = isNot (.lst [.str "row"]) by simp [PyData.eqv, isNot]]; exact q⟩
theorem head_nin {H : Hp} {v : V} {h : Dat} {tp : Addr} (s : SeeF K H v h) (ht : H tp = some (.tup [.str "all", .str "any"])) (ok : headOk h) {Q : VK} (q : Q (.bl (!isGrp h)) H) : rIn K true v (.ref tp) H Q ∨ rNinT K v (.ref tp) H Q := by
  rcases ok with ⟨hf, hb⟩ | rfl
  · refine .inl ⟨tp, _, rfl, .inr (SqT.of ht), flatV_see s hf, rfl, ?_⟩
    cases s with
    | str z => exact q
    | non => exact q
    | int i => exact q
    | bl b => exact absurd rfl (hb b)
    | lst _ _ => cases hf
    | tup _ _ => cases hf
    | dct _ _ => cases hf
    | fn _ => cases hf
  · refine .inr ?_
    cases s with
    | lst ha t =>
      cases t with
      | cons t1 t2 =>
        cases t1; cases t2
        exact ⟨.list [.str "row"], [.str "all", .str "any"], .lst (SqL.of ha) (.cons (.str _) .nil), .tup (SqT.of ht) (.cons (.str _) (.cons (.str _) .nil)), shaped_l, shaped_aa, by simpa [PyData.eqv, isGrp] using q⟩
abbrev s_is_body : Stmt := top 30
theorem sc_is_body : FnScope ["thing", "body"] ["thing"] (defScope s_is_body) := ⟨rfl, rfl, rfl, by decide +kernel, rfl, by decide +kernel, by decide +kernel⟩
theorem ok_is_body_step (T : Txt K mg) (a : At K mg "is_body" s_is_body ["thing"]) (Ois_test : Ok P w K mg base CX0 5 "is_test" ["thing"] (spTest K)) (Ois_list : Ok P w K mg base CX0 1 "is_list" ["thing"] (spIsList K)) {k : Nat} (hk : 5 ≤ k) {G : Dat → Prop} {B : Dat → Bool} (Ois_body : Ok P w K mg base CX0 k "is_body" ["thing"] (spBodyG K G B)) : Ok P w K mg base CX0 (k+1) "is_body" ["thing"] (spBodyG K (okS G) (isBodyS B)) := a.ok fun f fd F => by
  refine F.ok sc_is_body (fun vs H Q E h => ?_) (fun cdv A outer s H vs Q E hr h => ?_)
  · obtain ⟨v, d, rfl, _⟩ := h; rfl
  · obtain ⟨v, d, rfl, hs, ⟨hok, hok2⟩, q⟩ := h
    obtain ⟨k, rfl⟩ : ∃ j, k = j + 1 := ⟨k - 1, by omega⟩
    refine ⟨_, (pss_cons (ps_if (pt_val (pe_callO Ois_test (hr.mono (by first | decide | omega)) rfl (pa_cons (pv 0) pa_nil))) (pss_one (ps_ret pe_bl)) pss_nil)
      (pss_cons (ps_if (PW.pt (pw_or (pt_not (pt_val (pe_callO Ois_list (hr.mono (by first | decide | omega)) rfl (pa_cons (pv 0) pa_nil)))) (pw_or1 (pt_cmpR op_ne (pe_callB (len_qK (K := K) rfl) rfl T.n_len rfl (pa_cons (pv 0) pa_nil)) pe_int (nomark _))))) (pss_one (ps_ret pe_bl)) pss_nil)
      (pss_cons (ps_if (pt_cmpR (op_eq_h (hu65 hr)) (pe_ix (ix_qK (K := K) rfl) (pv 0) pe_int (fun _ _ => rfl)) pe_str (nomark _)) (pss_one (ps_ret (pe_callO Ois_body hr rfl (pa_cons (pe_ix (ix_qK (K := K) rfl) (pv 0) pe_int (fun _ _ => rfl)) pa_nil)))) pss_nil)
      (pss_cons (ps_if (PW.pt (pw_or (pt_cmpR (op_nin_h (hu65 hr)) (pe_ix (ix_qK (K := K) rfl) (pv 0) pe_int (fun _ _ => rfl)) (pe_tup (pa_cons pe_str (pa_cons pe_str pa_nil))) rfl) (pw_or1 (pt_not (pt_val (pe_callO Ois_list (hr.mono (by first | decide | omega)) rfl (pa_cons (pe_ix (ix_qK (K := K) rfl) (pv 0) pe_int (fun _ _ => rfl)) pa_nil))))))) (pss_one (ps_ret pe_bl)) pss_nil)
      (pss_one (ps_ret (pe_callB (cr_all rfl) rfl T.n_all rfl (pa_cons (pe_lc (own := [("body", 1)]) (g := gName 1) (tt := tYes) rfl sc_is_body.nd (pi_lt (pe_ix (ix_qK (K := K) rfl) (pv 0) pe_int (fun _ _ => rfl))) (blkOk_by (N := ["thing", "body"]) (sc := defScope s_is_body) (by decide +kernel)) (fun _ _ _ _ _ => (pg_name (i := 1) sc_is_body.nd rfl (Or.inl rfl))) (fun _ _ _ _ _ => pts_nil) (fun _ _ _ _ _ => (pe_callO Ois_body hr rfl (pa_cons (pv 1) pa_nil)))) pa_nil)))))))), ?_⟩
    refine ⟨_, rfl, v, d, rfl, hs, hok, fun H1 e1 => ⟨_, rfl, ?_⟩⟩
    unfold isBodyS at q
    cases ht : isTest d with
    | true =>
      rw [ht] at q
      exact iteT (q _ e1)
    | false =>
      rw [ht] at q
      have hok2 := hok2 ht
      refine iteF ?_
      have hs1 := hs.mono e1
      refine ⟨_, rfl, v, d, rfl, hs1, fun H2 e2 => ⟨_, rfl, ?_⟩⟩
      have e02 := e1.trans e2
      have hs2 := hs.mono e02
      cases hq : isSq d with
      | false =>
        rw [hq] at q
        exact iteT (iteT (q _ e02))
      | true =>
        rw [hq] at q
        refine iteF ?_
        obtain ⟨p, xs, rfl, hp, hx⟩ := see_sq hs2 hq
        have hlen := hx.len
        refine ⟨_, rfl, p, xs, rfl, SqQ.or hp, rfl, _, rfl, ?_⟩
        rw [len_dec (n := 2) (m := 2) rfl]
        by_cases h2 : xs.length = 2
        · rw [decide_eq_true h2]
          refine iteF ?_
          obtain ⟨vx, vt, x, t, rfl, hi, h1, h3⟩ := two_of hx h2
          · rw [hi] at q hok2
            obtain ⟨ok1, ok2, ok3⟩ := hok2
            have q : ∀ H', Ex H H' → Q (.bl (if isNot x = true then B t else isGrp x && (isSq t && (items t).all B))) H' := q
            refine ⟨_, rfl, p, _, 0, _, rfl, rfl, SqQ.or hp, at0, head_not h1 ok1 ⟨_, rfl, ?_⟩⟩
            cases hn : isNot x with
            | true =>
              rw [hn, if_pos rfl] at q
              refine iteT ⟨_, rfl, p, _, 1, _, rfl, rfl, SqQ.or hp, at1, _, t, rfl, h3, ok2 hn, fun H3 e3 => q _ (e02.trans e3)⟩
            | false =>
              rw [hn, if_neg (by simp)] at q
              refine iteF ⟨_, rfl, p, _, 0, _, rfl, rfl, SqQ.or hp, at0, by show 2 ≤ sizeLine; decide, fun tp htp => ?_⟩
              have e3 : Ex H2 (upd H2 tp (.tup [.str "all", .str "any"])) := Ex.new htp
              refine head_nin (h1.mono e3) upd_same ok1 ⟨_, rfl, ?_⟩
              cases hg : isGrp x with
              | false =>
                rw [hg] at q
                exact iteT (iteT (q _ (e02.trans e3)))
              | true =>
                rw [hg] at q
                have hp3 := hp.imp (e3 _ _) (e3 _ _)
                refine iteF ⟨_, rfl, p, _, 1, _, rfl, rfl, SqQ.or hp3, at1, vt, t, rfl, h3.mono e3, fun H4 e4 => ⟨_, rfl, ?_⟩⟩
                have e24 := e3.trans e4
                cases hst : isSq t with
                | false =>
                  rw [hst] at q
                  exact iteT (q _ (e02.trans e24))
                | true =>
                  rw [hst] at q
                  refine iteF ?_
                  obtain ⟨hl, hall⟩ := ok3 hn hg hst
                  obtain ⟨p2, ys, rfl, hp2, hy⟩ := see_sq (h3.mono e24) hst
                  have hp4 := hp.imp (e24 _ _) (e24 _ _)
                  dsimp only [tNext, tRet, tCB, tCons, tNil]
                  refine tLc_of ?_
                  have tail : ∀ {J : It} {Gd : Hp → Prop}, Walk J ys.length Gd (YAt ys) → (∀ H', Ex H4 H' → Gd H') → LcB (gName 1) tYes (tC0 (spBodyG K G B) (fun σ H Q => tVar 1 σ H fun x H1 => Q [x] H1)) [1] [some (.ref p), none] (fun x H1 => rAll K [x] H1 Q) J H4 := by
                    intro J Gd wk hG
                    have hle := hy.len
                    refine lc_val wk (fun i => ((items t).take i).map fun d => V.bl (B d)) (by omega) rfl hG ?_ ?_
                    · rintro i y H5 H6 R R' hi' e ⟨rfl, hx'⟩ kk _
                      obtain ⟨dd, hd, sd⟩ := hy.getV hx'
                      refine ⟨rfl, yesT ⟨_, rfl, y, dd, rfl, sd.mono e, hall dd (List.mem_of_getElem? hd), fun H7 e7 => kk _ _ e7 ?_⟩⟩
                      rw [List.take_add_one, hd, List.map_append]; rfl
                    · intro D H5 hD e hDH
                      rw [List.take_of_length_le (by omega)] at hDH
                      refine ⟨D, (items t).map B, rfl, SqL.of (by rw [hDH, List.map_map]; rfl), ?_⟩
                      have : ((items t).map B).all id = (items t).all B := by rw [List.all_map]; rfl
                      rw [this]
                      exact q _ (e02.trans (e24.trans e))
                  rcases hp2 with hp2 | hp2
                  · exact .inl ⟨_, rfl, p, _, 1, _, rfl, rfl, SqQ.or hp4, at1, p2, rfl, ⟨ys, SqL.of hp2⟩, tail walk_list fun H' e => SqL.of (e _ _ hp2)⟩
                  · exact .inr ⟨_, rfl, p, _, 1, _, rfl, rfl, SqQ.or hp4, at1, p2, rfl, ⟨ys, SqT.of hp2⟩, tail walk_tup fun H' e => SqT.of (e _ _ hp2)⟩
        · rw [decide_eq_false h2]
          refine iteT ?_
          have this := pairB_no B (ds := items d) (by rw [← hlen]; exact h2)
          rw [this] at q
          exact q _ e02
end
end K8

set_option Elab.async false
set_option linter.all false
set_option maxRecDepth 100000
set_option maxHeartbeats 4000000
namespace K8
open PySem PySem.Spec PyProof.Rows L2 M8
/-! a body in whatever lists and tuples, at most n deep -/
inductive All2 {α β : Type} (R : α → β → Prop) : List α → List β → Prop
  | nil : All2 R [] []
  | cons {x : α} {y : β} {xs : List α} {ys : List β} : R x y → All2 R xs ys → All2 R (x :: xs) (y :: ys)
theorem All2.len {α β : Type} {R : α → β → Prop} : ∀ {xs : List α} {ys : List β}, All2 R xs ys → xs.length = ys.length
  | _, _, .nil => rfl
  | _, _, .cons _ t => by rw [List.length_cons, List.length_cons, t.len]
theorem All2.get {α β : Type} {R : α → β → Prop} : ∀ {xs : List α} {ys : List β}, All2 R xs ys → ∀ {i : Nat} {x : α}, xs[i]? = some x → ∃ y, ys[i]? = some y ∧ R x y
  | _, _, .nil, i, x, e => by simp at e
  | _, _, .cons h _, 0, x, e => by simp at e; subst e; exact ⟨_, rfl, h⟩
  | _, _, .cons _ t, i + 1, x, e => by simpa using t.get (i := i) (x := x) (by simpa using e)
theorem All2.mem {α β : Type} {R : α → β → Prop} {xs : List α} {ys : List β} (h : All2 R xs ys) {x : α} (hx : x ∈ xs) : ∃ y ∈ ys, R x y := by
  obtain ⟨i, hi⟩ := List.mem_iff_getElem?.mp hx
  obtain ⟨y, hy, r⟩ := h.get hi
  exact ⟨y, List.mem_of_getElem? hy, r⟩
theorem All2.imp {α β : Type} {R R' : α → β → Prop} (f : ∀ x y, R x y → R' x y) : ∀ {xs : List α} {ys : List β}, All2 R xs ys → All2 R' xs ys
  | _, _, .nil => .nil
  | _, _, .cons h t => .cons (f _ _ h) (t.imp f)
def IsB : Nat → Dat → Bd → Prop
  | 0, d, b => match b with | .t ts => IsTst d ts | _ => False
  | n + 1, d, b => match b with
    | .t ts => IsTst d ts
    | .neg b => isSq d = true ∧ ∃ e, items d = [.str "not", e] ∧ IsB n e b
    | .grp w bs => isSq d = true ∧ ∃ e, items d = [.str (kw w), e] ∧ isSq e = true ∧ All2 (IsB n) (items e) bs
theorem IsB.tst {n : Nat} {d : Dat} {ts : Tst} : IsB n d (.t ts) ↔ IsTst d ts := by cases n <;> exact Iff.rfl
def GoodT (ts : Tst) : Prop := Good (coef ts) ∧ mOk ts
def isBodyN : Nat → Dat → Bool
  | 0 => isBodyS fun _ => false
  | n + 1 => isBodyS (isBodyN n)
def okN : Nat → Dat → Prop
  | 0 => okS fun _ => False
  | n + 1 => okS (okN n)
theorem kw_grp (w : Bool) : isGrp (.str (kw w)) = true ∧ isNot (.str (kw w)) = false := by cases w <;> decide +kernel
theorem kw_ok (w : Bool) (e : Dat) : headRS (.str (kw w)) = false := by cases w <;> decide +kernel
theorem notest_pair {d : Dat} {z : Str} {e : Dat} (hi : items d = [.str z, e]) (h : headRS (.str z) = false) : isTest d = false := by
  unfold isTest
  rw [hi]
  show (isSq d && (headRS (.str z) && isTerm e)) = false
  rw [h]; simp
theorem dctOk_sq {x : Dat} (h : isSq x = true) : dctOk x := by
  cases x <;> first | trivial | cases h
theorem sq_of_isB {n : Nat} {d : Dat} {b : Bd} (h : IsB n d b) : isSq d = true := by
  cases n with
  | zero =>
    match b, h with
    | .t (.row _ _), h => exact h.1
    | .t (.same _ _), h => exact h.1
    | .t (.div _ _ _), h => exact h.1
  | succ n =>
    match b, h with
    | .t (.row _ _), h => exact h.1
    | .t (.same _ _), h => exact h.1
    | .t (.div _ _ _), h => exact h.1
    | .neg _, h => exact h.1
    | .grp _ _, h => exact h.1
theorem dctOk_str (z : Str) : dctOk (.str z) := trivial
theorem dctOk_int (i : Int) : dctOk (.int i) := trivial
/-- the second thing of a "not" is asked as a term, too: nothing of it is a dict -/
theorem termOk_isB {n : Nat} {e : Dat} {b : Bd} (h : IsB n e b) (g : AllT GoodT n b) : termOk e := by
  intro x hx
  have tst : ∀ ts : Tst, IsTst e ts → dctOk x := by
    intro ts ht
    cases ts with
    | row c k =>
      obtain ⟨_, t, h2, h3⟩ := ht
      rw [h2] at hx
      simp only [List.mem_cons, List.not_mem_nil, or_false] at hx
      rcases hx with rfl | rfl
      · trivial
      · exact dctOk_sq h3.1
    | same c k =>
      obtain ⟨_, t, h2, h3⟩ := ht
      rw [h2] at hx
      simp only [List.mem_cons, List.not_mem_nil, or_false] at hx
      rcases hx with rfl | rfl
      · trivial
      · exact dctOk_sq h3.1
    | div m c k =>
      obtain ⟨_, t, h2, h3⟩ := ht
      rw [h2] at hx
      simp only [List.mem_cons, List.not_mem_nil, or_false] at hx
      rcases hx with rfl | rfl | rfl
      · trivial
      · trivial
      · exact dctOk_sq h3.1
  cases n with
  | zero =>
    match b, h with
    | .t ts, h => exact tst ts h
  | succ n =>
    match b, h with
    | .t ts, h => exact tst ts h
    | .neg b, ⟨_, e', h2, h3⟩ =>
      rw [h2] at hx
      simp only [List.mem_cons, List.not_mem_nil, or_false] at hx
      rcases hx with rfl | rfl
      · trivial
      · exact dctOk_sq (sq_of_isB h3)
    | .grp w bs, ⟨_, e', h2, h3, _⟩ =>
      rw [h2] at hx
      simp only [List.mem_cons, List.not_mem_nil, or_false] at hx
      rcases hx with rfl | rfl
      · trivial
      · exact dctOk_sq h3
theorem isB_body : ∀ {n : Nat} {d : Dat} {b : Bd}, IsB n d b → AllT GoodT n b → isBodyN n d = true ∧ okN n d := by
  have tst : ∀ {d : Dat} {ts : Tst} (B : Dat → Bool) (G : Dat → Prop), IsTst d ts → GoodT ts → isBodyS B d = true ∧ okS G d := by
    intro d ts B G h g
    obtain ⟨i1, i2⟩ := isTst_of h g.1 g.2
    refine ⟨by unfold isBodyS; rw [i1]; rfl, i2, fun z => by rw [i1] at z; cases z⟩
  intro n
  induction n with
  | zero =>
    intro d b h g
    match b, h, g with
    | .t ts, h, g => exact tst _ _ h g
  | succ n ih =>
    intro d b h g
    match b, h, g with
    | .t ts, h, g => exact tst _ _ h g
    | .neg b, ⟨h1, e, h2, h3⟩, g =>
      obtain ⟨j1, j2⟩ := ih h3 g
      refine ⟨?_, ?_, fun _ => ?_⟩
      · show isBodyS (isBodyN n) d = true
        unfold isBodyS
        rw [h1, h2]
        show (isTest d || (true && isBodyN n e)) = true
        rw [j1]; simp
      · unfold testOk
        rw [h2]
        exact ⟨.inl ⟨rfl, fun b z => by cases z⟩, termOk_isB h3 g⟩
      · rw [h2]
        exact ⟨.inl ⟨rfl, fun b z => by cases z⟩, fun _ => j2, fun z => absurd z (by decide +kernel)⟩
    | .grp w bs, ⟨h1, e, h2, h3, h4⟩, g =>
      have hin : ∀ x ∈ items e, isBodyN n x = true ∧ okN n x := fun x hx => by
        obtain ⟨y, hy, r⟩ := h4.mem hx
        exact ih r (g.2 y hy)
      refine ⟨?_, ?_, fun _ => ?_⟩
      · show isBodyS (isBodyN n) d = true
        unfold isBodyS
        rw [h1, h2]
        show (isTest d || (true && (if isNot (.str (kw w)) = true then isBodyN n e else isGrp (.str (kw w)) && (isSq e && (items e).all (isBodyN n))))) = true
        rw [(kw_grp w).2, (kw_grp w).1, h3]
        have : (items e).all (isBodyN n) = true := List.all_eq_true.mpr fun x hx => (hin x hx).1
        rw [this]; simp
      · unfold testOk
        rw [h2]
        refine ⟨.inl ⟨rfl, fun b z => by cases z⟩, fun x hx => ?_⟩
        obtain ⟨y, _, r⟩ := h4.mem hx
        exact dctOk_sq (sq_of_isB r)
      · rw [h2]
        refine ⟨.inl ⟨rfl, fun b z => by cases z⟩, fun z => ?_, fun _ _ _ => ⟨?_, fun x hx => (hin x hx).2⟩⟩
        · rw [(kw_grp w).2] at z; cases z
        · have := h4.len; have := g.1; omega
/-- how many tests -/
def cnt : Bd → Nat
  | .t _ => 1
  | .neg b => cnt b
  | .grp _ bs => cntL bs
where cntL : List Bd → Nat
  | [] => 0
  | b :: bs => cnt b + cntL bs
section
variable {P : Program} {w : World} {K : PySem.W.Frag} {mg : Str → Option Value} {base : Heap}
theorem ok_is_body (T : Txt K mg) (a : At K mg "is_body" s_is_body ["thing"]) (Ois_test : Ok P w K mg base CX0 5 "is_test" ["thing"] (spTest K)) (Ois_list : Ok P w K mg base CX0 1 "is_list" ["thing"] (spIsList K)) : ∀ n, Ok P w K mg base CX0 (n + 6) "is_body" ["thing"] (spBodyG K (okN n) (isBodyN n))
  | 0 => ok_is_body_step T a Ois_test Ois_list (k := 5) (by decide) (a.ok fun f fd F => F.ok sc_is_body (fun vs H Q E h => by obtain ⟨v, d, rfl, _⟩ := h; rfl) (fun cdv A outer s H vs Q E hr h => by obtain ⟨v, d, _, _, z, _⟩ := h; exact z.elim))
  | n + 1 => ok_is_body_step T a Ois_test Ois_list (by omega) (ok_is_body T a Ois_test Ois_list n)
end
end K8

set_option Elab.async false
set_option linter.all false
set_option maxRecDepth 100000
set_option maxHeartbeats 4000000
namespace K8
open PySem PySem.Spec PyProof.Rows L2 M8
/-! [y for x in xs for y in f(x)] -/
def Lc2B (g : TG) (tt : TT) (wi1 : TI) (g1 : TG) (tt1 : TT) (te : TE) (vs vs1 : List Nat) (σ : L2.St) (Q : VK) (J : It) (H1 : Hp) : Prop := ∀ D, H1 D = none → ∃ W : Nat → Nat → Hp → Prop, (∃ m, W 0 m (upd H1 D (.lst []))) ∧ ∀ i m H, W i m H →
  (J.stop i H ∧ Q (.ref D) H) ∨ (J.go i H ∧ ∃ Nx : Hp → Prop, (∀ H', Nx H' → ∃ m', m' < m ∧ W (i + 1) m' H') ∧ ∀ x H', J.yld i H x H' → g x (wipe σ vs) H' fun σ2 H2 => wipe σ2 vs = wipe σ vs ∧ tt σ2 H2 fun b H3 =>
    if b = true then wi1 σ2 H3 fun J1 H4 => ∃ W1 : Nat → Nat → Hp → Prop, (∃ m, W1 0 m H4) ∧ ∀ j k H, W1 j k H →
      (J1.stop j H ∧ Nx H) ∨ (J1.go j H ∧ ∃ Nx1 : Hp → Prop, (∀ H', Nx1 H' → ∃ k', k' < k ∧ W1 (j + 1) k' H') ∧ ∀ x H', J1.yld j H x H' → g1 x (wipe σ2 vs1) H' fun σ3 H5 => wipe σ3 vs1 = wipe σ2 vs1 ∧ tt1 σ3 H5 fun b H6 =>
        if b = true then te σ3 H6 fun y H7 => ∃ acc, H7 D = some (.lst acc) ∧ acc.length < sizeLine ∧ Nx1 (upd H7 D (.lst (acc ++ [y]))) else Nx1 H6)
    else Nx H3)
theorem tLc2_of {wi : TI} {g : TG} {tt : TT} {wi1 : TI} {g1 : TG} {tt1 : TT} {te : TE} {vs vs1 : List Nat} {σ : L2.St} {H : Hp} {Q : VK} (h : wi σ H (Lc2B g tt wi1 g1 tt1 te vs vs1 σ Q)) : tLc2 wi g tt wi1 g1 tt1 te vs vs1 σ H Q := h
/-- total of the first i -/
def upto (c : Nat → Nat) : Nat → Nat | 0 => 0 | i + 1 => upto c i + c i
theorem lc2_flat {K : PySem.W.Frag} {J : It} {n : Nat} {Gd : Hp → Prop} {xs : List V} (wk : Walk J n Gd (YAt xs)) {wi1 : TI} {j1 j2 : Nat} {vs vs1 : List Nat} {σ : L2.St} {H1 : Hp} {Q : VK} (S : V → Prop) (c : Nat → Nat) (hsz : upto c n < 1000000) (hG : ∀ H', Ex H1 H' → Gd H')
    (hw : ∀ x, wipe ((wipe σ vs).set j1 (some x)) vs = wipe σ vs) (hj1 : j1 < (wipe σ vs).length) (hw1 : ∀ x y, wipe ((wipe ((wipe σ vs).set j1 (some x)) vs1).set j2 (some y)) vs1 = wipe ((wipe σ vs).set j1 (some x)) vs1) (hj2 : ∀ x y, ((wipe ((wipe σ vs).set j1 (some x)) vs1).set j2 (some y))[j2]? = some (some y))
    (step : ∀ i x H (R : It → Hp → Prop), i < n → xs[i]? = some x → Ex H1 H → (∀ l zs H', H l = none → Ex H H' → H' l = some (.lst zs) → zs.length = c i → (∀ z ∈ zs, S z) → R (Itl K l) H') → wi1 ((wipe σ vs).set j1 (some x)) H R)
    (hd : ∀ D acc H, H1 D = none → Ex H1 H → H D = some (.lst acc) → acc.length = upto c n → (∀ z ∈ acc, S z) → Q (.ref D) H) : Lc2B (gName j1) tYes wi1 (gName j2) tYes (tVar j2) vs vs1 σ Q J H1 := by
  intro D hD
  have big : (1000000 : Nat) < sizeLine := by rw [sizeLine_eq]; decide
  have mono : ∀ m k, upto c k ≤ upto c (k + m) := by
    intro m k
    induction m with
    | zero => exact Nat.le_refl _
    | succ m ih => exact Nat.le_trans ih (Nat.le_add_right _ _)
  have le : ∀ k, k ≤ n → upto c k ≤ upto c n := fun k hk => by
    have := mono (n - k) k
    rwa [show k + (n - k) = n by omega] at this
  refine ⟨fun i m H => m = n - i ∧ i ≤ n ∧ Ex H1 H ∧ ∃ acc, H D = some (.lst acc) ∧ acc.length = upto c i ∧ ∀ z ∈ acc, S z, ⟨n, by simp, Nat.zero_le _, Ex.new hD, [], upd_same, rfl, fun z h => by simp at h⟩, ?_⟩
  rintro i m H ⟨rfl, hi, e, acc, hDH, hl, hS⟩
  have g := hG H e
  by_cases hlt : i < n
  · refine .inr ⟨wk.goes i H hlt g, fun H' => Ex H1 H' ∧ ∃ acc, H' D = some (.lst acc) ∧ acc.length = upto c (i + 1) ∧ ∀ z ∈ acc, S z, fun H' p => ⟨n - (i + 1), by omega, rfl, hlt, p⟩, fun x H' y => ?_⟩
    obtain ⟨rfl, hx⟩ := wk.yields i H x H' hlt g y
    refine ⟨hw x, ?_⟩
    refine yesT (step i x _ _ hlt hx e fun l zs H4 hln e4 hl4 hlen hz => ?_)
    have nlD : l ≠ D := fun z => by rw [z, hDH] at hln; cases hln
    have hub : upto c i + c i ≤ upto c n := le (i + 1) hlt
    refine ⟨fun j k H' => k = zs.length - j ∧ j ≤ zs.length ∧ Ex H1 H' ∧ H' l = some (.lst zs) ∧ ∃ acc', H' D = some (.lst acc') ∧ acc'.length = upto c i + j ∧ ∀ z ∈ acc', S z, ⟨zs.length, by simp, Nat.zero_le _, e.trans e4, hl4, acc, e4 _ _ hDH, hl, hS⟩, ?_⟩
    rintro j k H5 ⟨rfl, hj, e5, hl5, acc5, hD5, hlen5, hS5⟩
    by_cases hjl : j < zs.length
    · obtain ⟨z, hzj⟩ : ∃ z, zs[j]? = some z := ⟨zs[j], List.getElem?_eq_getElem hjl⟩
      refine .inr ⟨⟨zs, z, SqL.of hl5, hzj⟩, fun H' => Ex H1 H' ∧ H' l = some (.lst zs) ∧ ∃ acc', H' D = some (.lst acc') ∧ acc'.length = upto c i + (j + 1) ∧ ∀ z ∈ acc', S z, fun H' p => ⟨zs.length - (j + 1), by omega, rfl, hjl, p⟩, fun y H6 hy => ?_⟩
      obtain ⟨rfl, hy⟩ := hy
      have hy := hy zs (SqL.of hl5)
      refine ⟨hw1 x y, yesT ⟨y, hj2 x y, acc5, hD5, by omega, e5.mut hD, by rw [upd_ne nlD]; exact hl5, _, upd_same, by rw [List.length_append]; simp; omega, fun z hz' => ?_⟩⟩
      rcases List.mem_append.mp hz' with h | h
      · exact hS5 z h
      · rw [show z = y by simpa using h]; exact hz y (List.mem_of_getElem? hy)
    · have : j = zs.length := by omega
      subst this
      exact .inl ⟨⟨zs, SqL.of hl5, Nat.le_refl _⟩, e5, acc5, hD5, by rw [hlen5, hlen]; rfl, hS5⟩
  · have : i = n := by omega
    subst this
    exact .inl ⟨wk.stops H g, hd D acc H hD e hDH hl hS⟩
/-- a test in whatever lists, of which p is true -/
def TstSee (K : PySem.W.Frag) (H : Hp) (p : Tst → Prop) (z : V) : Prop := ∃ d ts, SeeF K H z d ∧ IsTst d ts ∧ p ts
theorem cntL_upto (bs : List Bd) : cnt.cntL bs = upto (fun i => (bs[i]?.map cnt).getD 0) bs.length := by
  have gen : ∀ (l r : List Bd), cnt.cntL (l ++ r) = cnt.cntL l + cnt.cntL r := by
    intro l r
    induction l with
    | nil => show cnt.cntL r = cnt.cntL [] + cnt.cntL r; rw [cnt.cntL]; omega
    | cons b l ih => show cnt.cntL (b :: (l ++ r)) = _; rw [cnt.cntL, cnt.cntL, ih]; omega
  have step : ∀ i, i ≤ bs.length → cnt.cntL (bs.take i) = upto (fun i => (bs[i]?.map cnt).getD 0) i := by
    intro i
    induction i with
    | zero => intro _; rw [List.take_zero, cnt.cntL]; rfl
    | succ i ih =>
      intro h
      have hi : i < bs.length := by omega
      rw [List.take_add_one, gen, ih (by omega), List.getElem?_eq_getElem hi]
      show _ + cnt.cntL [bs[i]] = upto _ i + _
      rw [cnt.cntL, cnt.cntL, Nat.add_zero]; dsimp only; rw [List.getElem?_eq_getElem hi]; rfl
  have := step bs.length (Nat.le_refl _)
  rwa [List.take_length] at this
theorem cnt_mem {b : Bd} : ∀ {bs : List Bd}, b ∈ bs → cnt b ≤ cnt.cntL bs
  | c :: l, h => by
    rw [cnt.cntL]
    rcases List.mem_cons.mp h with rfl | h
    · omega
    · have := cnt_mem h; omega
section
variable {P : Program} {w : World} {K : PySem.W.Frag} {mg : Str → Option Value} {base : Heap}
def spTests (K : PySem.W.Frag) (n : Nat) : Sp := fun vs H Q _ => ∃ v d b H0 p, vs = [v] ∧ Ex H0 H ∧ SeeF K H0 v d ∧ IsB n d b ∧ AllT p n b ∧ cnt b ≤ 1000 ∧ ∀ l zs H', H l = none → Ex H H' → H' l = some (.lst zs) → zs.length = cnt b → (∀ z ∈ zs, TstSee K H0 p z) → Q (.ref l) H'
abbrev s_tests_of : Stmt := top 31
theorem sc_tests_of : FnScope ["body", "inner", "test"] ["body"] (defScope s_tests_of) := ⟨rfl, rfl, rfl, by decide +kernel, rfl, by decide +kernel, by decide +kernel⟩
theorem head_isB {n : Nat} {d : Dat} {b : Bd} (h : IsB n d b) : ∃ z r, items d = .str z :: r := by
  have tst : ∀ ts, IsTst d ts → ∃ z r, items d = .str z :: r := by
    intro ts h
    cases ts with
    | row c k => obtain ⟨_, t, h2, _⟩ := h; exact ⟨_, _, h2⟩
    | same c k => obtain ⟨_, t, h2, _⟩ := h; exact ⟨_, _, h2⟩
    | div m c k => obtain ⟨_, t, h2, _⟩ := h; exact ⟨_, _, h2⟩
  cases n with
  | zero =>
    match b, h with
    | .t ts, h => exact tst ts h
  | succ n =>
    match b, h with
    | .t ts, h => exact tst ts h
    | .neg b, ⟨_, e, h2, _⟩ => exact ⟨_, _, h2⟩
    | .grp w bs, ⟨_, e, h2, _⟩ => exact ⟨_, _, h2⟩
/-- what stands ahead of a test -/
theorem head_tst {d : Dat} {ts : Tst} (h : IsTst d ts) : ∃ z r, items d = .str z :: r ∧ z ≠ ("not" : Str) ∧ inV (.str z) [.str "all", .str "any"] = false := by
  cases ts with
  | row c k => obtain ⟨_, t, h2, _⟩ := h; exact ⟨_, _, h2, by decide +kernel, by decide +kernel⟩
  | same c k => obtain ⟨_, t, h2, _⟩ := h; exact ⟨_, _, h2, by decide +kernel, by decide +kernel⟩
  | div m c k => obtain ⟨_, t, h2, _⟩ := h; exact ⟨_, _, h2, by decide +kernel, by decide +kernel⟩
theorem sq_tst {d : Dat} {ts : Tst} (h : IsTst d ts) : isSq d = true := by cases ts <;> exact h.1
/-- a pair of a word and the rest -/
theorem pair_see {H : Hp} {v : V} {d : Dat} {z : Str} {e : Dat} (s : SeeF K H v d) (h1 : isSq d = true) (h2 : items d = [.str z, e]) : ∃ p ve, v = .ref p ∧ (H p = some (.lst [.str z, ve]) ∨ H p = some (.tup [.str z, ve])) ∧ SeeF K H ve e := by
  obtain ⟨p, xs, rfl, hp, hx⟩ := see_sq s h1
  rw [h2] at hx
  cases hx with
  | cons y1 hx =>
    cases y1
    cases hx with
    | cons y2 hx =>
      cases hx
      exact ⟨p, _, rfl, hp, y2⟩
theorem ok_tests_step (T : Txt K mg) (a : At K mg "tests_of" s_tests_of ["body"]) {k n : Nat} {sub : Sp} (hsub : ∀ m, n = m + 1 → ∀ vs H Q E, spTests K m vs H Q E → sub vs H Q E) (Otests_of : Ok P w K mg base CX0 k "tests_of" ["body"] sub) : Ok P w K mg base CX0 (k+1) "tests_of" ["body"] (spTests K n) := a.ok fun f fd F => by
  refine F.ok sc_tests_of (fun vs H Q E h => ?_) (fun cdv A outer s H vs Q E hr h => ?_)
  · obtain ⟨v, d, b, H0, p, rfl, _⟩ := h; rfl
  · obtain ⟨v, d, b, H0, p, rfl, e0, hs, hb, ha, hc, q⟩ := h
    refine ⟨_, (pss_cons (ps_if (pt_cmpR op_eq (pe_ix (ix_qK (K := K) rfl) (pv 0) pe_int (fun _ _ => rfl)) pe_str (nomark _)) (pss_one (ps_ret (pe_callO Otests_of hr rfl (pa_cons (pe_ix (ix_qK (K := K) rfl) (pv 0) pe_int (fun _ _ => rfl)) pa_nil)))) pss_nil)
      (pss_cons (ps_if (pt_cmpR op_in_seq (pe_ix (ix_qK (K := K) rfl) (pv 0) pe_int (fun _ _ => rfl)) (pe_tup (pa_cons pe_str (pa_cons pe_str pa_nil))) rfl) (pss_one (ps_ret (pe_lc2 (own := [("inner", 1), ("test", 2)]) (vs1 := [2]) (g := gName 1) (tt := tYes) (g1 := gName 2) (tt1 := tYes) (wi1 := iList K (tC0 sub (tCons (tVar 1) tNil))) rfl sc_tests_of.nd (pi_lt (pe_ix (ix_qK (K := K) rfl) (pv 0) pe_int (fun _ _ => rfl))) (blkOk_by (N := ["body", "inner", "test"]) (sc := defScope s_tests_of) (by decide +kernel)) (by decide) (fun _ _ _ _ _ => (pg_name (i := 1) sc_tests_of.nd rfl (Or.inl rfl))) (fun _ _ _ _ _ => pts_nil) (fun _ _ _ _ _ => pi_list (pe_callO Otests_of hr rfl (pa_cons (pv 1) pa_nil))) (fun _ _ _ _ _ => (pg_name (i := 2) sc_tests_of.nd rfl (Or.inl rfl))) (fun _ _ _ _ _ => pts_nil) (fun _ _ _ _ _ => (pv 2))))) pss_nil)
      (pss_one (ps_ret (pe_lst (pa_cons (pv 0) pa_nil)))))), ?_⟩
    have inAA : ∀ {z : Str} {r : List V} {a : Addr} {H1 : Hp} {Q1 : VK}, (H1 a = some (.lst (.str z :: r)) ∨ H1 a = some (.tup (.str z :: r))) → True := fun _ => trivial
    -- what the body is
    have tst : ∀ ts, IsTst d ts → p ts → b = .t ts → ∃ z r, items d = .str z :: r ∧ z ≠ ("not" : Str) ∧ inV (.str z) [.str "all", .str "any"] = false := fun ts h _ _ => head_tst h
    match n, b, hb, ha with
    | n, .t ts, hb, ha =>
      have hb := IsB.tst.mp hb
      have hp' := AllT.tst.mp ha
      obtain ⟨z, r, hi, h1, h2⟩ := head_tst hb
      obtain ⟨a1, xs, rfl, hq, hx⟩ := see_sq hs (sq_tst hb)
      rw [hi] at hx
      cases hx with
      | cons y1 hx =>
        cases y1
        have hq0 := hq.imp (e0 _ _) (e0 _ _)
        refine ⟨_, rfl, a1, _, 0, _, rfl, rfl, SqQ.or hq0, at0, rfl, _, rfl, ?_⟩
        rw [decide_eq_false fun z => h1 (V.str.inj z)]
        refine iteF ⟨_, rfl, a1, _, 0, _, rfl, rfl, SqQ.or hq0, at0, by show 2 ≤ sizeLine; decide, fun tp htp => ?_⟩
        have e1 : Ex H (upd H tp (.tup [.str "all", .str "any"])) := Ex.new htp
        refine ⟨tp, _, rfl, .inr (SqT.of upd_same), rfl, rfl, _, rfl, ?_⟩
        rw [h2]
        refine iteF ⟨_, rfl, by show 1 ≤ sizeLine; decide, fun l hl => ?_⟩
        exact q l _ _ (e1.free hl) (e1.mut (e1.free hl)) upd_same rfl fun z hz => by
          rw [show z = .ref a1 by simpa using hz]
          exact ⟨d, ts, hs, hb, hp'⟩
    | n + 1, .neg b, ⟨h1, e, h2, h3⟩, ha =>
      obtain ⟨a1, ve, rfl, hq, hv⟩ := pair_see hs h1 h2
      have hq0 := hq.imp (e0 _ _) (e0 _ _)
      refine ⟨_, rfl, a1, _, 0, _, rfl, rfl, SqQ.or hq0, at0, rfl, _, rfl, iteT ?_⟩
      refine ⟨_, rfl, a1, _, 1, _, rfl, rfl, SqQ.or hq0, at1, hsub n rfl _ _ _ _ ⟨_, e, b, H0, p, rfl, e0, hv, h3, ha, hc, q⟩⟩
    | n + 1, .grp w bs, ⟨h1, e, h2, h3, h4⟩, ha =>
      obtain ⟨a1, ve, rfl, hq, hv⟩ := pair_see hs h1 h2
      have hq0 := hq.imp (e0 _ _) (e0 _ _)
      refine ⟨_, rfl, a1, _, 0, _, rfl, rfl, SqQ.or hq0, at0, rfl, _, rfl, ?_⟩
      rw [show decide (V.str (kw w) = V.str "not") = false by cases w <;> decide +kernel]
      refine iteF ⟨_, rfl, a1, _, 0, _, rfl, rfl, SqQ.or hq0, at0, by show 2 ≤ sizeLine; decide, fun tp htp => ?_⟩
      have e1 : Ex H (upd H tp (.tup [.str "all", .str "any"])) := Ex.new htp
      refine ⟨tp, _, rfl, .inr (SqT.of upd_same), rfl, rfl, _, rfl, ?_⟩
      rw [show inV (V.str (kw w)) [.str "all", .str "any"] = true by cases w <;> decide +kernel]
      refine iteT ?_
      have hq1 := hq0.imp (e1 _ _) (e1 _ _)
      have e01 := e0.trans e1
      obtain ⟨p2, ys, rfl, hp2, hy⟩ := see_sq hv h3
      have hp3 := hp2.imp (e01 _ _) (e01 _ _)
      dsimp only [tRet]
      refine tLc2_of ?_
      have hlen := hy.len
      have h4l := h4.len
      have tail : ∀ {J : It} {Gd : Hp → Prop}, Walk J ys.length Gd (YAt ys) → (∀ H', Ex (upd H tp (.tup [.str "all", .str "any"])) H' → Gd H') →
          Lc2B (gName 1) tYes (iList K (tC0 sub (tCons (tVar 1) tNil))) (gName 2) tYes (tVar 2) [1, 2] [2] [some (.ref a1), none, none] Q J (upd H tp (.tup [.str "all", .str "any"])) := by
        intro J Gd wk hG
        refine lc2_flat (K := K) wk (TstSee K H0 p) (fun i => (bs[i]?.map cnt).getD 0) ?_ hG (fun _ => rfl) (by show 1 < 3; decide) (fun _ _ => rfl) (fun _ _ => rfl) ?_ ?_
        · rw [show ys.length = bs.length by omega, ← cntL_upto]
          have : cnt (.grp w bs) = cnt.cntL bs := by rw [cnt]
          omega
        · intro i x H2 R hi hx e2 k2
          obtain ⟨dd, hd, sd⟩ := hy.getV hx
          obtain ⟨bb, hbb, ib⟩ := h4.get hd
          have hm := List.mem_of_getElem? hbb
          have cle : cnt bb ≤ cnt (.grp w bs) := by
            rw [cnt]
            exact cnt_mem hm
          refine ⟨_, rfl, hsub n rfl _ _ _ _ ⟨x, dd, bb, H0, p, rfl, e01.trans e2, sd, ib, ha.2 bb hm, by omega, fun l zs H3 h1 h2 h3 h4 h5 => ⟨l, rfl, ⟨zs, SqL.of h3⟩, k2 l zs H3 h1 h2 h3 (by rw [h4, hbb]; rfl) h5⟩⟩⟩
        · intro D acc H2 hD e2 hDH hl hS
          refine q D acc H2 (e1.free hD) (e1.trans e2) hDH ?_ hS
          rw [hl, show ys.length = bs.length by omega, ← cntL_upto, cnt]
      rcases hp3 with hp3 | hp3
      · exact .inl ⟨_, rfl, a1, _, 1, _, rfl, rfl, SqQ.or hq1, at1, p2, rfl, ⟨ys, SqL.of hp3⟩, tail walk_list fun H' e => SqL.of (e _ _ hp3)⟩
      · exact .inr ⟨_, rfl, a1, _, 1, _, rfl, rfl, SqQ.or hq1, at1, p2, rfl, ⟨ys, SqT.of hp3⟩, tail walk_tup fun H' e => SqT.of (e _ _ hp3)⟩
theorem ok_tests_of (T : Txt K mg) (a : At K mg "tests_of" s_tests_of ["body"]) : ∀ n, Ok P w K mg base CX0 (n+2) "tests_of" ["body"] (spTests K n)
  | 0 => ok_tests_step T a (k := 1) (sub := fun _ _ _ _ => False) (fun m h => by omega) (a.ok fun f fd F => F.ok sc_tests_of (fun vs H Q E h => h.elim) (fun cdv A outer s H vs Q E hr h => h.elim))
  | n + 1 => ok_tests_step T a (sub := spTests K n) (fun m h vs H Q E x => (show n = m from by omega) ▸ x) (ok_tests_of T a n)
end
end K8

set_option Elab.async false
set_option linter.all false
set_option maxRecDepth 100000
set_option maxHeartbeats 4000000
namespace TxS
open PySem PySem.Spec PyProof.Rows L2
/-! sets of keys that can be walked: add keeps their tables in order -/
/-- what a walk asks of the table -/
structure Wk (w : World) (t : SetTable) : Prop where
  ris : Ris t.place.toList
  led : w.params.followText "set-order" = true ∨ t.led = true
theorem Wk.of {w : World} {t t' : SetTable} (k : Wk w t) (r : Ris t'.place.toList) (e : t'.led = t.led) : Wk w t' := ⟨r, k.led.imp id fun z => e.trans z⟩
section
variable {P : Program} {w : World} {T : Type} [DecidableEq T] {kd : KeyKind P w T}
/-- members, how many entries, and the table in order -/
def SetW (kd : KeyKind P w T) (h : Heap) (a : Addr) (S : T → Bool) (n : Nat) : Prop :=
  ∃ o l ep t, h.get? a = some o ∧ o.ExactSet ∧ o.data = .set l ep t ∧ (ElemsOf kd l.toList ∧ (∀ k, S k = true ↔ ∃ e ∈ l.toList, kd.is k e.2 = true)) ∧ (l.size < scanBound ∧ t.fits l.size = true ∧ l.size = n) ∧ Wk w t
theorem SetW.setOf {h : Heap} {a : Addr} {S : T → Bool} {n : Nat} (R : SetW kd h a S n) : h.SetOf kd a S n := by
  obtain ⟨o, l, ep, t, h1, h2, h3, ⟨h4, h5⟩, ⟨h6, h7, h8⟩, _⟩ := R
  exact ⟨o, l, ep, t, h1, h2, h3, h4, h5, h6, h7, h8⟩
theorem SetW.at {h h' : Heap} {a : Addr} {S : T → Bool} {n : Nat} (R : SetW kd h a S n) (k : ∀ o, h.get? a = some o → h'.get? a = some o) : SetW kd h' a S n := by
  obtain ⟨o, l, ep, t, h1, r⟩ := R
  exact ⟨o, l, ep, t, k o h1, r⟩
/-- the object behind a store -/
theorem put_at {h : Heap} {a : Addr} {o : Obj} {l m : Array (Int × Value)} {ep : Nat} {t u : SetTable} (ho : h.get? a = some o) (hd : o.data = .set l ep t) : (h.update a (Obj.putSet m u)).get? a = some { o with data := .set m (ep + 1) u } := by
  have e := putSet_of m u hd
  rw [Heap.get?_update_self (Obj.putSet m u) ho (by rw [e]; rfl), e]
variable {A : Around} {E : Value → Shared → Prop} {s : Shared} {a : Addr} {S : T → Bool} {n : Nat} {k : T} {x : Value}
/-- the entry is laid, and the table made anew where it is too full -/
theorem add_end {f : Bool → Sem Unit} (hf : ∀ b s1 (Q1 : Unit → Shared → Prop), Q1 () s1 → wpAny (model P w) A (f b) Q1 E s1) {o : Obj} {l m : Array (Int × Value)} {ep : Nat} {t u : SetTable} {S1 : T → Bool} {dm : Bool} {Q : Option Bool → Shared → Prop}
    (ho : s.heap.get? a = some o) (hx : o.ExactSet) (hd : o.data = .set l ep t) (he : ElemsOf kd m.toList ∧ ∀ k, S1 k = true ↔ ∃ e ∈ m.toList, kd.is k e.2 = true) (hb : m.size < scanBound) (ht : u.fits m.size = true) (hw : Wk w u)
    (q : ∀ h', Heap.SameBut a s.heap h' → SetW kd h' a S1 m.size → Q (some true) { s with heap := h' }) :
    wpAny (model P w) A (do
        storeSet a m u
        if (!dm && u.tooFull) = true then
          do f (relayAll u m (SetTable.grown m.size)).2.2; storeSet a (relayAll u m (SetTable.grown m.size)).1 (relayAll u m (SetTable.grown m.size)).2.1; pure (some true)
        else pure (some true)) Q E s := by
  have o1 := put_at (m := m) (u := u) ho hd
  have b1 := Heap.SameBut.update s.heap a (Obj.putSet m u)
  refine wpAny_bind (wpAny_storeSet_of ho hd ?_ (fits_of_scanBound hb))
  by_cases full : (!dm && u.tooFull) = true
  · rw [if_pos full]
    have hw3 : Wk w (relayAll u m (SetTable.grown m.size)).2.1 := hw.of (relayAll_ris u m _) (relayAll_led u m _)
    have pm : (relayAll u m (SetTable.grown m.size)).1.toList.Perm m.toList := relayAll_perm u m _
    have ht3 := relayAll_fits u m (SetTable.grown m.size)
    have sz : (relayAll u m (SetTable.grown m.size)).1.size = m.size := by
      have := pm.length_eq
      rwa [Array.length_toList, Array.length_toList] at this
    refine wpAny_bind (hf _ _ _ (wpAny_bind (wpAny_storeSet_of o1 rfl ?_ (fits_of_scanBound (by rw [sz]; exact hb)))))
    refine wpAny_pure (q _ (b1.trans (Heap.SameBut.update _ a _)) ⟨_, _, _, _, put_at o1 rfl, hx, rfl, ⟨he.1.perm pm, fun j => (he.2 j).trans ⟨fun ⟨e, h1, h2⟩ => ⟨e, pm.mem_iff.mpr h1, h2⟩, fun ⟨e, h1, h2⟩ => ⟨e, pm.mem_iff.mp h1, h2⟩⟩⟩, ⟨by rw [sz]; exact hb, ht3, sz⟩, hw3⟩)
  · rw [if_neg full]
    exact wpAny_pure (q _ b1 ⟨_, _, _, _, o1, hx, rfl, he, ⟨hb, ht, rfl⟩, hw⟩)
theorem add_in {Q : Bool → Shared → Prop} (hk : kd.is k x = true) (hx : x.scannable = true) (R : SetW kd s.heap a S n) (room : n + 1 < scanBound)
    (q : ∀ b h' m, Heap.SameBut a s.heap h' → m ≤ n + 1 → SetW kd h' a (fun j => S j || decide (j = k)) m → Q b { s with heap := h' }) : wpAny (model P w) A (setAddHashed a x (kd.hash k)) Q E s := by
  obtain ⟨o, l, ep, t, ho, hex, hd, ⟨hel, hm⟩, ⟨hb, hft, rfl⟩, hw⟩ := R
  have quiet : ∀ (b : Bool) (s1 : Shared) (Q1 : Unit → Shared → Prop), Q1 () s1 → wpAny (model P w) A (match b with | true => rule "set.scan.the-table-gave-way" | false => pure ()) Q1 E s1 := fun b s1 Q1 h => by
    cases b
    · exact wpAny_pure h
    · exact wpAny_rule h
  unfold setAddHashed setAddHashedIn
  refine wpAny_holding (wpAny_bind (wpAny_setState_of ho hd hft ?_))
  dsimp only
  rw [byScan_of hx hb hel, if_pos rfl]
  unfold setAddByScan
  refine wpAny_bind (wpAny_bind (wpAny_rule (wpAny_bind (wpAny_setScan_of hk ho hd hft hel ?_))))
  cases there : List.findIdx? (fun e => kd.is k e.2) l.toList with
  | some j =>
    obtain ⟨hj, pj, _⟩ := List.findIdx?_eq_some_iff_getElem.mp there
    have inS : S k = true := (hm k).mpr ⟨_, List.getElem_mem hj, pj⟩
    have same : (fun j => S j || decide (j = k)) = S := by
      funext j
      by_cases e : j = k
      · rw [e, inS]; rfl
      · rw [decide_eq_false e, Bool.or_false]
    refine wpAny_pure (wpAny_pure (q false s.heap l.size (Heap.SameBut.refl a s.heap) (Nat.le_succ _) ?_))
    rw [same]
    exact ⟨o, l, ep, t, ho, hex, hd, ⟨hel, hm⟩, ⟨hb, hft, rfl⟩, hw⟩
  | none =>
    dsimp only
    have pm := layNew_perm t l (kd.hash k) x
    have w1 : Wk w (layNew t l (kd.hash k) x).2.1 := hw.of (layNew_ris t l _ x hw.ris) (layNew_led t l _ x)
    have f1 := layNew_fits t l (kd.hash k) x
    generalize layNew t l (kd.hash k) x = Z at pm w1 f1 ⊢
    obtain ⟨m, u, dm, gv⟩ := Z
    dsimp only at pm w1 f1 ⊢
    rw [Array.toList_push] at pm
    have sz : m.size = l.size + 1 := by
      have := pm.length_eq
      rwa [List.length_append, Array.length_toList, Array.length_toList] at this
    have fin : ∀ h', Heap.SameBut a s.heap h' → SetW kd h' a (fun j => S j || decide (j = k)) m.size → Q true { s with heap := h' } := fun h' sb r => q true h' m.size sb (Nat.le_of_eq sz) r
    have he : ElemsOf kd m.toList ∧ ∀ j, (S j || decide (j = k)) = true ↔ ∃ e ∈ m.toList, kd.is j e.2 = true := ⟨(hel.push hk hx).perm pm, mem_push_iff hk hm pm⟩
    have hb1 : m.size < scanBound := by rw [sz]; exact room
    refine wpAny_bind (quiet _ _ _ ?_)
    split
    · refine wpAny_bind ?_
      rw [hashByValue_scannable 8 hx]
      refine wpAny_pure (add_end quiet ho hex hd he hb1 ?_ ?_ fun h' sb r => wpAny_pure (fin h' sb r))
      · split
        · exact f1
        · exact SetTable.fits_plain_off f1
      · split
        · exact w1
        · exact ⟨w1.ris, w1.led⟩
    · refine wpAny_bind (wpAny_pure ?_)
      rw [if_pos rfl]
      exact add_end quiet ho hex hd he hb1 f1 w1 fun h' sb r => wpAny_pure (fin h' sb r)
end
end TxS

set_option Elab.async false
set_option linter.all false
set_option maxRecDepth 100000
set_option maxHeartbeats 4000000
namespace TxS
open PySem PySem.Spec PyProof.Rows L2
section
variable {P : Program} {w : World} {T : Type} [DecidableEq T] {kd : KeyKind P w T} {A : Around} {E : Value → Shared → Prop} {s : Shared} {a : Addr} {S : T → Bool} {n : Nat} {k : T} {x : Value}
theorem call_addW {Q : Value → Shared → Prop} (hk : kd.is k x = true) (hx : x.scannable = true) (R : SetW kd s.heap a S n) (room : n + 1 < scanBound)
    (q : ∀ h' m, Heap.SameBut a s.heap h' → m ≤ n + 1 → SetW kd h' a (fun j => S j || decide (j = k)) m → Q .none { s with heap := h', toks := s.toks + 1 }) : wpAny (model P w) A (call (.builtin "set.add") [.ref a, x]) Q E s := by
  refine wpAny_call_entry F.slot_set_add R.setOf.typeIs F.entry_set_add ?_ (F.args_set_add_2 _ _)
  unfold Builtin.«set.add» Builtin.Frozenset.oneOther Builtin.Frozenset.addrOf setAdd
  simp only [List.isEmpty_nil, bind_assoc]
  refine wpAny_bind (wpAny_pure ?_); try dsimp only
  refine wpAny_bind (wpAny_pure ?_); try dsimp only
  refine wpAny_bind (wpAny_holding (wpAny_bind (kd.pyHash hk (add_in (s := { s with toks := s.toks + 1 }) hk hx R room fun b h' m sb hm r => ?_))))
  exact wpAny_pure ⟨_, rfl, q h' m sb hm r⟩
theorem newW {h : Heap} (led : Bool) (hl : w.params.followText "set-order" = true ∨ led = true) : SetW kd (h.push { cls := .type "set", dict := none, data := .set #[] 0 (.fresh 0 0 led) }) h.objs.size (fun _ => false) 0 :=
  ⟨_, #[], 0, _, Heap.get?_push_size _ rfl, ⟨rfl, rfl, rfl⟩, rfl, ⟨fun e he => by simp at he, fun k => by simp⟩, ⟨by decide, by rfl, rfl⟩, ⟨by
    show Ris (#[] : Array Nat).toList
    exact List.Pairwise.nil, hl⟩⟩
end
/-- all keys are texts of which p is true -/
def Txt1 (S : Key → Bool) (p : Str → Prop) : Prop := ∀ k, S k = true → ∃ z, k = .inr z ∧ p z
section
variable {P : Program} {w : World} {A : Around} {E : Value → Shared → Prop} {s : Shared} {a : Addr} {S : Key → Bool} {n : Nat}
theorem vals_txt {p : Str → Prop} {l : List (Int × Value)} (he : ElemsOf (mixKind P w) l) (hm : ∀ k, S k = true ↔ ∃ e ∈ l, (mixKind P w).is k e.2 = true) (ht : Txt1 S p) : ∀ v ∈ l.map (·.2), ∃ z t, v = Value.str z t ∧ p z := by
  intro v hv
  obtain ⟨e, h1, rfl⟩ := List.mem_map.mp hv
  obtain ⟨⟨k, h2, _⟩, _⟩ := he e h1
  obtain ⟨z, rfl, hz⟩ := ht k ((hm k).mpr ⟨e, h1, h2⟩)
  rcases keyIs_shape (show keyIs (.inr z) e.2 = true from h2) with ⟨i, t, h3, _⟩ | ⟨y, t, h3, h4⟩
  · cases h3
  · cases h3
    exact ⟨z, t, h4, hz⟩
theorem sorted_txt {p : Str → Prop} {Q : Value → Shared → Prop} (R : SetW (mixKind P w) s.heap a S n) (ht : Txt1 S p) (hh : A.handled = none)
    (q : ∀ s' b (out : Array Value) (c : Nat) (ys : List Str), (∀ d o, s.heap.get? d = some o → s'.heap.get? d = some o) → s'.gens = s.gens → s'.os = s.os → s.heap.objs.size ≤ b → s'.heap.get? b = some (seqObj "list" out c) → StrsAre out.toList ys → (∀ y ∈ ys, p y) → ys.length = n → Q (.ref b) s') :
    wpAny (model P w) A (call (.builtin "sorted") [.ref a]) Q E s := by
  obtain ⟨o, l, ep, t, ho, hx, hd, ⟨he, hm⟩, ⟨hb, hf, hn⟩, hw⟩ := R
  have big := fits_of_scanBound hb
  have vt := vals_txt he hm ht
  refine Calls.call_function_entry kind_sorted plain_sorted entry_sorted (args_sorted1 _) ?_
  unfold Builtin.«sorted»
  refine wpAny_bind (m := checkCount "sorted" 1 1 _) (wpAny_pure (wpAny_bind ?_))
  refine collect_set (A := A.in1) hh ⟨o, ho, hx.1, hd⟩ hf hb hw.ris hw.led fun s1 vs k1 hz g1 o1 pm => ?_
  have len : vs.length = n := by rw [pm.length_eq, List.length_map, Array.length_toList, hn]
  have all : StrsAre vs (vs.map strOf) := strsAre_map vs fun v hv => by
    obtain ⟨z, t, h, _⟩ := vt v (pm.mem_iff.mp hv)
    exact ⟨z, t, h⟩
  have ok : ∀ y ∈ vs.map strOf, p y := fun y hy => by
    obtain ⟨v, hv, rfl⟩ := List.mem_map.mp hy
    obtain ⟨z, t, rfl, hp⟩ := vt v (pm.mem_iff.mp hv)
    exact hp
  have hs : vs.length ≤ sizeLine := by rw [len, ← hn]; exact big
  refine wpAny_bind (wpAny_newList ?_ hs)
  have hL : (s1.heap.push (seqObj "list" vs.toArray 0)).get? s1.heap.objs.size = some (seqObj "list" vs.toArray 0) := Heap.get?_push_size _ rfl
  refine wpAny_bind (wpAny_holding (wpAny_call_entry slot_list_sort ⟨_, hL, rfl⟩ entry_list_sort (list_sort_treeKAny strKind_oneLt hL all.keysOf (fun v₁ v₂ rest e => keyKind_strs (by rw [← e]; exact all)) hs fun st' hp hso => ⟨_, rfl, ?_⟩) (args_list_sort _)))
  obtain ⟨ys, y1, y2, _⟩ := sorted_out_str all hp hso
  obtain ⟨c, hc⟩ := sortedHeap_at (vs := vs) (out := (arrOf st').map (·.2)) hL
  refine wpAny_pure ⟨_, rfl, q _ s1.heap.objs.size _ c ys (fun d u e => ?_) g1 o1 hz hc y1 (fun y hy => ok y (y2.mem_iff.mp hy)) (by rw [y2.length_eq, List.length_map, len])⟩
  have e1 := k1 d u e
  have lt := Heap.lt_size e1
  show (sortedHeap (s1.heap.push (seqObj "list" vs.toArray 0)) s1.heap.objs.size vs _).get? d = some u
  rw [sortedHeap_old (Nat.ne_of_lt lt) (by rw [size_push']; exact Nat.lt_succ_of_lt lt)]
  exact Heap.get?_push_of_some _ e1
end
/-- the set at a, in the tracked heap -/
def SetX (P : Program) (w : World) (a : Addr) (S : Key → Bool) (n : Nat) : HO := .ext fun h => SetW (mixKind P w) h a S n
section
variable {P : Program} {w : World} {H : Hp} {h : Heap} {a : Addr} {S : Key → Bool} {n : Nat}
theorem setX_new (R : SetW (mixKind P w) h a S n) : ObjOk P w H h a (SetX P w a S n) := by
  refine ⟨R, ?_, fun h1 h2 p k => SetW.at p k⟩
  obtain ⟨o, _, _, _, ho, _⟩ := R
  exact ⟨o, ho⟩
end
section
variable {X : Cx} {pins : List (Addr × Obj)} {σ : L2.St} {H : Hp} {s : Shared} {a : Addr} {S : Key → Bool} {n : Nat}
theorem setX_get (I : Inv X pins σ H s) (h : H a = some (SetX X.prog X.w a S n)) : SetW (mixKind X.prog X.w) s.heap a S n := (I.hok a _ h).1
theorem addX_ok {E : Value → Shared → Prop} {y : Str} {v : Value} {Q : Value → Shared → Prop} (I : Inv X pins σ H s) (hD : H a = some (SetX X.prog X.w a S n)) (hv : RelV (.str y) v) (room : n + 1 < scanBound)
    (q : ∀ s' m, m ≤ n + 1 → Inv X pins σ (upd H a (SetX X.prog X.w a (fun j => S j || decide (j = .inr y)) m)) s' → Q .none s') : wpAny (model X.prog X.w) X.A (call (.builtin "set.add") [.ref a, v]) Q E s := by
  have hv2 : RelV (kV (.inr y)) v := hv
  refine call_addW (kV_is hv2) (key_scan hv2) (setX_get I hD) room fun h' m sb hm r => q _ m hm ?_
  have there : ∃ u, h'.get? a = some u := by
    obtain ⟨o, _, _, _, ho, _⟩ := r
    exact ⟨o, ho⟩
  exact I.write (e := a) (t' := s.toks + 1) (by rw [hD]; trivial) (.inl rfl) (fun b u hb hu => (sb.2 b hb).trans hu) there (setX_new r)
/-- sorted of a set of texts: a new list of its members -/
def rSortX (P : Program) (w : World) : List V → Hp → VK → Prop := fun vs H Q => ∃ (a : Addr) (S : Key → Bool) (n : Nat) (p : Str → Prop), vs = [.ref a] ∧ H a = some (SetX P w a S n) ∧ n < scanBound ∧ Txt1 S p ∧
  ∀ (ys : List Str) (b : Addr), (∀ y ∈ ys, p y) → ys.length = n → H b = none → Q (.ref b) (upd H b (.lst (ys.map V.str)))
theorem cr_sortX (hc : X.calm = true) : CallR X (.builtin "sorted") (rSortX X.prog X.w) := by
  intro pins s σ H vs us Q I r h
  obtain ⟨a, S, n, p, rfl, ha, hn, ht, q⟩ := h
  rw [Vals.ref1 r]
  refine sorted_txt (setX_get I ha) ht (I.ok.hd hc) fun s' b out c ys k g o hb hg hi hy hl => ?_
  have fresh : H b = none := I.hok.fresh hb
  have small : (ys.map V.str).length ≤ sizeLine := by rw [List.length_map, hl]; exact fits_of_scanBound hn
  have J : Inv X pins σ (upd H b (.lst (ys.map V.str))) { s with heap := s'.heap, gens := s'.gens, drawn := s'.drawn, toks := s'.toks } :=
    I.call (ch := []) (Un.laid k hb fresh) (I.hok.laid k hb ⟨small, out.toList, c, vals_of_strs hi, hg⟩) (by rw [g]; exact I.bare) (fun _ z => nomatch z)
  have e : s' = { s with heap := s'.heap, gens := s'.gens, drawn := s'.drawn, toks := s'.toks } := by cases s'; cases s; cases o; rfl
  rw [e]
  exact ⟨.ref b, _, J, rfl, q ys b hy hl fresh⟩
end
end TxS

set_option Elab.async false
set_option linter.all false
set_option maxRecDepth 100000
set_option maxHeartbeats 4000000
namespace TxS
open PySem PySem.Spec PyProof.Rows L2 PpSet
/-! a set comprehension of texts, of any number of clauses: what a turn does behind its tests is an act, a deeper clause's start or the set's add -/
inductive Act where
  | start (c : Comprehension) (g : Nat)
  | emit
section
variable {prog : Program} {w : World} {A : Around} {R : Result → Shared → Prop} {s : Shared} {e elt : Expr} {it acc : Value} {env : Env} {c : Comprehension} {g : Nat}
def No : Value → Shared → Prop := fun _ _ => False
/-- the act is done, and comes to Z -/
def actW (M : Model) (A : Around) (e elt : Expr) (acc : Value) (env : Env) : Act → (Shared → Prop) → Shared → Prop
  | .start c g, Z, s => wpAny M A (eval c.iter env) (fun x s1 => wpAny M A (pyIter x) (fun j s2 => codeAny M A (.compStart e g j acc env) (fun r s3 => match r with | .ok _ => Z s3 | .error _ => False) s2) No s1) No s
  | .emit, Z, s => wpAny M A (eval elt env) (fun x s1 => wpAny M A (call (.builtin "set.add") [acc, x]) (fun _ s2 => Z s2) No s1) No s
/-- a turn as the model has it, up to its act -/
def turnS (e elt : Expr) (c : Comprehension) (g : Nat) (it acc : Value) (env : Env) : Act → Sem Fin
  | .start c1 g1 => do
    standAt c.iter.pos
    match ← pyNext it with
    | none => pure (.done .next)
    | some v =>
      letOwnedTupleGo c.target it v
      assign c.target env v
      let mut ok := true
      for t in c.ifs do
        if ok then ok ← isTrue t env (eval t env)
      if ok then
        let x ← eval c1.iter env
        standAt c1.iter.pos
        let x ← foldedSetIterable c1.iter env x
        let _ ← runOwn (.compStart e g1 (← holding [x] (pyIter x)) acc env) env
      again (.compLoop e g it acc env)
  | .emit => do
    standAt c.iter.pos
    match ← pyNext it with
    | none => pure (.done .next)
    | some v =>
      letOwnedTupleGo c.target it v
      assign c.target env v
      let mut ok := true
      for t in c.ifs do
        if ok then ok ← isTrue t env (eval t env)
      if ok then
        (do let v ← eval elt env; standAt elt.pos; let _ ← call (.builtin "set.add") [acc, v])
      again (.compLoop e g it acc env)
/-- an act's own sources are no written sets -/
def Act.plain : Act → Env → Prop
  | .start c _, env => ∀ x, foldedSetIterable c.iter env x = pure x
  | .emit, _ => True
def turnW (M : Model) (A : Around) (e elt : Expr) (c : Comprehension) (a : Act) (it acc : Value) (env : Env) (I : Nat → Shared → Prop) (End : Shared → Prop) (n : Nat) (s : Shared) : Prop :=
  wpAny M A (pyNext it) (fun r s1 => match r with
    | none => End s1
    | some v => wpAny M A (letOwnedTupleGo c.target it v) (fun _ s2 => wpAny M A (assign c.target env v) (fun _ s3 =>
        wpAny M A (forIn c.ifs true fun t r => if r = true then do let ok ← isTrue t env (eval t env); pure (ForInStep.yield ok) else pure (ForInStep.yield r)) (fun ok s4 =>
          if ok = true then actW M A e elt acc env a (fun s5 => ∃ m, m < n ∧ I m s5) s4 else ∃ m, m < n ∧ I m s4) No s3) No s2) No s1) No s
theorem no_mono {α : Type} {t : Sem α} {Q Q' : α → Shared → Prop} {M : Model} {E : Value → Shared → Prop} (h : wpAny M A t Q No s) (k : ∀ x s', Q x s' → Q' x s') : wpAny M A t Q' E s := wpAny_mono h k fun _ _ z => False.elim z
theorem loopA {a : Act} {gens : List Comprehension} {scope : Scope} {pos : Pos} (he : e = .SetComp elt gens scope pos) (hp : a.plain env) (ht : compTurn e g it acc env = turnS e elt c g it acc env a) (I : Nat → Shared → Prop) (turn : ∀ n s, I n s → turnW (model prog w) A e elt c a it acc env I (fun s' => R (.ok .next) s') n s) (n : Nat) (h : I n s) :
    codeAny (model prog w) A (.compLoop e g it acc env) R s := by
  subst he
  refine codeAny_loop rfl I (fun n s hI => ?_) n h
  show wpAny _ A ((compTurn (.SetComp elt gens scope pos) g it acc env).onRaise (fun x => do noteFrame x env; theTreesLotGoes x)) _ _ s
  apply wpAny_noted
  rw [ht]
  cases a with
  | emit =>
    refine wpAny_bind (wpAny_standAt (wpAny_bind (no_mono (turn n s hI) fun r s1 h1 => ?_)))
    cases r with
    | none => exact wpAny_pure h1
    | some v =>
      refine wpAny_bind (no_mono h1 fun _ s2 h2 => wpAny_bind (no_mono h2 fun _ s3 h3 => wpAny_bind (no_mono h3 fun ok s4 h4 => ?_)))
      cases ok with
      | false => exact wpAny_pure ⟨rfl, h4⟩
      | true => exact wpAny_bind (wpAny_bind (no_mono h4 fun x s5 h5 => wpAny_bind (wpAny_standAt (wpAny_bind (no_mono h5 fun _ s6 h6 => wpAny_pure (wpAny_pure ⟨rfl, h6⟩))))))
  | start c1 g1 =>
    refine wpAny_bind (wpAny_standAt (wpAny_bind (no_mono (turn n s hI) fun r s1 h1 => ?_)))
    cases r with
    | none => exact wpAny_pure h1
    | some v =>
      refine wpAny_bind (no_mono h1 fun _ s2 h2 => wpAny_bind (no_mono h2 fun _ s3 h3 => wpAny_bind (no_mono h3 fun ok s4 h4 => ?_)))
      cases ok with
      | false => exact wpAny_pure ⟨rfl, h4⟩
      | true =>
        refine wpAny_bind (no_mono h4 fun x s5 h5 => wpAny_bind (wpAny_standAt (wpAny_bind (wpAny_of_eq (hp x) (wpAny_bind (wpAny_holding (no_mono h5 fun j s6 h6 => ?_)))))))
        refine wpAny_bind (wpAny_runOwn ?_)
        rw [Around.mark_none]
        refine codeAny_mono h6 fun r s7 h7 => ?_
        match r, h7 with
        | .ok f, h7 =>
          first
            | exact wpAny_pure ⟨rfl, h7⟩
            | exact wpAny_bind (wpAny_pure (wpAny_pure ⟨rfl, h7⟩))
        | .error _, h7 => exact h7.elim
theorem startA {gens : List Comprehension} {scope : Scope} {pos : Pos} (he : e = .SetComp elt gens scope pos) (hc : (clausesOf e)[g]? = some c) (ha : (c.is_async != 0) = false) (h0 : codeAny (model prog w) A (.compLoop e g it acc env) R s)
    (h : wpAny (model prog w) A (pyIter it) (fun j s' => codeAny (model prog w) A (.compLoop e g j acc env) R s') (notedBy (model prog w) A env fun x s' => R (.error x) s') s) : codeAny (model prog w) A (.compStart e g it acc env) R s := by
  subst he
  apply codeAny_of_tree
  show wpAny _ _ ((compStart (.SetComp elt gens scope pos) g it acc env).onRaise (fun x => do noteFrame x env; standAt theWindowsPlace)) _ _ s
  apply wpAny_notedAt
  unfold compStart
  rw [hc]
  simp only [Option.elim, ha, Bool.false_eq_true, if_false]
  refine wpAny_bind (wpAny_askSetting (wpAny_ite ?_))
  split
  · first
      | exact wpAny_bind (wpAny_pure (wpAny_pure (And.intro rfl h0)))
      | exact wpAny_pure (And.intro rfl h0)
  · refine wpAny_bind (wpAny_rule ?_)
    first
      | exact wpAny_bind (wpAny_standAt (wpAny_bind (wpAny_mono h (fun j s' h' => wpAny_pure (And.intro rfl h')) fun _ _ x => x)))
      | exact wpAny_bind (wpAny_bind (wpAny_standAt (wpAny_mono h (fun j s' h' => wpAny_pure (And.intro rfl h')) fun _ _ x => x)))
end
end TxS

set_option Elab.async false
set_option linter.all false
set_option maxRecDepth 100000
set_option maxHeartbeats 4000000
namespace TxS
open PySem PySem.Spec PyProof.Rows L2 PpSet
/-- what is known of the slots outside vs is known still -/
structure Weak (vs : List Nat) (σ σ' : L2.St) : Prop where
  len : σ'.length = σ.length
  kn : ∀ (j : Nat) (v : V), (wipe σ vs)[j]? = some (some v) → σ'[j]? = some (some v)
theorem Weak.refl (vs : List Nat) (σ : L2.St) : Weak vs σ σ := ⟨rfl, fun j v e => (wipe_some e).1⟩
theorem Weak.wiped (vs : List Nat) (σ : L2.St) : Weak vs σ (wipe σ vs) := ⟨wipe_length _ _, fun _ _ e => e⟩
/-- a turn that began with vs wiped, then something weaker inside vs -/
theorem Weak.turn {vs vs1 : List Nat} {τ σ2 σ3 : L2.St} (e : wipe σ2 vs = τ) (h : Weak vs1 σ2 σ3) (sub : ∀ i ∈ vs1, i ∈ vs) : τ.length = σ3.length ∧ ∀ (j : Nat) (v : V), τ[j]? = some (some v) → σ3[j]? = some (some v) := by
  constructor
  · rw [h.len, ← e, wipe_length]
  · intro j v q
    rw [← e] at q
    obtain ⟨q1, q2⟩ := wipe_some q
    exact h.kn j v (by rw [wipe_out fun z => q2 (sub j z)]; exact q1)
abbrev Tr := L2.St → Hp → (Hp → Prop) → Prop
def ActOk (Y : Cx) (e elt : Expr) (acc : Value) (a : Act) (vs : List Nat) (tr : Tr) : Prop := ∀ pins σ H s (Z : Hp → Prop), Inv Y pins σ H s → tr σ H Z →
  actW (model Y.prog Y.w) Y.A e elt acc Y.env a (fun s' => ∃ σ' H', Inv Y pins σ' H' s' ∧ Weak vs σ σ' ∧ Z H') s
/-- the element goes into the set at D -/
def trE (P : Program) (w : World) (D : Addr) (te : TE) : Tr := fun σ H Z => te σ H fun y H1 => ∃ (z : Str) (S : Key → Bool) (n : Nat), y = .str z ∧ H1 D = some (SetX P w D S n) ∧ n + 1 < scanBound ∧ ∀ m, m ≤ n + 1 → Z (upd H1 D (SetX P w D (fun j => S j || decide (j = .inr z)) m))
/-- a clause: W by the turn and a measure, N what a turn is to reach -/
def trC (wi : TI) (g : TG) (tt : TT) (vs : List Nat) (inner : Tr) : Tr := fun σ H Z => wi σ H fun J H1 => ∃ W : Nat → Nat → Hp → Prop, (∃ m, W 0 m H1) ∧ ∀ i m H, W i m H →
  (J.stop i H ∧ Z H) ∨ (J.go i H ∧ ∃ N : Hp → Prop, (∀ H', N H' → ∃ m', m' < m ∧ W (i + 1) m' H') ∧ ∀ x H', J.yld i H x H' → g x (wipe σ vs) H' fun σ2 H2 => wipe σ2 vs = wipe σ vs ∧ tt σ2 H2 fun b H3 => if b = true then inner σ2 H3 N else N H3)
section
variable {Y : Cx} {e elt : Expr} {acc : Value}
theorem emit_ok {D : Addr} {te : TE} (hx : Y.xe = No) (he : PE Y elt te) : ActOk Y e elt (.ref D) .emit [] (trE Y.prog Y.w D te) := by
  intro pins σ H s Z I h
  have r := he.run pins s σ H _ I h
  rw [hx] at r
  refine no_mono r fun v s1 ⟨y, H1, I1, rv, z, S, n, ey, hD, room, q⟩ => ?_
  subst ey
  exact addX_ok I1 hD rv room fun s2 m hm I2 => ⟨σ, _, I2, Weak.refl _ _, q m hm⟩
/-- the loop of a clause whose iterator stands; τ: what is known of the slots at each turn's start -/
theorem loop_ok {c : Comprehension} {gn : Nat} {a : Act} {vs vs1 : List Nat} {g : TG} {tt : TT} {tr : Tr} {gens : List Comprehension} {scope : Scope} {pos : Pos} (hE : e = .SetComp elt gens scope pos) (hgn : (clausesOf e)[gn]? = some c) (hna : (c.is_async != 0) = false)
    (ht : ∀ it, compTurn e gn it acc Y.env = turnS e elt c gn it acc Y.env a) (hp : a.plain Y.env) (hc : Y.calm = true) (hx : Y.xe = No) (hg : PG Y c.target g) (hts : PTs Y c.ifs tt) (sub : ∀ i ∈ vs1, i ∈ vs) (hin : ActOk Y e elt acc a vs1 tr)
    {pins : List (Addr × Obj)} {τ : L2.St} {s2 : Shared} {H2 : Hp} {it : Addr} {fp : List Addr} {tn : Nat → Heap → Prop} {J : It} {W : Nat → Nat → Hp → Prop} {m0 : Nat} {Z : Hp → Prop} (I2 : Inv Y pins τ H2 s2) (T : Turn Y.prog Y.w Y.K c.target J fp it tn) (t0 : tn 0 s2.heap) (f2 : ∀ b ∈ fp, FpOk Y pins H2 b) (w0 : W 0 m0 H2)
    (step : ∀ i m H, W i m H → (J.stop i H ∧ Z H) ∨ (J.go i H ∧ ∃ N : Hp → Prop, (∀ H', N H' → ∃ m', m' < m ∧ W (i + 1) m' H') ∧ ∀ x H', J.yld i H x H' → g x τ H' fun σ2 H2 => wipe σ2 vs = τ ∧ tt σ2 H2 fun b H3 => if b = true then tr σ2 H3 N else N H3)) :
    codeAny (model Y.prog Y.w) Y.A (.compStart e gn (.ref it) acc Y.env) (fun r s' => match r with
      | .ok _ => ∃ H', Inv Y pins τ H' s' ∧ Z H'
      | .error _ => False) s2 := by
  have fpk : ∀ {σ' : L2.St} {H' : Hp} {s' : Shared}, Inv Y pins σ' H' s' → (∀ b ∈ fp, H' b = none) → ∀ b ∈ fp, FpOk Y pins H' b := fun _ hn b hb => ⟨hn b hb, (f2 b hb).2⟩
  let RR : Result → Shared → Prop := fun r s' => match r with
    | .ok _ => ∃ H', Inv Y pins τ H' s' ∧ Z H'
    | .error _ => False
  have loop : codeAny (model Y.prog Y.w) Y.A (.compLoop e gn (.ref it) acc Y.env) RR s2 := by
    refine loopA hE hp (ht _) (fun n s' => ∃ i H', Inv Y pins τ H' s' ∧ tn i s'.heap ∧ (∀ b ∈ fp, H' b = none) ∧ W i n H') ?_ m0 ⟨0, H2, I2, t0, fun b hb => (f2 b hb).1, w0⟩
    rintro n s3 ⟨i, H3, I3, t3, n3, w3⟩
    rcases step i n H3 w3 with ⟨stop, z⟩ | ⟨go, N, hN, body⟩
    · refine no_mono (T.done Y rfl rfl rfl hc i pins s3 _ H3 No I3 (fpk I3 n3) t3 stop) fun r s4 ⟨hr, I4⟩ => ?_
      subst hr
      exact ⟨_, I4, z⟩
    · refine no_mono (T.item Y rfl rfl rfl hc i pins s3 _ H3 No I3 (fpk I3 n3) t3 go) fun r s4 ⟨u, hr, h4⟩ => ?_
      subst hr
      refine no_mono h4 fun _ s5 ⟨x1, H5, I5, rx, y5, t5, n5⟩ => ?_
      have I5' := I5.pinned (fpk I5 n5) (T.obj _ _ t5)
      have done : ∀ {σ' : L2.St} {H' : Hp} {s' : Shared}, Inv Y (pins ++ pinsAt fp s5.heap) σ' H' s' → τ.length = σ'.length → (∀ (j : Nat) (v : V), τ[j]? = some (some v) → σ'[j]? = some (some v)) → N H' →
          ∃ m, m < n ∧ ∃ i H', Inv Y pins τ H' s' ∧ tn i s'.heap ∧ (∀ b ∈ fp, H' b = none) ∧ W i m H' := by
        intro σ' H' s' I' hl hk nx
        obtain ⟨m', hm, w'⟩ := hN H' nx
        have pin : ∀ b ∈ fp, ∀ o, s5.heap.get? b = some o → s'.heap.get? b = some o ∧ H' b = none := fun b hb o q =>
          let z := I'.pin (b, o) (List.mem_append_right _ (List.mem_append_right _ (mem_pinsAt hb q)))
          ⟨z.1, z.2.1⟩
        refine ⟨m', hm, i + 1, H', I'.unpinned.weak hl hk, T.keep _ _ _ t5 fun b hb o q => (pin b hb o q).1, fun b hb => ?_, w'⟩
        obtain ⟨o, q, _⟩ := T.obj _ _ t5 b hb
        exact (pin b hb o q).2
      have rg := hg.run _ s5 _ H5 x1 u _ I5' rx (body x1 H5 y5)
      rw [hx] at rg
      refine no_mono rg fun _ s6 ⟨σ6, H6, I6, e6, q6⟩ => ?_
      have rt := hts.run _ s6 σ6 H6 _ I6 q6
      rw [hx] at rt
      refine no_mono rt fun b s7 ⟨H7, I7, q7⟩ => ?_
      cases b with
      | false =>
        obtain ⟨k1, k2⟩ := Weak.turn e6 (Weak.refl vs1 σ6) sub
        exact done I7 k1 k2 q7
      | true =>
        have act := hin _ σ6 H7 s7 N I7 q7
        have fin : ∀ s', (∃ σ' H', Inv Y (pins ++ pinsAt fp s5.heap) σ' H' s' ∧ Weak vs1 σ6 σ' ∧ N H') → ∃ m, m < n ∧ ∃ i H', Inv Y pins τ H' s' ∧ tn i s'.heap ∧ (∀ b ∈ fp, H' b = none) ∧ W i m H' := by
          rintro s' ⟨σ', H', I', wk, nx⟩
          obtain ⟨k1, k2⟩ := Weak.turn e6 wk sub
          exact done I' k1 k2 nx
        simp only [if_true]
        cases a with
        | emit => exact no_mono act fun x s8 h8 => no_mono h8 fun _ s9 h9 => fin s9 h9
        | start c1 g1 =>
          refine no_mono act fun x s8 h8 => no_mono h8 fun j s9 h9 => codeAny_mono h9 fun r s10 h10 => ?_
          match r, h10 with
          | .ok _, h10 => exact fin s10 h10
          | .error _, h10 => exact h10
  exact startA hE hgn hna loop (T.self Y.A 0 _ _ _ t0 loop)
theorem clause_ok {c : Comprehension} {gn : Nat} {a : Act} {vs vs1 : List Nat} {wi : TI} {g : TG} {tt : TT} {tr : Tr} {gens : List Comprehension} {scope : Scope} {pos : Pos} (hE : e = .SetComp elt gens scope pos) (hgn : (clausesOf e)[gn]? = some c) (hna : (c.is_async != 0) = false)
    (ht : ∀ it, compTurn e gn it acc Y.env = turnS e elt c gn it acc Y.env a) (hp : a.plain Y.env) (hc : Y.calm = true) (hx : Y.xe = No) (hi : PI Y c.target c.iter wi) (hg : PG Y c.target g) (hts : PTs Y c.ifs tt) (sub : ∀ i ∈ vs1, i ∈ vs)
    (hin : ActOk Y e elt acc a vs1 tr) : ActOk Y e elt acc (.start c gn) vs (trC wi g tt vs tr) := by
  intro pins σ H s Z I h
  have r0 := hi.run pins s σ H _ I h
  rw [hx] at r0
  refine no_mono r0 fun x s1 h1 => no_mono h1 fun j s2 h2 => ?_
  obtain ⟨it, fp, tn, J, H2, rfl, I2, T, t0, f2, W, ⟨m0, w0⟩, step⟩ := h2
  refine codeAny_mono (loop_ok hE hgn hna ht hp hc hx hg hts sub hin (I2.weak (wipe_length _ _) fun j v q => (wipe_some q).1) T t0 f2 w0 step) fun r s' h' => ?_
  match r, h' with
  | .ok _, ⟨H', I', z⟩ => exact ⟨_, H', I', Weak.wiped _ _, z⟩
  | .error _, h' => exact h'
end
/-- a set comprehension as a value: the first clause, whose source is the def's own -/
def tScX (P : Program) (w : World) (wi : TI) (g : TG) (tt : TT) (vs : List Nat) (inner : Addr → Tr) : TE := fun σ H Q => wi σ H fun J H1 => ∀ D, H1 D = none → ∃ W : Nat → Nat → Hp → Prop, (∃ m, W 0 m (upd H1 D (SetX P w D (fun _ => false) 0))) ∧ ∀ i m H, W i m H →
  (J.stop i H ∧ Q (.ref D) H) ∨ (J.go i H ∧ ∃ N : Hp → Prop, (∀ H', N H' → ∃ m', m' < m ∧ W (i + 1) m' H') ∧ ∀ x H', J.yld i H x H' → g x (wipe σ vs) H' fun σ2 H2 => wipe σ2 vs = wipe σ vs ∧ tt σ2 H2 fun b H3 => if b = true then inner D σ2 H3 N else N H3)
section
variable {X : Cx}
theorem pe_scX {elt : Expr} {c : Comprehension} {rest : List Comprehension} {a : Act} {scope : Scope} {own : List (Str × Nat)} {vs1 : List Nat} {pos : Pos} {wi : TI} {g : TG} {tt : TT} {inner : Addr → Tr} (hc : X.calm = true) (hN : X.N.Nodup) (hi : PI X c.target c.iter wi) (ok : BlkOk X.N X.env.scope scope own)
    (hna : (c.is_async != 0) = false) (hfa : firstAsync (c :: rest) = false) (hfi : firstIter (c :: rest) X.env = eval c.iter X.env) (hs : ∀ x, foldedSetIterable c.iter X.env x = pure x) (sub : ∀ i ∈ vs1, i ∈ own.map (·.2))
    (ht : ∀ it acc env, compTurn (.SetComp elt (c :: rest) scope pos) 0 it acc env = turnS (.SetComp elt (c :: rest) scope pos) elt c 0 it acc env a) (hp : ∀ env, a.plain env)
    (hg : ∀ (s : Shared) (H : Hp) (C : Addr) (cl : List (Str × Addr)) (fp : List Addr), PG (X.blk s H scope (compEnvC scope cl C X.env) fp) c.target g) (hts : ∀ (s : Shared) (H : Hp) (C : Addr) (cl : List (Str × Addr)) (fp : List Addr), PTs (X.blk s H scope (compEnvC scope cl C X.env) fp) c.ifs tt)
    (hin : ∀ (s : Shared) (H : Hp) (C : Addr) (cl : List (Str × Addr)) (fp : List Addr) (D : Addr), ActOk (X.blk s H scope (compEnvC scope cl C X.env) fp) (.SetComp elt (c :: rest) scope pos) elt (.ref D) a vs1 (inner D)) :
    PE X (.SetComp elt (c :: rest) scope pos) (tScX X.prog X.w wi g tt (own.map (·.2)) inner) := by
  constructor
  intro pins s σ H Q I h
  rw [eval_SetComp, hfa, hfi]
  have hfree : ∀ y ∈ scope.names, y.2 = .free → ∃ k, X.env.cells.lookup y.1 = some k := fun y hy e => (ok.free y hy e).elim (fun k => I.ok.has _ (.inl k)) fun k => I.ok.has _ (.inr k)
  refine wpAny_comprehension_free rfl hs (closure_ok hfree) ok.kind (fun y hy e => by rw [ok.uniq y hy, e]) (thn (hi.run pins s σ H _ I h) fun xv s1 hx => thn hx fun itv s2 h2 => ?_)
  obtain ⟨it, fp, tn, J, H2, rfl, I2, T, st2, f2, q⟩ := h2
  refine newSet_ok (newEnv_comp ?_)
  generalize hD : s2.heap.objs.size = D
  have hDn : H2 D = none := I2.hok.fresh (Nat.le_of_eq hD)
  obtain ⟨W, ⟨m0, w0⟩, turn⟩ := q D hDn
  generalize hs3 : ({ s2 with heap := s2.heap.push { cls := .type "set", dict := none, data := .set #[] 0 (.fresh 0 0 (!X.w.params.followText "set-order")) } } : Shared) = s3
  have h3 : s3.heap = s2.heap.push { cls := .type "set", dict := none, data := .set #[] 0 (.fresh 0 0 (!X.w.params.followText "set-order")) } := by rw [← hs3]
  have led : X.w.params.followText "set-order" = true ∨ (!X.w.params.followText "set-order") = true := by cases X.w.params.followText "set-order" <;> simp
  have I3 : Inv X pins σ (upd H2 D (SetX X.prog X.w D (fun _ => false) 0)) s3 := by
    rw [← hs3]
    refine I2.laid (t' := s2.toks) (fun b o e => Heap.get?_push_of_some _ e) (Nat.le_of_eq hD) ?_
    rw [← hD]
    exact setX_new (newW _ led)
  have sz : ∀ b ∈ fp, b < s2.heap.objs.size := fun b hb => by
    obtain ⟨o, e, _⟩ := T.obj _ _ st2 b hb
    exact Heap.lt_size e
  have f3 : ∀ b ∈ fp, FpOk X pins (upd H2 D (SetX X.prog X.w D (fun _ => false) 0)) b ∧ b < s3.heap.objs.size := fun b hb => by
    have lt := sz b hb
    have ne : b ≠ D := by rw [← hD]; exact Nat.ne_of_lt lt
    exact ⟨⟨by rw [upd_ne ne]; exact (f2 b hb).1, (f2 b hb).2⟩, by rw [h3, Heap.size_push]; exact Nat.lt_succ_of_lt lt⟩
  have st3 : tn 0 s3.heap := T.keep _ _ _ st2 fun b _ o e => by rw [h3]; exact Heap.get?_push_of_some _ e
  have I4 := block_start I3 ok hN f3
  generalize hcl : cellsFrom (s3.heap.objs.size + 1) scope.names (cloFrom X.env.cells scope.names []) = cl at I4
  have pg := hg s3 (upd H2 D (SetX X.prog X.w D (fun _ => false) 0)) s3.heap.objs.size cl fp
  have pt := hts s3 (upd H2 D (SetX X.prog X.w D (fun _ => false) 0)) s3.heap.objs.size cl fp
  have pa := hin s3 (upd H2 D (SetX X.prog X.w D (fun _ => false) 0)) s3.heap.objs.size cl fp D
  generalize hH3 : upd H2 D (SetX X.prog X.w D (fun _ => false) 0) = H3 at I3 I4 pg pt pa w0 f3
  have cL : (compEnvC scope cl s3.heap.objs.size X.env).locals = s3.heap.objs.size := rfl
  generalize hs4 : ({ s3 with heap := pushCells (s3.heap.push { cls := .type "dict", data := .dict #[] }) scope.names } : Shared) = s4 at I4
  have st4 : tn 0 s4.heap := T.keep _ _ _ st3 fun b _ o e => by rw [← hs4]; exact pushCells_keeps _ _ _ _ (Heap.get?_push_of_some _ e)
  have f4 : ∀ b ∈ fp, FpOk (X.blk s3 H3 scope (compEnvC scope cl s3.heap.objs.size X.env) fp) [] H3 b := fun b hb => ⟨(f3 b hb).1.1, (I4.ok.exf b hb).1, I4.ok.exfs b hb, .inl hb, fun x k e => (I4.ok.exf b hb).2 x k e, fun p hp => absurd (show p ∈ ([] : List (Addr × Obj)) ++ [] from hp) (by simp)⟩
  have run := loop_ok (Y := X.blk s3 H3 scope (compEnvC scope cl s3.heap.objs.size X.env) fp) (acc := .ref D) rfl rfl hna (fun it => ht it _ _) (hp _) hc rfl pg pt sub pa I4 T st4 f4 w0 (Z := fun H' => Q (.ref D) H') turn
  refine codeAny_mono run fun r s' h' => ?_
  match r, h' with
  | .error _, h' => exact h'.elim
  | .ok _, ⟨H', I', z⟩ =>
    have I7 : Inv X pins σ H' s' := I3.call' (ch := fp) I'.os I'.base I'.hok I'.bare fun b hb => ⟨(f3 b hb).1.2.2.2.1, (f3 b hb).1.2.1, (f3 b hb).1.2.2.2.2.1, (f3 b hb).1.2.2.2.2.2⟩
    have nC : H' s3.heap.objs.size = none := I'.free
    obtain ⟨m, hn, _⟩ := I'.loc
    obtain ⟨p0, p1, p2, p3, p4, p5⟩ := I3.fpOk (Nat.le_refl _) nC
    exact ⟨m, hn, fun h'' sb => ⟨.ref D, H', I7.turned (t' := s'.toks) (fun b o hb e => (sb.2 b hb).trans e) p0 p1 p3 p4 p5, rfl, z⟩⟩
end
end TxS

set_option Elab.async false
set_option linter.all false
set_option maxRecDepth 100000
set_option maxHeartbeats 4000000
namespace K8
open PySem PySem.Spec PyProof.Rows L2 M8
/-- few coefficients, names among ns -/
structure Nam (ns : List Str) (ts : Tst) : Prop where
  few : Few (coef ts)
  len : (coef ts).length ≤ 5
  mem : ∀ n ∈ nz (coef ts), n ∈ ns
section
variable {P : Program} {w : World} {K : PySem.W.Frag} {mg : Str → Option Value} {base : Heap}
def spNamesOfB (K : PySem.W.Frag) (n : Nat) : Sp := fun vs H Q _ => ∃ l v d b H0 ns, vs = [.ref l] ∧ H l = some (.lst [v]) ∧ Ex H0 H ∧ SeeF K H0 v d ∧ IsB n d b ∧ AllT (Nam ns) n b ∧ cnt b ≤ 800 ∧
  ∀ (L : Addr) (ys : List Str) (H' : Hp), (∀ y ∈ ys, y ∈ ns) → ys.length ≤ 4096 → H L = none → Ex H H' → H' L = some (.lst (ys.map V.str)) → Q (.ref L) H'
abbrev s_names_of_bodies : Stmt := top 32
theorem sc_names_of_bodies : FnScope ["bodies", "body", "test", "name"] ["bodies"] (defScope s_names_of_bodies) := ⟨rfl, rfl, rfl, by decide +kernel, rfl, by decide +kernel, by decide +kernel⟩
theorem ok_names_of_bodies (T : Txt K mg) (a : At K mg "names_of_bodies" s_names_of_bodies ["bodies"]) {n k : Nat} (hk : n + 2 ≤ k) (Otests_of : Ok P w K mg base CX0 (n+2) "tests_of" ["body"] (spTests K n)) (Oterm_of : Ok P w K mg base CX0 1 "term_of" ["test"] (spTermOf K)) (Onames_of : Ok P w K mg base CX0 1 "names_of" ["term"] spNamesOf) : Ok P w K mg base CX0 (k+1) "names_of_bodies" ["bodies"] (spNamesOfB K n) := a.ok fun f fd F => by
  refine F.ok sc_names_of_bodies (fun vs H Q E h => ?_) (fun cdv A outer s H vs Q E hr h => ?_)
  · obtain ⟨l, v, d, b, H0, ns, rfl, _⟩ := h; rfl
  · obtain ⟨l, v, d, b, H0, ns, rfl, hl, e0, hs, hb, ha, hc, q⟩ := h
    refine ⟨_, (pss_one (ps_ret (pe_callB (TxS.cr_sortX rfl) rfl T.n_sorted rfl (pa_cons (TxS.pe_scX (own := [("body", 1), ("test", 2), ("name", 3)]) (vs1 := [2, 3]) (g := gName 1) (tt := tYes) (inner := fun D => TxS.trC (iList K (tC0 (spTests K n) (tCons (tVar 1) tNil))) (gName 2) tYes [2, 3] (TxS.trC (iList K (tC0 spNamesOf (tCons (tC0 (spTermOf K) (tCons (tVar 2) tNil)) tNil))) (gName 3) tYes [3] (TxS.trE P w D (tVar 3)))) (a := .start ⟨_, _, _, _⟩ 1) rfl sc_names_of_bodies.nd (pi_list (pv 0)) (blkOk_by (N := ["bodies", "body", "test", "name"]) (sc := defScope s_names_of_bodies) (by decide +kernel)) rfl rfl rfl (by intro _; rfl) (by decide) (fun _ _ _ => rfl) (fun _ _ => rfl) (fun _ _ _ _ _ => (pg_name (i := 1) sc_names_of_bodies.nd rfl (Or.inl rfl))) (fun _ _ _ _ _ => pts_nil) (fun _ _ _ _ _ D => TxS.clause_ok (a := .start ⟨_, _, _, _⟩ 2) (vs1 := [3]) rfl rfl rfl (fun _ => rfl) (fun _ => rfl) rfl rfl (pi_list (pe_callO Otests_of (hr.mono (by first | decide | omega)) rfl (pa_cons (pv 1) pa_nil))) (pg_name (i := 2) sc_names_of_bodies.nd rfl (Or.inl rfl)) pts_nil (by decide) (TxS.clause_ok (a := .emit) (vs1 := []) rfl rfl rfl (fun _ => rfl) trivial rfl rfl (pi_list (pe_callO Onames_of (hr.mono (by first | decide | omega)) rfl (pa_cons (pe_callO Oterm_of (hr.mono (by first | decide | omega)) rfl (pa_cons (pv 2) pa_nil)) pa_nil))) (pg_name (i := 3) sc_names_of_bodies.nd rfl (Or.inl rfl)) pts_nil (by decide) (TxS.emit_ok rfl (pv 3))))) pa_nil)))), ?_⟩
    dsimp only [tRet, tCB, tCons, tNil]
    refine ⟨_, rfl, l, rfl, ⟨_, SqL.of hl⟩, fun D hD => ?_⟩
    have bound : 4096 = scanBound := rfl
    let St : Nat → Hp → Prop := fun m H' => Ex H H' ∧ ∃ S n, H' D = some (TxS.SetX P w D S n) ∧ n ≤ m ∧ TxS.Txt1 S fun y => y ∈ ns
    have s0 : St 0 (upd H D (TxS.SetX P w D (fun _ => false) 0)) := ⟨Ex.new hD, _, 0, upd_same, Nat.le_refl _, fun k z => by cases z⟩
    have add : ∀ {m : Nat} {H' : Hp} {y : Str} {S : Key → Bool} {n r : Nat}, St m H' → H' D = some (TxS.SetX P w D S n) → n ≤ m → TxS.Txt1 S (fun y => y ∈ ns) → y ∈ ns → r ≤ n + 1 → St (m + 1) (upd H' D (TxS.SetX P w D (fun j => S j || decide (j = .inr y)) r)) := by
      rintro m H' y S n r ⟨e, _⟩ hDH hn ht hy hr'
      refine ⟨e.mut hD, _, r, upd_same, by omega, fun k hk => ?_⟩
      rcases Bool.or_eq_true_iff.mp hk with h | h
      · exact ht k h
      · exact ⟨y, of_decide_eq_true h, hy⟩
    refine ⟨fun i m H' => m = 1 - i ∧ i ≤ 1 ∧ St (4000 * i) H', ⟨1, rfl, by decide, s0⟩, ?_⟩
    rintro i m H1 ⟨rfl, hi, st⟩
    have hl1 := st.1 _ _ hl
    by_cases h0 : i = 1
    · subst h0
      obtain ⟨e1, S, n', hDS, hn', ht⟩ := st
      refine .inl ⟨⟨[v], SqL.of hl1, by simp⟩, D, S, n', fun y => y ∈ ns, rfl, hDS, by omega, ht, fun ys L h1 h2 h3 => q L ys _ h1 (by omega) (e1.free h3) (e1.mut (e1.free h3)) upd_same⟩
    · have h0 : i = 0 := by omega
      subst h0
      refine .inr ⟨⟨[v], v, SqL.of hl1, rfl⟩, St 4000, fun H' p => ⟨0, by decide, rfl, by decide, p⟩, fun x H2 y => ?_⟩
      obtain ⟨rfl, hx⟩ := y
      have hx := hx [v] (SqL.of hl1)
      cases hx
      refine ⟨rfl, yesT ?_⟩
      refine ⟨_, rfl, v, d, b, H0, Nam ns, rfl, e0.trans st.1, hs, hb, ha, by omega, fun l2 zs H3 hl2n e3 hl2 hlen hz => ⟨l2, rfl, ⟨zs, SqL.of hl2⟩, ?_⟩⟩
      have n2D : l2 ≠ D := fun z => by
        obtain ⟨_, S, n', hDS, _⟩ := st
        rw [z, hDS] at hl2n; cases hl2n
      have st3 : St 0 H3 := by
        obtain ⟨e1, S, n', hDS, hn', ht⟩ := st
        exact ⟨e1.trans e3, S, n', e3 _ _ hDS, hn', ht⟩
      refine ⟨fun j k H' => k = zs.length - j ∧ j ≤ zs.length ∧ St (5 * j) H' ∧ H' l2 = some (.lst zs), ⟨zs.length, by simp, Nat.zero_le _, st3, hl2⟩, ?_⟩
      rintro j k H4 ⟨rfl, hj, st4, hl24⟩
      by_cases hjl : j < zs.length
      · obtain ⟨z, hzj⟩ : ∃ z, zs[j]? = some z := ⟨zs[j], List.getElem?_eq_getElem hjl⟩
        refine .inr ⟨⟨zs, z, SqL.of hl24, hzj⟩, fun H' => St (5 * (j + 1)) H' ∧ H' l2 = some (.lst zs), fun H' p => ⟨zs.length - (j + 1), by omega, rfl, hjl, p⟩, fun x H5 y => ?_⟩
        obtain ⟨rfl, hx⟩ := y
        have hx := hx zs (SqL.of hl24)
        obtain rfl : z = x := by rw [hzj] at hx; exact Option.some.inj hx
        obtain ⟨dz, ts, sz, it, nam⟩ := hz z (List.mem_of_getElem? hzj)
        refine ⟨rfl, yesT ?_⟩
        have e04 := e0.trans st4.1
        refine ⟨_, rfl, z, dz, ts, rfl, sz.mono e04, it, fun u hu => ⟨_, _, _, rfl, hu, nam.few, fun l3 H6 hl3n e6 hl3 => ⟨l3, rfl, ⟨_, SqL.of hl3⟩, ?_⟩⟩⟩
        have n3D : l3 ≠ D := fun z => by
          obtain ⟨_, S, n', hDS, _⟩ := st4
          rw [z, hDS] at hl3n; cases hl3n
        have hnzl : (nz (coef ts)).length ≤ 5 := by
          have h1 := nam.len
          have h2 : (M8.canon (coef ts)).length ≤ (coef ts).length := by
            unfold M8.canon nz
            rw [List.length_map, srt_length, List.length_map]
            exact List.length_filter_le _ _
          unfold M8.canon at h2
          rw [List.length_map] at h2
          omega
        have st6 : St (5 * j) H6 := by
          obtain ⟨e1, S, n', hDS, hn', ht⟩ := st4
          exact ⟨e1.trans e6, S, n', e6 _ _ hDS, hn', ht⟩
        refine ⟨fun j2 k2 H' => k2 = (nz (coef ts)).length - j2 ∧ j2 ≤ (nz (coef ts)).length ∧ St (5 * j + j2) H' ∧ H' l2 = some (.lst zs) ∧ H' l3 = some (.lst ((nz (coef ts)).map V.str)), ⟨(nz (coef ts)).length, by simp, Nat.zero_le _, st6, e6 _ _ hl24, hl3⟩, ?_⟩
        rintro j2 k2 H7 ⟨rfl, hj2, st7, hl27, hl37⟩
        by_cases hj2l : j2 < (nz (coef ts)).length
        · obtain ⟨nm, hnm⟩ : ∃ nm, (nz (coef ts))[j2]? = some nm := ⟨(nz (coef ts))[j2], List.getElem?_eq_getElem hj2l⟩
          have hmv : ((nz (coef ts)).map V.str)[j2]? = some (.str nm) := by rw [List.getElem?_map, hnm]; rfl
          refine .inr ⟨⟨_, _, SqL.of hl37, hmv⟩, fun H' => St (5 * j + (j2 + 1)) H' ∧ H' l2 = some (.lst zs) ∧ H' l3 = some (.lst ((nz (coef ts)).map V.str)), fun H' p => ⟨(nz (coef ts)).length - (j2 + 1), by omega, rfl, hj2l, p⟩, fun x H8 y => ?_⟩
          obtain ⟨rfl, hx⟩ := y
          have hx := hx _ (SqL.of hl37)
          rw [hmv] at hx
          cases hx
          have st8 := st7
          obtain ⟨e7, S, n', hDS, hn', ht⟩ := st7
          refine ⟨rfl, yesT ⟨_, rfl, nm, S, n', rfl, hDS, by omega, fun m hm => ⟨add st8 hDS hn' ht (nam.mem nm (List.mem_of_getElem? hnm)) hm, by rw [upd_ne n2D]; exact hl27, by rw [upd_ne n3D]; exact hl37⟩⟩⟩
        · have : j2 = (nz (coef ts)).length := by omega
          subst this
          refine .inl ⟨⟨_, SqL.of hl37, by rw [List.length_map]; exact Nat.le_refl _⟩, ?_, hl27⟩
          obtain ⟨e7, S, n', hDS, hn', ht⟩ := st7
          exact ⟨e7, S, n', hDS, by omega, ht⟩
      · have : j = zs.length := by omega
        subst this
        refine .inl ⟨⟨zs, SqL.of hl24, Nat.le_refl _⟩, ?_⟩
        obtain ⟨e7, S, n', hDS, hn', ht⟩ := st4
        exact ⟨e7, S, n', hDS, by omega, ht⟩
end
end K8

set_option Elab.async false
set_option linter.all false
set_option maxRecDepth 100000
set_option maxHeartbeats 4000000
namespace K8
open PySem PySem.Spec PyProof.Rows L2 M8
theorem ps_never {X : Cx} {st : Stmt} : PS X st (fun _ _ _ => False) := ⟨fun pins s σ H D I h => h.elim⟩
/-- what the program asks to tell whether a test is so -/
structure Num (cn : Coef) (ts : Tst) : Prop where
  few : Few (coef ts)
  lim : Lim (coef ts)
  m : mOk ts
  has : Has (coef ts) cn
section
variable {P : Program} {w : World} {K : PySem.W.Frag} {mg : Str → Option Value} {base : Heap}
def spSoB (K : PySem.W.Frag) (n : Nat) : Sp := fun vs H Q _ => ∃ v d b nd cn, vs = [v, .ref nd] ∧ SeeF K H v d ∧ IsB n d b ∧ AllT (Num cn) n b ∧ H nd = some (.dK (cK cn)) ∧ ∀ H', Ex H H' → Q (.bl (soB cn b)) H'
abbrev s_is_so : Stmt := top 33
theorem sc_is_so : FnScope ["body", "numbers", "inner"] ["body", "numbers"] (defScope s_is_so) := ⟨rfl, rfl, rfl, by decide +kernel, rfl, by decide +kernel, by decide +kernel⟩
theorem ok_is_so_step (T : Txt K mg) (a : At K mg "is_so" s_is_so ["body", "numbers"]) {k n : Nat} (hk : 4 ≤ k) (Ois_test_so : Ok P w K mg base CX0 4 "is_test_so" ["test", "numbers"] (spTstSo K)) {sub : Sp} (hsub : ∀ m, n = m + 1 → ∀ vs H Q E, spSoB K m vs H Q E → sub vs H Q E) (Ois_so : Ok P w K mg base CX0 k "is_so" ["body", "numbers"] sub) : Ok P w K mg base CX0 (k+1) "is_so" ["body", "numbers"] (spSoB K n) := a.ok fun f fd F => by
  refine F.ok sc_is_so (fun vs H Q E h => ?_) (fun cdv A outer s H vs Q E hr h => ?_)
  · obtain ⟨v, d, b, nd, cn, rfl, _⟩ := h; rfl
  · obtain ⟨v, d, b, nd, cn, rfl, hs, hb, ha, hn, q⟩ := h
    refine ⟨_, (pss_cons (ps_if (pt_cmpR op_eq (pe_ix (ix_qK (K := K) rfl) (pv 0) pe_int (fun _ _ => rfl)) pe_str (nomark _)) (pss_one (ps_ret (pe_not (pe_callO Ois_so hr rfl (pa_cons (pe_ix (ix_qK (K := K) rfl) (pv 0) pe_int (fun _ _ => rfl)) (pa_cons (pv 1) pa_nil)))))) pss_nil)
      (pss_cons (ps_if (pt_cmpR op_eq (pe_ix (ix_qK (K := K) rfl) (pv 0) pe_int (fun _ _ => rfl)) pe_str (nomark _)) (pss_one (ps_ret (pe_callB (cr_all rfl) rfl T.n_all rfl (pa_cons (pe_lc (own := [("inner", 2)]) (g := gName 2) (tt := tYes) rfl sc_is_so.nd (pi_lt (pe_ix (ix_qK (K := K) rfl) (pv 0) pe_int (fun _ _ => rfl))) (blkOk_by (N := ["body", "numbers", "inner"]) (sc := defScope s_is_so) (by decide +kernel)) (fun _ _ _ _ _ => (pg_name (i := 2) sc_is_so.nd rfl (Or.inl rfl))) (fun _ _ _ _ _ => pts_nil) (fun _ _ _ _ _ => (pe_callO Ois_so hr rfl (pa_cons (pv 2) (pa_cons (pv 1) pa_nil))))) pa_nil)))) pss_nil)
      (pss_cons (ps_if (pt_cmpR op_eq (pe_ix (ix_qK (K := K) rfl) (pv 0) pe_int (fun _ _ => rfl)) pe_str (nomark _)) (pss_one (ps_ret (pe_callB (cr_any rfl) rfl T.n_any rfl (pa_cons (pe_lc (own := [("inner", 2)]) (g := gName 2) (tt := tYes) rfl sc_is_so.nd (pi_lt (pe_ix (ix_qK (K := K) rfl) (pv 0) pe_int (fun _ _ => rfl))) (blkOk_by (N := ["body", "numbers", "inner"]) (sc := defScope s_is_so) (by decide +kernel)) (fun _ _ _ _ _ => (pg_name (i := 2) sc_is_so.nd rfl (Or.inl rfl))) (fun _ _ _ _ _ => pts_nil) (fun _ _ _ _ _ => (pe_callO Ois_so hr rfl (pa_cons (pv 2) (pa_cons (pv 1) pa_nil))))) pa_nil)))) pss_nil)
      (pss_one (ps_ret (pe_callO Ois_test_so (hr.mono (by first | decide | omega)) rfl (pa_cons (pv 0) (pa_cons (pv 1) pa_nil)))))))), ?_⟩
    match n, b, hb, ha with
    | n, .t ts, hb, ha =>
      have hb := IsB.tst.mp hb
      have np := AllT.tst.mp ha
      obtain ⟨z, r, hi, h1, h2⟩ := head_tst hb
      obtain ⟨a1, xs, rfl, hq, hx⟩ := see_sq hs (sq_tst hb)
      rw [hi] at hx
      have nAll : z ≠ ("all" : Str) := fun e => by rw [e] at h2; exact absurd h2 (by decide +kernel)
      have nAny : z ≠ ("any" : Str) := fun e => by rw [e] at h2; exact absurd h2 (by decide +kernel)
      cases hx with
      | cons y1 hx =>
        cases y1
        refine ⟨_, rfl, a1, _, 0, _, rfl, rfl, SqQ.or hq, at0, rfl, _, rfl, ?_⟩
        rw [decide_eq_false fun z => h1 (V.str.inj z)]
        refine iteF ⟨_, rfl, a1, _, 0, _, rfl, rfl, SqQ.or hq, at0, rfl, _, rfl, ?_⟩
        rw [decide_eq_false fun z => nAll (V.str.inj z)]
        refine iteF ⟨_, rfl, a1, _, 0, _, rfl, rfl, SqQ.or hq, at0, rfl, _, rfl, ?_⟩
        rw [decide_eq_false fun z => nAny (V.str.inj z)]
        exact iteF ⟨_, rfl, _, rfl, _, d, ts, nd, cn, rfl, hs, hb, hn, np.few, np.lim, np.m, np.has, q⟩
    | n + 1, .neg b, ⟨h1, e, h2, h3⟩, ha =>
      obtain ⟨a1, ve, rfl, hq, hv⟩ := pair_see hs h1 h2
      refine ⟨_, rfl, a1, _, 0, _, rfl, rfl, SqQ.or hq, at0, rfl, _, rfl, iteT ?_⟩
      refine ⟨_, rfl, a1, _, 1, _, rfl, rfl, SqQ.or hq, at1, _, rfl, hsub n rfl _ _ _ _ ⟨_, e, b, nd, cn, rfl, hv, h3, ha, hn, fun H1 e1 => ?_⟩⟩
      exact ⟨_, rfl, q _ e1⟩
    | n + 1, .grp w bs, ⟨h1, e, h2, h3, h4⟩, ha =>
      obtain ⟨a1, ve, rfl, hq, hv⟩ := pair_see hs h1 h2
      obtain ⟨p2, ys, rfl, hp2, hy⟩ := see_sq hv h3
      have hlen := hy.len
      have h4l := h4.len
      have turn : ∀ (Q1 : VK), (∀ D H', Ex H H' → H' D = some (.lst ((bs.map (soB cn)).map V.bl)) → Q1 (.ref D) H') → ∀ {J : It} {Gd : Hp → Prop}, Walk J ys.length Gd (YAt ys) → (∀ H', Ex H H' → Gd H') → LcB (gName 2) tYes (tC0 sub (tCons (tVar 2) (tCons (tVar 1) tNil))) [2] [some (.ref a1), some (.ref nd), none] Q1 J H := by
        intro Q1 q1 J Gd wk hG
        refine lc_val wk (fun i => ((bs.take i).map (soB cn)).map V.bl) (by have := ha.1; omega) rfl hG ?_ ?_
        · rintro i y H5 H6 R R' hi' e1 ⟨rfl, hx'⟩ kk _
          obtain ⟨dd, hd, sd⟩ := hy.getV hx'
          obtain ⟨bb, hbb, ib⟩ := h4.get hd
          refine ⟨rfl, yesT ⟨_, rfl, _, rfl, hsub n rfl _ _ _ _ ⟨y, dd, bb, nd, cn, rfl, sd.mono e1, ib, ha.2 bb (List.mem_of_getElem? hbb), e1 _ _ hn, fun H7 e7 => kk _ _ e7 ?_⟩⟩⟩
          rw [List.take_add_one, hbb, List.map_append, List.map_append]; rfl
        · intro D H5 hD e1 hDH
          rw [List.take_of_length_le (by omega)] at hDH
          exact q1 D H5 e1 hDH
      cases w with
      | true =>
        refine ⟨_, rfl, a1, _, 0, _, rfl, rfl, SqQ.or hq, at0, rfl, _, rfl, iteF ?_⟩
        refine ⟨_, rfl, a1, _, 0, _, rfl, rfl, SqQ.or hq, at0, rfl, _, rfl, iteT ?_⟩
        dsimp only [tNext, tRet, tCB, tCons, tNil]
        refine tLc_of ?_
        have fin : ∀ D H', Ex H H' → H' D = some (.lst ((bs.map (soB cn)).map V.bl)) → rAll K [.ref D] H' Q := fun D H' e1 hD => ⟨D, bs.map (soB cn), rfl, SqL.of hD, by
          have : (bs.map (soB cn)).all id = soB cn (.grp true bs) := by
            show _ = soAll cn bs
            rw [soAll_map, List.all_map]; rfl
          rw [this]; exact q _ e1⟩
        rcases hp2 with hp2 | hp2
        · exact .inl ⟨_, rfl, a1, _, 1, _, rfl, rfl, SqQ.or hq, at1, p2, rfl, ⟨ys, SqL.of hp2⟩, turn _ fin walk_list fun H' e => SqL.of (e _ _ hp2)⟩
        · exact .inr ⟨_, rfl, a1, _, 1, _, rfl, rfl, SqQ.or hq, at1, p2, rfl, ⟨ys, SqT.of hp2⟩, turn _ fin walk_tup fun H' e => SqT.of (e _ _ hp2)⟩
      | false =>
        refine ⟨_, rfl, a1, _, 0, _, rfl, rfl, SqQ.or hq, at0, rfl, _, rfl, iteF ?_⟩
        refine ⟨_, rfl, a1, _, 0, _, rfl, rfl, SqQ.or hq, at0, rfl, _, rfl, iteF ?_⟩
        refine ⟨_, rfl, a1, _, 0, _, rfl, rfl, SqQ.or hq, at0, rfl, _, rfl, iteT ?_⟩
        dsimp only [tNext, tRet, tCB, tCons, tNil]
        refine tLc_of ?_
        have fin : ∀ D H', Ex H H' → H' D = some (.lst ((bs.map (soB cn)).map V.bl)) → rAny K [.ref D] H' Q := fun D H' e1 hD => ⟨D, bs.map (soB cn), rfl, SqL.of hD, by
          have : (bs.map (soB cn)).any id = soB cn (.grp false bs) := by
            show _ = soAny cn bs
            rw [soAny_map, List.any_map]; rfl
          rw [this]; exact q _ e1⟩
        rcases hp2 with hp2 | hp2
        · exact .inl ⟨_, rfl, a1, _, 1, _, rfl, rfl, SqQ.or hq, at1, p2, rfl, ⟨ys, SqL.of hp2⟩, turn _ fin walk_list fun H' e => SqL.of (e _ _ hp2)⟩
        · exact .inr ⟨_, rfl, a1, _, 1, _, rfl, rfl, SqQ.or hq, at1, p2, rfl, ⟨ys, SqT.of hp2⟩, turn _ fin walk_tup fun H' e => SqT.of (e _ _ hp2)⟩
theorem ok_is_so (T : Txt K mg) (a : At K mg "is_so" s_is_so ["body", "numbers"]) (Ois_test_so : Ok P w K mg base CX0 4 "is_test_so" ["test", "numbers"] (spTstSo K)) : ∀ n, Ok P w K mg base CX0 (n+5) "is_so" ["body", "numbers"] (spSoB K n)
  | 0 => ok_is_so_step T a (k := 4) (by decide) Ois_test_so (sub := fun _ _ _ _ => False) (fun m h => by omega) (a.ok fun f fd F => F.ok sc_is_so (fun vs H Q E h => h.elim) (fun cdv A outer s H vs Q E hr h => h.elim))
  | n + 1 => ok_is_so_step T a (by omega) Ois_test_so (sub := spSoB K n) (fun m h vs H Q E x => (show n = m from by omega) ▸ x) (ok_is_so T a Ois_test_so n)
/-- whether a body is so, of numbers for all its names -/
def spHolds (K : PySem.W.Frag) (n : Nat) : Sp := fun vs H Q _ => ∃ v d b nd cn, vs = [v, .ref nd] ∧ SeeF K H v d ∧ IsB n d b ∧ AllT GoodT n b ∧ AllT (Nam (keys cn)) n b ∧ cnt b ≤ 800 ∧ AllT (Num cn) n b ∧ H nd = some (.dK (cK cn)) ∧ Good cn ∧ ∀ H', Ex H H' → Q (.bl (soB cn b)) H'
abbrev s_holds : Stmt := top 34
theorem sc_holds : FnScope ["body", "numbers"] ["body", "numbers"] (defScope s_holds) := ⟨rfl, rfl, rfl, by decide +kernel, rfl, by decide +kernel, by decide +kernel⟩
theorem ok_holds (T : Txt K mg) (a : At K mg "holds" s_holds ["body", "numbers"]) {n k : Nat} (hk : n + 6 ≤ k) (Ois_body : Ok P w K mg base CX0 (n+6) "is_body" ["thing"] (spBodyG K (okN n) (isBodyN n))) (Ois_numbers_with : Ok P w K mg base CX0 4 "is_numbers_with" ["thing", "names"] spNumsWith) (Onames_of_bodies : Ok P w K mg base CX0 (n+3) "names_of_bodies" ["bodies"] (spNamesOfB K n)) (Ois_so : Ok P w K mg base CX0 (n+5) "is_so" ["body", "numbers"] (spSoB K n)) : Ok P w K mg base CX0 (k+1) "holds" ["body", "numbers"] (spHolds K n) := a.ok fun f fd F => by
  refine F.ok sc_holds (fun vs H Q E h => ?_) (fun cdv A outer s H vs Q E hr h => ?_)
  · obtain ⟨v, d, b, nd, cn, rfl, _⟩ := h; rfl
  · obtain ⟨v, d, b, nd, cn, rfl, hs, hb, hg, hnm, hc, hnum, hn, gcn, q⟩ := h
    refine ⟨_, (pss_cons (ps_if (pt_not (pt_val (pe_callO Ois_body (hr.mono (by first | decide | omega)) rfl (pa_cons (pv 0) pa_nil)))) (pss_one ps_never) pss_nil)
      (pss_cons (ps_if (pt_not (pt_val (pe_callO Ois_numbers_with (hr.mono (by first | decide | omega)) rfl (pa_cons (pv 1) (pa_cons (pe_callO Onames_of_bodies (hr.mono (by first | decide | omega)) rfl (pa_cons (pe_lst (pa_cons (pv 0) pa_nil)) pa_nil)) pa_nil))))) (pss_one ps_never) pss_nil)
      (pss_one (ps_ret (pe_callO Ois_so (hr.mono (by first | decide | omega)) rfl (pa_cons (pv 0) (pa_cons (pv 1) pa_nil))))))), ?_⟩
    obtain ⟨i1, i2⟩ := isB_body hb hg
    refine ⟨_, rfl, v, d, rfl, hs, i2, fun H1 e1 => ⟨_, rfl, ?_⟩⟩
    rw [i1]
    refine iteF ⟨_, rfl, _, rfl, by show 1 ≤ sizeLine; decide, fun l hl => ?_⟩
    have e2 : Ex H1 (upd H1 l (.lst [v])) := Ex.new hl
    refine ⟨l, v, d, b, H, keys cn, rfl, upd_same, e1.trans e2, hs, hb, hnm, hc, fun L ys H3 hy hyl hL e3 hL3 => ?_⟩
    have e03 := (e1.trans e2).trans e3
    refine ⟨nd, L, cn, ys, rfl, e03 _ _ hn, gcn, hL3, hy, by omega, fun H4 e4 => ⟨_, rfl, iteF ?_⟩⟩
    have e04 := e03.trans e4
    exact ⟨_, rfl, _, rfl, v, d, b, nd, cn, rfl, hs.mono e04, hb, hnum, e04 _ _ hn, fun H5 e5 => q _ (e04.trans e5)⟩
end
end K8

set_option Elab.async false
set_option linter.all false
set_option maxRecDepth 100000
set_option maxHeartbeats 4000000
namespace K8
open PySem PySem.Spec PyProof.Rows L2 M8
/-! what a told body holds: all its objects, and its dicts in order -/
mutual
inductive Own (H : Hp) : Bd → V → List Addr → List Addr → Prop
  | t {ts : Tst} {q t d : Addr} : TAt H q t d ts → Own H (.t ts) (.ref q) [q, t, d] [d]
  | neg {b : Bd} {q : Addr} {v : V} {S Ds : List Addr} : H q = some (.tup [.str "not", v]) → Own H b v S Ds → Own H (.neg b) (.ref q) (q :: S) Ds
  | grp {w : Bool} {bs : List Bd} {q l : Addr} {vs : List V} {S Ds : List Addr} : H q = some (.tup [.str (kw w), .ref l]) → H l = some (.lst vs) → OwnL H bs vs S Ds → Own H (.grp w bs) (.ref q) (q :: l :: S) Ds
inductive OwnL (H : Hp) : List Bd → List V → List Addr → List Addr → Prop
  | nil : OwnL H [] [] [] []
  | cons {b : Bd} {bs : List Bd} {v : V} {vs : List V} {S1 S2 D1 D2 : List Addr} : Own H b v S1 D1 → OwnL H bs vs S2 D2 → OwnL H (b :: bs) (v :: vs) (S1 ++ S2) (D1 ++ D2)
end
theorem TAt.imp {H H' : Hp} {q t d : Addr} {ts : Tst} (h : TAt H q t d ts) (e : ∀ a ∈ [q, t, d], ∀ o, H a = some o → H' a = some o) : TAt H' q t d ts := by
  cases ts with
  | row c k => exact ⟨e _ (by simp) _ h.1, e _ (by simp) _ h.2.1, e _ (by simp) _ h.2.2⟩
  | same c k => exact ⟨e _ (by simp) _ h.1, e _ (by simp) _ h.2.1, e _ (by simp) _ h.2.2⟩
  | div m c k => exact ⟨e _ (by simp) _ h.1, e _ (by simp) _ h.2.1, e _ (by simp) _ h.2.2⟩
mutual
theorem Own.imp {H H' : Hp} : ∀ {b : Bd} {v : V} {S Ds : List Addr}, Own H b v S Ds → (∀ a ∈ S, ∀ o, H a = some o → H' a = some o) → Own H' b v S Ds
  | _, _, _, _, .t h, e => .t (h.imp e)
  | _, _, _, _, .neg h1 h2, e => .neg (e _ (by simp) _ h1) (Own.imp h2 fun a ha => e a (by simp [ha]))
  | _, _, _, _, .grp h1 h2 h3, e => .grp (e _ (by simp) _ h1) (e _ (by simp) _ h2) (OwnL.imp h3 fun a ha => e a (by simp [ha]))
theorem OwnL.imp {H H' : Hp} : ∀ {bs : List Bd} {vs : List V} {S Ds : List Addr}, OwnL H bs vs S Ds → (∀ a ∈ S, ∀ o, H a = some o → H' a = some o) → OwnL H' bs vs S Ds
  | _, _, _, _, .nil, _ => .nil
  | _, _, _, _, .cons h1 h2, e => .cons (Own.imp h1 fun a ha => e a (List.mem_append_left _ ha)) (OwnL.imp h2 fun a ha => e a (List.mem_append_right _ ha))
end
theorem Own.ex {H H' : Hp} {b : Bd} {v : V} {S Ds : List Addr} (h : Own H b v S Ds) (e : Ex H H') : Own H' b v S Ds := h.imp fun a _ o => e a o
theorem OwnL.ex {H H' : Hp} {bs : List Bd} {vs : List V} {S Ds : List Addr} (h : OwnL H bs vs S Ds) (e : Ex H H') : OwnL H' bs vs S Ds := h.imp fun a _ o => e a o
theorem TAt.some {H : Hp} {q t d : Addr} {ts : Tst} (h : TAt H q t d ts) : ∀ a ∈ [q, t, d], H a ≠ none := by
  have : H q ≠ none ∧ H t ≠ none ∧ H d ≠ none := by
    cases ts with
    | row c k => exact ⟨by rw [h.1]; simp, by rw [h.2.1]; simp, by rw [h.2.2]; simp⟩
    | same c k => exact ⟨by rw [h.1]; simp, by rw [h.2.1]; simp, by rw [h.2.2]; simp⟩
    | div m c k => exact ⟨by rw [h.1]; simp, by rw [h.2.1]; simp, by rw [h.2.2]; simp⟩
  intro a ha
  simp only [List.mem_cons, List.not_mem_nil, or_false] at ha
  rcases ha with rfl | rfl | rfl
  · exact this.1
  · exact this.2.1
  · exact this.2.2
mutual
theorem Own.some {H : Hp} : ∀ {b : Bd} {v : V} {S Ds : List Addr}, Own H b v S Ds → ∀ a ∈ S, H a ≠ none
  | _, _, _, _, .t h, a, ha => h.some a ha
  | _, _, _, _, .neg h1 h2, a, ha => by
    rcases List.mem_cons.mp ha with rfl | ha
    · rw [h1]; simp
    · exact Own.some h2 a ha
  | _, _, _, _, .grp h1 h2 h3, a, ha => by
    rcases List.mem_cons.mp ha with rfl | ha
    · rw [h1]; simp
    · rcases List.mem_cons.mp ha with rfl | ha
      · rw [h2]; simp
      · exact OwnL.some h3 a ha
theorem OwnL.some {H : Hp} : ∀ {bs : List Bd} {vs : List V} {S Ds : List Addr}, OwnL H bs vs S Ds → ∀ a ∈ S, H a ≠ none
  | _, _, _, _, .nil, a, ha => by simp at ha
  | _, _, _, _, .cons h1 h2, a, ha => (List.mem_append.mp ha).elim (Own.some h1 a) (OwnL.some h2 a)
end
theorem OwnL.snoc {H : Hp} {b : Bd} {v : V} {S1 D1 : List Addr} (h : Own H b v S1 D1) : ∀ {bs : List Bd} {vs : List V} {S Ds : List Addr}, OwnL H bs vs S Ds → OwnL H (bs ++ [b]) (vs ++ [v]) (S ++ S1) (Ds ++ D1)
  | _, _, _, _, .nil => by simpa using OwnL.cons h .nil
  | _, _, _, _, .cons h1 h2 => by
    rw [List.append_assoc, List.append_assoc]
    exact .cons h1 (OwnL.snoc h h2)
theorem TAt.nd {H : Hp} {q t d : Addr} {ts : Tst} (h : TAt H q t d ts) : [q, t, d].Nodup := by
  have : q ≠ t ∧ q ≠ d ∧ t ≠ d := by
    cases ts with
    | row c k =>
      obtain ⟨h1, h2, h3⟩ := h
      exact ⟨fun z => (by rw [z, h2] at h1; cases h1), fun z => (by rw [z, h3] at h1; cases h1), fun z => (by rw [z, h3] at h2; cases h2)⟩
    | same c k =>
      obtain ⟨h1, h2, h3⟩ := h
      exact ⟨fun z => (by rw [z, h2] at h1; cases h1), fun z => (by rw [z, h3] at h1; cases h1), fun z => (by rw [z, h3] at h2; cases h2)⟩
    | div m c k =>
      obtain ⟨h1, h2, h3⟩ := h
      exact ⟨fun z => (by rw [z, h2] at h1; cases h1), fun z => (by rw [z, h3] at h1; cases h1), fun z => (by rw [z, h3] at h2; cases h2)⟩
  simp [this.1, this.2.1, this.2.2]
/-- a new told body -/
def NewB (H H' : Hp) (v : V) (b : Bd) : Prop := ∃ S Ds, Own H' b v S Ds ∧ S.Nodup ∧ (∀ a ∈ S, H a = none) ∧ Ex H H'
theorem NewB.from {H H1 H' : Hp} {v : V} {b : Bd} (e : Ex H H1) (h : NewB H1 H' v b) : NewB H H' v b := by
  obtain ⟨S, Ds, h1, h2, h3, h4⟩ := h
  exact ⟨S, Ds, h1, h2, fun a ha => e.free (h3 a ha), e.trans h4⟩
theorem NewTst.newB {H H' : Hp} {u : V} {ts : Tst} (n : NewTst H H' u ts) : NewB H H' u (.t ts) := by
  cases ts with
  | row c k =>
    obtain ⟨q, t, d, rfl, h1, h2, h3, h4, h5, h6, e⟩ := n
    have h : TAt H' q t d (.row c k) := ⟨h4, h5, h6⟩
    exact ⟨_, _, .t h, h.nd, fun a ha => by simp only [List.mem_cons, List.not_mem_nil, or_false] at ha; rcases ha with rfl | rfl | rfl <;> assumption, e⟩
  | same c k =>
    obtain ⟨q, t, d, rfl, h1, h2, h3, h4, h5, h6, e⟩ := n
    have h : TAt H' q t d (.same c k) := ⟨h4, h5, h6⟩
    exact ⟨_, _, .t h, h.nd, fun a ha => by simp only [List.mem_cons, List.not_mem_nil, or_false] at ha; rcases ha with rfl | rfl | rfl <;> assumption, e⟩
  | div m c k =>
    obtain ⟨q, t, d, rfl, h1, h2, h3, h4, h5, h6, e⟩ := n
    have h : TAt H' q t d (.div m c k) := ⟨h4, h5, h6⟩
    exact ⟨_, _, .t h, h.nd, fun a ha => by simp only [List.mem_cons, List.not_mem_nil, or_false] at ha; rcases ha with rfl | rfl | rfl <;> assumption, e⟩
/-- some made one behind another: the parts of a list -/
structure Parts (H H' : Hp) (bs : List Bd) (vs : List V) : Prop where
  ex : ∃ S Ds, OwnL H' bs vs S Ds ∧ S.Nodup ∧ (∀ a ∈ S, H a = none) ∧ Ex H H'
theorem Parts.nil {H : Hp} : Parts H H [] [] := ⟨[], [], .nil, .nil, fun _ h => by simp at h, Ex.refl H⟩
theorem Parts.one {H H1 H2 : Hp} {bs : List Bd} {vs : List V} {b : Bd} {v : V} (p : Parts H H1 bs vs) (n : NewB H1 H2 v b) : Parts H H2 (bs ++ [b]) (vs ++ [v]) := by
  obtain ⟨S, Ds, h1, h2, h3, h4⟩ := p.ex
  obtain ⟨S1, D1, g1, g2, g3, g4⟩ := n
  refine ⟨S ++ S1, Ds ++ D1, (h1.ex g4).snoc g1, List.nodup_append.mpr ⟨h2, g2, fun x hx y hy z => ?_⟩, fun a ha => ?_, h4.trans g4⟩
  · have := g3 y hy
    rw [← z] at this
    exact h1.some x hx this
  · rcases List.mem_append.mp ha with h | h
    · exact h3 a h
    · exact h4.free (g3 a h)
/-- the list, then the pair -/
theorem Parts.grp {H H1 : Hp} {bs : List Bd} {vs : List V} (p : Parts H H1 bs vs) {w : Bool} {l q : Addr} {H2 H3 : Hp} (hl : H1 l = none) (e2 : Ex H1 H2) (hl2 : H2 l = some (.lst vs)) (hq : H2 q = none) (e3 : Ex H2 H3) (hq3 : H3 q = some (.tup [.str (kw w), .ref l])) : NewB H H3 (.ref q) (.grp w bs) := by
  obtain ⟨S, Ds, h1, h2, h3, h4⟩ := p.ex
  have h1' := h1.ex e2
  refine ⟨q :: l :: S, Ds, .grp hq3 (e3 _ _ hl2) (h1'.ex e3), ?_, fun a ha => ?_, (h4.trans e2).trans e3⟩
  · refine List.nodup_cons.mpr ⟨fun z => ?_, List.nodup_cons.mpr ⟨fun z => h1.some l z hl, h2⟩⟩
    rcases List.mem_cons.mp z with rfl | z
    · rw [hl2] at hq; cases hq
    · exact h1'.some q z hq
  · rcases List.mem_cons.mp ha with rfl | ha
    · exact (h4.trans e2).free hq
    · rcases List.mem_cons.mp ha with rfl | ha
      · exact h4.free hl
      · exact h3 a ha
/-- a list of new bodies, made by a comprehension -/
theorem lc_own {J : It} {n : Nat} {G : Hp → Prop} {Y : Nat → Hp → V → Hp → Prop} (w : Walk J n G Y) {g : TG} {te : TE} {vs : List Nat} {σ : L2.St} {H1 : Hp} {Q : VK} (bs : List Bd) (hb : bs.length = n) (hn : n ≤ 1000000) (hG : ∀ H, Ex H1 H → G H)
    (hs : ∀ i b x H H' (R : V → Hp → Prop), bs[i]? = some b → i < n → Ex H1 H → Y i H x H' → (∀ y H4, NewB H H4 y b → R y H4) → g x (wipe σ vs) H' fun σ2 H2 => wipe σ2 vs = wipe σ vs ∧ te σ2 H2 R)
    (hd : ∀ D ws S Ds H, H1 D = none → Ex H1 H → H D = some (.lst ws) → OwnL H bs ws S Ds → S.Nodup → D ∉ S → (∀ a ∈ S, H1 a = none) → Q (.ref D) H) : LcB g tYes te vs σ Q J H1 := by
  refine lc_genD w [] (fun _ _ => True) (fun D i acc H => ∃ S Ds, OwnL H (bs.take i) acc S Ds ∧ S.Nodup ∧ D ∉ S ∧ ∀ a ∈ S, H1 a = none) hn (fun b hb => by simp at hb) (fun H e => hG H e.ex) (fun _ _ _ _ _ => trivial) ?_ trivial ?_ ?_ ?_
  · rintro i acc H D l0 l hD hN ⟨S, Ds, h1, h2, h3, h4⟩
    exact ⟨S, Ds, h1.imp fun a ha o ho => by rw [upd_ne (fun z : a = D => h3 (z ▸ ha))]; exact ho, h2, h3, h4⟩
  · intro D hD
    exact ⟨[], [], .nil, .nil, by simp, by simp⟩
  · rintro i x H H' D acc R R' hi e _ hN hD ⟨S, Ds, h1, h2, h3, h4⟩ hl y k _
    obtain ⟨b, hbi⟩ : ∃ b, bs[i]? = some b := ⟨bs[i], List.getElem?_eq_getElem (by omega)⟩
    have := hs i b x H H' R hbi hi e.ex y fun u H4 nb => ?_
    · have mono : ∀ (σ2 : L2.St) (H2 : Hp), (wipe σ2 vs = wipe σ vs ∧ te σ2 H2 R) → (wipe σ2 vs = wipe σ vs ∧ tYes σ2 H2 fun b H3 => if b = true then te σ2 H3 R else R' H3) := fun σ2 H2 z => ⟨z.1, yesT z.2⟩
      have e2 : (fun σ2 H2 => wipe σ2 vs = wipe σ vs ∧ te σ2 H2 R) = fun σ2 H2 => wipe σ2 vs = wipe σ vs ∧ tYes σ2 H2 fun b H3 => if b = true then te σ2 H3 R else R' H3 := by
        funext σ2 H2
        show _ = (wipe σ2 vs = wipe σ vs ∧ (if true = true then te σ2 H2 R else R' H2))
        rw [if_pos rfl]
      rw [← e2]
      exact this
    · obtain ⟨S1, D1, g1, g2, g3, g4⟩ := nb
      refine k u H4 (g4.exo []) trivial ⟨S ++ S1, Ds ++ D1, ?_, List.nodup_append.mpr ⟨h2, g2, fun x hx y hy z => ?_⟩, fun z => ?_, fun a ha => ?_⟩
      · rw [List.take_add_one, hbi]
        exact (h1.ex g4).snoc g1
      · have := g3 y hy
        rw [← z] at this
        exact h1.some x hx this
      · rcases List.mem_append.mp z with z | z
        · exact h3 z
        · have := g3 D z
          rw [hD] at this; cases this
      · rcases List.mem_append.mp ha with h | h
        · exact h4 a h
        · exact e.ex.free (g3 a h)
  · rintro D acc H hD e _ ⟨S, Ds, h1, h2, h3, h4⟩ hDH _
    rw [← hb, List.take_length] at h1
    exact hd D acc S Ds H hD e.ex hDH h1 h2 h3 h4
/-- turned, less 1, as it is told -/
theorem turned_canon {c : Coef} (h : (keys c).Nodup) : canon (canon (mapc (fun i => -1 * i) c)) = mapc (fun i => 0 - i) (canon c) := by
  have nz : ∀ p ∈ canon c, (fun i => -1 * i) p.2 ≠ 0 := fun p hp => by
    have := canon_nz h hp
    show -1 * p.2 ≠ 0
    omega
  rw [canon_mapc (f := fun i => -1 * i) (by simp) h nz, (told_mapc (told_canon h) nz).canon_eq]
  exact mapc_congr fun p _ => by omega
section
variable {P : Program} {w : World} {K : PySem.W.Frag} {mg : Str → Option Value} {base : Heap}
def spDenT (K : PySem.W.Frag) : Sp := fun vs H Q _ => ∃ v d ts, vs = [v] ∧ SeeF K H v d ∧ IsTst d ts ∧ Few (coef ts) ∧ mOk ts ∧ ∀ u H', NewB H H' u (denT ts) → Q u H'
abbrev s__denied_test : Stmt := top 36
theorem sc__denied_test : FnScope ["test", "rest"] ["test"] (defScope s__denied_test) := ⟨rfl, rfl, rfl, by decide +kernel, rfl, by decide +kernel, by decide +kernel⟩
theorem ok__denied_test (T : Txt K mg) (a : At K mg "_denied_test" s__denied_test ["test"]) (Oless : Ok P w K mg base CX0 3 "less" ["term", "number"] spLess) (Oturned : Ok P w K mg base CX0 4 "turned" ["term"] spTurned) : Ok P w K mg base CX0 5 "_denied_test" ["test"] (spDenT K) := a.ok fun f fd F => by
  refine F.ok sc__denied_test (fun vs H Q E h => ?_) (fun cdv A outer s H vs Q E hr h => ?_)
  · obtain ⟨v, d, ts, rfl, _⟩ := h; rfl
  · obtain ⟨v, d, ts, rfl, hs, ht, few, hm, q⟩ := h
    refine ⟨_, (pss_cons (ps_if (pt_cmpR op_eq (pe_ix (ix_qK (K := K) rfl) (pv 0) pe_int (fun _ _ => rfl)) pe_str (nomark _)) (pss_one (ps_ret (pe_tup (pa_cons pe_str (pa_cons (pe_callO Oless (hr.mono (by first | decide | omega)) rfl (pa_cons (pe_callO Oturned (hr.mono (by first | decide | omega)) rfl (pa_cons (pe_ix (ix_qK (K := K) rfl) (pv 0) pe_int (fun _ _ => rfl)) pa_nil)) (pa_cons pe_int pa_nil))) pa_nil))))) pss_nil)
      (pss_cons (ps_if (pt_cmpR op_eq (pe_ix (ix_qK (K := K) rfl) (pv 0) pe_int (fun _ _ => rfl)) pe_str (nomark _)) (pss_one (ps_ret (pe_tup (pa_cons pe_str (pa_cons (pe_lst (pa_cons (pe_tup (pa_cons pe_str (pa_cons (pe_callO Oless (hr.mono (by first | decide | omega)) rfl (pa_cons (pe_ix (ix_qK (K := K) rfl) (pv 0) pe_int (fun _ _ => rfl)) (pa_cons pe_int pa_nil))) pa_nil))) (pa_cons (pe_tup (pa_cons pe_str (pa_cons (pe_callO Oless (hr.mono (by first | decide | omega)) rfl (pa_cons (pe_callO Oturned (hr.mono (by first | decide | omega)) rfl (pa_cons (pe_ix (ix_qK (K := K) rfl) (pv 0) pe_int (fun _ _ => rfl)) pa_nil)) (pa_cons pe_int pa_nil))) pa_nil))) pa_nil))) pa_nil))))) pss_nil)
      (pss_one (ps_ret (pe_tup (pa_cons pe_str (pa_cons (pe_lc (own := [("rest", 1)]) (g := gName 1) (tt := tYes) rfl sc__denied_test.nd (pi_range2 rfl T.n_range (pa_cons pe_int (pa_cons (pe_ix (ix_qK (K := K) rfl) (pv 0) pe_int (fun _ _ => rfl)) pa_nil))) (blkOk_by (N := ["test", "rest"]) (sc := defScope s__denied_test) (by decide +kernel)) (fun _ _ _ _ _ => (pg_name (i := 1) sc__denied_test.nd rfl (Or.inl rfl))) (fun _ _ _ _ _ => pts_nil) (fun _ _ _ _ _ => (pe_tup (pa_cons pe_str (pa_cons (pe_ix (ix_qK (K := K) rfl) (pv 0) pe_int (fun _ _ => rfl)) (pa_cons (pe_callO Oless (hr.mono (by first | decide | omega)) rfl (pa_cons (pe_ix (ix_qK (K := K) rfl) (pv 0) pe_int (fun _ _ => rfl)) (pa_cons (pv 1) pa_nil))) pa_nil)))))) pa_nil))))))), ?_⟩
    cases ts with
    | row c k =>
      obtain ⟨h1, td, h2, h3⟩ := ht
      obtain ⟨p, ve, rfl, hp, hv⟩ := pair_see hs h1 h2
      refine ⟨_, rfl, p, _, 0, _, rfl, rfl, SqQ.or hp, at0, rfl, _, rfl, iteT ?_⟩
      refine ⟨_, rfl, p, _, 1, _, rfl, rfl, SqQ.or hp, at1, _, c, k, rfl, see_term hv h3, few, fun u H1 n1 => ⟨_, _, _, 1, rfl, n1.at, (few.mapc _).canon, fun u2 H2 n2 => ⟨by show 2 ≤ sizeLine; decide, fun q1 hq1 => ?_⟩⟩⟩
      rw [turned_canon (c := c) few.nd] at n2
      obtain ⟨t, dd, rfl, m1, m2, m3, g1, g2, g3, e⟩ := n2.pair hq1 [.str "row"]
      have nt : NewTst H1 _ (.ref q1) (.row (mapc (fun i => 0 - i) (canon c)) (-1 * k - 1)) := ⟨q1, t, dd, rfl, m1, m2, m3, g1, g2, g3, e⟩
      rw [show (-1 * k - 1 : Int) = 0 - k - 1 by omega] at nt
      exact q _ _ (nt.newB.from n1.ex)
    | same c k =>
      obtain ⟨h1, td, h2, h3⟩ := ht
      obtain ⟨p, ve, rfl, hp, hv⟩ := pair_see hs h1 h2
      refine ⟨_, rfl, p, _, 0, _, rfl, rfl, SqQ.or hp, at0, rfl, _, rfl, iteF ?_⟩
      refine ⟨_, rfl, p, _, 0, _, rfl, rfl, SqQ.or hp, at0, rfl, _, rfl, iteT ?_⟩
      refine ⟨_, rfl, p, _, 1, _, rfl, rfl, SqQ.or hp, at1, _, c, k, 1, rfl, see_term hv h3, few, fun u1 H1 n1 => ⟨by show 2 ≤ sizeLine; decide, fun q1 hq1 => ?_⟩⟩
      obtain ⟨t, dd, rfl, m1, m2, m3, g1, g2, g3, e1⟩ := n1.pair hq1 [.str "row"]
      have b1 : NewB H _ (.ref q1) (.t (.row (canon c) (k - 1))) := NewTst.newB ⟨q1, t, dd, rfl, m1, m2, m3, g1, g2, g3, e1⟩
      have p1 := Parts.nil.one b1
      refine ⟨_, rfl, p, _, 1, _, rfl, rfl, SqQ.or (hp.imp (e1 _ _) (e1 _ _)), at1, _, c, k, rfl, (see_term hv h3).mono e1, few, fun u H2 n2 => ⟨_, _, _, 1, rfl, n2.at, (few.mapc _).canon, fun u2 H3 n3 => ⟨by show 2 ≤ sizeLine; decide, fun q2 hq2 => ?_⟩⟩⟩
      rw [turned_canon (c := c) few.nd] at n3
      obtain ⟨t2, d2, rfl, m4, m5, m6, g4, g5, g6, e2⟩ := n3.pair hq2 [.str "row"]
      have nt : NewTst H2 _ (.ref q2) (.row (mapc (fun i => 0 - i) (canon c)) (-1 * k - 1)) := ⟨q2, t2, d2, rfl, m4, m5, m6, g4, g5, g6, e2⟩
      rw [show (-1 * k - 1 : Int) = 0 - k - 1 by omega] at nt
      have p2 := p1.one (nt.newB.from n2.ex)
      refine ⟨by show 2 ≤ sizeLine; decide, fun l hl => ⟨by show 2 ≤ sizeLine; decide, fun q3 hq3 => ?_⟩⟩
      exact q _ _ (p2.grp (w := false) hl (Ex.new hl) upd_same hq3 (Ex.new hq3) upd_same)
    | div m c k =>
      obtain ⟨h1, td, h2, h3⟩ := ht
      obtain ⟨p, xs, rfl, hp, hx⟩ := see_sq hs h1
      rw [h2] at hx
      cases hx with
      | cons y1 hx =>
        cases y1
        cases hx with
        | cons y2 hx =>
          cases y2
          cases hx with
          | cons y3 hx =>
            cases hx
            refine ⟨_, rfl, p, _, 0, _, rfl, rfl, SqQ.or hp, at0, rfl, _, rfl, iteF ?_⟩
            refine ⟨_, rfl, p, _, 0, _, rfl, rfl, SqQ.or hp, at0, rfl, _, rfl, iteF ?_⟩
            dsimp only [tNext, tRet, tTup, tCons, tNil, tC]
            refine tLc_of ?_
            obtain ⟨hm0, hm1⟩ := hm
            refine ⟨_, rfl, p, _, 1, _, rfl, rfl, SqQ.or hp, at1, 1, m, rfl, ⟨by decide, by decide, by omega, by omega⟩, ?_⟩
            refine lc_own (walk_range (lo := 1) (n := (m - 1).toNat)) ((List.range (m - 1).toNat).map fun (r : Nat) => Bd.t (.div m (canon c) (k - ((r : Int) + 1)))) (by simp) (by omega) (fun _ _ => trivial) ?_ ?_
            · rintro i b x H1 H2 R hbi hi e ⟨rfl, rfl⟩ kk
              have hb : b = .t (.div m (canon c) (k - ((i : Int) + 1))) := by
                rw [List.getElem?_map, List.getElem?_range hi] at hbi
                exact (Option.some.inj hbi).symm
              subst hb
              have hp1 := hp.imp (e _ _) (e _ _)
              refine ⟨rfl, ?_⟩
              refine ⟨_, rfl, p, _, 1, _, rfl, rfl, SqQ.or hp1, at1, _, rfl, p, _, 2, _, rfl, rfl, SqQ.or hp1, at2, _, rfl, _, c, k, 1 + (i : Int), rfl, (see_term y3 h3).mono e, few, fun u H3 n3 => ⟨by show 3 ≤ sizeLine; decide, fun q1 hq1 => ?_⟩⟩
              rw [show k - (1 + (i : Int)) = k - ((i : Int) + 1) by omega] at n3
              obtain ⟨t, dd, rfl, m1, m2, m3, g1, g2, g3, e3⟩ := n3.pair hq1 [.str "by", .int m]
              exact kk _ _ (NewTst.newB ⟨q1, t, dd, rfl, m1, m2, m3, g1, g2, g3, e3⟩)
            · intro D ws S Ds H1 hD e hDH ho hnd hDS hfr
              refine ⟨by show 2 ≤ sizeLine; decide, fun q3 hq3 => ?_⟩
              have e3 : Ex H1 (upd H1 q3 (.tup [.str "any", .ref D])) := Ex.new hq3
              have h0 := ho.ex e3
              refine q _ _ ⟨q3 :: D :: S, Ds, .grp upd_same (e3 _ _ hDH) h0, List.nodup_cons.mpr ⟨fun z => ?_, List.nodup_cons.mpr ⟨hDS, hnd⟩⟩, fun a ha => ?_, e.trans e3⟩
              · rcases List.mem_cons.mp z with rfl | z
                · rw [hDH] at hq3; cases hq3
                · exact ho.some q3 z hq3
              · rcases List.mem_cons.mp ha with rfl | ha
                · exact e.free hq3
                · rcases List.mem_cons.mp ha with rfl | ha
                  · exact hD
                  · exact hfr a ha
end
end K8

set_option Elab.async false
set_option linter.all false
set_option maxRecDepth 100000
set_option maxHeartbeats 4000000
namespace K8
open PySem PySem.Spec PyProof.Rows L2 M8
theorem grp_end {H H1 : Hp} {w : Bool} {bs : List Bd} {ws : List V} {D q3 : Addr} {S Ds : List Addr} (hD : H D = none) (e : Ex H H1) (hDH : H1 D = some (.lst ws)) (ho : OwnL H1 bs ws S Ds) (hnd : S.Nodup) (hDS : D ∉ S) (hfr : ∀ a ∈ S, H a = none) (hq3 : H1 q3 = none) : NewB H (upd H1 q3 (.tup [.str (kw w), .ref D])) (.ref q3) (.grp w bs) := by
  have e3 : Ex H1 (upd H1 q3 (.tup [.str (kw w), .ref D])) := Ex.new hq3
  refine ⟨q3 :: D :: S, Ds, .grp upd_same (e3 _ _ hDH) (ho.ex e3), List.nodup_cons.mpr ⟨fun z => ?_, List.nodup_cons.mpr ⟨hDS, hnd⟩⟩, fun a ha => ?_, e.trans e3⟩
  · rcases List.mem_cons.mp z with rfl | z
    · rw [hDH] at hq3; cases hq3
    · exact ho.some q3 z hq3
  · rcases List.mem_cons.mp ha with rfl | ha
    · exact e.free hq3
    · rcases List.mem_cons.mp ha with rfl | ha
      · exact hD
      · exact hfr a ha
/-- what turning a test about asks -/
def WnT (ts : Tst) : Prop := Few (coef ts) ∧ mOk ts
section
variable {P : Program} {w : World} {K : PySem.W.Frag} {mg : Str → Option Value} {base : Heap}
def spWN (K : PySem.W.Frag) (n : Nat) : Sp := fun vs H Q _ => ∃ v d b w, vs = [v, .bl w] ∧ SeeF K H v d ∧ IsB n d b ∧ AllT WnT n b ∧ ∀ u H', NewB H H' u (plainB w b) → Q u H'
abbrev s__without_not : Stmt := top 37
theorem sc__without_not : FnScope ["body", "wanted", "kind", "inner"] ["body", "wanted"] (defScope s__without_not) := ⟨rfl, rfl, rfl, by decide +kernel, rfl, by decide +kernel, by decide +kernel⟩
theorem ok__without_not_step (T : Txt K mg) (a : At K mg "_without_not" s__without_not ["body", "wanted"]) {k n : Nat} (hk : 5 ≤ k) (Otold_test : Ok P w K mg base CX0 3 "told_test" ["test"] (spToldT K)) (O_denied_test : Ok P w K mg base CX0 5 "_denied_test" ["test"] (spDenT K)) {sub : Sp} (hsub : ∀ m, n = m + 1 → ∀ vs H Q E, spWN K m vs H Q E → sub vs H Q E) (O_without_not : Ok P w K mg base CX0 k "_without_not" ["body", "wanted"] sub) : Ok P w K mg base CX0 (k+1) "_without_not" ["body", "wanted"] (spWN K n) := a.ok fun f fd F => by
  refine F.ok sc__without_not (fun vs H Q E h => ?_) (fun cdv A outer s H vs Q E hr h => ?_)
  · obtain ⟨v, d, b, w, rfl, _⟩ := h; rfl
  · obtain ⟨v, d, b, w, rfl, hs, hb, ha, q⟩ := h
    refine ⟨_, (pss_cons (ps_if (pt_cmpR op_eq (pe_ix (ix_qK (K := K) rfl) (pv 0) pe_int (fun _ _ => rfl)) pe_str (nomark _)) (pss_one (ps_ret (pe_callO O_without_not hr rfl (pa_cons (pe_ix (ix_qK (K := K) rfl) (pv 0) pe_int (fun _ _ => rfl)) (pa_cons (pe_not (pv 1)) pa_nil))))) pss_nil)
      (pss_cons (ps_if (pt_cmpR op_in_seq (pe_ix (ix_qK (K := K) rfl) (pv 0) pe_int (fun _ _ => rfl)) (pe_tup (pa_cons pe_str (pa_cons pe_str pa_nil))) rfl) (pss_cons (ps_set (i := 2) sc__without_not.nd rfl (Or.inl rfl) (pe_ifExp (pt_cmpR op_eq (pe_cmpR op_eq (pe_ix (ix_qK (K := K) rfl) (pv 0) pe_int (fun _ _ => rfl)) pe_str (nomark _)) (pv 1) (nomark _)) pe_str pe_str))
      (pss_one (ps_ret (pe_tup (pa_cons (pv 2) (pa_cons (pe_lc (own := [("inner", 3)]) (g := gName 3) (tt := tYes) rfl sc__without_not.nd (pi_lt (pe_ix (ix_qK (K := K) rfl) (pv 0) pe_int (fun _ _ => rfl))) (blkOk_by (N := ["body", "wanted", "kind", "inner"]) (sc := defScope s__without_not) (by decide +kernel)) (fun _ _ _ _ _ => (pg_name (i := 3) sc__without_not.nd rfl (Or.inl rfl))) (fun _ _ _ _ _ => pts_nil) (fun _ _ _ _ _ => (pe_callO O_without_not hr rfl (pa_cons (pv 3) (pa_cons (pv 1) pa_nil))))) pa_nil)))))) pss_nil)
      (pss_cons (ps_if (pt_val (pv 1)) (pss_one (ps_ret (pe_callO Otold_test (hr.mono (by first | decide | omega)) rfl (pa_cons (pv 0) pa_nil)))) pss_nil)
      (pss_one (ps_ret (pe_callO O_denied_test (hr.mono (by first | decide | omega)) rfl (pa_cons (pv 0) pa_nil))))))), ?_⟩
    match n, b, hb, ha with
    | n, .t ts, hb, ha =>
      have hb := IsB.tst.mp hb
      have np := AllT.tst.mp ha
      obtain ⟨z, r, hi, h1, h2⟩ := head_tst hb
      obtain ⟨a1, xs, rfl, hq, hx⟩ := see_sq hs (sq_tst hb)
      rw [hi] at hx
      cases hx with
      | cons y1 hx =>
        cases y1
        refine ⟨_, rfl, a1, _, 0, _, rfl, rfl, SqQ.or hq, at0, rfl, _, rfl, ?_⟩
        rw [decide_eq_false fun z => h1 (V.str.inj z)]
        refine iteF ⟨_, rfl, a1, _, 0, _, rfl, rfl, SqQ.or hq, at0, by show 2 ≤ sizeLine; decide, fun tp htp => ?_⟩
        have e1 : Ex H (upd H tp (.tup [.str "all", .str "any"])) := Ex.new htp
        refine ⟨tp, _, rfl, .inr (SqT.of upd_same), rfl, rfl, _, rfl, ?_⟩
        rw [h2]
        refine iteF ⟨_, rfl, _, rfl, ?_⟩
        have q' : ∀ u H', NewB (upd H tp (.tup [.str "all", .str "any"])) H' u (plainB w (.t ts)) → Q u H' := fun u H' nb => q u H' (nb.from e1)
        rw [plainB] at q'
        cases w with
        | true =>
          rw [if_pos rfl] at q'
          exact iteT ⟨_, rfl, _, d, ts, rfl, hs.mono e1, hb, np.1, fun u H2 n2 => q' u H2 n2.newB⟩
        | false =>
          rw [if_neg (by simp)] at q'
          exact iteF ⟨_, rfl, _, d, ts, rfl, hs.mono e1, hb, np.1, np.2, fun u H2 n2 => q' u H2 n2⟩
    | n + 1, .neg b, ⟨h1, e, h2, h3⟩, ha =>
      obtain ⟨a1, ve, rfl, hq, hv⟩ := pair_see hs h1 h2
      refine ⟨_, rfl, a1, _, 0, _, rfl, rfl, SqQ.or hq, at0, rfl, _, rfl, iteT ?_⟩
      have q' : ∀ u H', NewB H H' u (plainB (!w) b) → Q u H' := fun u H' nb => q u H' (by rw [plainB]; exact nb)
      refine ⟨_, rfl, a1, _, 1, _, rfl, rfl, SqQ.or hq, at1, _, rfl, _, rfl, hsub n rfl _ _ _ _ ⟨_, e, b, !w, rfl, hv, h3, ha, q'⟩⟩
    | n + 1, .grp kk bs, ⟨h1, e, h2, h3, h4⟩, ha =>
      obtain ⟨a1, ve, rfl, hq, hv⟩ := pair_see hs h1 h2
      refine ⟨_, rfl, a1, _, 0, _, rfl, rfl, SqQ.or hq, at0, rfl, _, rfl, ?_⟩
      rw [show decide (V.str (kw kk) = V.str "not") = false by cases kk <;> decide +kernel]
      refine iteF ⟨_, rfl, a1, _, 0, _, rfl, rfl, SqQ.or hq, at0, by show 2 ≤ sizeLine; decide, fun tp htp => ?_⟩
      have e1 : Ex H (upd H tp (.tup [.str "all", .str "any"])) := Ex.new htp
      refine ⟨tp, _, rfl, .inr (SqT.of upd_same), rfl, rfl, _, rfl, ?_⟩
      rw [show inV (V.str (kw kk)) [.str "all", .str "any"] = true by cases kk <;> decide +kernel]
      refine iteT ?_
      have hq1 := hq.imp (e1 _ _) (e1 _ _)
      refine ⟨_, rfl, a1, _, 0, _, rfl, rfl, SqQ.or hq1, at0, rfl, _, rfl, rfl, _, rfl, ?_⟩
      rw [show decide (V.bl (decide (V.str (kw kk) = V.str "all")) = V.bl w) = (kk == w) by cases kk <;> cases w <;> decide +kernel]
      obtain ⟨p2, ys, rfl, hp2, hy⟩ := see_sq (hv.mono e1) h3
      have hlen := hy.len
      have h4l := h4.len
      have turn : ∀ (x2 : V) (Q1 : VK), (∀ D ws S Ds H', upd H tp (.tup [.str "all", .str "any"]) D = none → Ex (upd H tp (.tup [.str "all", .str "any"])) H' → H' D = some (.lst ws) → OwnL H' (bs.map (plainB w)) ws S Ds → S.Nodup → D ∉ S → (∀ a ∈ S, upd H tp (.tup [.str "all", .str "any"]) a = none) → Q1 (.ref D) H') →
          ∀ {J : It} {Gd : Hp → Prop}, Walk J ys.length Gd (YAt ys) → (∀ H', Ex (upd H tp (.tup [.str "all", .str "any"])) H' → Gd H') → LcB (gName 3) tYes (tC0 sub (tCons (tVar 3) (tCons (tVar 1) tNil))) [3] [some (.ref a1), some (.bl w), some x2, none] Q1 J (upd H tp (.tup [.str "all", .str "any"])) := by
        intro x2 Q1 q1 J Gd wk hG
        refine lc_own wk (bs.map (plainB w)) (by rw [List.length_map]; omega) (by have := ha.1; omega) hG ?_ q1
        rintro i b x H5 H6 R hbi hi' e5 ⟨rfl, hx'⟩ kk'
        obtain ⟨dd, hd, sd⟩ := hy.getV hx'
        obtain ⟨bb, hbb, ib⟩ := h4.get hd
        have : b = plainB w bb := by
          rw [List.getElem?_map, hbb] at hbi
          exact (Option.some.inj hbi).symm
        subst this
        exact ⟨rfl, _, rfl, _, rfl, hsub n rfl _ _ _ _ ⟨x, dd, bb, w, rfl, sd.mono e5, ib, ha.2 bb (List.mem_of_getElem? hbb), fun u H7 nb => kk' u H7 nb⟩⟩
      have q' : ∀ u H', NewB (upd H tp (.tup [.str "all", .str "any"])) H' u (.grp (kk == w) (bs.map (plainB w))) → Q u H' := fun u H' nb => q u H' (by rw [plainB, plainL_map]; exact nb.from e1)
      cases hz : (kk == w) with
      | true =>
        rw [hz] at q'
        refine iteT ?_
        dsimp only [tNext, tRet, tTup, tCons, tNil, tC, gName]
        refine ⟨_, rfl, tLc_of ?_⟩
        have fin : ∀ D ws S Ds H', upd H tp (.tup [.str "all", .str "any"]) D = none → Ex (upd H tp (.tup [.str "all", .str "any"])) H' → H' D = some (.lst ws) → OwnL H' (bs.map (plainB w)) ws S Ds → S.Nodup → D ∉ S → (∀ a ∈ S, upd H tp (.tup [.str "all", .str "any"]) a = none) → ([V.str (kw true), V.ref D].length ≤ sizeLine ∧ ∀ q3, H' q3 = none → Q (.ref q3) (upd H' q3 (.tup [.str (kw true), .ref D]))) := fun D ws S Ds H' hD e5 hDH ho hnd hDS hfr => ⟨by show 2 ≤ sizeLine; decide, fun q3 hq3 => q' _ _ (grp_end hD e5 hDH ho hnd hDS hfr hq3)⟩
        rcases hp2 with hp2 | hp2
        · exact .inl ⟨_, rfl, a1, _, 1, _, rfl, rfl, SqQ.or hq1, at1, p2, rfl, ⟨ys, SqL.of hp2⟩, turn _ _ fin walk_list fun H' e => SqL.of (e _ _ hp2)⟩
        · exact .inr ⟨_, rfl, a1, _, 1, _, rfl, rfl, SqQ.or hq1, at1, p2, rfl, ⟨ys, SqT.of hp2⟩, turn _ _ fin walk_tup fun H' e => SqT.of (e _ _ hp2)⟩
      | false =>
        rw [hz] at q'
        refine iteF ?_
        dsimp only [tNext, tRet, tTup, tCons, tNil, tC, gName]
        refine ⟨_, rfl, tLc_of ?_⟩
        have fin : ∀ D ws S Ds H', upd H tp (.tup [.str "all", .str "any"]) D = none → Ex (upd H tp (.tup [.str "all", .str "any"])) H' → H' D = some (.lst ws) → OwnL H' (bs.map (plainB w)) ws S Ds → S.Nodup → D ∉ S → (∀ a ∈ S, upd H tp (.tup [.str "all", .str "any"]) a = none) → ([V.str (kw false), V.ref D].length ≤ sizeLine ∧ ∀ q3, H' q3 = none → Q (.ref q3) (upd H' q3 (.tup [.str (kw false), .ref D]))) := fun D ws S Ds H' hD e5 hDH ho hnd hDS hfr => ⟨by show 2 ≤ sizeLine; decide, fun q3 hq3 => q' _ _ (grp_end hD e5 hDH ho hnd hDS hfr hq3)⟩
        rcases hp2 with hp2 | hp2
        · exact .inl ⟨_, rfl, a1, _, 1, _, rfl, rfl, SqQ.or hq1, at1, p2, rfl, ⟨ys, SqL.of hp2⟩, turn _ _ fin walk_list fun H' e => SqL.of (e _ _ hp2)⟩
        · exact .inr ⟨_, rfl, a1, _, 1, _, rfl, rfl, SqQ.or hq1, at1, p2, rfl, ⟨ys, SqT.of hp2⟩, turn _ _ fin walk_tup fun H' e => SqT.of (e _ _ hp2)⟩
theorem ok__without_not (T : Txt K mg) (a : At K mg "_without_not" s__without_not ["body", "wanted"]) (Otold_test : Ok P w K mg base CX0 3 "told_test" ["test"] (spToldT K)) (O_denied_test : Ok P w K mg base CX0 5 "_denied_test" ["test"] (spDenT K)) : ∀ n, Ok P w K mg base CX0 (n+6) "_without_not" ["body", "wanted"] (spWN K n)
  | 0 => ok__without_not_step T a (k := 5) (by decide) Otold_test O_denied_test (sub := fun _ _ _ _ => False) (fun m h => by omega) (a.ok fun f fd F => F.ok sc__without_not (fun vs H Q E h => h.elim) (fun cdv A outer s H vs Q E hr h => h.elim))
  | n + 1 => ok__without_not_step T a (by omega) Otold_test O_denied_test (sub := spWN K n) (fun m h vs H Q E x => (show n = m from by omega) ▸ x) (ok__without_not T a Otold_test O_denied_test n)
theorem GoodT.wn {ts : Tst} (h : GoodT ts) : WnT ts := ⟨h.1.few, h.2⟩
/-- plain, denied: told, or refused -/
def spTurnB (K : PySem.W.Frag) (C : Addr) (w : Bool) (n : Nat) : Sp := fun vs H Q E => ∃ v d, vs = [v] ∧ SeeF K H v d ∧
  ((∃ b, IsB n d b ∧ AllT GoodT n b ∧ ∀ u H', NewB H H' u (plainB w b) → Q u H') ∨ (okN n d ∧ isBodyN n d = false ∧ ∀ dd H', H dd = none → Ex H H' → H' dd = some (.xd [("body", v)]) → E (.ref C) (some dd) H'))
abbrev s_plain : Stmt := top 38
theorem sc_plain : FnScope ["body"] ["body"] (defScope s_plain) := ⟨rfl, rfl, rfl, by decide +kernel, rfl, by decide +kernel, by decide +kernel⟩
theorem fn_plain (T : Txt K mg) {C : Addr} (B : BadC K mg C) {n k : Nat} (hk : n + 6 ≤ k) (Ois_body : Ok P w K mg base CX0 (n+6) "is_body" ["thing"] (spBodyG K (okN n) (isBodyN n))) (O_without_not : Ok P w K mg base CX0 (n+6) "_without_not" ["body", "wanted"] (spWN K n)) {f : Addr} {fd : FuncData} (F : Fun K "plain" "plain" s_plain f fd) :
    FnOk P w K mg base (L2.CX P w) (k+1) f fd ["body"] (spTurnB K C true n) := by
  obtain ⟨fI, fdI, iC, tI, FI, bI⟩ := B.ini
  have GI : FnOk P w K mg base CX0 1 fI fdI ["self", "body"] (spInit C) := ok_init B FI
  refine F.okX sc_plain (fun vs H Q E h => ?_) (fun cdv A outer s H vs Q E hr h => ?_)
  · obtain ⟨v, d, rfl, _⟩ := h; rfl
  · obtain ⟨v, d, rfl, hs, q⟩ := h
    obtain ⟨k, rfl⟩ : ∃ j, k = j + 1 := ⟨k - 1, by omega⟩
    refine ⟨_, (pss_cons (ps_if (pt_not (pt_val (pe_callO Ois_body (hr.mono (by first | decide | omega)) rfl (pa_cons (pv 0) pa_nil)))) (pss_one (ps_raise rfl (takes_of rfl rfl rfl rfl) (pmk_oex B.ox iC tI GI (hr.mono (by omega)) bI .nil pass0 rfl B.gC (pa_cons (pv 0) pa_nil)))) pss_nil)
      (pss_one (ps_ret (pe_callO O_without_not (hr.mono (by first | decide | omega)) rfl (pa_cons (pv 0) (pa_cons pe_bl pa_nil)))))), ?_⟩
    rcases q with ⟨b, hb, g, q⟩ | ⟨hok, hno, q⟩
    · obtain ⟨i1, i2⟩ := isB_body hb g
      refine ⟨_, rfl, v, d, rfl, hs, i2, fun H1 e1 => ⟨_, rfl, ?_⟩⟩
      rw [i1]
      exact iteF ⟨_, rfl, _, d, b, true, rfl, hs.mono e1, hb, g.imp fun _ => GoodT.wn, fun u H2 nb => q u H2 (nb.from e1)⟩
    · refine ⟨_, rfl, v, d, rfl, hs, hok, fun H1 e1 => ⟨_, rfl, ?_⟩⟩
      rw [hno]
      refine iteT ?_
      refine ⟨_, rfl, by show 1 ≤ 1000; decide, fun a ha => ⟨a, v, rfl, upd_same, fun dx hd hn => ⟨rfl, dx, _, upd_same, by rw [upd_ne hn, upd_same], by rw [upd_ne hn] at hd; exact hd, ?_⟩⟩⟩
      have hd1 : H1 dx = none := by rw [upd_ne hn] at hd; exact hd
      refine q dx _ (e1.free hd1) (fun b o hb => ?_) upd_same
      have hb1 := e1 _ _ hb
      have n1 : b ≠ dx := ne_of_none hb1 hd1
      have n2 : b ≠ a := ne_of_none hb1 ha
      rw [upd_ne n1, del_ne n2, upd_ne n2, upd_ne n1, upd_ne n2]
      exact hb1
abbrev s_denied : Stmt := top 39
theorem sc_denied : FnScope ["body"] ["body"] (defScope s_denied) := ⟨rfl, rfl, rfl, by decide +kernel, rfl, by decide +kernel, by decide +kernel⟩
theorem fn_denied (T : Txt K mg) {C : Addr} (B : BadC K mg C) {n k : Nat} (hk : n + 6 ≤ k) (Ois_body : Ok P w K mg base CX0 (n+6) "is_body" ["thing"] (spBodyG K (okN n) (isBodyN n))) (O_without_not : Ok P w K mg base CX0 (n+6) "_without_not" ["body", "wanted"] (spWN K n)) {f : Addr} {fd : FuncData} (F : Fun K "denied" "denied" s_denied f fd) :
    FnOk P w K mg base (L2.CX P w) (k+1) f fd ["body"] (spTurnB K C false n) := by
  obtain ⟨fI, fdI, iC, tI, FI, bI⟩ := B.ini
  have GI : FnOk P w K mg base CX0 1 fI fdI ["self", "body"] (spInit C) := ok_init B FI
  refine F.okX sc_denied (fun vs H Q E h => ?_) (fun cdv A outer s H vs Q E hr h => ?_)
  · obtain ⟨v, d, rfl, _⟩ := h; rfl
  · obtain ⟨v, d, rfl, hs, q⟩ := h
    obtain ⟨k, rfl⟩ : ∃ j, k = j + 1 := ⟨k - 1, by omega⟩
    refine ⟨_, (pss_cons (ps_if (pt_not (pt_val (pe_callO Ois_body (hr.mono (by first | decide | omega)) rfl (pa_cons (pv 0) pa_nil)))) (pss_one (ps_raise rfl (takes_of rfl rfl rfl rfl) (pmk_oex B.ox iC tI GI (hr.mono (by omega)) bI .nil pass0 rfl B.gC (pa_cons (pv 0) pa_nil)))) pss_nil)
      (pss_one (ps_ret (pe_callO O_without_not (hr.mono (by first | decide | omega)) rfl (pa_cons (pv 0) (pa_cons pe_bl pa_nil)))))), ?_⟩
    rcases q with ⟨b, hb, g, q⟩ | ⟨hok, hno, q⟩
    · obtain ⟨i1, i2⟩ := isB_body hb g
      refine ⟨_, rfl, v, d, rfl, hs, i2, fun H1 e1 => ⟨_, rfl, ?_⟩⟩
      rw [i1]
      exact iteF ⟨_, rfl, _, d, b, false, rfl, hs.mono e1, hb, g.imp fun _ => GoodT.wn, fun u H2 nb => q u H2 (nb.from e1)⟩
    · refine ⟨_, rfl, v, d, rfl, hs, hok, fun H1 e1 => ⟨_, rfl, ?_⟩⟩
      rw [hno]
      refine iteT ?_
      refine ⟨_, rfl, by show 1 ≤ 1000; decide, fun a ha => ⟨a, v, rfl, upd_same, fun dx hd hn => ⟨rfl, dx, _, upd_same, by rw [upd_ne hn, upd_same], by rw [upd_ne hn] at hd; exact hd, ?_⟩⟩⟩
      have hd1 : H1 dx = none := by rw [upd_ne hn] at hd; exact hd
      refine q dx _ (e1.free hd1) (fun b o hb => ?_) upd_same
      have hb1 := e1 _ _ hb
      have n1 : b ≠ dx := ne_of_none hb1 hd1
      have n2 : b ≠ a := ne_of_none hb1 ha
      rw [upd_ne n1, del_ne n2, upd_ne n2, upd_ne n1, upd_ne n2]
      exact hb1
end
end K8

set_option Elab.async false
set_option linter.all false
set_option maxRecDepth 100000
set_option maxHeartbeats 4000000
namespace K8
open PySem PySem.Spec PyProof.Rows L2 M8
/-- a body at most n deep, of groups of at most three -/
def AllW (p : Tst → Prop) : Nat → Bd → Prop
  | 0, b => match b with | .t ts => p ts | _ => False
  | n + 1, b => match b with | .t ts => p ts | .neg b => AllW p n b | .grp _ bs => bs.length ≤ 3 ∧ ∀ b ∈ bs, AllW p n b
theorem AllW.tst {p : Tst → Prop} {n : Nat} {ts : Tst} : AllW p n (.t ts) ↔ p ts := by cases n <;> exact Iff.rfl
theorem AllW.allT {p q : Tst → Prop} (h : ∀ ts, p ts → q ts) : ∀ {n : Nat} {b : Bd}, AllW p n b → AllT q n b
  | 0, .t _, x => h _ x
  | 0, .neg _, x => x.elim
  | 0, .grp _ _, x => x.elim
  | _ + 1, .t _, x => h _ x
  | n + 1, .neg b, x => AllW.allT h (n := n) (b := b) x
  | n + 1, .grp _ bs, x => ⟨by have := x.1; omega, fun b hb => AllW.allT h (n := n) (x.2 b hb)⟩
theorem AllW.up {p : Tst → Prop} : ∀ {n m : Nat} {b : Bd}, n ≤ m → AllW p n b → AllW p m b
  | n, m, .t _, _, x => AllW.tst.mpr (AllW.tst.mp x)
  | 0, _, .neg _, _, x => x.elim
  | 0, _, .grp _ _, _, x => x.elim
  | n + 1, 0, .neg _, l, _ => absurd l (by omega)
  | n + 1, 0, .grp _ _, l, _ => absurd l (by omega)
  | n + 1, m + 1, .neg b, l, x => AllW.up (n := n) (m := m) (b := b) (by omega) x
  | n + 1, m + 1, .grp _ bs, l, x => ⟨x.1, fun b hb => AllW.up (n := n) (m := m) (by omega) (x.2 b hb)⟩
def bud : Nat → Nat | 0 => 20 | n + 1 => 3 * bud n + 20
/-- a new drawn body -/
structure NewW (a : Addr) (H H' : Hp) (v : V) (b : Bd) (S Ds : List Addr) : Prop where
  own : Own H' b v S Ds
  nd : S.Nodup
  fr : ∀ x ∈ S, H x = none
  na : a ∉ S
theorem NewW.from {a : Addr} {H H1 H' : Hp} {v : V} {b : Bd} {S Ds : List Addr} (h : NewW a H1 H' v b S Ds) (e : Exo [a] H H1) (n : H1 a ≠ none) : NewW a H H' v b S Ds := ⟨h.own, h.nd, fun x hx => e.free (fun z => h.na (by rw [← (show x = a by simpa using z)]; exact hx)) (h.fr x hx), h.na⟩
def spBodyW (n : Nat) : Sp := fun vs H Q _ => ∃ a l ns g B, vs = [.ref a, .ref l, .int g, .int (n : Int)] ∧ Spr H a B ∧ B + bud n + 300 < lot ∧ H l = some (.lst (ns.map V.str)) ∧ l ≠ a ∧ ns.Nodup ∧ ns.length ≤ 4 ∧ 0 < g ∧ g ≤ 1000000 ∧
  ∀ v b S Ds H', Exo [a] H H' → Spr H' a (B + bud n) → NewW a H H' v b S Ds → AllW (TstIn ns g) n b → Q v H'
def spBodyA (N : Nat) : Sp := fun vs H Q E => ∃ n, n ≤ N ∧ spBodyW n vs H Q E
section
variable {P : Program} {w : World} {K : PySem.W.Frag} {mg : Str → Option Value} {base : Heap}
abbrev s__law_w_body : Stmt := top 51
theorem sc__law_w_body : FnScope ["spring", "names", "great", "deep", "way", "many", "parts", "k"] ["spring", "names", "great", "deep"] (defScope s__law_w_body) := ⟨rfl, rfl, rfl, by decide +kernel, rfl, by decide +kernel, by decide +kernel⟩
theorem ok__law_w_body_step (T : Txt K mg) (a : At K mg "_law_w_body" s__law_w_body ["spring", "names", "great", "deep"]) {k N : Nat} (hk : 4 ≤ k) (O_law_draw : Ok P w K mg base CX0 1 "_law_draw" ["spring", "many"] spDraw) (O_law_pick : Ok P w K mg base CX0 2 "_law_pick" ["spring", "some"] (spPick K)) (O_law_w_test : Ok P w K mg base CX0 4 "_law_w_test" ["spring", "names", "great"] spTestW) {sub : Sp} (hsub : ∀ m, m + 1 ≤ N → ∀ vs H Q E, spBodyW m vs H Q E → sub vs H Q E) (O_law_w_body : Ok P w K mg base CX0 k "_law_w_body" ["spring", "names", "great", "deep"] sub) : Ok P w K mg base CX0 (k+1) "_law_w_body" ["spring", "names", "great", "deep"] (spBodyA N) := a.ok fun f fd F => by
  refine F.ok sc__law_w_body (fun vs H Q E h => ?_) (fun cdv A outer s H vs Q E hr h => ?_)
  · obtain ⟨n, _, a, l, ns, g, B, rfl, _⟩ := h; rfl
  · obtain ⟨n, hnN, a, l, ns, g, B, rfl, hs, hB, hl, hla, hnd, h4, g0, g1, q⟩ := h
    refine ⟨_, (pss_cons (ps_set (i := 4) sc__law_w_body.nd rfl (Or.inl rfl) (pe_callO O_law_draw (hr.mono (by first | decide | omega)) rfl (pa_cons (pv 0) (pa_cons pe_int pa_nil))))
      (pss_cons (ps_if (PW.pt (pw_or (pt_cmpR op_eq (pv 3) pe_int (nomark _)) (pw_or1 (pt_cmpR op_lt (pv 4) pe_int (nomark _))))) (pss_one (ps_ret (pe_callO O_law_w_test (hr.mono (by first | decide | omega)) rfl (pa_cons (pv 0) (pa_cons (pv 1) (pa_cons (pv 2) pa_nil)))))) pss_nil)
      (pss_cons (ps_if (pt_cmpR op_eq (pv 4) pe_int (nomark _)) (pss_one (ps_ret (pe_tup (pa_cons pe_str (pa_cons (pe_callO O_law_w_body hr rfl (pa_cons (pv 0) (pa_cons (pv 1) (pa_cons (pv 2) (pa_cons (pe_op op_sub (pv 3) pe_int) pa_nil))))) pa_nil))))) pss_nil)
      (pss_cons (ps_set (i := 5) sc__law_w_body.nd rfl (Or.inl rfl) (pe_callO O_law_pick (hr.mono (by first | decide | omega)) rfl (pa_cons (pv 0) (pa_cons (pe_ifExp (pt_cmpR op_lt (pv 3) pe_int (nomark _)) (pe_lst (pa_cons pe_int (pa_cons pe_int (pa_cons pe_int (pa_cons pe_int (pa_cons pe_int pa_nil)))))) (pe_lst (pa_cons pe_int (pa_cons pe_int (pa_cons pe_int (pa_cons pe_int pa_nil)))))) pa_nil))))
      (pss_cons (ps_setLc (i := 6) (own := [("k", 7)]) (g := gName 7) (tt := tYes) rfl sc__law_w_body.nd rfl rfl (sw_true rfl rfl rfl (by decide +kernel)) (pi_range1 rfl T.n_range (pa_cons (pv 5) pa_nil)) (blkOk_by (N := ["spring", "names", "great", "deep", "way", "many", "parts", "k"]) (sc := defScope s__law_w_body) (by decide +kernel)) (fun _ _ _ _ _ => (pg_name (i := 7) sc__law_w_body.nd rfl (Or.inl rfl))) (fun _ _ _ _ _ => pts_nil) (fun _ _ _ _ _ => (pe_callO O_law_w_body hr rfl (pa_cons (pv 0) (pa_cons (pv 1) (pa_cons (pv 2) (pa_cons (pe_op op_sub (pv 3) pe_int) pa_nil)))))))
      (pss_one (ps_ret (pe_tup (pa_cons (pe_ifExp (pt_cmpR op_eq (pv 4) pe_int (nomark _)) pe_str pe_str) (pa_cons (pv 6) pa_nil)))))))))), ?_⟩
    have hbud : 20 ≤ bud n := by cases n with | zero => exact Nat.le_refl _ | succ n => show 20 ≤ 3 * bud n + 20; omega
    refine ⟨_, rfl, a, _, _, rfl, hs, by omega, by decide, by decide, fun y H1 y0 y1 e1 s1 => ?_⟩
    refine ⟨_, rfl, rfl, _, rfl, ?_⟩
    have fre : ∀ {r : Addr}, H1 r = none → H r = none ∧ r ≠ a := fun hr => e1.freeS s1 hr
    have tst : ∀ q0 t d ts H2, Exo [a] H1 H2 → Spr H2 a (B + 1 + 16) → NewA H1 H2 q0 t d ts → TstIn ns g ts → Q (.ref q0) H2 := by
      intro q0 t d ts H2 e2 s2 nn hts
      obtain ⟨n1, n2, n3, n4⟩ := nn
      refine q _ (.t ts) [q0, t, d] [d] H2 (e1.trans e2) (s2.mono (by omega)) ⟨.t n4, n4.nd, fun x hx => ?_, fun z => ?_⟩ (AllW.tst.mpr hts)
      · simp only [List.mem_cons, List.not_mem_nil, or_false] at hx
        rcases hx with rfl | rfl | rfl
        · exact (fre n1).1
        · exact (fre n2).1
        · exact (fre n3).1
      · simp only [List.mem_cons, List.not_mem_nil, or_false] at z
        rcases z with rfl | rfl | rfl
        · exact (fre n1).2 rfl
        · exact (fre n2).2 rfl
        · exact (fre n3).2 rfl
    have hl1 := e1.at1 hla hl
    by_cases hn0 : n = 0
    · rw [decide_eq_true (by rw [hn0]; rfl)]
      refine iteT (iteT ⟨_, rfl, _, rfl, _, rfl, a, l, ns, g, B + 1, rfl, s1, by omega, hl1, hla, hnd, h4, g0, g1, tst⟩)
    · obtain ⟨m, rfl⟩ : ∃ m, n = m + 1 := ⟨n - 1, by omega⟩
      rw [decide_eq_false (fun z => by have := V.int.inj z; omega)]
      have hb1 : bud (m + 1) = 3 * bud m + 20 := rfl
      refine iteF ⟨_, rfl, _, _, rfl, rfl, _, rfl, ?_⟩
      by_cases hy2 : y < 2
      · rw [decide_eq_true hy2]
        refine iteT ⟨_, rfl, _, rfl, _, rfl, a, l, ns, g, B + 1, rfl, s1, by omega, hl1, hla, hnd, h4, g0, g1, tst⟩
      · rw [decide_eq_false hy2]
        refine iteF ⟨_, rfl, rfl, _, rfl, ?_⟩
        by_cases hy3 : y = 2
        · rw [decide_eq_true (by rw [hy3])]
          refine iteT ⟨_, rfl, _, rfl, _, rfl, _, rfl, _, _, rfl, rfl, ?_⟩
          exact hsub m hnN _ _ _ _ ⟨a, l, ns, g, B + 1, by show [V.ref a, V.ref l, V.int g, V.int (((m + 1 : Nat) : Int) - 1)] = _; rw [show (((m + 1 : Nat) : Int) - 1) = (m : Int) by omega], s1, by omega, hl1, hla, hnd, h4, g0, g1, fun v b S Ds H2 e2 s2 nw aw => ⟨by show 2 ≤ sizeLine; decide, fun p hp => by
            have nw := nw.from e1 s1.ne
            obtain ⟨p0, pa⟩ := (e1.trans e2).freeS s2 hp
            exact q _ (.neg b) (p :: S) Ds _ ((e1.trans e2).mut p0) ((s2.at (upd_ne pa.symm)).mono (by omega)) ⟨.neg upd_same (nw.own.ex (Ex.new hp)), List.nodup_cons.mpr ⟨fun z => nw.own.some p z hp, nw.nd⟩, fun x hx => by rcases List.mem_cons.mp hx with rfl | hx; exact p0; exact nw.fr x hx, fun z => by rcases List.mem_cons.mp z with z | z; exact pa z.symm; exact nw.na z⟩ aw⟩⟩
        · rw [decide_eq_false (fun z => hy3 (V.int.inj z))]
          refine iteF ⟨_, rfl, _, rfl, _, _, rfl, rfl, _, rfl, ?_⟩
          generalize decide ((((m + 1 : Nat) : Int)) < 3) = bb
          cases bb
          case' false =>
            refine iteF ⟨by show 4 ≤ sizeLine; decide, fun L hL => ⟨a, L, _, _, rfl, s1.ex (Ex.new hL), by omega, fun z => s1.ne (by rw [← z]; exact hL), SqQ.l upd_same, by decide, by decide, fun i y2 H2 hy e2 s2 => ?_⟩⟩
            obtain ⟨many, rfl, m0, m3⟩ : ∃ many : Int, y2 = .int many ∧ 0 ≤ many ∧ many ≤ 3 := by
              match i, hy with
              | 0, hy => cases hy; exact ⟨_, rfl, by decide, by decide⟩
              | 1, hy => cases hy; exact ⟨_, rfl, by decide, by decide⟩
              | 2, hy => cases hy; exact ⟨_, rfl, by decide, by decide⟩
              | 3, hy => cases hy; exact ⟨_, rfl, by decide, by decide⟩
              | n + 4, hy => simp at hy
          case' true =>
            refine iteT ⟨by show 5 ≤ sizeLine; decide, fun L hL => ⟨a, L, _, _, rfl, s1.ex (Ex.new hL), by omega, fun z => s1.ne (by rw [← z]; exact hL), SqQ.l upd_same, by decide, by decide, fun i y2 H2 hy e2 s2 => ?_⟩⟩
            obtain ⟨many, rfl, m0, m3⟩ : ∃ many : Int, y2 = .int many ∧ 0 ≤ many ∧ many ≤ 3 := by
              match i, hy with
              | 0, hy => cases hy; exact ⟨_, rfl, by decide, by decide⟩
              | 1, hy => cases hy; exact ⟨_, rfl, by decide, by decide⟩
              | 2, hy => cases hy; exact ⟨_, rfl, by decide, by decide⟩
              | 3, hy => cases hy; exact ⟨_, rfl, by decide, by decide⟩
              | 4, hy => cases hy; exact ⟨_, rfl, by decide, by decide⟩
              | n + 5, hy => simp at hy
          all_goals
            have e2' := ((Ex.new hL).exo [a]).trans e2
            have e02 := e1.trans e2'
            have hl2 := e2'.at1 hla hl1
            dsimp only [tSeq, tAsg, gName]
            refine tLc_of ?_
            refine ⟨_, rfl, many, rfl, by omega, by omega, ?_⟩
            refine lc_genD walk_range [a] (fun i H' => Spr H' a (B + 2 + i * bud m)) (fun D i acc H' => ∃ bs S Ds, bs.length = i ∧ OwnL H' bs acc S Ds ∧ S.Nodup ∧ D ∉ S ∧ a ∉ S ∧ (∀ x ∈ S, H2 x = none) ∧ ∀ b ∈ bs, AllW (TstIn ns g) m b) (by omega) (fun b hb => by rw [show b = a by simpa using hb]; exact s2.ne) (fun _ _ => trivial) (fun i H1 H2 hb h => h.at (hb a (by simp))) ?_ (by simpa using s2) ?_ ?_ ?_
            · rintro i acc H5 D l0 lx hD hN ⟨bs, S, Ds, h1, h2, h3, h4', h5, h6, h7⟩
              exact ⟨bs, S, Ds, h1, h2.imp fun x hx o ho => by rw [upd_ne (fun z : x = D => h4' (z ▸ hx))]; exact ho, h3, h4', h5, h6, h7⟩
            · intro D hD
              exact ⟨[], [], [], rfl, .nil, .nil, by simp, by simp, by simp, by simp⟩
            · rintro i x H5 H6 D acc R R' hi e5 m5 hD hDH ⟨bs, S, Ds, h1, h2, h3, h4', h5, h6, h7⟩ hacc ⟨rfl, rfl⟩ kk _
              have hi2 : i * bud m ≤ 2 * bud m := Nat.mul_le_mul_right _ (by omega)
              refine ⟨rfl, yesT ⟨_, rfl, _, rfl, _, rfl, _, rfl, _, _, rfl, rfl, hsub m hnN _ _ _ _ ⟨a, l, ns, g, B + 2 + i * bud m, by show [V.ref a, V.ref l, V.int g, V.int (((m + 1 : Nat) : Int) - 1)] = _; rw [show (((m + 1 : Nat) : Int) - 1) = (m : Int) by omega], m5, by omega, e5.at1 hla hl2, hla, hnd, h4, g0, g1, fun v b S1 D1 H7 e7 s7 nw aw => ?_⟩⟩⟩
              have nDa : D ≠ a := fun z => s2.ne (by rw [← z]; exact hD)
              refine kk v H7 e7 (s7.mono (by rw [Nat.succ_mul]; omega)) ⟨bs ++ [b], S ++ S1, Ds ++ D1, by rw [List.length_append, h1]; rfl, OwnL.snoc nw.own (h2.imp fun x hx o ho => e7 x o (fun z => h5 (by rw [← (show x = a by simpa using z)]; exact hx)) ho), List.nodup_append.mpr ⟨h3, nw.nd, fun x hx y hy z => ?_⟩, fun z => ?_, fun z => ?_, fun x hx => ?_, fun c hc => ?_⟩
              · have := nw.fr y hy
                rw [← z] at this
                exact h2.some x hx this
              · rcases List.mem_append.mp z with z | z
                · exact h4' z
                · have := nw.fr D z
                  rw [hDH] at this; cases this
              · rcases List.mem_append.mp z with z | z
                · exact h5 z
                · exact nw.na z
              · rcases List.mem_append.mp hx with hx | hx
                · exact h6 x hx
                · exact e5.free (fun z => nw.na (by rw [← (show x = a by simpa using z)]; exact hx)) (nw.fr x hx)
              · rcases List.mem_append.mp hc with hc | hc
                · exact h7 c hc
                · rw [show c = b by simpa using hc]; exact aw
            · rintro D acc H5 hD e5 m5 ⟨bs, S, Ds, h1, h2, h3, h4', h5, h6, h7⟩ hDH hacc
              have hi3 : many.toNat * bud m ≤ 3 * bud m := Nat.mul_le_mul_right _ (by omega)
              have nDa : D ≠ a := fun z => s2.ne (by rw [← z]; exact hD)
              have e05 := e02.trans e5
              have fr0 : ∀ x ∈ D :: S, H x = none ∧ x ≠ a := fun x hx => by
                have h2x : H2 x = none ∧ x ≠ a := by
                  rcases List.mem_cons.mp hx with rfl | hx
                  · exact ⟨hD, nDa⟩
                  · exact ⟨h6 x hx, fun z => h5 (by rw [← z]; exact hx)⟩
                exact ⟨e02.free (fun z => h2x.2 (by simpa using z)) h2x.1, h2x.2⟩
              have fin : ∀ (ww : Bool) p, H5 p = none → Q (.ref p) (upd H5 p (.tup [.str (kw ww), .ref D])) := by
                intro ww p hp
                obtain ⟨p0, pa⟩ := e05.freeS m5 hp
                have pD : p ≠ D := fun z => by rw [z, hDH] at hp; cases hp
                refine q _ (.grp ww bs) (p :: D :: S) Ds _ (e05.mut p0) ((m5.at (upd_ne pa.symm)).mono (by omega)) ⟨.grp upd_same (Ex.new hp _ _ hDH) (h2.ex (Ex.new hp)), List.nodup_cons.mpr ⟨fun z => ?_, List.nodup_cons.mpr ⟨h4', h3⟩⟩, fun x hx => ?_, fun z => ?_⟩ ⟨by omega, h7⟩
                · rcases List.mem_cons.mp z with z | z
                  · exact pD z
                  · exact h2.some p z hp
                · rcases List.mem_cons.mp hx with rfl | hx
                  · exact p0
                  · exact (fr0 x hx).1
                · rcases List.mem_cons.mp z with z | z
                  · exact pa z.symm
                  · exact (fr0 a z).2 rfl
              refine ⟨_, rfl, rfl, _, rfl, ?_⟩
              by_cases hy4 : y = 3
              · rw [decide_eq_true (by rw [hy4])]
                exact iteT ⟨_, rfl, by show 2 ≤ sizeLine; decide, fun p hp => fin true p hp⟩
              · rw [decide_eq_false (fun z => hy4 (V.int.inj z))]
                exact iteF ⟨_, rfl, by show 2 ≤ sizeLine; decide, fun p hp => fin false p hp⟩
theorem ok__law_w_body (T : Txt K mg) (a : At K mg "_law_w_body" s__law_w_body ["spring", "names", "great", "deep"]) (O_law_draw : Ok P w K mg base CX0 1 "_law_draw" ["spring", "many"] spDraw) (O_law_pick : Ok P w K mg base CX0 2 "_law_pick" ["spring", "some"] (spPick K)) (O_law_w_test : Ok P w K mg base CX0 4 "_law_w_test" ["spring", "names", "great"] spTestW) : ∀ N, Ok P w K mg base CX0 (N+5) "_law_w_body" ["spring", "names", "great", "deep"] (spBodyA N)
  | 0 => ok__law_w_body_step T a (k := 4) (by decide) O_law_draw O_law_pick O_law_w_test (sub := fun _ _ _ _ => False) (fun m h => by omega) (a.ok fun f fd F => F.ok sc__law_w_body (fun vs H Q E h => h.elim) (fun cdv A outer s H vs Q E hr h => h.elim))
  | N + 1 => ok__law_w_body_step T a (by omega) O_law_draw O_law_pick O_law_w_test (sub := spBodyA N) (fun m h vs H Q E x => ⟨m, by omega, x⟩) (ok__law_w_body T a O_law_draw O_law_pick O_law_w_test N)
end
end K8

set_option Elab.async false
set_option linter.all false
set_option maxRecDepth 100000
set_option maxHeartbeats 4000000
namespace K8
open PySem PySem.Spec PyProof.Rows L2 M8
def SoT (cn : Coef) (ts : Tst) : Prop := Few (coef ts) ∧ Lim (coef ts) ∧ mOk ts ∧ ∀ p ∈ coef ts, p.2 ≠ 0 → p.1 ∈ keys cn
def spIsSoB (n : Nat) : Sp := fun vs H Q _ => ∃ v b S Ds nd cn, vs = [v, .ref nd] ∧ Own H b v S Ds ∧ H nd = some (.dK (cK cn)) ∧ nd ∉ S ∧ AllT (SoT cn) n b ∧ (keys cn).Nodup ∧ ∀ H', Ex H H' → Q (.bl (soB cn b)) H'
theorem ownL_len {H : Hp} : ∀ {bs : List Bd} {vs : List V} {S Ds : List Addr}, OwnL H bs vs S Ds → bs.length = vs.length
  | _, _, _, _, .nil => rfl
  | _, _, _, _, .cons _ t => by rw [List.length_cons, List.length_cons, ownL_len t]
theorem ownL_get {H : Hp} : ∀ {bs : List Bd} {vs : List V} {S Ds : List Addr}, OwnL H bs vs S Ds → ∀ {i : Nat} {x : V}, vs[i]? = some x → ∃ b S1 D1, bs[i]? = some b ∧ Own H b x S1 D1 ∧ (∀ a ∈ S1, a ∈ S) ∧ ∀ a ∈ D1, a ∈ Ds
  | _, _, _, _, .nil, i, x, e => by simp at e
  | _, _, _, _, .cons h t, 0, x, e => by simp at e; subst e; exact ⟨_, _, _, rfl, h, fun a ha => List.mem_append_left _ ha, fun a ha => List.mem_append_left _ ha⟩
  | _, _, _, _, .cons h t, i + 1, x, e => by
    obtain ⟨b, S1, D1, h1, h2, h3, h4⟩  := ownL_get t (i := i) (x := x) (by simpa using e)
    exact ⟨b, S1, D1, by simpa using h1, h2, fun a ha => List.mem_append_right _ (h3 a ha), fun a ha => List.mem_append_right _ (h4 a ha)⟩
section
variable {P : Program} {w : World} {K : PySem.W.Frag} {mg : Str → Option Value} {base : Heap}
theorem ok__law_w_is_soB_step (T : Txt K mg) (a : At K mg "_law_w_is_so" s__law_w_is_so ["body", "numbers"]) {k n : Nat} (hk : 1 ≤ k) (O_law_w_worth : Ok P w K mg base CX0 1 "_law_w_worth" ["term", "numbers"] spWorth) {sub : Sp} (hsub : ∀ m, n = m + 1 → ∀ vs H Q E, spIsSoB m vs H Q E → sub vs H Q E) (O_law_w_is_so : Ok P w K mg base CX0 k "_law_w_is_so" ["body", "numbers"] sub) : Ok P w K mg base CX0 (k+1) "_law_w_is_so" ["body", "numbers"] (spIsSoB n) := a.ok fun f fd F => by
  refine F.ok sc__law_w_is_so (fun vs H Q E h => ?_) (fun cdv A outer s H vs Q E hr h => ?_)
  · obtain ⟨v, b, S, Ds, nd, cn, rfl, _⟩ := h; rfl
  · obtain ⟨v, b, S, Ds, nd, cn, rfl, ho, hn, hnS, al, ndn, qq⟩ := h
    refine ⟨_, (pss_cons (ps_if (pt_cmpR op_eq (pe_ix (ix_qK (K := K) rfl) (pv 0) pe_int (fun _ _ => rfl)) pe_str (nomark _)) (pss_one (ps_ret (pe_not (pe_callO O_law_w_is_so hr rfl (pa_cons (pe_ix (ix_qK (K := K) rfl) (pv 0) pe_int (fun _ _ => rfl)) (pa_cons (pv 1) pa_nil)))))) pss_nil)
      (pss_cons (ps_if (pt_cmpR op_in_seq (pe_ix (ix_qK (K := K) rfl) (pv 0) pe_int (fun _ _ => rfl)) (pe_tup (pa_cons pe_str (pa_cons pe_str pa_nil))) rfl) (pss_cons (ps_setLc (i := 2) (own := [("part", 4)]) (g := gName 4) (tt := tYes) rfl sc__law_w_is_so.nd rfl rfl (sw_true rfl rfl rfl (by decide +kernel)) (pi_lt (pe_ix (ix_qK (K := K) rfl) (pv 0) pe_int (fun _ _ => rfl))) (blkOk_by (N := ["body", "numbers", "some", "comes", "part"]) (sc := defScope s__law_w_is_so) (by decide +kernel)) (fun _ _ _ _ _ => (pg_name (i := 4) sc__law_w_is_so.nd rfl (Or.inl rfl))) (fun _ _ _ _ _ => pts_nil) (fun _ _ _ _ _ => (pe_callO O_law_w_is_so hr rfl (pa_cons (pv 4) (pa_cons (pv 1) pa_nil)))))
      (pss_one (ps_ret (pe_ifExp (pt_cmpR op_eq (pe_ix (ix_qK (K := K) rfl) (pv 0) pe_int (fun _ _ => rfl)) pe_str (nomark _)) (pe_callB (cr_all rfl) rfl T.n_all rfl (pa_cons (pv 2) pa_nil)) (pe_callB (cr_any rfl) rfl T.n_any rfl (pa_cons (pv 2) pa_nil)))))) pss_nil)
      (pss_cons (ps_set (i := 3) sc__law_w_is_so.nd rfl (Or.inl rfl) (pe_callO O_law_w_worth (hr.mono (by first | decide | omega)) rfl (pa_cons (pe_ix (ix_qK (K := K) rfl) (pv 0) (pe_un un_neg pe_int) (fun _ _ => rfl)) (pa_cons (pv 1) pa_nil))))
      (pss_cons (ps_if (pt_cmpR op_eq (pe_ix (ix_qK (K := K) rfl) (pv 0) pe_int (fun _ _ => rfl)) pe_str (nomark _)) (pss_one (ps_ret (pe_cmpR op_eq (pe_op op_mod (pe_callTy call_int1 rfl T.n_int rfl (pa_cons (pv 3) pa_nil)) (pe_ix (ix_qK (K := K) rfl) (pv 0) pe_int (fun _ _ => rfl))) pe_int (nomark _)))) pss_nil)
      (pss_one (ps_ret (pe_ifExp (pt_cmpR op_eq (pe_ix (ix_qK (K := K) rfl) (pv 0) pe_int (fun _ _ => rfl)) pe_str (nomark _)) (pe_cmpR op_ge (pv 3) pe_int (nomark _)) (pe_cmpR op_eq (pv 3) pe_int (nomark _))))))))), ?_⟩
    match n, b, ho, al with
    | n, .t ts, .t (q := q) (t := t) (d := d) ht, al =>
      obtain ⟨few, lim, hm, hin⟩ := AllT.tst.mp al
      have ndd : nd ≠ d := fun z => hnS (by rw [z]; simp)
      cases ts with
      | row c k =>
        obtain ⟨hq, hp, hd⟩ := ht
        refine ⟨_, rfl, q, _, 0, _, rfl, rfl, SqQ.t hq, at0, rfl, _, rfl, iteF ?_⟩
        refine ⟨_, rfl, q, _, 0, _, rfl, rfl, SqQ.t hq, at0, by show 2 ≤ sizeLine; decide, fun tp htp => ?_⟩
        have e1 : Ex H (upd H tp (.tup [.str "all", .str "any"])) := Ex.new htp
        refine ⟨tp, _, rfl, .inr (SqT.of upd_same), rfl, rfl, _, rfl, iteF ?_⟩
        refine ⟨_, rfl, _, rfl, q, _, _, _, rfl, rfl, SqQ.t (e1 _ _ hq), (by rfl), _, rfl, t, d, nd, c, k, cn, rfl, ⟨e1 _ _ hp, e1 _ _ hd⟩, e1 _ _ hn, ndd, few, lim, ndn, hin, fun H2 e2 => ?_⟩
        have e3 := e1.trans e2
        refine ⟨_, rfl, q, _, 0, _, rfl, rfl, SqQ.t (e3 _ _ hq), at0, rfl, _, rfl, iteF ?_⟩
        refine ⟨_, rfl, q, _, 0, _, rfl, rfl, SqQ.t (e3 _ _ hq), at0, rfl, _, rfl, iteT ?_⟩
        exact ⟨_, rfl, _, _, rfl, rfl, qq _ e3⟩
      | same c k =>
        obtain ⟨hq, hp, hd⟩ := ht
        refine ⟨_, rfl, q, _, 0, _, rfl, rfl, SqQ.t hq, at0, rfl, _, rfl, iteF ?_⟩
        refine ⟨_, rfl, q, _, 0, _, rfl, rfl, SqQ.t hq, at0, by show 2 ≤ sizeLine; decide, fun tp htp => ?_⟩
        have e1 : Ex H (upd H tp (.tup [.str "all", .str "any"])) := Ex.new htp
        refine ⟨tp, _, rfl, .inr (SqT.of upd_same), rfl, rfl, _, rfl, iteF ?_⟩
        refine ⟨_, rfl, _, rfl, q, _, _, _, rfl, rfl, SqQ.t (e1 _ _ hq), (by rfl), _, rfl, t, d, nd, c, k, cn, rfl, ⟨e1 _ _ hp, e1 _ _ hd⟩, e1 _ _ hn, ndd, few, lim, ndn, hin, fun H2 e2 => ?_⟩
        have e3 := e1.trans e2
        refine ⟨_, rfl, q, _, 0, _, rfl, rfl, SqQ.t (e3 _ _ hq), at0, rfl, _, rfl, iteF ?_⟩
        refine ⟨_, rfl, q, _, 0, _, rfl, rfl, SqQ.t (e3 _ _ hq), at0, rfl, _, rfl, iteF ?_⟩
        have := qq _ e3
        refine ⟨_, rfl, rfl, ?_⟩
        rw [show decide (V.int (worth c k cn) = V.int 0) = so cn (.same c k) from decide_eq_decide.mpr ⟨fun z => V.int.inj z, fun z => by rw [z]⟩]
        exact this
      | div m c k =>
        obtain ⟨hq, hp, hd⟩ := ht
        refine ⟨_, rfl, q, _, 0, _, rfl, rfl, SqQ.t hq, at0, rfl, _, rfl, iteF ?_⟩
        refine ⟨_, rfl, q, _, 0, _, rfl, rfl, SqQ.t hq, at0, by show 2 ≤ sizeLine; decide, fun tp htp => ?_⟩
        have e1 : Ex H (upd H tp (.tup [.str "all", .str "any"])) := Ex.new htp
        refine ⟨tp, _, rfl, .inr (SqT.of upd_same), rfl, rfl, _, rfl, iteF ?_⟩
        refine ⟨_, rfl, _, rfl, q, _, _, _, rfl, rfl, SqQ.t (e1 _ _ hq), (by rfl), _, rfl, t, d, nd, c, k, cn, rfl, ⟨e1 _ _ hp, e1 _ _ hd⟩, e1 _ _ hn, ndd, few, lim, ndn, hin, fun H2 e2 => ?_⟩
        have e3 := e1.trans e2
        refine ⟨_, rfl, q, _, 0, _, rfl, rfl, SqQ.t (e3 _ _ hq), at0, rfl, _, rfl, iteT ?_⟩
        have := qq _ e3
        refine ⟨_, rfl, .inl ⟨_, rfl, _, rfl, q, _, 1, _, rfl, rfl, SqQ.t (e3 _ _ hq), at1, _, _, rfl, rfl, hm.1, rfl, ?_⟩⟩
        rw [show decide (V.int (worth c k cn % m) = V.int 0) = so cn (.div m c k) from decide_eq_decide.mpr ⟨fun z => V.int.inj z, fun z => by rw [z]⟩]
        exact this
    | n + 1, .neg b, .neg (q := q) (v := v1) (S := S1) hq h1, al =>
      refine ⟨_, rfl, q, _, 0, _, rfl, rfl, SqQ.t hq, at0, rfl, _, rfl, iteT ?_⟩
      refine ⟨_, rfl, q, _, 1, _, rfl, rfl, SqQ.t hq, at1, _, rfl, hsub n rfl _ _ _ _ ⟨v1, b, S1, _, nd, cn, rfl, h1, hn, fun z => hnS (List.mem_cons_of_mem _ z), al, ndn, fun H1 e1 => ?_⟩⟩
      exact ⟨_, rfl, qq _ e1⟩
    | n + 1, .grp kk bs, .grp (q := q) (l := l) (vs := ws) (S := S1) hq hl h1, al =>
      have hlen := ownL_len h1
      refine ⟨_, rfl, q, _, 0, _, rfl, rfl, SqQ.t hq, at0, rfl, _, rfl, ?_⟩
      rw [show decide (V.str (kw kk) = V.str "not") = false by cases kk <;> decide +kernel]
      refine iteF ⟨_, rfl, q, _, 0, _, rfl, rfl, SqQ.t hq, at0, by show 2 ≤ sizeLine; decide, fun tp htp => ?_⟩
      have e1 : Ex H (upd H tp (.tup [.str "all", .str "any"])) := Ex.new htp
      refine ⟨tp, _, rfl, .inr (SqT.of upd_same), rfl, rfl, _, rfl, ?_⟩
      rw [show inV (V.str (kw kk)) [.str "all", .str "any"] = true by cases kk <;> decide +kernel]
      refine iteT ?_
      dsimp only [tSeq, tNext, tRet, tCB, tCons, tNil, gName, tAsg]
      refine tLc_of ?_
      refine .inl ⟨_, rfl, q, _, 1, _, rfl, rfl, SqQ.t (e1 _ _ hq), at1, l, rfl, ⟨ws, SqL.of (e1 _ _ hl)⟩, ?_⟩
      refine lc_val walk_list (fun i => ((bs.take i).map (soB cn)).map V.bl) (by have := al.1; omega) rfl (fun H' e => SqL.of (e _ _ (e1 _ _ hl))) ?_ ?_
      · rintro i y H5 H6 R R' hi' e5 ⟨rfl, hx'⟩ kk' _
        obtain ⟨bb, S2, D2, hbb, ob, sb, _⟩ := ownL_get h1 hx'
        refine ⟨rfl, yesT ⟨_, rfl, _, rfl, hsub n rfl _ _ _ _ ⟨y, bb, S2, D2, nd, cn, rfl, ob.ex (e1.trans e5), (e1.trans e5) _ _ hn, fun z => hnS (by simp [sb nd z]), al.2 bb (List.mem_of_getElem? hbb), ndn, fun H7 e7 => kk' _ _ e7 ?_⟩⟩⟩
        rw [List.take_add_one, hbb, List.map_append, List.map_append]; rfl
      · intro D H5 hD e5 hDH
        rw [List.take_of_length_le (by omega)] at hDH
        have e15 := e1.trans e5
        refine ⟨_, rfl, q, _, 0, _, rfl, rfl, SqQ.t (e15 _ _ hq), at0, rfl, _, rfl, ?_⟩
        cases kk with
        | true =>
          refine iteT ⟨_, rfl, D, bs.map (soB cn), rfl, SqL.of hDH, ?_⟩
          have : (bs.map (soB cn)).all id = soB cn (.grp true bs) := by
            show _ = soAll cn bs
            rw [soAll_map, List.all_map]; rfl
          rw [this]; exact qq _ e15
        | false =>
          refine iteF ⟨_, rfl, D, bs.map (soB cn), rfl, SqL.of hDH, ?_⟩
          have : (bs.map (soB cn)).any id = soB cn (.grp false bs) := by
            show _ = soAny cn bs
            rw [soAny_map, List.any_map]; rfl
          rw [this]; exact qq _ e15
theorem ok__law_w_is_soB (T : Txt K mg) (a : At K mg "_law_w_is_so" s__law_w_is_so ["body", "numbers"]) (O_law_w_worth : Ok P w K mg base CX0 1 "_law_w_worth" ["term", "numbers"] spWorth) : ∀ n, Ok P w K mg base CX0 (n+2) "_law_w_is_so" ["body", "numbers"] (spIsSoB n)
  | 0 => ok__law_w_is_soB_step T a (k := 1) (by decide) O_law_w_worth (sub := fun _ _ _ _ => False) (fun m h => by omega) (a.ok fun f fd F => F.ok sc__law_w_is_so (fun vs H Q E h => h.elim) (fun cdv A outer s H vs Q E hr h => h.elim))
  | n + 1 => ok__law_w_is_soB_step T a (by omega) O_law_w_worth (sub := spIsSoB n) (fun m h vs H Q E x => (show n = m from by omega) ▸ x) (ok__law_w_is_soB T a O_law_w_worth n)
end
end K8

set_option Elab.async false
set_option linter.all false
set_option maxRecDepth 100000
set_option maxHeartbeats 4000000
namespace K8
open PySem PySem.Spec PyProof.Rows L2 M8
def spLessL : Sp := fun vs H Q _ => ∃ p d c k m, vs = [.ref p, .int m] ∧ PairT H p d c k ∧ Few c ∧ ∀ t d' H', Ex H H' → NewP H H' t d' c (k - m) → Q (.ref t) H'
theorem NewB.ex {H H' : Hp} {v : V} {b : Bd} (n : NewB H H' v b) : Ex H H' := by
  obtain ⟨_, _, _, _, _, e⟩ := n
  exact e
theorem tag3 (ts : Tst) : tagS ts = "row" ∨ tagS ts = "same" ∨ tagS ts = "by" := by cases ts <;> simp [tagS]
theorem rowB {H H3 H4 : Hp} {t d q : Addr} {c : Coef} {k : Int} (e3 : Ex H H3) (e4 : Ex H3 H4) (n : NewP H3 H4 t d c k) (hq : H4 q = none) : NewB H (upd H4 q (.tup [.str "row", .ref t])) (.ref q) (.t (.row c k)) := by
  obtain ⟨n1, n2, n3, n4⟩ := n
  have e5 : Ex H4 (upd H4 q (.tup [.str "row", .ref t])) := Ex.new hq
  have h : TAt (upd H4 q (.tup [.str "row", .ref t])) q t d (.row c k) := ⟨upd_same, e5 _ _ n3, e5 _ _ n4⟩
  have e34 := e3.trans e4
  exact ⟨_, _, .t h, h.nd, fun a ha => by simp only [List.mem_cons, List.not_mem_nil, or_false] at ha; rcases ha with rfl | rfl | rfl; exact e34.free hq; exact e3.free n1; exact e3.free n2, e34.trans e5⟩
theorem divB {H H3 H4 : Hp} {t d q : Addr} {c : Coef} {k m : Int} (e3 : Ex H H3) (e4 : Ex H3 H4) (n : NewP H3 H4 t d c k) (hq : H4 q = none) : NewB H (upd H4 q (.tup [.str "by", .int m, .ref t])) (.ref q) (.t (.div m c k)) := by
  obtain ⟨n1, n2, n3, n4⟩ := n
  have e5 : Ex H4 (upd H4 q (.tup [.str "by", .int m, .ref t])) := Ex.new hq
  have h : TAt (upd H4 q (.tup [.str "by", .int m, .ref t])) q t d (.div m c k) := ⟨upd_same, e5 _ _ n3, e5 _ _ n4⟩
  have e34 := e3.trans e4
  exact ⟨_, _, .t h, h.nd, fun a ha => by simp only [List.mem_cons, List.not_mem_nil, or_false] at ha; rcases ha with rfl | rfl | rfl; exact e34.free hq; exact e3.free n1; exact e3.free n2, e34.trans e5⟩
theorem pair2B {H H1 H2 : Hp} {v1 v2 : V} {b1 b2 : Bd} (n1 : NewB H H1 v1 b1) (n2 : NewB H1 H2 v2 b2) : Parts H H2 [b2, b1] [v2, v1] := by
  obtain ⟨S1, D1, o1, d1, f1, e1⟩ := n1
  obtain ⟨S2, D2, o2, d2, f2, e2⟩ := n2
  refine ⟨S2 ++ (S1 ++ []), D2 ++ (D1 ++ []), .cons o2 (.cons (o1.ex e2) .nil), ?_, fun a ha => ?_, e1.trans e2⟩
  · rw [List.append_nil]
    exact List.nodup_append.mpr ⟨d2, d1, fun x hx y hy z => by have := f2 x hx; rw [z] at this; exact o1.some y hy this⟩
  · rw [List.append_nil] at ha
    rcases List.mem_append.mp ha with h | h
    · exact e1.free (f2 a h)
    · exact f1 a h
section
variable {P : Program} {w : World} {K : PySem.W.Frag} {mg : Str → Option Value} {base : Heap}
abbrev s__law_w_less : Stmt := top 56
theorem sc__law_w_less : FnScope ["term", "number"] ["term", "number"] (defScope s__law_w_less) := ⟨rfl, rfl, rfl, by decide +kernel, rfl, by decide +kernel, by decide +kernel⟩
theorem ok__law_w_less (T : Txt K mg) (a : At K mg "_law_w_less" s__law_w_less ["term", "number"]) : Ok P w K mg base CX0 1 "_law_w_less" ["term", "number"] spLessL := a.ok fun f fd F => by
  refine F.ok sc__law_w_less (fun vs H Q E h => ?_) (fun cdv A outer s H vs Q E hr h => ?_)
  · obtain ⟨p, d, c, k, m, rfl, _⟩ := h; rfl
  · obtain ⟨p, d, c, k, m, rfl, ⟨hp, hd⟩, few, q⟩ := h
    refine ⟨_, (pss_one (ps_ret (pe_tup (pa_cons (pe_callTy (call_dictC (K := K) rfl rfl) rfl T.n_dict rfl (pa_cons (LiI.pe_listItems rfl (pe_ix (ix_qK (K := K) rfl) (pv 0) pe_int (fun _ _ => rfl)) rfl T.n_list rfl) pa_nil)) (pa_cons (pe_op op_sub (pe_ix (ix_qK (K := K) rfl) (pv 0) pe_int (fun _ _ => rfl)) (pv 1)) pa_nil))))), ?_⟩
    refine ⟨_, rfl, p, _, 0, _, rfl, rfl, SqQ.t hp, at0, d, cK c, rfl, hd, fun H1 L ts e1 hL _ _ hL1 hts => ⟨L, ts, cK c, rfl, hL1, hts, cK_nodup few.nd, fun D hD => ?_⟩⟩
    have e1 : Ex H H1 := e1
    have e2 : Ex H (upd H1 D (.dK (cK c))) := e1.mut (e1.free hD)
    refine ⟨_, rfl, p, _, 1, _, rfl, rfl, SqQ.t (e2 _ _ hp), at1, _, rfl, _, _, rfl, rfl, by show 2 ≤ sizeLine; decide, fun t ht => ?_⟩
    have ht0 := e2.free ht
    have tD : D ≠ t := fun z => by rw [← z, upd_same] at ht; cases ht
    exact q t D _ (e2.mut ht0) ⟨ht0, e1.free hD, upd_same, by rw [upd_ne tD, upd_same]⟩
def spPlainL (n : Nat) : Sp := fun vs H Q _ => ∃ v b S Ds den, vs = [v, .bl den] ∧ Own H b v S Ds ∧ AllT WnT n b ∧ ∀ u H', NewB H H' u (plainB (!den) b) → Q u H'
abbrev s__law_w_plain : Stmt := top 58
theorem sc__law_w_plain : FnScope ["body", "is_denied", "word", "told", "below", "part", "rest"] ["body", "is_denied"] (defScope s__law_w_plain) := ⟨rfl, rfl, rfl, by decide +kernel, rfl, by decide +kernel, by decide +kernel⟩
theorem ok__law_w_plain_step (T : Txt K mg) (a : At K mg "_law_w_plain" s__law_w_plain ["body", "is_denied"]) {k n : Nat} (hk : 2 ≤ k) (O_law_w_body_told : Ok P w K mg base CX0 2 "_law_w_body_told" ["body"] spBodyTold) (O_law_w_less : Ok P w K mg base CX0 1 "_law_w_less" ["term", "number"] spLessL) (O_law_w_turned : Ok P w K mg base CX0 1 "_law_w_turned" ["term"] spTurnL) {sub : Sp} (hsub : ∀ m, n = m + 1 → ∀ vs H Q E, spPlainL m vs H Q E → sub vs H Q E) (O_law_w_plain : Ok P w K mg base CX0 k "_law_w_plain" ["body", "is_denied"] sub) : Ok P w K mg base CX0 (k+1) "_law_w_plain" ["body", "is_denied"] (spPlainL n) := a.ok fun f fd F => by
  refine F.ok sc__law_w_plain (fun vs H Q E h => ?_) (fun cdv A outer s H vs Q E hr h => ?_)
  · obtain ⟨v, b, S, Ds, den, rfl, _⟩ := h; rfl
  · obtain ⟨v, b, S, Ds, den, rfl, ho, al, qq⟩ := h
    refine ⟨_, (pss_cons (ps_if (pt_cmpR op_eq (pe_ix (ix_qK (K := K) rfl) (pv 0) pe_int (fun _ _ => rfl)) pe_str (nomark _)) (pss_one (ps_ret (pe_callO O_law_w_plain hr rfl (pa_cons (pe_ix (ix_qK (K := K) rfl) (pv 0) pe_int (fun _ _ => rfl)) (pa_cons (pe_not (pv 1)) pa_nil))))) pss_nil)
      (pss_cons (ps_if (pt_cmpR op_in_seq (pe_ix (ix_qK (K := K) rfl) (pv 0) pe_int (fun _ _ => rfl)) (pe_tup (pa_cons pe_str (pa_cons pe_str pa_nil))) rfl) (pss_cons (ps_set (i := 2) sc__law_w_plain.nd rfl (Or.inl rfl) (pe_ifExp (pt_not (pt_val (pv 1))) (pe_ix (ix_qK (K := K) rfl) (pv 0) pe_int (fun _ _ => rfl)) (pe_ifExp (pt_cmpR op_eq (pe_ix (ix_qK (K := K) rfl) (pv 0) pe_int (fun _ _ => rfl)) pe_str (nomark _)) pe_str pe_str)))
      (pss_one (ps_ret (pe_tup (pa_cons (pv 2) (pa_cons (pe_lc (own := [("part", 5)]) (g := gName 5) (tt := tYes) rfl sc__law_w_plain.nd (pi_lt (pe_ix (ix_qK (K := K) rfl) (pv 0) pe_int (fun _ _ => rfl))) (blkOk_by (N := ["body", "is_denied", "word", "told", "below", "part", "rest"]) (sc := defScope s__law_w_plain) (by decide +kernel)) (fun _ _ _ _ _ => (pg_name (i := 5) sc__law_w_plain.nd rfl (Or.inl rfl))) (fun _ _ _ _ _ => pts_nil) (fun _ _ _ _ _ => (pe_callO O_law_w_plain hr rfl (pa_cons (pv 5) (pa_cons (pv 1) pa_nil))))) pa_nil)))))) pss_nil)
      (pss_cons (ps_set (i := 3) sc__law_w_plain.nd rfl (Or.inr rfl) (pe_callO O_law_w_body_told (hr.mono (by first | decide | omega)) rfl (pa_cons (pv 0) pa_nil)))
      (pss_cons (ps_if (pt_not (pt_val (pv 1))) (pss_one (ps_ret (pv 3))) pss_nil)
      (pss_cons (ps_if (pt_cmpR op_eq (pe_ix (ix_qK (K := K) rfl) (pv 3) pe_int (fun _ _ => rfl)) pe_str (nomark _)) (pss_one (ps_ret (pe_tup (pa_cons pe_str (pa_cons (pe_lc (own := [("rest", 6)]) (g := gName 6) (tt := tYes) rfl sc__law_w_plain.nd (pi_range2 rfl T.n_range (pa_cons pe_int (pa_cons (pe_ix (ix_qK (K := K) rfl) (pv 3) pe_int (fun _ _ => rfl)) pa_nil))) (blkOk_by (N := ["body", "is_denied", "word", "told", "below", "part", "rest"]) (sc := defScope s__law_w_plain) (by decide +kernel)) (fun _ _ _ _ _ => (pg_name (i := 6) sc__law_w_plain.nd rfl (Or.inl rfl))) (fun _ _ _ _ _ => pts_nil) (fun _ _ _ _ _ => (pe_tup (pa_cons pe_str (pa_cons (pe_ix (ix_qK (K := K) rfl) (pv 3) pe_int (fun _ _ => rfl)) (pa_cons (pe_callO O_law_w_less (hr.mono (by first | decide | omega)) rfl (pa_cons (pe_ix (ix_qK (K := K) rfl) (pv 3) pe_int (fun _ _ => rfl)) (pa_cons (pv 6) pa_nil))) pa_nil)))))) pa_nil))))) pss_nil)
      (pss_cons (ps_set (i := 4) sc__law_w_plain.nd rfl (Or.inl rfl) (pe_tup (pa_cons pe_str (pa_cons (pe_callO O_law_w_less (hr.mono (by first | decide | omega)) rfl (pa_cons (pe_callO O_law_w_turned (hr.mono (by first | decide | omega)) rfl (pa_cons (pe_ix (ix_qK (K := K) rfl) (pv 3) pe_int (fun _ _ => rfl)) pa_nil)) (pa_cons pe_int pa_nil))) pa_nil))))
      (pss_one (ps_ret (pe_ifExp (pt_cmpR op_eq (pe_ix (ix_qK (K := K) rfl) (pv 3) pe_int (fun _ _ => rfl)) pe_str (nomark _)) (pv 4) (pe_tup (pa_cons pe_str (pa_cons (pe_lst (pa_cons (pe_tup (pa_cons pe_str (pa_cons (pe_callO O_law_w_less (hr.mono (by first | decide | omega)) rfl (pa_cons (pe_ix (ix_qK (K := K) rfl) (pv 3) pe_int (fun _ _ => rfl)) (pa_cons pe_int pa_nil))) pa_nil))) (pa_cons (pv 4) pa_nil))) pa_nil)))))))))))), ?_⟩
    have ins : ∀ {H1 : Hp} {v1 : V}, Ex H H1 → True := fun _ => trivial
    match n, b, ho, al with
    | n, .t ts, .t (q := q) (t := t) (d := d) ht, al =>
      obtain ⟨few, hm⟩ := AllT.tst.mp al
      obtain ⟨xs, hq, hx0, hx1, hp, hd⟩ := ht.view
      have hnot : decide (V.str (tagS ts) = V.str "not") = false := by rcases tag3 ts with h | h | h <;> rw [h] <;> decide +kernel
      have hin : inV (V.str (tagS ts)) [.str "all", .str "any"] = false := by cases ts <;> (dsimp only [tagS]; decide +kernel)
      refine ⟨_, rfl, q, _, 0, _, rfl, rfl, SqQ.t hq, hx0, rfl, _, rfl, ?_⟩
      rw [hnot]
      refine iteF ⟨_, rfl, q, _, 0, _, rfl, rfl, SqQ.t hq, hx0, by show 2 ≤ sizeLine; decide, fun tp htp => ?_⟩
      have e1 : Ex H (upd H tp (.tup [.str "all", .str "any"])) := Ex.new htp
      refine ⟨tp, _, rfl, .inr (SqT.of upd_same), rfl, rfl, _, rfl, ?_⟩
      rw [hin]
      refine iteF ⟨_, rfl, q, t, d, ts, rfl, ht.ex e1, few, fun q2 t2 d2 H2 e2 n2 => ⟨_, rfl, ?_⟩⟩
      obtain ⟨m1, m2, m3, m4⟩ := n2
      have e12 := e1.trans e2
      cases den with
      | false =>
        refine ⟨_, rfl, iteT ⟨_, rfl, qq _ _ ?_⟩⟩
        rw [plainB]
        exact ⟨_, _, .t m4, m4.nd, fun a ha => by simp only [List.mem_cons, List.not_mem_nil, or_false] at ha; rcases ha with rfl | rfl | rfl; exact e1.free m1; exact e1.free m2; exact e1.free m3, e12⟩
      | true =>
        have qq : ∀ u H', NewB H2 H' u (denT ts) → Q u H' := fun u H' nb => qq u H' (by rw [plainB]; exact nb.from e12)
        refine ⟨_, rfl, iteF ?_⟩
        cases ts with
        | row c k =>
          obtain ⟨g1, g2, g3⟩ := m4
          refine ⟨_, rfl, q2, _, 0, _, rfl, rfl, SqQ.t g1, at0, rfl, _, rfl, iteF ?_⟩
          refine ⟨_, rfl, q2, _, 1, _, rfl, rfl, SqQ.t g1, at1, t2, d2, _, _, rfl, ⟨g2, g3⟩, few.canon, fun t3 d3 H3 e3 n3 => ⟨t3, d3, _, _, 1, rfl, n3.2.2, few.canon.mapc _, fun t4 d4 H4 e4 n4 => ⟨by show 2 ≤ sizeLine; decide, fun q5 hq5 => ?_⟩⟩⟩
          have nb := rowB e3 e4 n4 hq5
          have e25 := nb.ex
          refine ⟨_, rfl, q2, _, 0, _, rfl, rfl, SqQ.t (e25 _ _ g1), at0, rfl, _, rfl, iteT ⟨_, rfl, qq _ _ nb⟩⟩
        | same c k =>
          obtain ⟨g1, g2, g3⟩ := m4
          refine ⟨_, rfl, q2, _, 0, _, rfl, rfl, SqQ.t g1, at0, rfl, _, rfl, iteF ?_⟩
          refine ⟨_, rfl, q2, _, 1, _, rfl, rfl, SqQ.t g1, at1, t2, d2, _, _, rfl, ⟨g2, g3⟩, few.canon, fun t3 d3 H3 e3 n3 => ⟨t3, d3, _, _, 1, rfl, n3.2.2, few.canon.mapc _, fun t4 d4 H4 e4 n4 => ⟨by show 2 ≤ sizeLine; decide, fun q5 hq5 => ?_⟩⟩⟩
          have nb := rowB e3 e4 n4 hq5
          have e25 := nb.ex
          refine ⟨_, rfl, q2, _, 0, _, rfl, rfl, SqQ.t (e25 _ _ g1), at0, rfl, _, rfl, iteF ?_⟩
          refine ⟨_, rfl, q2, _, 1, _, rfl, rfl, SqQ.t (e25 _ _ g1), at1, t2, d2, _, _, 1, rfl, ⟨e25 _ _ g2, e25 _ _ g3⟩, few.canon, fun t6 d6 H6 e6 n6 => ⟨by show 2 ≤ sizeLine; decide, fun q7 hq7 => ?_⟩⟩
          have nb2 := rowB (Ex.refl _) e6 n6 hq7
          have pp := pair2B nb nb2
          refine ⟨_, rfl, by show 2 ≤ sizeLine; decide, fun l hl => ⟨by show 2 ≤ sizeLine; decide, fun q8 hq8 => ?_⟩⟩
          exact qq _ _ (pp.grp (w := false) hl (Ex.new hl) upd_same hq8 (Ex.new hq8) upd_same)
        | div m c k =>
          obtain ⟨g1, g2, g3⟩ := m4
          obtain ⟨hm0, hm1⟩ := hm
          refine ⟨_, rfl, q2, _, 0, _, rfl, rfl, SqQ.t g1, at0, rfl, _, rfl, iteT ?_⟩
          dsimp only [tNext, tRet, tTup, tCons, tNil, tC]
          refine tLc_of ?_
          refine ⟨_, rfl, q2, _, 1, _, rfl, rfl, SqQ.t g1, at1, 1, m, rfl, ⟨by decide, by decide, by omega, by omega⟩, ?_⟩
          refine lc_own (walk_range (lo := 1) (n := (m - 1).toNat)) ((List.range (m - 1).toNat).map fun (r : Nat) => Bd.t (.div m (canon c) (k - ((r : Int) + 1)))) (by simp) (by omega) (fun _ _ => trivial) ?_ ?_
          · rintro i b x H3 H4 R hbi hi e ⟨rfl, rfl⟩ kk
            have hb : b = .t (.div m (canon c) (k - ((i : Int) + 1))) := by
              rw [List.getElem?_map, List.getElem?_range hi] at hbi
              exact (Option.some.inj hbi).symm
            subst hb
            refine ⟨rfl, ?_⟩
            refine ⟨_, rfl, q2, _, 1, _, rfl, rfl, SqQ.t (e _ _ g1), at1, _, rfl, q2, _, 2, _, rfl, rfl, SqQ.t (e _ _ g1), at2, _, rfl, t2, d2, canon c, k, 1 + (i : Int), rfl, ⟨e _ _ g2, e _ _ g3⟩, few.canon, fun t6 d6 H6 e6 n6 => ⟨by show 3 ≤ sizeLine; decide, fun q7 hq7 => ?_⟩⟩
            rw [show k - (1 + (i : Int)) = k - ((i : Int) + 1) by omega] at n6
            exact kk _ _ (divB (Ex.refl _) e6 n6 hq7)
          · intro D ws S Ds H1 hD e hDH ho hnd hDS hfr
            exact ⟨by show 2 ≤ sizeLine; decide, fun q3 hq3 => qq _ _ (grp_end (w := false) hD e hDH ho hnd hDS hfr hq3)⟩
    | n + 1, .neg b, .neg (q := q) (v := v1) (S := S1) hq h1, al =>
      refine ⟨_, rfl, q, _, 0, _, rfl, rfl, SqQ.t hq, at0, rfl, _, rfl, iteT ?_⟩
      refine ⟨_, rfl, q, _, 1, _, rfl, rfl, SqQ.t hq, at1, _, rfl, _, rfl, ?_⟩
      exact hsub n rfl _ _ _ _ ⟨v1, b, S1, _, !den, rfl, h1, al, fun u H' nb => qq u H' (by rw [plainB]; exact nb)⟩
    | n + 1, .grp kk bs, .grp (q := q) (l := l) (vs := ws) (S := S1) hq hl h1, al =>
      have hlen := ownL_len h1
      refine ⟨_, rfl, q, _, 0, _, rfl, rfl, SqQ.t hq, at0, rfl, _, rfl, ?_⟩
      rw [show decide (V.str (kw kk) = V.str "not") = false by cases kk <;> decide +kernel]
      refine iteF ⟨_, rfl, q, _, 0, _, rfl, rfl, SqQ.t hq, at0, by show 2 ≤ sizeLine; decide, fun tp htp => ?_⟩
      have e1 : Ex H (upd H tp (.tup [.str "all", .str "any"])) := Ex.new htp
      refine ⟨tp, _, rfl, .inr (SqT.of upd_same), rfl, rfl, _, rfl, ?_⟩
      rw [show inV (V.str (kw kk)) [.str "all", .str "any"] = true by cases kk <;> decide +kernel]
      refine iteT ?_
      have q' : ∀ u H', NewB (upd H tp (.tup [.str "all", .str "any"])) H' u (.grp (kk == !den) (bs.map (plainB (!den)))) → Q u H' := fun u H' nb => qq u H' (by rw [plainB, plainL_map]; exact nb.from e1)
      refine ⟨_, rfl, ?_⟩
      cases den <;> cases kk
      all_goals first
        | refine ⟨_, rfl, iteT ⟨_, rfl, q, _, 0, _, rfl, rfl, SqQ.t (e1 _ _ hq), at0, ?_⟩⟩
        | refine ⟨_, rfl, iteF ⟨_, rfl, q, _, 0, _, rfl, rfl, SqQ.t (e1 _ _ hq), at0, rfl, _, rfl, iteT ?_⟩⟩
        | refine ⟨_, rfl, iteF ⟨_, rfl, q, _, 0, _, rfl, rfl, SqQ.t (e1 _ _ hq), at0, rfl, _, rfl, iteF ?_⟩⟩
      all_goals
        refine ⟨_, rfl, ?_⟩
        dsimp only [tNext, tRet, tTup, tCons, tNil, gName]
        refine tLc_of ?_
        refine .inl ⟨_, rfl, q, _, 1, _, rfl, rfl, SqQ.t (e1 _ _ hq), at1, l, rfl, ⟨ws, SqL.of (e1 _ _ hl)⟩, ?_⟩
        refine lc_own walk_list (bs.map (plainB _)) (by rw [List.length_map]; omega) (by have := al.1; omega) (fun H' e => SqL.of (e _ _ (e1 _ _ hl))) ?_ (fun D ws' S' Ds' H5 hD e5 hDH ho hnd hDS hfr => ⟨by show 2 ≤ sizeLine; decide, fun q3 hq3 => by first | exact q' _ _ (grp_end (w := true) hD e5 hDH ho hnd hDS hfr hq3) | exact q' _ _ (grp_end (w := false) hD e5 hDH ho hnd hDS hfr hq3)⟩)
        rintro i b x H5 H6 R hbi hi' e5 ⟨rfl, hx'⟩ kk'
        obtain ⟨bb, S2, D2, hbb, ob, _, _⟩ := ownL_get h1 hx'
        rw [List.getElem?_map, hbb] at hbi
        cases hbi
        exact ⟨rfl, _, rfl, _, rfl, hsub n rfl _ _ _ _ ⟨x, bb, S2, D2, _, rfl, ob.ex (e1.trans e5), al.2 bb (List.mem_of_getElem? hbb), fun u H7 nb => kk' u H7 nb⟩⟩
theorem ok__law_w_plain (T : Txt K mg) (a : At K mg "_law_w_plain" s__law_w_plain ["body", "is_denied"]) (O_law_w_body_told : Ok P w K mg base CX0 2 "_law_w_body_told" ["body"] spBodyTold) (O_law_w_less : Ok P w K mg base CX0 1 "_law_w_less" ["term", "number"] spLessL) (O_law_w_turned : Ok P w K mg base CX0 1 "_law_w_turned" ["term"] spTurnL) : ∀ n, Ok P w K mg base CX0 (n+3) "_law_w_plain" ["body", "is_denied"] (spPlainL n)
  | 0 => ok__law_w_plain_step T a (k := 2) (by decide) O_law_w_body_told O_law_w_less O_law_w_turned (sub := fun _ _ _ _ => False) (fun m h => by omega) (a.ok fun f fd F => F.ok sc__law_w_plain (fun vs H Q E h => h.elim) (fun cdv A outer s H vs Q E hr h => h.elim))
  | n + 1 => ok__law_w_plain_step T a (by omega) O_law_w_body_told O_law_w_less O_law_w_turned (sub := spPlainL n) (fun m h vs H Q E x => (show n = m from by omega) ▸ x) (ok__law_w_plain T a O_law_w_body_told O_law_w_less O_law_w_turned n)
end
end K8

set_option Elab.async false
set_option linter.all false
set_option maxRecDepth 100000
set_option maxHeartbeats 4000000
namespace K8
open PySem PySem.Spec PyProof.Rows L2 M8
def Pln : Nat → Bd → Prop
  | 0, b => match b with | .t _ => True | _ => False
  | n + 1, b => match b with | .t _ => True | .neg _ => False | .grp _ bs => bs.length ≤ 60 ∧ ∀ b ∈ bs, Pln n b
mutual
def wordsB : Bd → List Str
  | .t ts => [(tagS ts : String)]
  | .neg b => "not" :: wordsB b
  | .grp w bs => kw w :: wordsL bs
def wordsL : List Bd → List Str
  | [] => []
  | b :: bs => wordsB b ++ wordsL bs
end
theorem wordsL_snoc (b : Bd) : ∀ bs : List Bd, wordsL (bs ++ [b]) = wordsL bs ++ wordsB b
  | [] => by show wordsL [b] = _; rw [wordsL, wordsL]; simp [wordsL]
  | c :: bs => by show wordsL (c :: (bs ++ [b])) = _; rw [wordsL, wordsL_snoc b bs, wordsL, List.append_assoc]
theorem words_take (bs : List Bd) (i : Nat) : (wordsL (bs.take i)).length ≤ (wordsL bs).length := by
  induction bs generalizing i with
  | nil => simp
  | cons b bs ih =>
    cases i with
    | zero => simp [wordsL]
    | succ i => rw [List.take_succ_cons, wordsL, wordsL, List.length_append, List.length_append]; have := ih i; omega
theorem words_no : ∀ {n : Nat} {b : Bd}, Pln n b → ("not" : Str) ∉ wordsB b := by
  have tst : ∀ ts : Tst, ("not" : Str) ∉ wordsB (.t ts) := fun ts => by
    rw [wordsB]
    rcases tag3 ts with h | h | h <;> rw [h] <;> decide +kernel
  intro n
  induction n with
  | zero =>
    intro b h
    match b, h with
    | .t ts, _ => exact tst ts
  | succ n ih =>
    intro b h
    match b, h with
    | .t ts, _ => exact tst ts
    | .grp w bs, h =>
      rw [wordsB]
      have : ∀ l : List Bd, (∀ b ∈ l, Pln n b) → ("not" : Str) ∉ wordsL l := by
        intro l
        induction l with
        | nil => intro _; rw [wordsL]; simp
        | cons b l il =>
          intro hl
          rw [wordsL]
          intro z
          rcases List.mem_append.mp z with z | z
          · exact ih (hl b List.mem_cons_self) z
          · exact il (fun c hc => hl c (List.mem_cons_of_mem _ hc)) z
      intro z
      rcases List.mem_cons.mp z with z | z
      · revert z; cases w <;> decide +kernel
      · exact this bs h.2 z
/-- what is left of a row's parts, when some have been gone through -/
theorem ownL_cut {H : Hp} {bs : List Bd} {vs : List V} {S Ds : List Addr} {x : V} {i : Nat} (h : OwnL H (bs.drop i) (vs.drop i) S Ds) (hx : vs[i]? = some x) : ∃ b S1 D1 S2 D2, bs[i]? = some b ∧ Own H b x S1 D1 ∧ OwnL H (bs.drop (i + 1)) (vs.drop (i + 1)) S2 D2 ∧ S = S1 ++ S2 ∧ Ds = D1 ++ D2 := by
  have hv : vs.drop i = x :: vs.drop (i + 1) := by
    obtain ⟨hi, rfl⟩ := List.getElem?_eq_some_iff.mp hx
    exact List.drop_eq_getElem_cons hi
  rw [hv] at h
  generalize hb : bs.drop i = l at h
  cases h with
  | @cons b l v vs S1 S2 D1 D2 h1 h2 =>
    have hi : bs[i]? = some b := by
      have : (bs.drop i)[0]? = some b := by rw [hb]; rfl
      rw [List.getElem?_drop] at this
      simpa using this
    have hb2 : bs.drop (i + 1) = l := by
      rw [← List.tail_drop, hb]; rfl
    exact ⟨b, S1, D1, S2, D2, hi, h1, by rw [hb2]; exact h2, rfl, rfl⟩
def spWords (n : Nat) : Sp := fun vs H Q _ => ∃ v b S Ds, vs = [v] ∧ Own H b v S Ds ∧ Pln n b ∧ (wordsB b).length ≤ 100000 ∧ ∀ D H', H D = none → Ex H H' → H' D = some (.lst ((wordsB b).map V.str)) → Q (.ref D) H'
section
variable {P : Program} {w : World} {K : PySem.W.Frag} {mg : Str → Option Value} {base : Heap}
abbrev s__law_words : Stmt := top 60
theorem sc__law_words : FnScope ["body", "found", "part"] ["body"] (defScope s__law_words) := ⟨rfl, rfl, rfl, by decide +kernel, rfl, by decide +kernel, by decide +kernel⟩
theorem ok__law_words_step (T : Txt K mg) (a : At K mg "_law_words" s__law_words ["body"]) {k n : Nat} {sub : Sp} (hsub : ∀ m, n = m + 1 → ∀ vs H Q E, spWords m vs H Q E → sub vs H Q E) (O_law_words : Ok P w K mg base CX0 k "_law_words" ["body"] sub) : Ok P w K mg base CX0 (k+1) "_law_words" ["body"] (spWords n) := a.ok fun f fd F => by
  refine F.ok sc__law_words (fun vs H Q E h => ?_) (fun cdv A outer s H vs Q E hr h => ?_)
  · obtain ⟨v, b, S, Ds, rfl, _⟩ := h; rfl
  · obtain ⟨v, b, S, Ds, rfl, ho, al, hlen, qq⟩ := h
    refine ⟨_, (pss_cons (ps_set (i := 1) sc__law_words.nd rfl (Or.inl rfl) (pe_lst (pa_cons (pe_ix (ix_qK (K := K) rfl) (pv 0) pe_int (fun _ _ => rfl)) pa_nil)))
      (pss_cons (ps_for PassesOwn.never rfl (pi_list (pe_ifExp (pt_cmpR op_in_seq (pe_ix (ix_qK (K := K) rfl) (pv 0) pe_int (fun _ _ => rfl)) (pe_tup (pa_cons pe_str (pa_cons pe_str pa_nil))) rfl) (pe_ix (ix_qK (K := K) rfl) (pv 0) pe_int (fun _ _ => rfl)) (pe_ifExp (pt_cmpR op_eq (pe_ix (ix_qK (K := K) rfl) (pv 0) pe_int (fun _ _ => rfl)) pe_str (nomark _)) (pe_lst (pa_cons (pe_ix (ix_qK (K := K) rfl) (pv 0) pe_int (fun _ _ => rfl)) pa_nil)) (pe_lst pa_nil)))) (pg_name (i := 2) sc__law_words.nd rfl (Or.inl rfl)) (pss_one (ps_expr (pe_bmK (K := K) rfl (pe_bm PySem.F.plainAttrs_list PySem.F.slot_list_extend PySem.F.type_list_extend mt_extend (pv 1) (pa_cons (pe_callO O_law_words hr rfl (pa_cons (pv 2) pa_nil)) pa_nil))))))
      (pss_one (ps_ret (pv 1))))), ?_⟩
    have sl : (1000000 : Nat) < sizeLine := by rw [sizeLine_eq]; decide
    match n, b, ho, al with
    | n, .t ts, .t (q := q) (t := t) (d := d) ht, al =>
      obtain ⟨xs, hq, hx0, hx1, hp, hd⟩ := ht.view
      have hnot : decide (V.str (tagS ts) = V.str "not") = false := by rcases tag3 ts with h | h | h <;> rw [h] <;> decide +kernel
      have hin : inV (V.str (tagS ts)) [.str "all", .str "any"] = false := by cases ts <;> (dsimp only [tagS]; decide +kernel)
      refine ⟨_, rfl, q, _, 0, _, rfl, rfl, SqQ.t hq, hx0, by show 1 ≤ sizeLine; decide, fun D hD => ?_⟩
      have e1 : Ex H (upd H D (.lst [.str (tagS ts)])) := Ex.new hD
      dsimp only [tSeq, gName, tNil]
      refine tFor_of ?_
      refine ⟨_, rfl, q, _, 0, _, rfl, rfl, SqQ.t (e1 _ _ hq), hx0, by show 2 ≤ sizeLine; decide, fun tp htp => ?_⟩
      have e2 : Ex H (upd (upd H D (.lst [.str (tagS ts)])) tp (.tup [.str "all", .str "any"])) := e1.mut (e1.free htp)
      refine ⟨tp, _, rfl, .inr (SqT.of upd_same), rfl, rfl, _, rfl, ?_⟩
      rw [hin]
      refine iteF ⟨_, rfl, q, _, 0, _, rfl, rfl, SqQ.t (e2 _ _ hq), hx0, rfl, _, rfl, ?_⟩
      rw [hnot]
      refine iteF ⟨by show 0 ≤ sizeLine; omega, fun E hE => ⟨E, rfl, ⟨[], SqL.of upd_same⟩, ?_⟩⟩
      have nDt : D ≠ tp := fun z => by rw [← z, upd_same] at htp; cases htp
      have nDE : D ≠ E := fun z => by rw [← z, upd_ne nDt, upd_same] at hE; cases hE
      refine for_itB (walk_list (xs := [])) (fun i σ' H' => σ' = [some (.ref q), some (.ref D), none] ∧ H' = upd (upd (upd H D (.lst [.str (tagS ts)])) tp (.tup [.str "all", .str "any"])) E (.lst [])) ⟨rfl, rfl⟩ (fun i σ' H' _ ⟨_, h⟩ => by rw [h]; exact SqL.of upd_same) (fun i x σ' H' H'' hi => absurd hi (by simp)) ?_
      rintro σ' H' ⟨rfl, rfl⟩
      refine ⟨_, rfl, qq D _ hD (e2.mut (e2.free hE)) ?_⟩
      rw [upd_ne nDE, upd_ne nDt, upd_same, wordsB]; rfl
    | n + 1, .neg _, _, al => exact al.elim
    | n + 1, .grp kk bs, .grp (q := q) (l := l) (vs := ws) (S := S1) hq hl h1, al =>
      have hlen' := ownL_len h1
      rw [wordsB] at hlen
      rw [wordsB] at qq
      have hlen : (wordsL bs).length + 1 ≤ 100000 := hlen
      refine ⟨_, rfl, q, _, 0, _, rfl, rfl, SqQ.t hq, at0, by show 1 ≤ sizeLine; decide, fun D hD => ?_⟩
      have e1 : Ex H (upd H D (.lst [.str (kw kk)])) := Ex.new hD
      dsimp only [tSeq, gName, tNil]
      refine tFor_of ?_
      refine ⟨_, rfl, q, _, 0, _, rfl, rfl, SqQ.t (e1 _ _ hq), at0, by show 2 ≤ sizeLine; decide, fun tp htp => ?_⟩
      have e2 : Ex H (upd (upd H D (.lst [.str (kw kk)])) tp (.tup [.str "all", .str "any"])) := e1.mut (e1.free htp)
      have nDt : D ≠ tp := fun z => by rw [← z, upd_same] at htp; cases htp
      refine ⟨tp, _, rfl, .inr (SqT.of upd_same), rfl, rfl, _, rfl, ?_⟩
      rw [show inV (V.str (kw kk)) [.str "all", .str "any"] = true by cases kk <;> decide +kernel]
      refine iteT ⟨_, rfl, q, _, 1, _, rfl, rfl, SqQ.t (e2 _ _ hq), at1, l, rfl, ⟨ws, SqL.of (e2 _ _ hl)⟩, ?_⟩
      refine for_itB (walk_list (xs := ws)) (fun i σ' H' => ∃ x, σ' = [some (.ref q), some (.ref D), x] ∧ Ex H H' ∧ H' D = some (.lst ((kw kk :: wordsL (bs.take i)).map V.str))) ⟨none, rfl, e2, by rw [upd_ne nDt, upd_same]; rfl⟩ (fun i σ' H' _ ⟨_, _, e, _⟩ => SqL.of (e _ _ hl)) ?_ ?_
      · rintro i x σ' H5 H6 hi ⟨x0, rfl, e5, hDH⟩ ⟨rfl, hx'⟩
        obtain ⟨bb, S2, D2, hbb, ob, _, _⟩ := ownL_get h1 hx'
        have hw : wordsL (bs.take (i + 1)) = wordsL (bs.take i) ++ wordsB bb := by
          rw [List.take_add_one, hbb]; exact wordsL_snoc bb _
        have hwl := words_take bs (i + 1)
        rw [hw, List.length_append] at hwl
        refine ⟨_, rfl, .inl ⟨rfl, _, SqL.of hDH⟩, _, rfl, hsub n rfl _ _ _ _ ⟨x, bb, S2, D2, rfl, ob.ex e5, al.2 bb (List.mem_of_getElem? hbb), by omega, fun D7 H7 hD7 e7 h7 => ⟨D, D7, _, _, rfl, rfl, e7 _ _ hDH, h7, by rw [List.length_map, List.length_map]; show (wordsL (bs.take i)).length + 1 + _ ≤ _; omega, ?_⟩⟩⟩
        refine ⟨_, rfl, (e5.trans e7).mut hD, ?_⟩
        rw [upd_same, hw, ← List.map_append]; rfl
      · rintro σ' H5 ⟨x0, rfl, e5, hDH⟩
        rw [List.take_of_length_le (by omega)] at hDH
        exact ⟨_, rfl, qq D _ hD e5 hDH⟩
theorem ok__law_words (T : Txt K mg) (a : At K mg "_law_words" s__law_words ["body"]) : ∀ n, Ok P w K mg base CX0 (n+2) "_law_words" ["body"] (spWords n)
  | 0 => ok__law_words_step T a (k := 1) (sub := fun _ _ _ _ => False) (fun m h => by omega) (a.ok fun f fd F => F.ok sc__law_words (fun vs H Q E h => h.elim) (fun cdv A outer s H vs Q E hr h => h.elim))
  | n + 1 => ok__law_words_step T a (sub := spWords n) (fun m h vs H Q E x => (show n = m from by omega) ▸ x) (ok__law_words T a n)
end
end K8

set_option Elab.async false
set_option linter.all false
set_option maxRecDepth 100000
set_option maxHeartbeats 4000000
namespace K8
open PySem PySem.Spec PyProof.Rows L2 M8
def spDicts (n : Nat) : Sp := fun vs H Q _ => ∃ v b S Ds, vs = [v] ∧ Own H b v S Ds ∧ Pln n b ∧ Ds.length ≤ 100000 ∧ ∀ D H', H D = none → Ex H H' → H' D = some (.lst (Ds.map V.ref)) → Q (.ref D) H'
def spLonger (n : Nat) : Sp := fun vs H Q _ => ∃ v b S Ds, vs = [v] ∧ Own H b v S Ds ∧ Pln n b ∧ S.Nodup ∧ AllT (fun ts => (coef ts).length ≤ 100) n b ∧ ∀ H', Exo S H H' → Q .non H'
theorem filt_one {α : Type} [DecidableEq α] {d : α} : ∀ {l : List α}, l.Nodup → d ∈ l → (l.filter fun e => decide (e = d)) = [d]
  | [], _, h => by cases h
  | a :: l, hn, h => by
    obtain ⟨n1, n2⟩ := List.nodup_cons.mp hn
    rw [List.filter_cons]
    rcases List.mem_cons.mp h with rfl | h
    · rw [if_pos (by simp)]
      congr 1
      exact List.filter_eq_nil_iff.mpr fun x hx => by simp; exact fun z => n1 (z ▸ hx)
    · rw [if_neg (by simp; exact fun z => n1 (z ▸ h))]
      exact filt_one n2 h
/-- dicts of told terms, each by itself: none of them has the key late -/
def spAlone : Sp := fun vs H Q _ => ∃ (L : Addr) (Ds : List Addr), vs = [.ref L] ∧ H L = some (.lst (Ds.map V.ref)) ∧ Ds.Nodup ∧ Ds.length ≤ 1000000 ∧ (∀ d ∈ Ds, ∃ c, H d = some (.dK (cK c)) ∧ ("late" : Str) ∉ keys c ∧ c.length ≤ 100) ∧ ∀ H', Ex H H' → Q (.bl true) H'
section
variable {P : Program} {w : World} {K : PySem.W.Frag} {mg : Str → Option Value} {base : Heap}
abbrev s__law_dicts : Stmt := top 62
theorem sc__law_dicts : FnScope ["body", "found", "part"] ["body"] (defScope s__law_dicts) := ⟨rfl, rfl, rfl, by decide +kernel, rfl, by decide +kernel, by decide +kernel⟩
theorem ok__law_dicts_step (T : Txt K mg) (a : At K mg "_law_dicts" s__law_dicts ["body"]) {k n : Nat} {sub : Sp} (hsub : ∀ m, n = m + 1 → ∀ vs H Q E, spDicts m vs H Q E → sub vs H Q E) (O_law_dicts : Ok P w K mg base CX0 k "_law_dicts" ["body"] sub) : Ok P w K mg base CX0 (k+1) "_law_dicts" ["body"] (spDicts n) := a.ok fun f fd F => by
  refine F.ok sc__law_dicts (fun vs H Q E h => ?_) (fun cdv A outer s H vs Q E hr h => ?_)
  · obtain ⟨v, b, S, Ds, rfl, _⟩ := h; rfl
  · obtain ⟨v, b, S, Ds, rfl, ho, al, hlen, qq⟩ := h
    refine ⟨_, (pss_cons (ps_set (i := 1) sc__law_dicts.nd rfl (Or.inl rfl) (pe_lst pa_nil))
      (pss_cons (ps_for PassesOwn.never rfl (pi_list (pe_ifExp (pt_cmpR op_in_seq (pe_ix (ix_qK (K := K) rfl) (pv 0) pe_int (fun _ _ => rfl)) (pe_tup (pa_cons pe_str (pa_cons pe_str pa_nil))) rfl) (pe_ix (ix_qK (K := K) rfl) (pv 0) pe_int (fun _ _ => rfl)) (pe_lst pa_nil))) (pg_name (i := 2) sc__law_dicts.nd rfl (Or.inl rfl)) (pss_one (ps_expr (pe_bmK (K := K) rfl (pe_bm PySem.F.plainAttrs_list PySem.F.slot_list_extend PySem.F.type_list_extend mt_extend (pv 1) (pa_cons (pe_callO O_law_dicts hr rfl (pa_cons (pv 2) pa_nil)) pa_nil))))))
      (pss_one (ps_ret (pe_ifExp (pt_cmpR op_in_seq (pe_ix (ix_qK (K := K) rfl) (pv 0) pe_int (fun _ _ => rfl)) (pe_tup (pa_cons pe_str (pa_cons pe_str pa_nil))) rfl) (pv 1) (pe_lst (pa_cons (pe_ix (ix_qK (K := K) rfl) (pe_ix (ix_qK (K := K) rfl) (pv 0) (pe_un un_neg pe_int) (fun _ _ => rfl)) pe_int (fun _ _ => rfl)) pa_nil))))))), ?_⟩
    have sl : (1000000 : Nat) < sizeLine := by rw [sizeLine_eq]; decide
    match n, b, ho, al with
    | n, .t ts, .t (q := q) (t := t) (d := d) ht, al =>
      obtain ⟨xs, hq, hx0, hx1, hp, hd⟩ := ht.view
      have hin : inV (V.str (tagS ts)) [.str "all", .str "any"] = false := by cases ts <;> (dsimp only [tagS]; decide +kernel)
      refine ⟨by show 0 ≤ sizeLine; omega, fun D hD => ?_⟩
      have e1 : Ex H (upd H D (.lst [])) := Ex.new hD
      dsimp only [tSeq, gName, tNil]
      refine tFor_of ?_
      refine ⟨_, rfl, q, _, 0, _, rfl, rfl, SqQ.t (e1 _ _ hq), hx0, by show 2 ≤ sizeLine; decide, fun tp htp => ?_⟩
      have e2 : Ex H (upd (upd H D (.lst [])) tp (.tup [.str "all", .str "any"])) := e1.mut (e1.free htp)
      refine ⟨tp, _, rfl, .inr (SqT.of upd_same), rfl, rfl, _, rfl, ?_⟩
      rw [hin]
      refine iteF ⟨by show 0 ≤ sizeLine; omega, fun E hE => ⟨E, rfl, ⟨[], SqL.of upd_same⟩, ?_⟩⟩
      have e3 := e2.mut (e2.free hE) (o := .lst [])
      refine for_itB (walk_list (xs := [])) (fun i σ' H' => σ' = [some (.ref q), some (.ref D), none] ∧ H' = upd (upd (upd H D (.lst [])) tp (.tup [.str "all", .str "any"])) E (.lst [])) ⟨rfl, rfl⟩ (fun i σ' H' _ ⟨_, h⟩ => by rw [h]; exact SqL.of upd_same) (fun i x σ' H' H'' hi => absurd hi (by simp)) ?_
      rintro σ' H' ⟨rfl, rfl⟩
      refine ⟨_, rfl, q, _, 0, _, rfl, rfl, SqQ.t (e3 _ _ hq), hx0, by show 2 ≤ sizeLine; decide, fun t2 ht2 => ?_⟩
      have e4 := e3.mut (e3.free ht2) (o := .tup [.str "all", .str "any"])
      refine ⟨t2, _, rfl, .inr (SqT.of upd_same), rfl, rfl, _, rfl, ?_⟩
      rw [hin]
      refine iteF ⟨_, rfl, _, rfl, q, xs, _, _, rfl, rfl, SqQ.t (e4 _ _ hq), hx1, t, _, 0, _, rfl, rfl, SqQ.t (e4 _ _ hp), at0, by show 1 ≤ sizeLine; decide, fun R hR => qq R _ (e4.free hR) (e4.mut (e4.free hR)) upd_same⟩
    | n + 1, .neg _, _, al => exact al.elim
    | n + 1, .grp kk bs, .grp (q := q) (l := l) (vs := ws) (S := S1) hq hl h1, al =>
      have hlen' := ownL_len h1
      refine ⟨by show 0 ≤ sizeLine; omega, fun D hD => ?_⟩
      have e1 : Ex H (upd H D (.lst [])) := Ex.new hD
      dsimp only [tSeq, gName, tNil]
      refine tFor_of ?_
      refine ⟨_, rfl, q, _, 0, _, rfl, rfl, SqQ.t (e1 _ _ hq), at0, by show 2 ≤ sizeLine; decide, fun tp htp => ?_⟩
      have e2 : Ex H (upd (upd H D (.lst [])) tp (.tup [.str "all", .str "any"])) := e1.mut (e1.free htp)
      have nDt : D ≠ tp := fun z => by rw [← z, upd_same] at htp; cases htp
      refine ⟨tp, _, rfl, .inr (SqT.of upd_same), rfl, rfl, _, rfl, ?_⟩
      have hin : inV (V.str (kw kk)) [.str "all", .str "any"] = true := by cases kk <;> decide +kernel
      rw [hin]
      refine iteT ⟨_, rfl, q, _, 1, _, rfl, rfl, SqQ.t (e2 _ _ hq), at1, l, rfl, ⟨ws, SqL.of (e2 _ _ hl)⟩, ?_⟩
      refine for_itB (walk_list (xs := ws)) (fun i σ' H' => ∃ x pre post S2, σ' = [some (.ref q), some (.ref D), x] ∧ Ex H H' ∧ H' D = some (.lst (pre.map V.ref)) ∧ Ds = pre ++ post ∧ OwnL H (bs.drop i) (ws.drop i) S2 post) ⟨none, [], Ds, S1, rfl, e2, by rw [upd_ne nDt, upd_same]; rfl, rfl, h1⟩ (fun i σ' H' _ ⟨_, _, _, _, _, e, _⟩ => SqL.of (e _ _ hl)) ?_ ?_
      · rintro i x σ' H5 H6 hi ⟨x0, pre, post, S2, rfl, e5, hDH, hDs, h2⟩ ⟨rfl, hx'⟩
        obtain ⟨bb, S3, D3, S4, D4, hbb, ob, h4, rfl, rfl⟩ := ownL_cut h2 hx'
        have hdl : Ds.length = pre.length + (D3.length + D4.length) := by rw [hDs, List.length_append, List.length_append]
        refine ⟨_, rfl, .inl ⟨rfl, _, SqL.of hDH⟩, _, rfl, hsub n rfl _ _ _ _ ⟨x, bb, S3, D3, rfl, ob.ex e5, al.2 bb (List.mem_of_getElem? hbb), by omega, fun D7 H7 hD7 e7 h7 => ⟨D, D7, _, _, rfl, rfl, e7 _ _ hDH, h7, by rw [List.length_map, List.length_map]; omega, ?_⟩⟩⟩
        refine ⟨_, pre ++ D3, D4, S4, rfl, (e5.trans e7).mut hD, ?_, by rw [hDs, List.append_assoc], h4⟩
        rw [upd_same, ← List.map_append]
      · rintro σ' H5 ⟨x0, pre, post, S2, rfl, e5, hDH, hDs, h2⟩
        rw [List.drop_of_length_le (by omega), List.drop_of_length_le (by omega)] at h2
        cases h2
        rw [List.append_nil] at hDs
        rw [hDs] at qq
        refine ⟨_, rfl, q, _, 0, _, rfl, rfl, SqQ.t (e5 _ _ hq), at0, by show 2 ≤ sizeLine; decide, fun t2 ht2 => ?_⟩
        refine ⟨t2, _, rfl, .inr (SqT.of upd_same), rfl, rfl, _, rfl, ?_⟩
        rw [hin]
        exact iteT ⟨_, rfl, qq D _ hD (e5.mut (e5.free ht2)) (by rw [upd_ne (ne_of_none hDH ht2)]; exact hDH)⟩
theorem ok__law_dicts (T : Txt K mg) (a : At K mg "_law_dicts" s__law_dicts ["body"]) : ∀ n, Ok P w K mg base CX0 (n+2) "_law_dicts" ["body"] (spDicts n)
  | 0 => ok__law_dicts_step T a (k := 1) (sub := fun _ _ _ _ => False) (fun m h => by omega) (a.ok fun f fd F => F.ok sc__law_dicts (fun vs H Q E h => h.elim) (fun cdv A outer s H vs Q E hr h => h.elim))
  | n + 1 => ok__law_dicts_step T a (sub := spDicts n) (fun m h vs H Q E x => (show n = m from by omega) ▸ x) (ok__law_dicts T a n)
abbrev s__law_longer : Stmt := top 61
theorem sc__law_longer : FnScope ["thing", "part"] ["thing"] (defScope s__law_longer) := ⟨rfl, rfl, rfl, by decide +kernel, rfl, by decide +kernel, by decide +kernel⟩
theorem ok__law_longer_step (T : Txt K mg) (a : At K mg "_law_longer" s__law_longer ["thing"]) {k n : Nat} {sub : Sp} (hsub : ∀ m, n = m + 1 → ∀ vs H Q E, spLonger m vs H Q E → sub vs H Q E) (O_law_longer : Ok P w K mg base CX0 k "_law_longer" ["thing"] sub) : Ok P w K mg base CX0 (k+1) "_law_longer" ["thing"] (spLonger n) := a.ok fun f fd F => by
  refine F.ok sc__law_longer (fun vs H Q E h => ?_) (fun cdv A outer s H vs Q E hr h => ?_)
  · obtain ⟨v, b, S, Ds, rfl, _⟩ := h; rfl
  · obtain ⟨v, b, S, Ds, rfl, ho, al, hnd, hc, qq⟩ := h
    refine ⟨_, (pss_one (ps_if (pt_cmpR op_in_seq (pe_ix (ix_qK (K := K) rfl) (pv 0) pe_int (fun _ _ => rfl)) (pe_tup (pa_cons pe_str (pa_cons pe_str pa_nil))) rfl) (pss_cons (ps_for PassesOwn.never rfl (pi_list (pe_ix (ix_qK (K := K) rfl) (pv 0) pe_int (fun _ _ => rfl))) (pg_name (i := 1) sc__law_longer.nd rfl (Or.inl rfl)) (pss_one (ps_expr (pe_callO O_law_longer hr rfl (pa_cons (pv 1) pa_nil)))))
      (pss_one (ps_expr (pe_bmK (K := K) rfl (pe_bm PySem.F.plainAttrs_list PySem.F.slot_list_append PySem.F.type_list_append mt_append (pe_ix (ix_qK (K := K) rfl) (pv 0) pe_int (fun _ _ => rfl)) (pa_cons pe_str pa_nil)))))) (pss_one (ps_if (pt_cmpR op_ne (pe_ix (ix_qK (K := K) rfl) (pv 0) pe_int (fun _ _ => rfl)) pe_str (nomark _)) (pss_one (ps_dput (hu_of hr) (pe_ix (ix_qK (K := K) rfl) (pe_ix (ix_qK (K := K) rfl) (pv 0) (pe_un un_neg pe_int) (fun _ _ => rfl)) pe_int (fun _ _ => rfl)) pe_str pe_int rfl)) pss_nil)))), ?_⟩
    have sl : (1000000 : Nat) < sizeLine := by rw [sizeLine_eq]; decide
    match n, b, ho, al, hc with
    | n, .t ts, .t (q := q) (t := t) (d := d) ht, al, hc =>
      have hc := AllT.tst.mp hc
      obtain ⟨xs, hq, hx0, hx1, hp, hd⟩ := ht.view
      have hin : inV (V.str (tagS ts)) [.str "all", .str "any"] = false := by cases ts <;> (dsimp only [tagS]; decide +kernel)
      refine ⟨_, rfl, q, _, 0, _, rfl, rfl, SqQ.t hq, hx0, by show 2 ≤ sizeLine; decide, fun tp htp => ?_⟩
      have e1 : Ex H (upd H tp (.tup [.str "all", .str "any"])) := Ex.new htp
      refine ⟨tp, _, rfl, .inr (SqT.of upd_same), rfl, rfl, _, rfl, ?_⟩
      rw [hin]
      have hnot : decide (V.str (tagS ts) = V.str "not") = false := by rcases tag3 ts with h | h | h <;> rw [h] <;> decide +kernel
      refine iteF ⟨_, rfl, q, _, 0, _, rfl, rfl, SqQ.t (e1 _ _ hq), hx0, rfl, _, rfl, ?_⟩
      rw [hnot]
      refine iteT ⟨_, rfl, _, rfl, q, xs, _, _, rfl, rfl, SqQ.t (e1 _ _ hq), hx1, t, _, 0, _, rfl, rfl, SqQ.t (e1 _ _ hp), at0, d, _, rfl, .inl ⟨cK (coef ts), .inr "late", e1 _ _ hd, rfl, by rw [cK_len]; omega, rfl⟩, qq _ fun a o na ha => ?_⟩
      rw [upd_ne (fun z => na (by simp [z]))]
      exact e1 _ _ ha
    | n + 1, .neg _, _, al, _ => exact al.elim
    | n + 1, .grp kk bs, .grp (q := q) (l := l) (vs := ws) (S := S1) hq hl h1, al, hc =>
      have hlen' := ownL_len h1
      have hin : inV (V.str (kw kk)) [.str "all", .str "any"] = true := by cases kk <;> decide +kernel
      obtain ⟨nq, hnd⟩ := List.nodup_cons.mp hnd
      obtain ⟨nl, hnd⟩ := List.nodup_cons.mp hnd
      refine ⟨_, rfl, q, _, 0, _, rfl, rfl, SqQ.t hq, at0, by show 2 ≤ sizeLine; decide, fun tp htp => ?_⟩
      have e1 : Ex H (upd H tp (.tup [.str "all", .str "any"])) := Ex.new htp
      refine ⟨tp, _, rfl, .inr (SqT.of upd_same), rfl, rfl, _, rfl, ?_⟩
      rw [hin]
      refine iteT ?_
      dsimp only [tSeq, gName, tNil]
      refine tFor_of ?_
      refine ⟨_, rfl, q, _, 1, _, rfl, rfl, SqQ.t (e1 _ _ hq), at1, l, rfl, ⟨ws, SqL.of (e1 _ _ hl)⟩, ?_⟩
      refine for_itB (walk_list (xs := ws)) (fun i σ' H' => ∃ x pre post Dp, σ' = [some (.ref q), x] ∧ Exo pre H H' ∧ S1 = pre ++ post ∧ OwnL H (bs.drop i) (ws.drop i) post Dp) ⟨none, [], S1, _, rfl, e1.exo _, rfl, h1⟩ (fun i σ' H' _ ⟨_, pre, _, _, _, e, hS, _⟩ => SqL.of (e _ _ (fun z => nl (by rw [hS]; exact List.mem_append_left _ z)) hl)) ?_ ?_
      · rintro i x σ' H5 H6 hi ⟨x0, pre, post, Dp, rfl, e5, hS, h2⟩ ⟨rfl, hx'⟩
        obtain ⟨bb, S3, D3, S4, D4, hbb, ob, h4, rfl, rfl⟩ := ownL_cut h2 hx'
        rw [hS] at hnd
        obtain ⟨n1, n2, n3⟩ := List.nodup_append.mp hnd
        obtain ⟨n4, n5, n6⟩ := List.nodup_append.mp n2
        refine ⟨_, rfl, hsub n rfl _ _ _ _ ⟨x, bb, S3, D3, rfl, ob.imp fun a ha o => e5 a o (fun z => n3 a z a (List.mem_append_left _ ha) rfl), al.2 bb (List.mem_of_getElem? hbb), n4, hc.2 bb (List.mem_of_getElem? hbb), fun H7 e7 => ?_⟩⟩
        exact ⟨_, pre ++ S3, S4, D4, rfl, fun a o na ha => e7 a o (fun z => na (List.mem_append_right _ z)) (e5 a o (fun z => na (List.mem_append_left _ z)) ha), by rw [hS, List.append_assoc], h4⟩
      · rintro σ' H5 ⟨x0, pre, post, Dp, rfl, e5, hS, h2⟩
        have hin5 : ∀ a, a ∉ S1 → a ∉ pre := fun a na z => na (by rw [hS]; exact List.mem_append_left _ z)
        have hl5 := e5 _ _ (hin5 l nl) hl
        refine ⟨_, rfl, q, _, 1, _, rfl, rfl, SqQ.t (e5 _ _ (hin5 q (fun z => nq (List.mem_cons_of_mem _ z))) hq), at1, .inl ⟨rfl, _, SqL.of hl5⟩, l, ws, _, rfl, rfl, hl5, by have := al.1; omega, qq _ fun a o na ha => ?_⟩
        have a1 : a ≠ l := fun z => na (by simp [z])
        rw [upd_ne a1]
        exact e5 a o (hin5 a fun z => na (by simp [z])) ha
theorem ok__law_longer (T : Txt K mg) (a : At K mg "_law_longer" s__law_longer ["thing"]) : ∀ n, Ok P w K mg base CX0 (n+2) "_law_longer" ["thing"] (spLonger n)
  | 0 => ok__law_longer_step T a (k := 1) (sub := fun _ _ _ _ => False) (fun m h => by omega) (a.ok fun f fd F => F.ok sc__law_longer (fun vs H Q E h => h.elim) (fun cdv A outer s H vs Q E hr h => h.elim))
  | n + 1 => ok__law_longer_step T a (sub := spLonger n) (fun m h vs H Q E x => (show n = m from by omega) ▸ x) (ok__law_longer T a n)
abbrev s__law_alone : Stmt := top 63
theorem sc__law_alone : FnScope ["dicts", "one", "other"] ["dicts"] (defScope s__law_alone) := ⟨rfl, rfl, rfl, by decide +kernel, rfl, by decide +kernel, by decide +kernel⟩
theorem ok__law_alone (T : Txt K mg) (a : At K mg "_law_alone" s__law_alone ["dicts"]) : Ok P w K mg base CX0 1 "_law_alone" ["dicts"] spAlone := a.ok fun f fd F => by
  refine F.ok sc__law_alone (fun vs H Q E h => ?_) (fun cdv A outer s H vs Q E hr h => ?_)
  · obtain ⟨L, Ds, rfl, _⟩ := h; rfl
  · obtain ⟨L, Ds, rfl, hL, hnd, hlen, hds, qq⟩ := h
    refine ⟨_, (pss_cons (ps_for PassesOwn.never rfl (pi_list (pv 0)) (pg_name (i := 1) sc__law_alone.nd rfl (Or.inl rfl)) (pss_cons (ps_dput (hu_of hr) (pv 1) pe_str pe_int rfl)
      (pss_cons (ps_if (pt_cmpR op_ne (pe_callB (len_qK (K := K) rfl) rfl T.n_len rfl (pa_cons (pe_lc (own := [("other", 2)]) (g := gName 2) (tt := _) rfl sc__law_alone.nd (pi_list (pv 0)) (blkOk_by (N := ["dicts", "one", "other"]) (sc := defScope s__law_alone) (by decide +kernel)) (fun _ _ _ _ _ => (pg_name (i := 2) sc__law_alone.nd rfl (Or.inl rfl))) (fun _ _ _ _ _ => (pts_one (pt_cmp (pc_din (hu_of hr) pe_str (pv 2))))) (fun _ _ _ _ _ => (pv 2))) pa_nil)) pe_int (nomark _)) (pss_one (ps_ret pe_bl)) pss_nil)
      (pss_one (ps_expr (pe_dpop1 (pv 1) pe_str ⟨rfl, rfl, rfl, rfl⟩))))))
      (pss_one (ps_ret pe_bl))), ?_⟩
    have sl : (1000000 : Nat) < sizeLine := by rw [sizeLine_eq]; decide
    dsimp only [tSeq, gName, tNil]
    refine tFor_of ?_
    refine ⟨_, rfl, L, rfl, ⟨_, SqL.of hL⟩, ?_⟩
    refine for_itB (walk_list (xs := Ds.map V.ref)) (fun i σ' H' => ∃ x y, σ' = [some (.ref L), x, y] ∧ Ex H H') ⟨none, none, rfl, Ex.refl H⟩ (fun i σ' H' _ ⟨_, _, _, e⟩ => SqL.of (e _ _ hL)) ?_ ?_
    · rintro i x σ' H5 H6 hi ⟨x0, y0, rfl, e5⟩ ⟨rfl, hx'⟩
      rw [List.getElem?_map] at hx'
      obtain ⟨d, hdi, rfl⟩ : ∃ d, Ds[i]? = some d ∧ V.ref d = x := by
        cases hq : Ds[i]? with
        | none => rw [hq] at hx'; cases hx'
        | some d => rw [hq] at hx'; exact ⟨d, rfl, by injection hx'⟩
      have hdm := List.mem_of_getElem? hdi
      obtain ⟨c, hd, hno, hcl⟩ := hds d hdm
      have hd5 := e5 _ _ hd
      have vno : valV (cK c) (.inr ("late" : Str)) = none := by
        cases hv : valV (cK c) (.inr ("late" : Str)) with
        | none => rfl
        | some v =>
          have := valV_in hv
          rw [show ((cK c).map (·.1)) = (keys c).map Sum.inr by unfold cK keys; rw [List.map_map, List.map_map]; rfl] at this
          obtain ⟨z, hz, e⟩ := List.mem_map.mp this
          exact absurd (Sum.inr.inj e ▸ hz) hno
      refine ⟨_, rfl, d, _, rfl, .inl ⟨cK c, .inr "late", hd5, rfl, by rw [cK_len]; omega, rfl⟩, ?_⟩
      have nLd : L ≠ d := fun z => by rw [z] at hL; rw [hL] at hd; cases hd
      have vput : ∀ k, valV (putK (cK c) (.inr ("late" : Str)) (.int 1)) k = if k = .inr "late" then some (.int 1) else valV (cK c) k := fun k => valV_put _ _ _ _
      have hdrop : dropK (putK (cK c) (.inr ("late" : Str)) (.int 1)) (.inr "late") = cK c := by
        rw [L2.putK_new _ vno]
        show List.filter _ (cK c ++ [_]) = _
        rw [List.filter_append]
        have h1 : List.filter (fun kv : Key × V => decide (kv.1 ≠ .inr ("late" : Str))) (cK c) = cK c := dropK_no (valV_not vno)
        rw [h1]
        simp
      generalize hkv : putK (cK c) (.inr ("late" : Str)) (.int 1) = kv at vput hdrop ⊢
      have e56 : ∀ b o, b ≠ d → H b = some o → upd H6 d (.dK kv) b = some o := fun b o n h => by rw [upd_ne n]; exact e5 _ _ h
      dsimp only [tSeq, tIfS, tTest, tOp, tCB, tCons, tNil]
      refine tLc_of ?_
      refine ⟨_, rfl, L, rfl, ⟨_, SqL.of (e56 _ _ nLd hL)⟩, ?_⟩
      refine lc_gen (walk_list (xs := Ds.map V.ref)) [] (fun _ _ => True) (fun i acc H => acc = ((Ds.take i).filter fun e => decide (e = d)).map V.ref) (by rw [List.length_map]; exact hlen) (fun b hb => by simp at hb) (fun H' e => SqL.of (e.ex _ _ (e56 _ _ nLd hL))) (fun _ _ _ _ _ => trivial) (fun _ _ _ _ _ _ _ _ h => h) trivial (fun _ _ => rfl) ?_ ?_
      · rintro i2 x2 H7 H8 acc R R' hi2 e7 _ hacc hal ⟨rfl, hx2⟩ k1 k2
        have e7 := e7.ex
        rw [List.getElem?_map] at hx2
        obtain ⟨e, hei, rfl⟩ : ∃ e, Ds[i2]? = some e ∧ V.ref e = x2 := by
          cases hq : Ds[i2]? with
          | none => rw [hq] at hx2; cases hx2
          | some d => rw [hq] at hx2; exact ⟨d, rfl, by injection hx2⟩
        have hem := List.mem_of_getElem? hei
        have htake : (Ds.take (i2 + 1)).filter (fun e => decide (e = d)) = (Ds.take i2).filter (fun e => decide (e = d)) ++ [e].filter (fun e => decide (e = d)) := by
          rw [List.take_add_one, hei, List.filter_append]; rfl
        by_cases hed : e = d
        · refine ⟨rfl, _, rfl, e, some (.int 1), rfl, .inl ⟨kv, .inr "late", .inl (by rw [hed]; exact e7 _ _ upd_same), rfl, by rw [vput, if_pos rfl]⟩, _, rfl, ?_⟩
          refine iteT ⟨_, rfl, k1 _ _ (Exo.refl _ _) trivial ?_⟩
          rw [htake, List.filter_cons, if_pos (by simpa using hed), List.map_append, hacc]; rfl
        · obtain ⟨c2, hd2, hno2, _⟩ := hds e hem
          have vno2 : valV (cK c2) (.inr ("late" : Str)) = none := by
            cases hv : valV (cK c2) (.inr ("late" : Str)) with
            | none => rfl
            | some v =>
              have := valV_in hv
              rw [show ((cK c2).map (·.1)) = (keys c2).map Sum.inr by unfold cK keys; rw [List.map_map, List.map_map]; rfl] at this
              obtain ⟨z, hz, e⟩ := List.mem_map.mp this
              exact absurd (Sum.inr.inj e ▸ hz) hno2
          refine ⟨rfl, _, rfl, e, none, rfl, .inl ⟨cK c2, .inr "late", .inl (e7 _ _ (e56 _ _ hed hd2)), rfl, vno2.symm⟩, _, rfl, ?_⟩
          refine iteF (k2 _ (Exo.refl _ _) trivial ?_)
          rw [htake, List.filter_cons, if_neg (by simpa using hed), hacc]; simp
      · rintro D acc H7 hD e7 _ hacc hDH _
        have e7 := e7.ex
        rw [List.length_map, List.take_of_length_le (Nat.le_refl _), filt_one hnd hdm] at hacc
        subst hacc
        refine ⟨D, _, rfl, SqQ.l hDH, rfl, _, rfl, ?_⟩
        refine iteF ⟨_, rfl, d, rfl, .inl ⟨kv, .inl (e7 _ _ upd_same)⟩, kv, .inr "late", .int 1, e7 _ _ upd_same, rfl, by rw [vput, if_pos rfl], _, _, rfl, fun b o hb => ?_⟩
        rw [hdrop]
        by_cases hbd : b = d
        · rw [hbd, upd_same, ← hd, ← hbd, hb]
        · rw [upd_ne hbd]; exact e7 _ _ (e56 _ _ hbd hb)
    · rintro σ' H5 ⟨x0, y0, rfl, e5⟩
      exact qq _ e5
end
end K8

set_option Elab.async false
set_option linter.all false
set_option maxRecDepth 100000
set_option maxHeartbeats 4000000
namespace K8
open PySem PySem.Spec PyProof.Rows L2 M8
/-! a drawn body as data, and what is handed for it -/
mutual
def bdDat : Bd → Dat
  | .t ts => tstDat ts
  | .neg b => .tup [.str "not", bdDat b]
  | .grp w bs => .tup [.str (kw w), .lst (bdDats bs)]
def bdDats : List Bd → List Dat
  | [] => []
  | b :: bs => bdDat b :: bdDats bs
end
theorem bdDats_map : ∀ bs : List Bd, bdDats bs = bs.map bdDat
  | [] => by rw [bdDats]; rfl
  | b :: bs => by rw [bdDats, bdDats_map bs]; rfl
mutual
theorem see_own {F : Addr → Prop} {H : Hp} : ∀ {b : Bd} {v : V} {S Ds : List Addr}, Own H b v S Ds → See F H v (bdDat b)
  | _, _, _, _, .t h => by rw [bdDat]; exact see_tst h
  | _, _, _, _, .neg h1 h2 => by rw [bdDat]; exact .tup h1 (.cons (.str _) (.cons (see_own h2) .nil))
  | _, _, _, _, .grp h1 h2 h3 => by rw [bdDat]; exact .tup h1 (.cons (.str _) (.cons (.lst h2 (see_ownL h3)) .nil))
theorem see_ownL {F : Addr → Prop} {H : Hp} : ∀ {bs : List Bd} {vs : List V} {S Ds : List Addr}, OwnL H bs vs S Ds → SeeL F H vs (bdDats bs)
  | _, _, _, _, .nil => by rw [bdDats]; exact .nil
  | _, _, _, _, .cons h1 h2 => by rw [bdDats]; exact .cons (see_own h1) (see_ownL h2)
end
theorem all2_map {α β : Type} {R : β → α → Prop} {f : α → β} : ∀ {l : List α}, (∀ a ∈ l, R (f a) a) → All2 R (l.map f) l
  | [], _ => .nil
  | a :: l, h => .cons (h a List.mem_cons_self) (all2_map fun b hb => h b (List.mem_cons_of_mem _ hb))
theorem isTst_dat (ts : Tst) : IsTst (tstDat ts) ts := by
  cases ts with
  | row c k => exact ⟨rfl, _, rfl, rfl, rfl⟩
  | same c k => exact ⟨rfl, _, rfl, rfl, rfl⟩
  | div m c k => exact ⟨rfl, _, rfl, rfl, rfl⟩
theorem isB_dat {p : Tst → Prop} : ∀ {n : Nat} {b : Bd}, AllT p n b → IsB n (bdDat b) b
  | n, .t ts, _ => by rw [bdDat]; exact IsB.tst.mpr (isTst_dat ts)
  | 0, .neg _, x => x.elim
  | 0, .grp _ _, x => x.elim
  | n + 1, .neg b, x => by rw [bdDat]; exact ⟨rfl, _, rfl, isB_dat (n := n) x⟩
  | n + 1, .grp w bs, x => by rw [bdDat, bdDats_map]; exact ⟨rfl, _, rfl, rfl, all2_map fun b hb => isB_dat (n := n) (x.2 b hb)⟩
/-- so many levels -/
def preN : Nat → Dat → Prop | 0 => fun _ => False | k + 1 => PreS (preN k)
def hndN : Nat → Dat → Dat → Prop | 0 => fun _ _ => False | k + 1 => HndS (hndN k)
def hbud : Nat → Nat | 0 => 0 | k + 1 => 4 * hbud k + 8
theorem preS_mono {G G' : Dat → Prop} (h : ∀ d, G d → G' d) : ∀ {d : Dat}, PreS G d → PreS G' d
  | .lst _, x => ⟨x.1, fun d hd => h d (x.2 d hd)⟩
  | .tup _, x => ⟨x.1, fun d hd => h d (x.2 d hd)⟩
  | .non, x => x | .bl _, x => x | .int _, x => x | .str _, x => x | .dct _, x => x | .fn _, x => x
theorem preN_up1 : ∀ {k : Nat} {d : Dat}, preN k d → preN (k + 1) d
  | 0, _, h => h.elim
  | k + 1, _, h => preS_mono (fun _ => preN_up1 (k := k)) h
theorem preN_up {k : Nat} {d : Dat} (h : preN k d) : ∀ j, preN (k + j) d
  | 0 => h
  | j + 1 => preN_up1 (preN_up h j)
def HandT (ts : Tst) : Prop := (coef ts).length ≤ 4 ∧ (keys (coef ts)).Nodup ∧ ("zero0" : Str) ∉ keys (coef ts)
theorem preN_tst {ts : Tst} (h : HandT ts) (j : Nat) : preN (j + 3) (tstDat ts) := by
  have : preN 3 (tstDat ts) := pre_tst h.1 h.2.1 h.2.2
  rw [Nat.add_comm]
  exact preN_up this j
theorem preN_bd : ∀ {n : Nat} {b : Bd}, AllW HandT n b → preN (2 * n + 3) (bdDat b)
  | n, .t ts, x => by rw [bdDat]; exact preN_tst (AllW.tst.mp x) _
  | 0, .neg _, x => x.elim
  | 0, .grp _ _, x => x.elim
  | n + 1, .neg b, x => by
    rw [bdDat]
    refine ⟨by simp, fun d hd => ?_⟩
    rcases List.mem_cons.mp hd with rfl | hd
    · trivial
    · rw [show d = bdDat b by simpa using hd]
      exact preN_up1 (preN_bd (n := n) (b := b) x)
  | n + 1, .grp w bs, x => by
    rw [bdDat, bdDats_map]
    refine ⟨by simp, fun d hd => ?_⟩
    rcases List.mem_cons.mp hd with rfl | hd
    · trivial
    · rw [show d = .lst (bs.map bdDat) by simpa using hd]
      refine ⟨by rw [List.length_map]; have := x.1; omega, fun d hd => ?_⟩
      obtain ⟨b, hb, rfl⟩ := List.mem_map.mp hd
      exact preN_bd (n := n) (x.2 b hb)
mutual
inductive BC : Bd → Bd → Prop
  | t {ts : Tst} {c' : Coef} : HC (coef ts) c' → BC (.t ts) (.t (setC c' ts))
  | neg {b b' : Bd} : BC b b' → BC (.neg b) (.neg b')
  | grp {w : Bool} {bs bs' : List Bd} : BCL bs bs' → BC (.grp w bs) (.grp w bs')
inductive BCL : List Bd → List Bd → Prop
  | nil : BCL [] []
  | cons {b b' : Bd} {bs bs' : List Bd} : BC b b' → BCL bs bs' → BCL (b :: bs) (b' :: bs')
end
theorem hand_tstG {R : Dat → Dat → Prop} {ts : Tst} {d' : Dat} (h : HndS (HndS (HndS R)) (tstDat ts) d') : ∃ c', IsTst d' (setC c' ts) ∧ HC (coef ts) c' := by
  cases ts with
  | row c k =>
    obtain ⟨h1, h2⟩ : isSq d' = true ∧ Pair2 (HndS (HndS R)) [.str "row", tDat c k] (items d') := h
    generalize hi : items d' = ys at h2
    cases h2 with
    | cons hx ht =>
      cases ht with
      | cons hy ht =>
        cases ht
        have hk : _ = Dat.str "row" := hx
        subst hk
        obtain ⟨c', h3, h4⟩ := hand_term hy
        exact ⟨c', ⟨h1, _, hi, h3⟩, h4⟩
  | same c k =>
    obtain ⟨h1, h2⟩ : isSq d' = true ∧ Pair2 (HndS (HndS R)) [.str "same", tDat c k] (items d') := h
    generalize hi : items d' = ys at h2
    cases h2 with
    | cons hx ht =>
      cases ht with
      | cons hy ht =>
        cases ht
        have hk : _ = Dat.str "same" := hx
        subst hk
        obtain ⟨c', h3, h4⟩ := hand_term hy
        exact ⟨c', ⟨h1, _, hi, h3⟩, h4⟩
  | div m c k =>
    obtain ⟨h1, h2⟩ : isSq d' = true ∧ Pair2 (HndS (HndS R)) [.str "by", .int m, tDat c k] (items d') := h
    generalize hi : items d' = ys at h2
    cases h2 with
    | cons hx ht =>
      cases ht with
      | cons hy ht =>
        cases ht with
        | cons hz ht =>
          cases ht
          have hk : _ = Dat.str "by" := hx
          subst hk
          have hk : _ = Dat.int m := hy
          subst hk
          obtain ⟨c', h3, h4⟩ := hand_term hz
          exact ⟨c', ⟨h1, _, hi, h3⟩, h4⟩
theorem pair2_bodies {R : Dat → Dat → Prop} {n : Nat} : ∀ {bs : List Bd} {ds : List Dat}, (∀ b ∈ bs, ∀ d', R (bdDat b) d' → ∃ b', IsB n d' b' ∧ BC b b') → Pair2 R (bs.map bdDat) ds → ∃ bs', All2 (IsB n) ds bs' ∧ BCL bs bs'
  | [], _, _, .nil => ⟨[], .nil, .nil⟩
  | b :: bs, _, h, .cons h1 h2 => by
    obtain ⟨b', i1, i2⟩ := h b List.mem_cons_self _ h1
    obtain ⟨bs', j1, j2⟩ := pair2_bodies (fun c hc => h c (List.mem_cons_of_mem _ hc)) h2
    exact ⟨b' :: bs', .cons i1 j1, .cons i2 j2⟩
theorem hand_bd {p : Tst → Prop} : ∀ {n : Nat} (j : Nat) {b : Bd} {d' : Dat}, AllW p n b → hndN (j + 2 * n + 3) (bdDat b) d' → ∃ b', IsB n d' b' ∧ BC b b'
  | n, j, .t ts, d', _, h => by
    rw [bdDat] at h
    obtain ⟨c', h1, h2⟩ := hand_tstG (R := hndN (j + 2 * n)) h
    exact ⟨_, IsB.tst.mpr h1, .t h2⟩
  | 0, _, .neg _, _, x, _ => x.elim
  | 0, _, .grp _ _, _, x, _ => x.elim
  | n + 1, j, .neg b, d', x, h => by
    rw [bdDat] at h
    obtain ⟨h1, h2⟩ : isSq d' = true ∧ Pair2 (hndN (j + 2 * n + 4)) [.str "not", bdDat b] (items d') := h
    generalize hi : items d' = ys at h2
    cases h2 with
    | cons hx ht =>
      cases ht with
      | cons hy ht =>
        cases ht
        have hk : _ = Dat.str "not" := hx
        subst hk
        obtain ⟨b', i1, i2⟩ := hand_bd (n := n) (j + 1) (b := b) x (by rw [show j + 1 + 2 * n + 3 = j + 2 * n + 4 by omega]; exact hy)
        exact ⟨.neg b', ⟨h1, _, hi, i1⟩, .neg i2⟩
  | n + 1, j, .grp w bs, d', x, h => by
    rw [bdDat, bdDats_map] at h
    obtain ⟨h1, h2⟩ : isSq d' = true ∧ Pair2 (hndN (j + 2 * n + 4)) [.str (kw w), .lst (bs.map bdDat)] (items d') := h
    generalize hi : items d' = ys at h2
    cases h2 with
    | cons hx ht =>
      cases ht with
      | cons hy ht =>
        cases ht
        have hk : _ = Dat.str (kw w) := hx
        subst hk
        obtain ⟨h3, h4⟩ : isSq _ = true ∧ Pair2 (hndN (j + 2 * n + 3)) (bs.map bdDat) (items _) := hy
        obtain ⟨bs', j1, j2⟩ := pair2_bodies (fun b hb d' hd => hand_bd (n := n) j (x.2 b hb) hd) h4
        exact ⟨.grp w bs', ⟨h1, _, hi, h3, j1⟩, .grp j2⟩
end K8

set_option Elab.async false
set_option linter.all false
set_option maxRecDepth 100000
set_option maxHeartbeats 4000000
namespace K8
open PySem PySem.Spec PyProof.Rows L2 M8
theorem see_sans {K : PySem.W.Frag} {a : Addr} {H H' : Hp} (e : Exo [a] H H') {v : V} {d : Dat} (h : SeeF K (sansL [a] H) v d) : SeeF K H' v d :=
  See.mono (sansL_ex [a] H') (See.mono (sansL_mono fun b o n hb => ⟨n, e b o n hb⟩) h)
/-- handed over, it is the same test -/
theorem hc_keys {c c' : Coef} (h : HC c c') (hn : (keys c).Nodup) (hz : ("zero0" : Str) ∉ keys c) : (keys c').Nodup ∧ canon c' = canon c ∧ c'.length ≤ c.length + 1 ∧ ∀ p ∈ c', p ∈ c ∨ p = (("zero0" : Str), (0 : Int)) := by
  have fin : ∀ e : Coef, c'.Perm e → (keys e).Nodup → (∀ n, co e n = co c n) → (keys c').Nodup ∧ canon c' = canon c := fun e hp hne hco => by
    have hn' : (keys c').Nodup := (keys_perm hp).nodup_iff.mpr hne
    refine ⟨hn', canon_congr hn' hn fun n => ?_⟩
    rw [← hco n]
    by_cases hk : n ∈ keys e
    · obtain ⟨i, hi⟩ := look_some hk hne
      have h1 := look_mem hi
      rw [co_of_mem hne h1, co_of_mem hn' (hp.mem_iff.mpr h1)]
    · rw [co_notin hk, co_notin fun z => hk ((keys_perm hp).mem_iff.mp z)]
  rcases h with h | h
  · obtain ⟨f1, f2⟩ := fin c h hn (fun _ => rfl)
    exact ⟨f1, f2, by rw [h.length_eq]; omega, fun p hp => .inl (h.mem_iff.mp hp)⟩
  · have hne : (keys (c ++ [(("zero0" : Str), (0 : Int))])).Nodup := by
      rw [keys_app, List.nodup_append]
      exact ⟨hn, by simp [keys], fun x hx y hy e => hz (by rw [show y = "zero0" by simpa [keys] using hy] at e; rw [← e]; exact hx)⟩
    have hco : ∀ n, co (c ++ [(("zero0" : Str), (0 : Int))]) n = co c n := fun n => by
      by_cases hk : n ∈ keys c
      · obtain ⟨i, hi⟩ := look_some hk hn
        have h1 := look_mem hi
        rw [co_of_mem hn h1, co_of_mem hne (List.mem_append_left _ h1)]
      · by_cases hz2 : n = "zero0"
        · rw [co_notin hk, co_of_mem hne (i := 0) (List.mem_append_right _ (by rw [hz2]; simp))]
        · rw [co_notin hk, co_notin fun z => by
            rw [keys_app] at z
            rcases List.mem_append.mp z with z | z
            · exact hk z
            · exact hz2 (by simpa [keys] using z)]
    obtain ⟨f1, f2⟩ := fin _ h hne hco
    refine ⟨f1, f2, by rw [h.length_eq, List.length_append]; simp, fun p hp => ?_⟩
    rcases List.mem_append.mp (h.mem_iff.mp hp) with z | z
    · exact .inl z
    · exact .inr (by simpa using z)
theorem coef_setC (c : Coef) (ts : Tst) : coef (setC c ts) = c := by cases ts <;> rfl
theorem kst_setC (c : Coef) (ts : Tst) : kst (setC c ts) = kst ts := by cases ts <;> rfl
theorem mOk_setC {c : Coef} {ts : Tst} (h : mOk ts) : mOk (setC c ts) := by cases ts <;> exact h
theorem coef_canonT (ts : Tst) : coef (canonT ts) = canon (coef ts) := by cases ts <;> rfl
theorem mOk_canonT {ts : Tst} (h : mOk ts) : mOk (canonT ts) := by cases ts <;> exact h

/-! what is known of the tests of a drawn body, of a handed one, of a told one -/
def m60 : Tst → Prop | .div m _ _ => m ≤ 60 | _ => True
def BT (ns : List Str) (ts : Tst) : Prop := TermIn ns 1000000 (coef ts) ∧ mOk ts ∧ m60 ts
theorem term_up {ns : List Str} {g g' : Int} {c : Coef} (h : TermIn ns g c) (l : g ≤ g') : TermIn ns g' c := ⟨h.nd, h.sub, fun p hp => by have := h.far p hp; omega⟩
theorem term_len4 {ns : List Str} {g : Int} {c : Coef} (h : TermIn ns g c) (l : ns.length ≤ 4) : c.length ≤ 4 := by
  have := List.subset_of_nodup_length h.nd h.sub
  unfold keys at this; rw [List.length_map] at this; omega
theorem nz_sub {c : Coef} {n : Str} (h : n ∈ nz c) : n ∈ keys c := by
  unfold nz at h
  have := (srt_perm _).mem_iff.mp h
  obtain ⟨p, hp, rfl⟩ := List.mem_map.mp this
  exact List.mem_map.mpr ⟨p, (List.mem_filter.mp hp).1, rfl⟩
theorem term_canon {ns : List Str} {g : Int} {c : Coef} (h : TermIn ns g c) : TermIn ns g (canon c) := by
  refine ⟨canon_nodup h.nd, fun n hn => h.sub n (nz_sub (by rw [keys_canon] at hn; exact hn)), fun p hp => ?_⟩
  unfold M8.canon at hp
  obtain ⟨n, hn, rfl⟩ := List.mem_map.mp hp
  obtain ⟨q, hq, rfl⟩ := List.mem_map.mp (nz_sub hn)
  have := h.far q hq
  rw [show co c q.1 = q.2 from co_of_mem h.nd hq]
  exact this
theorem term_neg {ns : List Str} {g : Int} {c : Coef} (h : TermIn ns g c) : TermIn ns g (mapc (fun i => 0 - i) c) := TermIn.mapc (f := fun i => 0 - i) h fun i h1 h2 => by constructor <;> omega
theorem bt_good {ns : List Str} {ts : Tst} (hns : Nms ns) (h : BT ns ts) : GoodT ts :=
  ⟨⟨h.1.few hns.l4, fun p hp => by have := h.1.far p hp; omega, fun n hn => pool_nm _ (hns.mem _ (h.1.sub n hn))⟩, h.2.1⟩
theorem bt_hand {ns : List Str} {ts : Tst} (hns : Nms ns) (h : BT ns ts) : HandT ts := ⟨term_len4 h.1 hns.l4, h.1.nd, fun z => zero_out (hns.mem _ (h.1.sub _ z))⟩
theorem bt_so {ns : List Str} {ts : Tst} {cn : Coef} (hns : Nms ns) (hk : keys cn = ns) (h : BT ns ts) : SoT cn ts :=
  ⟨h.1.few hns.l4, fun p hp => by have := h.1.far p hp; omega, h.2.1, fun p hp _ => by rw [hk]; exact h.1.sub _ (List.mem_map.mpr ⟨p, hp, rfl⟩)⟩
theorem bt_nam {ns : List Str} {ts : Tst} (hns : Nms ns) (h : BT ns ts) : Nam ns ts := ⟨h.1.few hns.l4, by have := term_len4 h.1 hns.l4; omega, fun n hn => h.1.sub n (nz_sub hn)⟩
theorem bt_num {ns : List Str} {ts : Tst} {cn : Coef} (hns : Nms ns) (hk : keys cn = ns) (h : BT ns ts) : Num cn ts := by
  refine ⟨h.1.few hns.l4, fun p hp => by have := h.1.far p hp; omega, h.2.1, ?_⟩
  exact ⟨by rw [hk]; exact hns.nd, fun p hp _ => by rw [hk]; exact h.1.sub _ (List.mem_map.mpr ⟨p, hp, rfl⟩)⟩
/-- what holds of drawn tests holds of told ones -/
theorem bt_canon {ns : List Str} {ts : Tst} (h : BT ns ts) : BT ns (canonT ts) := ⟨by rw [coef_canonT]; exact term_canon h.1, mOk_canonT h.2.1, by cases ts <;> exact h.2.2⟩
theorem bt_den {ns : List Str} {ts : Tst} (h : BT ns ts) : AllT (BT ns) 1 (denT ts) := by
  cases ts with
  | row c k => exact ⟨term_neg (term_canon (c := c) h.1), trivial, trivial⟩
  | same c k =>
    refine ⟨by simp, fun b hb => ?_⟩
    simp only [List.mem_cons, List.not_mem_nil, or_false] at hb
    rcases hb with rfl | rfl
    · exact ⟨term_canon (c := c) h.1, trivial, trivial⟩
    · exact ⟨term_neg (term_canon (c := c) h.1), trivial, trivial⟩
  | div m c k =>
    have h60 : m ≤ 60 := h.2.2
    refine ⟨by rw [List.length_map, List.length_range]; omega, fun b hb => ?_⟩
    obtain ⟨r, hr, rfl⟩ := List.mem_map.mp hb
    exact ⟨term_canon (c := c) h.1, h.2.1, h.2.2⟩
theorem bt_plain {ns : List Str} : ∀ {n : Nat} {b : Bd} (w : Bool), AllW (BT ns) n b → AllT (BT ns) (n + 1) (plainB w b)
  | n, .t ts, w, x => by
    rw [plainB]
    have x := AllW.tst.mp x
    cases w with
    | true => rw [if_pos rfl]; exact AllT.tst.mpr (bt_canon x)
    | false => rw [if_neg (by simp)]; exact AllT.up (by omega) (bt_den x)
  | 0, .neg _, _, x => x.elim
  | 0, .grp _ _, _, x => x.elim
  | n + 1, .neg b, w, x => by rw [plainB]; exact AllT.up (by omega) (bt_plain (n := n) (!w) x)
  | n + 1, .grp k bs, w, x => by
    rw [plainB, plainL_map]
    refine ⟨by rw [List.length_map]; have := x.1; omega, fun b hb => ?_⟩
    obtain ⟨c, hc, rfl⟩ := List.mem_map.mp hb
    exact bt_plain (n := n) w (x.2 c hc)
theorem pln_den {ns : List Str} {ts : Tst} (h : BT ns ts) : Pln 1 (denT ts) := by
  cases ts with
  | row c k => exact trivial
  | same c k =>
    refine ⟨by simp, fun b hb => ?_⟩
    simp only [List.mem_cons, List.not_mem_nil, or_false] at hb
    rcases hb with rfl | rfl <;> exact trivial
  | div m c k =>
    have h60 : m ≤ 60 := h.2.2
    refine ⟨by rw [List.length_map, List.length_range]; omega, fun b hb => ?_⟩
    obtain ⟨r, hr, rfl⟩ := List.mem_map.mp hb
    exact trivial
theorem Pln.up : ∀ {n m : Nat} {b : Bd}, n ≤ m → Pln n b → Pln m b
  | n, m, .t _, _, x => by cases m <;> exact trivial
  | 0, _, .neg _, _, x => x.elim
  | 0, _, .grp _ _, _, x => x.elim
  | n + 1, 0, .neg _, l, _ => absurd l (by omega)
  | n + 1, 0, .grp _ _, l, _ => absurd l (by omega)
  | n + 1, m + 1, .neg _, _, x => x.elim
  | n + 1, m + 1, .grp _ bs, l, x => ⟨x.1, fun b hb => Pln.up (n := n) (m := m) (by omega) (x.2 b hb)⟩
theorem pln_plain {ns : List Str} : ∀ {n : Nat} {b : Bd} (w : Bool), AllW (BT ns) n b → Pln (n + 1) (plainB w b)
  | n, .t ts, w, x => by
    rw [plainB]
    have x := AllW.tst.mp x
    cases w with
    | true => rw [if_pos rfl]; exact trivial
    | false => rw [if_neg (by simp)]; exact Pln.up (by omega) (pln_den x)
  | 0, .neg _, _, x => x.elim
  | 0, .grp _ _, _, x => x.elim
  | n + 1, .neg b, w, x => by rw [plainB]; exact Pln.up (by omega) (pln_plain (n := n) (!w) x)
  | n + 1, .grp k bs, w, x => by
    rw [plainB, plainL_map]
    refine ⟨by rw [List.length_map]; have := x.1; omega, fun b hb => ?_⟩
    obtain ⟨c, hc, rfl⟩ := List.mem_map.mp hb
    exact pln_plain (n := n) w (x.2 c hc)
/-- how many tests, how many words a told body has -/
def mle (M : Nat) : Tst → Prop | .div m _ _ => m ≤ (M : Int) | _ => True
theorem cntL_le {B : Nat} : ∀ {bs : List Bd}, (∀ b ∈ bs, cnt b ≤ B) → cnt.cntL bs ≤ B * bs.length
  | [], _ => by simp [cnt.cntL]
  | b :: bs, h => by
    have h1 := h b List.mem_cons_self
    have h2 := cntL_le (bs := bs) fun c hc => h c (List.mem_cons_of_mem _ hc)
    show cnt b + cnt.cntL bs ≤ B * (bs.length + 1)
    rw [Nat.mul_succ]; omega
theorem wordsL_le {B : Nat} : ∀ {bs : List Bd}, (∀ b ∈ bs, (wordsB b).length ≤ B) → (wordsL bs).length ≤ B * bs.length
  | [], _ => by simp [wordsL]
  | b :: bs, h => by
    have h1 := h b List.mem_cons_self
    have h2 := wordsL_le (bs := bs) fun c hc => h c (List.mem_cons_of_mem _ hc)
    rw [wordsL, List.length_append]
    show _ ≤ B * (bs.length + 1)
    rw [Nat.mul_succ]; omega
theorem cnt_den {M : Nat} (hM : 2 ≤ M) {ts : Tst} (h : mle M ts) : cnt (denT ts) ≤ M ∧ (wordsB (denT ts)).length ≤ M + 1 := by
  cases ts with
  | row c k => exact ⟨by show 1 ≤ M; omega, by show ([_] : List Str).length ≤ _; simp⟩
  | same c k => exact ⟨by show 2 ≤ M; omega, by show 3 ≤ M + 1; omega⟩
  | div m c k =>
    have hm : m ≤ (M : Int) := h
    have hl : ((List.range (m - 1).toNat).map fun (r : Nat) => Bd.t (.div m (canon c) (k - ((r : Int) + 1)))).length ≤ M := by rw [List.length_map, List.length_range]; omega
    refine ⟨?_, ?_⟩
    · have := cntL_le (B := 1) (bs := (List.range (m - 1).toNat).map fun (r : Nat) => Bd.t (.div m (canon c) (k - ((r : Int) + 1)))) (fun b hb => by obtain ⟨r, _, rfl⟩ := List.mem_map.mp hb; exact Nat.le_refl 1)
      show cnt.cntL _ ≤ M
      omega
    · have := wordsL_le (B := 1) (bs := (List.range (m - 1).toNat).map fun (r : Nat) => Bd.t (.div m (canon c) (k - ((r : Int) + 1)))) (fun b hb => by obtain ⟨r, _, rfl⟩ := List.mem_map.mp hb; rw [wordsB]; exact Nat.le_refl 1)
      show (wordsB (.grp false _)).length ≤ M + 1
      rw [wordsB, List.length_cons]
      omega
theorem cnt_plain {M : Nat} (hM : 2 ≤ M) : ∀ {n : Nat} {b : Bd} (w : Bool), AllW (mle M) n b → cnt (plainB w b) ≤ M * 3 ^ n ∧ (wordsB (plainB w b)).length ≤ (M + 1) * 4 ^ n
  | n, .t ts, w, x => by
    have x := AllW.tst.mp x
    have p3 : 1 ≤ 3 ^ n := Nat.one_le_pow _ _ (by decide)
    have p4 : 1 ≤ 4 ^ n := Nat.one_le_pow _ _ (by decide)
    have q3 : M ≤ M * 3 ^ n := Nat.le_mul_of_pos_right _ p3
    have q4 : M + 1 ≤ (M + 1) * 4 ^ n := Nat.le_mul_of_pos_right _ p4
    rw [plainB]
    cases w with
    | true =>
      rw [if_pos rfl]
      refine ⟨by show 1 ≤ _; omega, ?_⟩
      rw [wordsB]; show 1 ≤ _; omega
    | false =>
      rw [if_neg (by simp)]
      obtain ⟨h1, h2⟩ := cnt_den hM x
      omega
  | 0, .neg _, _, x => x.elim
  | 0, .grp _ _, _, x => x.elim
  | n + 1, .neg b, w, x => by
    rw [plainB]
    obtain ⟨h1, h2⟩ := cnt_plain hM (n := n) (!w) x
    rw [Nat.pow_succ, Nat.pow_succ, ← Nat.mul_assoc, ← Nat.mul_assoc]
    omega
  | n + 1, .grp k bs, w, x => by
    rw [plainB, plainL_map]
    have hl := x.1
    have p4 : 1 ≤ 4 ^ n := Nat.one_le_pow _ _ (by decide)
    have q4 : M + 1 ≤ (M + 1) * 4 ^ n := Nat.le_mul_of_pos_right _ p4
    have c1 := cntL_le (B := M * 3 ^ n) (bs := bs.map (plainB w)) (fun b hb => by obtain ⟨c, hc, rfl⟩ := List.mem_map.mp hb; exact (cnt_plain hM (n := n) w (x.2 c hc)).1)
    have c2 := wordsL_le (B := (M + 1) * 4 ^ n) (bs := bs.map (plainB w)) (fun b hb => by obtain ⟨c, hc, rfl⟩ := List.mem_map.mp hb; exact (cnt_plain hM (n := n) w (x.2 c hc)).2)
    rw [List.length_map] at c1 c2
    have c3 : M * 3 ^ n * bs.length ≤ M * 3 ^ n * 3 := Nat.mul_le_mul_left _ hl
    have c4 : (M + 1) * 4 ^ n * bs.length ≤ (M + 1) * 4 ^ n * 3 := Nat.mul_le_mul_left _ hl
    rw [Nat.pow_succ, Nat.pow_succ, ← Nat.mul_assoc, ← Nat.mul_assoc]
    refine ⟨by show cnt.cntL _ ≤ _; omega, ?_⟩
    rw [wordsB, List.length_cons]
    omega
/-! handed over, it is the same body -/
theorem plain_bc {p : Tst → Prop} (hp : ∀ ts, p ts → HandT ts) : ∀ {n : Nat} {b b' : Bd}, BC b b' → AllW p n b → ∀ w, plainB w b' = plainB w b := by
  intro n
  have tst : ∀ {ts : Tst} {c' : Coef}, HC (coef ts) c' → p ts → ∀ w, plainB w (.t (setC c' ts)) = plainB w (.t ts) := by
    intro ts c' h x w
    obtain ⟨_, x2, x3⟩ := hp ts x
    obtain ⟨_, hc, _⟩ := hc_keys h x2 x3
    rw [plainB, plainB]
    cases ts with
    | row c k => show (if w = true then Bd.t (.row (canon c') k) else rowN c' k) = (if w = true then Bd.t (.row (canon c) k) else rowN c k); unfold rowN; rw [show canon c' = canon c from hc]
    | same c k => show (if w = true then Bd.t (.same (canon c') k) else .grp false [.t (.row (canon c') (k - 1)), rowN c' k]) = (if w = true then Bd.t (.same (canon c) k) else .grp false [.t (.row (canon c) (k - 1)), rowN c k]); unfold rowN; rw [show canon c' = canon c from hc]
    | div m c k => show (if w = true then Bd.t (.div m (canon c') k) else .grp false ((List.range (m - 1).toNat).map fun (r : Nat) => .t (.div m (canon c') (k - ((r : Int) + 1))))) = (if w = true then Bd.t (.div m (canon c) k) else .grp false ((List.range (m - 1).toNat).map fun (r : Nat) => .t (.div m (canon c) (k - ((r : Int) + 1))))); rw [show canon c' = canon c from hc]
  induction n with
  | zero =>
    intro b b' h x w
    match b, b', h, x with
    | _, _, .t h, x => exact tst h x w
  | succ n ih =>
    intro b b' h x w
    match b, b', h, x with
    | _, _, .t h, x => exact tst h x w
    | .neg b, .neg b', .neg h, x => rw [plainB, plainB]; exact ih h x (!w)
    | .grp k bs, .grp _ bs', .grp h, x =>
      rw [plainB, plainB, plainL_map, plainL_map]
      congr 1
      have : ∀ {bs bs' : List Bd}, BCL bs bs' → (∀ b ∈ bs, AllW p n b) → bs'.map (plainB w) = bs.map (plainB w) := by
        intro bs
        induction bs with
        | nil => intro bs' h _; cases h; rfl
        | cons b bs il =>
          intro bs' h hx
          cases h with
          | cons h1 h2 => rw [List.map_cons, List.map_cons, ih h1 (hx b List.mem_cons_self) w, il h2 fun c hc => hx c (List.mem_cons_of_mem _ hc)]
      exact this h x.2
theorem good_hc {ns : List Str} {ts : Tst} {c' : Coef} (hns : Nms ns) (h : BT ns ts) (hc : HC (coef ts) c') : GoodT (setC c' ts) := by
  obtain ⟨x1, x2, x3⟩ := bt_hand hns h
  obtain ⟨h1, _, h3, h4⟩ := hc_keys hc x2 x3
  refine ⟨?_, mOk_setC h.2.1⟩
  rw [coef_setC]
  refine ⟨⟨h1, by omega⟩, fun p hp => ?_, fun n hn => ?_⟩
  · rcases h4 p hp with hp | rfl
    · have := h.1.far p hp; omega
    · simp
  · obtain ⟨p, hp, rfl⟩ := List.mem_map.mp hn
    rcases h4 p hp with hp | rfl
    · exact pool_nm _ (hns.mem _ (h.1.sub _ (List.mem_map.mpr ⟨p, hp, rfl⟩)))
    · exact zero_nm
theorem all_bc {p q : Tst → Prop} (hp : ∀ ts c', p ts → HC (coef ts) c' → q (setC c' ts)) : ∀ {n : Nat} {b b' : Bd}, BC b b' → AllW p n b → AllT q n b'
  | n, _, _, .t h, x => AllT.tst.mpr (hp _ _ (AllW.tst.mp x) h)
  | 0, _, _, .neg _, x => x.elim
  | 0, _, _, .grp _, x => x.elim
  | n + 1, .neg b, .neg b', .neg h, x => all_bc hp (n := n) h x
  | n + 1, .grp k bs, .grp _ bs', .grp h, x => by
    have : ∀ {bs bs' : List Bd}, BCL bs bs' → (∀ b ∈ bs, AllW p n b) → (∀ b ∈ bs', AllT q n b) ∧ bs'.length = bs.length := by
      intro bs
      induction bs with
      | nil => intro bs' h _; cases h; exact ⟨by simp, rfl⟩
      | cons b bs il =>
        intro bs' h hx
        cases h with
        | cons h1 h2 =>
          obtain ⟨j1, j2⟩ := il h2 fun c hc => hx c (List.mem_cons_of_mem _ hc)
          refine ⟨fun c hc => ?_, by rw [List.length_cons, List.length_cons, j2]⟩
          rcases List.mem_cons.mp hc with rfl | hc
          · exact all_bc hp (n := n) h1 (hx b List.mem_cons_self)
          · exact j1 c hc
    obtain ⟨j1, j2⟩ := this h x.2
    exact ⟨by have := x.1; omega, j1⟩
/-! the dicts of a told body -/
mutual
theorem own_sub {H : Hp} : ∀ {b : Bd} {v : V} {S Ds : List Addr}, Own H b v S Ds → List.Sublist Ds S
  | _, _, _, _, .t h => .cons _ (.cons _ (.refl _))
  | _, _, _, _, .neg _ h => .cons _ (own_sub h)
  | _, _, _, _, .grp _ _ h => .cons _ (.cons _ (own_subL h))
theorem own_subL {H : Hp} : ∀ {bs : List Bd} {vs : List V} {S Ds : List Addr}, OwnL H bs vs S Ds → List.Sublist Ds S
  | _, _, _, _, .nil => .refl _
  | _, _, _, _, .cons h1 h2 => (own_sub h1).append (own_subL h2)
end
mutual
theorem own_cnt {H : Hp} : ∀ {b : Bd} {v : V} {S Ds : List Addr}, Own H b v S Ds → Ds.length = cnt b
  | _, _, _, _, .t h => rfl
  | _, _, _, _, .neg (b := b) _ h => by show _ = cnt b; exact own_cnt h
  | _, _, _, _, .grp (bs := bs) _ _ h => by show _ = cnt.cntL bs; exact own_cntL h
theorem own_cntL {H : Hp} : ∀ {bs : List Bd} {vs : List V} {S Ds : List Addr}, OwnL H bs vs S Ds → Ds.length = cnt.cntL bs
  | _, _, _, _, .nil => rfl
  | _, _, _, _, .cons h1 h2 => by rw [List.length_append, own_cnt h1, own_cntL h2]; rfl
end
theorem own_dicts {q : Tst → Prop} {H : Hp} : ∀ {n : Nat} {b : Bd} {v : V} {S Ds : List Addr}, Own H b v S Ds → AllT q n b → ∀ d ∈ Ds, ∃ ts, q ts ∧ H d = some (.dK (cK (coef ts))) := by
  intro n
  have tst : ∀ {ts : Tst} {a t d : Addr}, TAt H a t d ts → q ts → ∀ e ∈ [d], ∃ ts, q ts ∧ H e = some (.dK (cK (coef ts))) := by
    intro ts a t d h hq e he
    rw [show e = d by simpa using he]
    obtain ⟨_, _, _, _, _, hd⟩ := h.view
    exact ⟨ts, hq, hd⟩
  induction n with
  | zero =>
    intro b v S Ds h x
    match b, v, S, Ds, h, x with
    | _, _, _, _, .t h, x => exact tst h x
  | succ n ih =>
    intro b v S Ds h x
    match b, v, S, Ds, h, x with
    | _, _, _, _, .t h, x => exact tst h x
    | _, _, _, _, .neg _ h, x => exact ih h x
    | _, _, _, _, .grp (bs := bs) _ _ h, x =>
      have : ∀ {bs : List Bd} {vs : List V} {S Ds : List Addr}, OwnL H bs vs S Ds → (∀ b ∈ bs, AllT q n b) → ∀ d ∈ Ds, ∃ ts, q ts ∧ H d = some (.dK (cK (coef ts))) := by
        intro bs
        induction bs with
        | nil => intro vs S Ds h _ d hd; cases h; cases hd
        | cons b bs il =>
          intro vs S Ds h hx d hd
          cases h with
          | cons h1 h2 =>
            rcases List.mem_append.mp hd with hd | hd
            · exact ih h1 (hx b List.mem_cons_self) d hd
            · exact il h2 (fun c hc => hx c (List.mem_cons_of_mem _ hc)) d hd
      exact this h x.2
end K8

set_option Elab.async false
set_option linter.all false
set_option maxRecDepth 100000
set_option maxHeartbeats 4000000
namespace K8
open PySem PySem.Spec PyProof.Rows L2 M8
/-! repr of a body in whatever lists and tuples -/
def keyPy : Key → PyData | .inl i => .int i | .inr s => .str s
mutual
def toPy : Dat → PyData
  | .non => .none | .bl b => .bool b | .int i => .int i | .str s => .str s
  | .lst ds => .list (toPys ds) | .tup ds => .tuple (toPys ds)
  | .dct kds => .dict (toPyK kds) | .fn _ => .none
def toPys : List Dat → List PyData
  | [] => []
  | d :: ds => toPy d :: toPys ds
def toPyK : List (Key × Dat) → List (PyData × PyData)
  | [] => []
  | (k, d) :: ds => (keyPy k, toPy d) :: toPyK ds
end
mutual
def noFn : Dat → Bool
  | .non => true | .bl _ => true | .int _ => true | .str _ => true
  | .lst ds => noFns ds | .tup ds => noFns ds
  | .dct kds => noFnK kds | .fn _ => false
def noFns : List Dat → Bool
  | [] => true
  | d :: ds => noFn d && noFns ds
def noFnK : List (Key × Dat) → Bool
  | [] => true
  | (_, d) :: ds => noFn d && noFnK ds
end
mutual
theorem reads_see {P : Program} {w : World} {F : Addr → Prop} {H : Hp} {h : Heap} (ok : HOk P w H h) : ∀ {v : V} {d : Dat} {u : Value}, See F H v d → noFn d = true → RelV v u → ∃ as, Reads h u (toPy d) as ∧ ∀ a ∈ as, H a ≠ none
  | _, _, u, .non, _, r => by
    obtain rfl : u = Value.none := r
    rw [toPy]; exact ⟨[], .none, by simp⟩
  | _, _, u, .bl b, _, r => by
    obtain rfl : u = Value.bool b := r
    rw [toPy]; exact ⟨[], .bool b, by simp⟩
  | _, _, u, .int i, _, r => by
    obtain ⟨t, rfl⟩ := (show ∃ t, u = Value.int i t from r)
    rw [toPy]; exact ⟨[], .int i t, by simp⟩
  | _, _, u, .str z, _, r => by
    obtain ⟨t, rfl⟩ := (show ∃ t, u = Value.str z t from r)
    rw [toPy]; exact ⟨[], .str z t, by simp⟩
  | _, _, u, .lst (a := a) (xs := xs) e hx, f, r => by
    obtain rfl : u = Value.ref a := r
    obtain ⟨z, its, n, rr, g⟩ := (show ObjOk P w H h a (.lst xs) from ok a _ e)
    rw [noFn] at f
    obtain ⟨as, h1, h2⟩ := reads_seeL ok hx f rr
    rw [toPy]
    exact ⟨a :: as, .list g rfl rfl (by simpa using h1), fun b hb => by rcases List.mem_cons.mp hb with rfl | hb; rw [e]; simp; exact h2 b hb⟩
  | _, _, u, .tup (a := a) (xs := xs) e hx, f, r => by
    obtain rfl : u = Value.ref a := r
    obtain ⟨z, its, rr, o, h1, h2, n, h3⟩ := (show ObjOk P w H h a (.tup xs) from ok a _ e)
    rw [noFn] at f
    obtain ⟨as, j1, j2⟩ := reads_seeL ok hx f rr
    rw [toPy]
    exact ⟨as, .tuple h1 h2 h3 (by simpa using j1), j2⟩
  | _, _, u, .dct (a := a) e hx, f, r => by
    obtain rfl : u = Value.ref a := r
    obtain ⟨_, hsys, vs, kv, o, es, ep, ho, ex, hdat, _, hp, _⟩ := dk_of ok e
    rw [noFn] at f
    obtain ⟨as, j1, j2, j3⟩ := reads_seeK ok hx f kv hp
    rw [toPy]
    exact ⟨a :: [] ++ as, .dict ho ex.1 hdat j1 j2, fun b hb => by rcases List.mem_cons.mp hb with rfl | hb; rw [e]; simp; exact j3 b (by simpa using hb)⟩
  | _, _, _, .fn _, f, _ => by rw [noFn] at f; cases f
theorem reads_seeL {P : Program} {w : World} {F : Addr → Prop} {H : Hp} {h : Heap} (ok : HOk P w H h) : ∀ {vs : List V} {ds : List Dat} {us : List Value}, SeeL F H vs ds → noFns ds = true → Vals vs us → ∃ as, ReadsAll h us (toPys ds) as ∧ ∀ a ∈ as, H a ≠ none
  | _, _, _, .nil, _, .nil => by rw [toPys]; exact ⟨[], .nil, by simp⟩
  | _, _, _, .cons x xs, f, .cons r rs => by
    rw [noFns, Bool.and_eq_true] at f
    obtain ⟨a1, h1, h2⟩ := reads_see ok x f.1 r
    obtain ⟨a2, h3, h4⟩ := reads_seeL ok xs f.2 rs
    rw [toPys]
    exact ⟨a1 ++ a2, .cons h1 h3, fun b hb => (List.mem_append.mp hb).elim (h2 b) (h4 b)⟩
theorem reads_seeK {P : Program} {w : World} {F : Addr → Prop} {H : Hp} {h : Heap} (ok : HOk P w H h) : ∀ {kvs : List (Key × V)} {kds : List (Key × Dat)} {vs : List (Key × Value)} {es : List DictEntry}, SeeK F H kvs kds → noFnK kds = true → KV kvs vs → Pairs (mixKind P w) es vs →
    ∃ as, ReadsAll h (es.map (·.key)) ((toPyK kds).map (·.1)) [] ∧ ReadsAll h (es.map (·.val)) ((toPyK kds).map (·.2)) as ∧ ∀ a ∈ as, H a ≠ none
  | _, _, _, _, .nil, _, .nil, .nil => by rw [toPyK]; exact ⟨[], .nil, .nil, by simp⟩
  | _, _, _, _, .cons (k := k) x xs, f, .cons r rs, .cons (e := e) h1 h2 hp => by
    rw [noFnK, Bool.and_eq_true] at f
    obtain ⟨r1, r2⟩ := r
    obtain ⟨a1, j1, j2⟩ := reads_see ok x f.1 (u := e.val) (by rw [h2]; exact r2)
    obtain ⟨a2, j3, j4, j5⟩ := reads_seeK ok xs f.2 rs hp
    have hk : RelV (kV k) e.key := relV_key (k := k) (by rw [show k = _ from r1]; exact h1)
    have kr : Reads h e.key (keyPy k) [] := by
      cases k with
      | inl i => obtain ⟨t, ek⟩ := (show ∃ t, e.key = Value.int i t from hk); rw [ek]; exact .int i t
      | inr z => obtain ⟨t, ek⟩ := (show ∃ t, e.key = Value.str z t from hk); rw [ek]; exact .str z t
    rw [toPyK]
    exact ⟨a1 ++ a2, ReadsAll.cons (as := []) (bs := []) kr j3, .cons j1 j4, fun b hb => (List.mem_append.mp hb).elim (j2 b) (j5 b)⟩
end
theorem entries_more {P : Program} {w : World} {h : Heap} {as as' : List Addr} {d d' : Nat} (hsub : ∀ b ∈ as, b ∈ as') (hd : d ≤ d') : ∀ {es : List DictEntry} {ts : List Str}, ReprEntriesK P w as h d es ts → ReprEntriesK P w as' h d' es ts
  | _, _, .nil => .nil
  | _, _, .cons a b r => .cons ((a.more hsub).level_le hd) ((b.more hsub).level_le hd) (entries_more hsub hd r)
/-- what a shown thing asks -/
def shw (d : Dat) : Prop := (toPy d).showable = true ∧ (toPy d).shown.length ≤ sizeLine ∧ (toPy d).depth ≤ 100 ∧ noFn d = true
mutual
theorem reprK_see {P : Program} {w : World} {F : Addr → Prop} {H : Hp} {h : Heap} (ok : HOk P w H h) : ∀ {v : V} {d : Dat} {u : Value}, See F H v d → noFn d = true → (toPy d).showable = true → (toPy d).shown.length ≤ sizeLine → RelV v u → ∃ bs, ReadAtMost h (toPy d).depth bs ∧ ReprK P w bs h (toPy d).depth u (toPy d).shown
  | _, _, u, .non, _, _, _, r => by
    obtain rfl : u = Value.none := r
    exact ⟨[], (fun _ h => nomatch h), by rw [toPy, PyData.shown]; exact .of_is ReprIs.none _ _ _⟩
  | _, _, u, .bl b, _, _, _, r => by
    obtain rfl : u = Value.bool b := r
    exact ⟨[], (fun _ h => nomatch h), by rw [toPy, PyData.shown]; exact .of_is (ReprIs.bool b) _ _ _⟩
  | _, _, u, .int i, _, s1, _, r => by
    obtain ⟨t, rfl⟩ := (show ∃ t, u = Value.int i t from r)
    rw [toPy, PyData.showable] at s1
    exact ⟨[], (fun _ h => nomatch h), by rw [toPy, PyData.shown]; exact .of_is (ReprIs.int t (by simpa using s1)) _ _ _⟩
  | _, _, u, .str z, _, _, s2, r => by
    obtain ⟨t, rfl⟩ := (show ∃ t, u = Value.str z t from r)
    rw [toPy, PyData.shown] at s2
    exact ⟨[], (fun _ h => nomatch h), by rw [toPy, PyData.shown]; exact .of_is (ReprIs.str z t s2) _ _ _⟩
  | _, _, u, .lst (a := a) (xs := xs) (ds := ds) e hx, f, s1, s2, r => by
    have whole := reads_see ok (See.lst e hx) f r
    obtain rfl : u = Value.ref a := r
    obtain ⟨z, its, n, rr, g⟩ := (show ObjOk P w H h a (.lst xs) from ok a _ e)
    rw [noFn] at f
    rw [toPy, PyData.showable] at s1
    rw [toPy, PyData.shown] at s2
    obtain ⟨as, whole, _⟩ := whole
    rw [toPy] at whole
    obtain ⟨bs, hb, hk⟩ := reprK_seeL ok hx f s1 (fun t ht => Nat.le_trans (listText_mem_le ht) s2) rr
    have hna : a ∉ bs := not_mem_of_deeper whole (by simp only [PyData.depth]; omega) hb
    rw [toPy, PyData.shown]
    refine ⟨a :: bs, ReadAtMost.cons whole (by simp only [PyData.depth]; omega) hb, ?_⟩
    simp only [PyData.depth]
    cases its with
    | nil =>
      cases rr
      cases hx
      rw [toPys, PyData.shownAll, listText_nil]
      exact ReprK.listEmpty g rfl rfl
    | cons x l => exact ReprK.list g rfl rfl hna (by simpa using hk.length_eq) (fun i y e => hk.item i y (by simpa using e))
  | _, _, u, .tup (a := a) (xs := xs) (ds := ds) e hx, f, s1, s2, r => by
    have whole := reads_see ok (See.tup e hx) f r
    obtain rfl : u = Value.ref a := r
    obtain ⟨z, its, rr, o, h1, h2, n, h3⟩ := (show ObjOk P w H h a (.tup xs) from ok a _ e)
    rw [noFn] at f
    rw [toPy, PyData.showable] at s1
    rw [toPy, PyData.shown] at s2
    obtain ⟨as, whole, _⟩ := whole
    rw [toPy] at whole
    obtain ⟨bs, hb, hk⟩ := reprK_seeL ok hx f s1 (fun t ht => Nat.le_trans (tupleText_mem_le ht) s2) rr
    have hna : a ∉ bs := not_mem_of_deeper whole (by simp only [PyData.depth]; omega) hb
    rw [toPy, PyData.shown]
    refine ⟨a :: bs, ReadAtMost.cons whole (by simp only [PyData.depth]; omega) hb, ?_⟩
    simp only [PyData.depth]
    exact ReprK.tuple h1 h2 h3 hna (by simpa using hk)
  | _, _, u, .dct (a := a) (kds := kds) e hx, f, s1, s2, r => by
    have whole := reads_see ok (See.dct e hx) f r
    obtain rfl : u = Value.ref a := r
    obtain ⟨_, hsys, vs, kv, o, es, ep, ho, ex, hdat, _, hp, _⟩ := dk_of ok e
    rw [noFn] at f
    rw [toPy, PyData.showable] at s1
    rw [toPy, PyData.shown] at s2
    obtain ⟨as, whole, _⟩ := whole
    rw [toPy] at whole
    obtain ⟨bs, hb, hk⟩ := reprK_seeK ok hx f s1 (fun t ht => Nat.le_trans (dictText_mem_le ht) s2) kv hp
    have hna : a ∉ bs := not_mem_of_deeper whole (by simp only [PyData.depth]; omega) hb
    rw [toPy, PyData.shown]
    refine ⟨a :: bs, ReadAtMost.cons whole (by simp only [PyData.depth]; omega) hb, ?_⟩
    simp only [PyData.depth]
    exact ReprK.dict ho ex.1 hdat hsys hna hk
  | _, _, _, .fn _, f, _, _, _ => by rw [noFn] at f; cases f
theorem reprK_seeL {P : Program} {w : World} {F : Addr → Prop} {H : Hp} {h : Heap} (ok : HOk P w H h) : ∀ {vs : List V} {ds : List Dat} {us : List Value}, SeeL F H vs ds → noFns ds = true → PyData.showableAll (toPys ds) = true → (∀ t ∈ PyData.shownAll (toPys ds), t.length ≤ sizeLine) → Vals vs us → ∃ bs, ReadAtMost h (PyData.depthAll (toPys ds)) bs ∧ ReprAllK P w bs h (PyData.depthAll (toPys ds)) us (PyData.shownAll (toPys ds))
  | _, _, _, .nil, _, _, _, .nil => ⟨[], (fun _ h => nomatch h), by rw [toPys, PyData.shownAll]; exact .nil⟩
  | _, _, _, .cons (d := d) (ds := ds) x xs, f, s1, s2, .cons r rs => by
    rw [noFns, Bool.and_eq_true] at f
    rw [toPys, PyData.showableAll, Bool.and_eq_true] at s1
    rw [toPys, PyData.shownAll] at s2
    obtain ⟨b1, hb1, k1⟩ := reprK_see ok x f.1 s1.1 (s2 _ (by simp)) r
    obtain ⟨b2, hb2, k2⟩ := reprK_seeL ok xs f.2 s1.2 (fun t ht => s2 t (by simp [ht])) rs
    rw [toPys, PyData.shownAll, PyData.depthAll]
    exact ⟨b1 ++ b2, (hb1.mono (Nat.le_max_left _ _)).append (hb2.mono (Nat.le_max_right _ _)), .cons ((k1.more fun b hb => List.mem_append_left _ hb).level_le (Nat.le_max_left _ _)) (k2.more_le (fun b hb => List.mem_append_right _ hb) (Nat.le_max_right _ _))⟩
theorem reprK_seeK {P : Program} {w : World} {F : Addr → Prop} {H : Hp} {h : Heap} (ok : HOk P w H h) : ∀ {kvs : List (Key × V)} {kds : List (Key × Dat)} {vs : List (Key × Value)} {es : List DictEntry}, SeeK F H kvs kds → noFnK kds = true → PyData.showableKv (toPyK kds) = true → (∀ t ∈ PyData.shownKv (toPyK kds), t.length ≤ sizeLine) → KV kvs vs → Pairs (mixKind P w) es vs →
    ∃ bs, ReadAtMost h (PyData.depthKv (toPyK kds)) bs ∧ ReprEntriesK P w bs h (PyData.depthKv (toPyK kds)) es (PyData.shownKv (toPyK kds))
  | _, _, _, _, .nil, _, _, _, .nil, .nil => ⟨[], (fun _ h => nomatch h), by rw [toPyK, PyData.shownKv]; exact .nil⟩
  | _, _, _, _, .cons (k := k) (d := d) x xs, f, s1, s2, .cons r rs, .cons (e := e) h1 h2 hp => by
    rw [noFnK, Bool.and_eq_true] at f
    rw [toPyK, PyData.showableKv, Bool.and_eq_true, Bool.and_eq_true] at s1
    rw [toPyK, PyData.shownKv] at s2
    obtain ⟨r1, r2⟩ := r
    have s0 := s2 _ (by simp : ((keyPy k).shown ++ ": " ++ (toPy d).shown) ∈ _)
    rw [strLen_append, strLen_append] at s0
    obtain ⟨b1, hb1, k1⟩ := reprK_see ok x f.1 s1.1.2 (by omega) (u := e.val) (by rw [h2]; exact r2)
    obtain ⟨b2, hb2, k2⟩ := reprK_seeK ok xs f.2 s1.2 (fun t ht => s2 t (by simp [ht])) rs hp
    have hk : RelV (kV k) e.key := relV_key (k := k) (by rw [show k = _ from r1]; exact h1)
    have kk : ∀ as n, ReprK P w as h n e.key (keyPy k).shown := by
      intro as n
      cases k with
      | inl i => obtain ⟨t, ek⟩ := (show ∃ t, e.key = Value.int i t from hk); rw [ek, keyPy, PyData.shown]; exact .of_is (ReprIs.int t (by have := s1.1.1; rw [keyPy, PyData.showable] at this; simpa using this)) _ _ _
      | inr z => obtain ⟨t, ek⟩ := (show ∃ t, e.key = Value.str z t from hk); rw [ek, keyPy, PyData.shown]; exact .of_is (ReprIs.str z t (by have h9 : (keyPy (.inr z)).shown.length ≤ sizeLine := (by omega); simpa only [keyPy, PyData.shown] using h9)) _ _ _
    have kd : (keyPy k).depth = 0 := by cases k <;> rfl
    rw [toPyK, PyData.shownKv, PyData.depthKv]
    refine ⟨b1 ++ b2, (hb1.mono (by omega)).append (hb2.mono (by omega)), .cons (kk _ _) ((k1.more fun b hb => List.mem_append_left _ hb).level_le (by omega)) (entries_more (fun b hb => List.mem_append_right _ hb) (by omega) k2)⟩
end
def rReprB : List V → Hp → VK → Prop := fun xs H Q => ∃ (F : Addr → Prop) (v : V) (d : Dat), xs = [v] ∧ See F H v d ∧ isSq d = true ∧ items d ≠ [] ∧ shw d ∧ Q (.str (toPy d).shown) H
theorem call_reprB {X : Cx} (hA : X.A.guards = some []) (hu : X.A.units + 200 < cLine) : CallR X (.builtin "repr") rReprB := by
  intro pins s σ H xs us Q I r h
  obtain ⟨F, v, d, rfl, hs, hq, hne, ⟨s1, s2, s3, f⟩, qq⟩ := h
  obtain ⟨u, rfl, rx⟩ := vals1 r
  have fin : ∀ h' u tk, (∀ b o, s.heap.get? b = some o → h'.get? b = some o) → ∃ v H', Inv X pins σ H' { s with heap := h', toks := tk } ∧ RelV v (.str (toPy d).shown u) ∧ Q v H' := fun h' u tk hk => ⟨.str _, H, I.kept (t' := tk) hk, ⟨u, rfl⟩, qq⟩
  cases hs with
  | @lst a vs ds e hx =>
    have whole := reads_see I.hok (See.lst e hx) f rx
    obtain rfl : u = Value.ref a := rx
    obtain ⟨z, its, n, rr, g⟩ := (show ObjOk X.prog X.w H s.heap a (.lst vs) from I.hok a _ e)
    rw [noFn] at f
    rw [toPy, PyData.showable] at s1
    rw [toPy, PyData.shown] at s2
    rw [toPy] at s3
    rw [toPy, PyData.shown] at fin
    obtain ⟨as, whole, _⟩ := whole
    rw [toPy] at whole
    obtain ⟨bs, hb, hk⟩ := reprK_seeL I.hok hx f s1 (fun t ht => Nat.le_trans (listText_mem_le ht) s2) rr
    have hna : a ∉ bs := not_mem_of_deeper whole (by simp only [PyData.depth]; omega) hb
    simp only [PyData.depth] at s3
    cases its with
    | nil =>
      cases rr
      cases hx
      exact absurd rfl hne
    | cons x l =>
      refine call_repr_slot (by omega) ⟨_, g, rfl⟩ PySem.F.slot_list_repr.toG ?_
      refine call_list_reprK g rfl rfl hna (by simpa using hk.length_eq) (fun i y e => hk.item i y (by simpa using e)) (g := []) hA (fun b _ => Clear.nil b) (by show X.A.units + 1 + _ < cLine; omega) (fun _ _ e => e) (fun h' u tk hk => ⟨_, _, rfl, fin h' u tk hk⟩) s2
  | @tup a vs ds e hx =>
    have whole := reads_see I.hok (See.tup e hx) f rx
    obtain rfl : u = Value.ref a := rx
    obtain ⟨z, its, rr, o, h1, h2, n, h3⟩ := (show ObjOk X.prog X.w H s.heap a (.tup vs) from I.hok a _ e)
    rw [noFn] at f
    rw [toPy, PyData.showable] at s1
    rw [toPy, PyData.shown] at s2
    rw [toPy] at s3
    rw [toPy, PyData.shown] at fin
    obtain ⟨as, whole, _⟩ := whole
    rw [toPy] at whole
    obtain ⟨bs, hb, hk⟩ := reprK_seeL I.hok hx f s1 (fun t ht => Nat.le_trans (tupleText_mem_le ht) s2) rr
    have hna : a ∉ bs := not_mem_of_deeper whole (by simp only [PyData.depth]; omega) hb
    simp only [PyData.depth] at s3
    refine call_repr_slot (by omega) ⟨_, h1, h2⟩ PySem.F.slot_tuple_repr ?_
    exact call_tuple_reprK h1 h2 h3 hna (by simpa using hk) (g := []) hA (fun b _ => Clear.nil b) (by show X.A.units + 1 + _ < cLine; omega) (fun _ _ e => e) (fun h' u tk hk => ⟨_, _, rfl, fin h' u tk hk⟩) s2
  | non => cases hq
  | bl b => cases hq
  | int i => cases hq
  | str z => cases hq
  | dct _ _ => cases hq
  | fn _ => cases hq
end K8

set_option Elab.async false
set_option linter.all false
set_option maxRecDepth 100000
set_option maxHeartbeats 4000000
namespace K8
open PySem PySem.Spec PyProof.Rows L2 M8
/-! how long the text of a handed body is, at most -/
theorem sum_le {B : Nat} : ∀ {l : List Str}, (∀ t ∈ l, t.length ≤ B) → (l.map (·.length)).sum ≤ B * l.length
  | [], _ => by simp
  | t :: l, h => by
    have h1 := h t (by simp)
    have h2 := sum_le (l := l) fun x hx => h x (by simp [hx])
    rw [List.map_cons, List.sum_cons, List.length_cons, Nat.mul_succ]
    omega
theorem int_le {i : Int} {k : Nat} (hk : 0 < k) (h : i.natAbs < 10 ^ k) : (Str.ofString (toString i)).length ≤ k + 1 := by
  rw [PySem.ofString_length]; exact int_text_length_le10 hk h
theorem pool_repr : ∀ n ∈ ("zero0" : Str) :: pool, (reprText n).length ≤ 20 := by decide +kernel
theorem log_ok {i : Int} (h : i.natAbs ≤ 10000000000000000) : i.natAbs.log2 < 1920 := by
  by_cases z : i.natAbs = 0
  · rw [z]; decide
  · exact Nat.lt_trans ((Nat.log2_lt z).mpr (show i.natAbs < 2 ^ 60 by omega)) (by decide)
structure Sh (T k : Nat) (d : Dat) : Prop where
  s : (toPy d).showable = true
  l : (toPy d).shown.length ≤ T
  k : (toPy d).depth ≤ k
  f : noFn d = true
theorem Sh.up {T T' k k' : Nat} {d : Dat} (h : Sh T k d) (h1 : T ≤ T') (h2 : k ≤ k') : Sh T' k' d := ⟨h.s, Nat.le_trans h.l h1, Nat.le_trans h.k h2, h.f⟩
theorem sh_str {z : Str} (h : (reprText z).length ≤ 20) (k : Nat) : Sh 20 k (.str z) := ⟨rfl, h, Nat.zero_le _, rfl⟩
theorem sh_int {i : Int} (h : i.natAbs ≤ 10000000000000000) (k : Nat) : Sh 30 k (.int i) := ⟨by rw [toPy, PyData.showable]; exact decide_eq_true (log_ok h), by rw [toPy, PyData.shown]; have := int_le (i := i) (k := 20) (by decide) (by omega); omega, Nat.zero_le _, rfl⟩
theorem sh_all {T k : Nat} : ∀ {ds : List Dat}, (∀ d ∈ ds, Sh T k d) → PyData.showableAll (toPys ds) = true ∧ (∀ t ∈ PyData.shownAll (toPys ds), t.length ≤ T) ∧ PyData.depthAll (toPys ds) ≤ k ∧ noFns ds = true ∧ (PyData.shownAll (toPys ds)).length = ds.length
  | [], _ => by rw [toPys, PyData.showableAll, PyData.shownAll, PyData.depthAll, noFns]; simp
  | d :: ds, h => by
    have h1 := h d List.mem_cons_self
    obtain ⟨j1, j2, j3, j4, j5⟩ := sh_all (ds := ds) fun c hc => h c (List.mem_cons_of_mem _ hc)
    rw [toPys, PyData.showableAll, PyData.shownAll, PyData.depthAll, noFns, h1.s, j1, h1.f, j4]
    refine ⟨rfl, fun t ht => ?_, ?_, rfl, by rw [List.length_cons, List.length_cons, j5]⟩
    · rcases List.mem_cons.mp ht with rfl | ht
      · exact h1.l
      · exact j2 t ht
    · have := h1.k; omega
theorem sh_sq {T k : Nat} {d : Dat} (hq : isSq d = true) (h : ∀ x ∈ items d, Sh T k x) : Sh (T * (items d).length + 2 * (items d).length + 3) (k + 1) d := by
  cases d with
  | lst ds =>
    obtain ⟨j1, j2, j3, j4, j5⟩ := sh_all (ds := ds) h
    have := listText_len_le (PyData.shownAll (toPys ds))
    have := sum_le j2
    refine ⟨by rw [toPy, PyData.showable]; exact j1, ?_, by rw [toPy, PyData.depth]; omega, by rw [noFn]; exact j4⟩
    rw [toPy, PyData.shown]
    show _ ≤ T * ds.length + 2 * ds.length + 3
    rw [j5] at *
    omega
  | tup ds =>
    obtain ⟨j1, j2, j3, j4, j5⟩ := sh_all (ds := ds) h
    have := tupleText_len_le (PyData.shownAll (toPys ds))
    have := sum_le j2
    refine ⟨by rw [toPy, PyData.showable]; exact j1, ?_, by rw [toPy, PyData.depth]; omega, by rw [noFn]; exact j4⟩
    rw [toPy, PyData.shown]
    show _ ≤ T * ds.length + 2 * ds.length + 3
    rw [j5] at *
    omega
  | _ => cases hq
structure ST (ts : Tst) : Prop where
  len : (coef ts).length ≤ 5
  c : ∀ p ∈ coef ts, p.1 ∈ ("zero0" : Str) :: pool ∧ p.2.natAbs ≤ 1000000
  k : (kst ts).natAbs ≤ 10000000000000000
  m : mOk ts
theorem toPyK_cD : ∀ c : Coef, toPyK (cD c) = c.map fun p => (PyData.str p.1, PyData.int p.2)
  | [] => by show toPyK [] = []; rw [toPyK]
  | p :: c => by
    show toPyK ((.inr p.1, .int p.2) :: cD c) = _
    rw [toPyK, toPyK_cD c]; rfl
theorem sh_dct {c : Coef} (hl : c.length ≤ 5) (hc : ∀ p ∈ c, p.1 ∈ ("zero0" : Str) :: pool ∧ p.2.natAbs ≤ 1000000) : Sh 300 1 (.dct (cD c)) := by
  have all : ∀ c : Coef, (∀ p ∈ c, p.1 ∈ ("zero0" : Str) :: pool ∧ p.2.natAbs ≤ 1000000) → PyData.showableKv (c.map fun p => (PyData.str p.1, PyData.int p.2)) = true ∧ (∀ t ∈ PyData.shownKv (c.map fun p => (PyData.str p.1, PyData.int p.2)), t.length ≤ 50) ∧ PyData.depthKv (c.map fun p => (PyData.str p.1, PyData.int p.2)) = 0 ∧ noFnK (cD c) = true ∧ (PyData.shownKv (c.map fun p => (PyData.str p.1, PyData.int p.2))).length = c.length := by
    intro c
    induction c with
    | nil => intro _; simp [PyData.showableKv, PyData.shownKv, PyData.depthKv, cD, noFnK]
    | cons p c ih =>
      intro h
      obtain ⟨j1, j2, j3, j4, j5⟩ := ih fun q hq => h q (List.mem_cons_of_mem _ hq)
      obtain ⟨h1, h2⟩ := h p List.mem_cons_self
      rw [List.map_cons, PyData.showableKv, PyData.shownKv, PyData.depthKv, j1, j3]
      refine ⟨by rw [PyData.showable, PyData.showable, decide_eq_true (log_ok (by omega))]; rfl, fun t ht => ?_, rfl, by show noFnK ((.inr p.1, .int p.2) :: cD c) = true; rw [noFnK, noFn, j4]; rfl, by rw [List.length_cons, List.length_cons, j5]⟩
      rcases List.mem_cons.mp ht with rfl | ht
      · rw [PyData.shown, PyData.shown, strLen_append, strLen_append]
        have := pool_repr _ h1
        have := int_le (i := p.2) (k := 10) (by decide) (by omega)
        have : ((": " : String) : Str).length = 2 := rfl
        omega
      · exact j2 t ht
  obtain ⟨j1, j2, j3, j4, j5⟩ := all c hc
  refine ⟨by rw [toPy, toPyK_cD, PyData.showable]; exact j1, ?_, by rw [toPy, toPyK_cD, PyData.depth, j3]; omega, by rw [noFn]; exact j4⟩
  rw [toPy, toPyK_cD, PyData.shown]
  have := dictText_len_le (PyData.shownKv (c.map fun p => (PyData.str p.1, PyData.int p.2)))
  have := sum_le j2
  rw [j5] at *
  omega
theorem sh_term {d : Dat} {c : Coef} {k : Int} (h : IsTerm d c k) (hl : c.length ≤ 5) (hc : ∀ p ∈ c, p.1 ∈ ("zero0" : Str) :: pool ∧ p.2.natAbs ≤ 1000000) (hk : k.natAbs ≤ 10000000000000000) : Sh 700 2 d := by
  have := sh_sq (T := 300) (k := 1) h.1 (fun x hx => by
    rw [h.2] at hx
    rcases List.mem_cons.mp hx with rfl | hx
    · exact sh_dct hl hc
    · rw [show x = .int k by simpa using hx]; exact (sh_int hk 1).up (by decide) (Nat.le_refl _))
  rw [h.2] at this
  exact this.up (by show 300 * 2 + 2 * 2 + 3 ≤ 700; decide) (Nat.le_refl _)
theorem sh_tst {d : Dat} {ts : Tst} (h : IsTst d ts) (s : ST ts) : Sh 2200 3 d := by
  have s1 : (reprText "row").length ≤ 20 := by decide +kernel
  have s2 : (reprText "same").length ≤ 20 := by decide +kernel
  have s3 : (reprText "by").length ≤ 20 := by decide +kernel
  cases ts with
  | row c k =>
    obtain ⟨h1, t, h2, h3⟩ := h
    have := sh_sq (T := 700) (k := 2) h1 (fun x hx => by
      rw [h2] at hx
      rcases List.mem_cons.mp hx with rfl | hx
      · exact (sh_str s1 2).up (by decide) (Nat.le_refl _)
      · rw [show x = t by simpa using hx]; exact sh_term h3 s.len s.c s.k)
    rw [h2] at this
    exact this.up (by show 700 * 2 + 2 * 2 + 3 ≤ 2200; decide) (Nat.le_refl _)
  | same c k =>
    obtain ⟨h1, t, h2, h3⟩ := h
    have := sh_sq (T := 700) (k := 2) h1 (fun x hx => by
      rw [h2] at hx
      rcases List.mem_cons.mp hx with rfl | hx
      · exact (sh_str s2 2).up (by decide) (Nat.le_refl _)
      · rw [show x = t by simpa using hx]; exact sh_term h3 s.len s.c s.k)
    rw [h2] at this
    exact this.up (by show 700 * 2 + 2 * 2 + 3 ≤ 2200; decide) (Nat.le_refl _)
  | div m c k =>
    obtain ⟨h1, t, h2, h3⟩ := h
    have hm : 0 < m ∧ m ≤ 1000 := s.m
    have := sh_sq (T := 700) (k := 2) h1 (fun x hx => by
      rw [h2] at hx
      rcases List.mem_cons.mp hx with rfl | hx
      · exact (sh_str s3 2).up (by decide) (Nat.le_refl _)
      · rcases List.mem_cons.mp hx with rfl | hx
        · exact (sh_int (by omega) 2).up (by decide) (Nat.le_refl _)
        · rw [show x = t by simpa using hx]; exact sh_term h3 s.len s.c s.k)
    rw [h2] at this
    exact this.up (by show 700 * 3 + 2 * 3 + 3 ≤ 2200; decide) (Nat.le_refl _)
def txL : Nat → Nat | 0 => 2200 | n + 1 => 6 * txL n + 25
theorem txL_ge (n : Nat) : 2200 ≤ txL n := by
  cases n with
  | zero => exact Nat.le_refl _
  | succ n =>
    induction n with
    | zero => decide
    | succ n ih => show 2200 ≤ 6 * txL (n + 1) + 25; omega
theorem sh_isB : ∀ {n : Nat} {d : Dat} {b : Bd}, IsB n d b → AllW ST n b → Sh (txL n) (2 * n + 3) d := by
  intro n
  induction n with
  | zero =>
    intro d b h x
    match b, h, x with
    | .t ts, h, x => exact sh_tst (IsB.tst.mp h) (AllW.tst.mp x)
  | succ n ih =>
    intro d b h x
    match b, h, x with
    | .t ts, h, x => exact (sh_tst (IsB.tst.mp h) (AllW.tst.mp x)).up (txL_ge _) (by omega)
    | .neg b, ⟨h1, e, h2, h3⟩, x =>
      have s0 : (reprText "not").length ≤ 20 := by decide +kernel
      have g := txL_ge n
      have := sh_sq (T := txL n) (k := 2 * n + 3) h1 (fun y hy => by
        rw [h2] at hy
        rcases List.mem_cons.mp hy with rfl | hy
        · exact (sh_str s0 _).up (by omega) (Nat.le_refl _)
        · rw [show y = e by simpa using hy]; exact ih h3 x)
      rw [h2] at this
      exact this.up (by show txL n * 2 + 2 * 2 + 3 ≤ 6 * txL n + 25; omega) (by omega)
    | .grp w bs, ⟨h1, e, h2, h3, h4⟩, x =>
      have s0 : (reprText (kw w)).length ≤ 20 := by cases w <;> decide +kernel
      have g := txL_ge n
      have hl : (items e).length ≤ 3 := by have := h4.len; have := x.1; omega
      have he := sh_sq (T := txL n) (k := 2 * n + 3) h3 (fun y hy => by
        obtain ⟨c, hc, hr⟩ := h4.mem hy
        exact ih hr (x.2 c hc))
      have hle : txL n * (items e).length ≤ txL n * 3 := Nat.mul_le_mul_left _ hl
      have he := he.up (T' := txL n * 3 + 9) (k' := 2 * n + 4) (by omega) (Nat.le_refl _)
      have := sh_sq (T := txL n * 3 + 9) (k := 2 * n + 4) h1 (fun y hy => by
        rw [h2] at hy
        rcases List.mem_cons.mp hy with rfl | hy
        · exact (sh_str s0 _).up (by omega) (Nat.le_refl _)
        · rw [show y = e by simpa using hy]; exact he)
      rw [h2] at this
      exact this.up (by show (txL n * 3 + 9) * 2 + 2 * 2 + 3 ≤ 6 * txL n + 25; omega) (by omega)
theorem txL4 {n : Nat} (h : n ≤ 4) : txL n ≤ 5000000 := by
  have : n = 0 ∨ n = 1 ∨ n = 2 ∨ n = 3 ∨ n = 4 := by omega
  rcases this with rfl | rfl | rfl | rfl | rfl <;> decide
theorem shw_isB {n : Nat} {d : Dat} {b : Bd} (hn : n ≤ 4) (h : IsB n d b) (x : AllW ST n b) : shw d := by
  have s := sh_isB h x
  exact ⟨s.s, by have := s.l; have := txL4 hn; rw [sizeLine_eq]; omega, by have := s.k; omega, s.f⟩
theorem items_isB {n : Nat} {d : Dat} {b : Bd} (h : IsB n d b) : isSq d = true ∧ items d ≠ [] := by
  refine ⟨sq_of_isB h, ?_⟩
  cases n with
  | zero =>
    match b, h with
    | .t ts, h =>
      cases ts with
      | row c k => obtain ⟨_, _, h2, _⟩ := h; rw [h2]; simp
      | same c k => obtain ⟨_, _, h2, _⟩ := h; rw [h2]; simp
      | div m c k => obtain ⟨_, _, h2, _⟩ := h; rw [h2]; simp
  | succ n =>
    match b, h with
    | .t ts, h =>
      cases ts with
      | row c k => obtain ⟨_, _, h2, _⟩ := h; rw [h2]; simp
      | same c k => obtain ⟨_, _, h2, _⟩ := h; rw [h2]; simp
      | div m c k => obtain ⟨_, _, h2, _⟩ := h; rw [h2]; simp
    | .neg _, ⟨_, _, h2, _⟩ => rw [h2]; simp
    | .grp _ _, ⟨_, _, h2, _⟩ => rw [h2]; simp
theorem all_bcW {p q : Tst → Prop} (hp : ∀ ts c', p ts → HC (coef ts) c' → q (setC c' ts)) : ∀ {n : Nat} {b b' : Bd}, BC b b' → AllW p n b → AllW q n b'
  | n, _, _, .t h, x => AllW.tst.mpr (hp _ _ (AllW.tst.mp x) h)
  | 0, _, _, .neg _, x => x.elim
  | 0, _, _, .grp _, x => x.elim
  | n + 1, .neg b, .neg b', .neg h, x => all_bcW hp (n := n) h x
  | n + 1, .grp k bs, .grp _ bs', .grp h, x => by
    have : ∀ {bs bs' : List Bd}, BCL bs bs' → (∀ b ∈ bs, AllW p n b) → (∀ b ∈ bs', AllW q n b) ∧ bs'.length = bs.length := by
      intro bs
      induction bs with
      | nil => intro bs' h _; cases h; exact ⟨by simp, rfl⟩
      | cons b bs il =>
        intro bs' h hx
        cases h with
        | cons h1 h2 =>
          obtain ⟨j1, j2⟩ := il h2 fun c hc => hx c (List.mem_cons_of_mem _ hc)
          refine ⟨fun c hc => ?_, by rw [List.length_cons, List.length_cons, j2]⟩
          rcases List.mem_cons.mp hc with rfl | hc
          · exact all_bcW hp (n := n) h1 (hx b List.mem_cons_self)
          · exact j1 c hc
    obtain ⟨j1, j2⟩ := this h x.2
    exact ⟨by have := x.1; omega, j1⟩
/-- all that is known of a drawn test -/
structure DT (ns : List Str) (M : Nat) (ts : Tst) : Prop where
  b : BT ns ts
  k : (kst ts).natAbs ≤ 10000000000000000
  m : mle M ts
theorem st_hc {ns : List Str} {M : Nat} {ts : Tst} {c' : Coef} (hns : Nms ns) (h : DT ns M ts) (hc : HC (coef ts) c') : ST (setC c' ts) := by
  obtain ⟨x1, x2, x3⟩ := bt_hand hns h.b
  obtain ⟨h1, _, h3, h4⟩ := hc_keys hc x2 x3
  refine ⟨by rw [coef_setC]; omega, fun p hp => ?_, by rw [kst_setC]; exact h.k, mOk_setC h.b.2.1⟩
  rw [coef_setC] at hp
  rcases h4 p hp with hp | rfl
  · exact ⟨List.mem_cons_of_mem _ (hns.mem _ (h.b.1.sub _ (List.mem_map.mpr ⟨p, hp, rfl⟩))), by have := h.b.1.far p hp; omega⟩
  · exact ⟨List.mem_cons_self, by decide⟩
theorem AllW.imp {p q : Tst → Prop} (h : ∀ ts, p ts → q ts) : ∀ {n : Nat} {b : Bd}, AllW p n b → AllW q n b
  | 0, .t _, x => h _ x
  | 0, .neg _, x => x.elim
  | 0, .grp _ _, x => x.elim
  | _ + 1, .t _, x => h _ x
  | n + 1, .neg b, x => AllW.imp h (n := n) (b := b) x
  | n + 1, .grp _ bs, x => ⟨x.1, fun b hb => AllW.imp h (n := n) (x.2 b hb)⟩
theorem dt_of {ns : List Str} {g : Int} {ts : Tst} (h : TstIn ns g ts) (g1 : g ≤ 1000000) : DT ns 6 ts :=
  ⟨⟨term_up h.t g1, h.m, by have := h.m6; cases ts <;> first | trivial | (show _ ≤ (60 : Int); have h6 : _ ≤ (6 : Int) := this; omega)⟩, by have := h.k; omega, h.m6⟩
end K8

set_option Elab.async false
set_option linter.all false
set_option maxRecDepth 100000
set_option maxHeartbeats 4000000
namespace K8
open PySem PySem.Spec PyProof.Rows L2 M8
theorem IsB.up1 : ∀ {n : Nat} {d : Dat} {b : Bd}, IsB n d b → IsB (n + 1) d b
  | n, _, .t _, h => IsB.tst.mpr (IsB.tst.mp h)
  | 0, _, .neg _, h => h.elim
  | 0, _, .grp _ _, h => h.elim
  | n + 1, _, .neg b, ⟨h1, e, h2, h3⟩ => ⟨h1, e, h2, IsB.up1 h3⟩
  | n + 1, _, .grp _ _, ⟨h1, e, h2, h3, h4⟩ => ⟨h1, e, h2, h3, h4.imp fun _ _ h => IsB.up1 h⟩
theorem IsB.up {n m : Nat} {d : Dat} {b : Bd} (l : n ≤ m) (h : IsB n d b) : IsB m d b := by
  obtain ⟨j, rfl⟩ := Nat.le.dest l
  induction j with
  | zero => exact h
  | succ j ih => exact IsB.up1 (ih (by omega))
def spTurnG (K : PySem.W.Frag) (wb : Bool) : Sp := fun vs H Q _ => ∃ v d b, vs = [v] ∧ SeeF K H v d ∧ IsB 5 d b ∧ AllT GoodT 5 b ∧ ∀ u H', NewB H H' u (plainB wb b) → Q u H'
theorem pe_turn {X : Cx} {C : Addr} {x : Str} {wb : Bool} {e : Expr} {te : TE} {p pos : Pos} (O : Ok X.prog X.w X.K X.mg X.base (L2.CX X.prog X.w) 12 x ["body"] (spTurnB X.K C wb 5)) (hr : Room 12 X.A) (hg : Gl X x) (he : PE X e te)
    (hdb : (x == ("__debug__" : Str)) = false := by decide) (hs : starEach [e] X.env = (false, eval e X.env) :: starEach [] X.env := by rfl) : PE X (.Call (.Name x p) [e] [] pos) (tC0 (spTurnG X.K wb) (tCons te tNil)) := by
  obtain ⟨f, fd, hm, hk, b, F⟩ := O.ex
  have hp : Passes (L2.CX X.prog X.w) X E0 := fun pins σ H s e s' I h => by
    obtain ⟨_, _, _, _, _, _, _, _, _, _, _, _, z⟩ := h
    exact z.elim
  have F' := F.imp (sp' := spTurnG X.K wb) (fun vs H Q E h => by
    obtain ⟨v, d, b, e1, h1, h2, h3, h4⟩ := h
    exact ⟨v, d, e1, h1, .inl ⟨b, h2, h3, h4⟩⟩)
  have h := pe_call (p := p) (pos := pos) F' hr hg hm hk b .nil hp (pa_cons he pa_nil hs) hdb hs
  refine ⟨fun pins s σ H Q I q => h.run pins s σ H Q I ?_⟩
  have e1 : (fun (vs : List V) (H1 : Hp) => spTurnG X.K wb (vs ++ []) H1 Q E0) = fun vs H1 => spTurnG X.K wb vs H1 Q E0 := by funext vs H1; rw [List.append_nil]
  show tCons te tNil σ H fun vs H1 => spTurnG X.K wb (vs ++ []) H1 Q E0
  rw [e1]
  exact q
/-- plain(body = e), denied(body = e) -/
theorem pe_turnK {X : Cx} {C : Addr} {x : Str} {st : Stmt} {wb : Bool} {e : Expr} {te : TE} {p kp pos : Pos} (a : At X.K X.mg x st ["body"]) (FT : ∀ {f : Addr} {fd : FuncData}, Fun X.K x x st f fd → FnOk X.prog X.w X.K X.mg X.base (L2.CX X.prog X.w) 12 f fd ["body"] (spTurnB X.K C wb 5)) (hr : Room 12 X.A) (hg : Gl X x) (he : PE X e te)
    (bt : ∀ {f : Addr} {fd : FuncData}, Fun X.K x x st f fd → ∀ (s : Shared) (u : Value), BindsTo s fd ⟨[], [("body", u)]⟩ [("body", u)]) (hdb : (x == ("__debug__" : Str)) = false := by decide) :
    PE X (.Call (.Name x p) [] [⟨some "body", e, kp⟩] pos) (tC0 (spTurnG X.K wb) (tCons te tNil)) := by
  obtain ⟨f, fd, hm, F, b⟩ := a.ex
  have G := (FT F).imp (sp' := spTurnG X.K wb) (fun vs H Q E h => by
    obtain ⟨v, d, b, e1, h1, h2, h3, h4⟩ := h
    exact ⟨v, d, e1, h1, .inl ⟨b, h2, h3, h4⟩⟩)
  have bt := bt F
  have hp : Passes (L2.CX X.prog X.w) X E0 := fun pins σ H s e s' I h => by
    obtain ⟨_, _, _, _, _, _, _, _, _, _, _, _, z⟩ := h
    exact z.elim
  constructor
  intro pins s σ H Q I h
  apply wpAny_Call_Name_kw
  apply ld_glob I hg hm (hd := hdb)
  have step : ∀ us s1 vs H1, Inv X pins σ H1 s1 → Vals vs us → spTurnG X.K wb vs H1 Q E0 → wpAny (model X.prog X.w) X.A (call (.ref f) [] ([("body" : Str)].zip us)) (EP X pins σ Q) X.xe s1 := by
    intro us s1 vs H1 I1 r q
    obtain ⟨v, d, t, rfl, q2⟩ := q
    obtain ⟨u, rfl, ru⟩ := vals1 r
    apply wpAny_call
    apply codeAny_mono (G.run X.A X.stack s1 H1 ⟨[], [("body", u)]⟩ [u] [v] Q E0 hr I1.env0 (bt s1 u) (.cons ru .nil) ⟨v, d, t, rfl, q2⟩)
    intro r2 s2 hq
    match r2, hq with
    | .error e, hq => exact hp pins σ H1 s1 e s2 I1 hq
    | .ok (.ret u), hq => exact I1.after hq
  apply PySem.W.callWith_KW0 (h₀ := X.base) I.ok.mod.kin F.kp (by rfl) _ (by rfl)
  exact thn ((pk_cons he pk_nil).run pos pins s σ H _ I h) fun us s1 ⟨vs, H1, I1, r, q⟩ => ⟨I1.kIn, step us s1 vs H1 I1 r q⟩
theorem hu200 {A : Around} {k : Nat} (hr : Room k A) : A.units + 200 < cLine := by have := hr.un; omega
theorem bt_turn {K : PySem.W.Frag} {f : Addr} {fd : FuncData} (F : Fun K "plain" "plain" s_plain f fd) (s : Shared) (u : Value) : BindsTo s fd ⟨[], [("body", u)]⟩ [("body", u)] := by
  obtain ⟨oc, od, kV, doc, pm, an, cdv, ct, osl, rfl, lk, hcd⟩ := F.ex
  exact BindsTo.of_eq (by rfl)
theorem bt_turnD {K : PySem.W.Frag} {f : Addr} {fd : FuncData} (F : Fun K "denied" "denied" s_denied f fd) (s : Shared) (u : Value) : BindsTo s fd ⟨[], [("body", u)]⟩ [("body", u)] := by
  obtain ⟨oc, od, kV, doc, pm, an, cdv, ct, osl, rfl, lk, hcd⟩ := F.ex
  exact BindsTo.of_eq (by rfl)
end K8

set_option Elab.async false
set_option linter.all false
set_option maxRecDepth 100000
set_option maxHeartbeats 4000000
namespace K8
open PySem PySem.Spec PyProof.Rows L2 M8
theorem getS {ns : List Str} {i : Nat} {v : V} (h : (ns.map V.str)[i]? = some v) : ∃ n, ns[i]? = some n ∧ v = .str n := by
  rw [List.getElem?_map] at h
  cases e : ns[i]? with
  | none => rw [e] at h; cases h
  | some n => rw [e] at h; exact ⟨n, rfl, (Option.some.inj h).symm⟩
section
variable {P : Program} {w : World} {K : PySem.W.Frag} {mg : Str → Option Value} {base : Heap}
/-- numbers of just these names, no farther than this -/
structure Nums (ns : List Str) (far : Int) (c : Coef) : Prop where
  ks : keys c = ns
  far : ∀ p ∈ c, -far ≤ p.2 ∧ p.2 ≤ far
def spNums : Sp := fun vs H Q _ => ∃ a l ns far B, vs = [.ref a, .ref l, .int far] ∧ Spr H a B ∧ B + 100 < lot ∧ H l = some (.lst (ns.map V.str)) ∧ l ≠ a ∧ ns.Nodup ∧ ns.length ≤ 4 ∧ 0 < far ∧ far < 1000000 ∧
  ∀ p c H', H p = none → Exo [a] H H' → Spr H' a (B + 4) → Nums ns far c → H' p = some (.dK (cK c)) → Q (.ref p) H'
abbrev s__law_w_numbers : Stmt := top 54
theorem sc__law_w_numbers : FnScope ["spring", "names", "far", "name"] ["spring", "names", "far"] (defScope s__law_w_numbers) := ⟨rfl, rfl, rfl, by decide +kernel, rfl, by decide +kernel, by decide +kernel⟩
theorem ok__law_w_numbers (T : Txt K mg) (a : At K mg "_law_w_numbers" s__law_w_numbers ["spring", "names", "far"]) (O_law_draw : Ok P w K mg base CX0 1 "_law_draw" ["spring", "many"] spDraw) : Ok P w K mg base CX0 2 "_law_w_numbers" ["spring", "names", "far"] spNums := a.ok fun f fd F => by
  refine F.ok sc__law_w_numbers (fun vs H Q E h => ?_) (fun cdv A outer s H vs Q E hr h => ?_)
  · obtain ⟨a, l, ns, far, B, rfl, _⟩ := h; rfl
  · obtain ⟨a, l, ns, far, B, rfl, hs, hB, hl, hla, hnd, h4, f0, f1, q⟩ := h
    refine ⟨_, (pss_one (ps_ret (pe_callTy (call_dictC (K := K) rfl rfl) rfl T.n_dict rfl (pa_cons (pe_lc (own := [("name", 3)]) (g := gName 3) (tt := tYes) rfl sc__law_w_numbers.nd (pi_list (pv 1)) (blkOk_by (N := ["spring", "names", "far", "name"]) (sc := defScope s__law_w_numbers) (by decide +kernel)) (fun _ _ _ _ _ => (pg_name (i := 3) sc__law_w_numbers.nd rfl (Or.inl rfl))) (fun _ _ _ _ _ => pts_nil) (fun _ _ _ _ _ => (pe_tup (pa_cons (pv 3) (pa_cons (pe_op op_sub (pe_callO O_law_draw (hr.mono (by decide)) rfl (pa_cons (pv 0) (pa_cons (pe_op op_add (pe_op op_mul pe_int (pv 2)) pe_int) pa_nil))) (pv 2)) pa_nil))))) pa_nil)))), ?_⟩
    dsimp only [tNext, tRet, tCB, tCons, tNil, gName]
    refine tLc_of ?_
    refine ⟨_, rfl, l, rfl, ⟨_, SqL.of hl⟩, ?_⟩
    refine lc_pairs walk_list [a] (fun i H' => Spr H' a (B + i)) (fun i c => keys c = ns.take i ∧ ∀ p ∈ c, -far ≤ p.2 ∧ p.2 ≤ far) (by rw [List.length_map]; omega) (fun H1 e => SqL.of (e.at1 hla hl)) (fun i H1 H2 hb h => h.at (hb a (by simp))) (fun i H1 h b hb => by
      rw [show b = a by simpa using hb]; exact h.ne) hs ⟨rfl, by simp⟩ ?_ ?_
    · rintro i x H1 H2 c R R' hi e m ⟨hk, hf⟩ ⟨rfl, hx⟩ k k'
      rw [List.length_map] at hi
      obtain ⟨n, hn, rfl⟩ := getS hx
      refine ⟨rfl, yesT ?_⟩
      refine ⟨_, rfl, _, rfl, _, rfl, _, _, rfl, rfl, .inl ⟨by decide, by decide⟩, _, _, rfl, rfl, a, _, _, rfl, m, by omega, by omega, by omega, fun d H3 d0 d1 e3 s3 => ?_⟩
      refine ⟨_, rfl, _, _, rfl, rfl, by show 2 ≤ sizeLine; decide, fun p hp => ?_⟩
      have npa : p ≠ a := fun z => s3.ne (by rw [← z]; exact hp)
      refine k p n (d - far) _ (e3.free (by simpa using npa) hp) (e3.mut (e3.free (by simpa using npa) hp)) (s3.at (upd_ne npa.symm)) ⟨?_, ?_⟩ upd_same
      · rw [keys_app, hk, List.take_add_one, hn]; rfl
      · intro q hq
        rcases List.mem_append.mp hq with hq | hq
        · exact hf q hq
        · rw [show q = (n, d - far) by simpa using hq]; exact ⟨by show -far ≤ d - far; omega, by show d - far ≤ far; omega⟩
    · rintro D ps c H1 hD e m ⟨hk, hf⟩ hDH hp
      rw [List.length_map, List.take_length] at hk
      refine ⟨D, ps, _, rfl, hDH, pairs_cK hp, cK_nodup (by rw [hk]; exact hnd), fun r hr => ?_⟩
      have nra : r ≠ a := fun z => m.ne (by rw [← z]; exact hr)
      refine q r c _ (e.free (by simpa using nra) hr) (e.mut (e.free (by simpa using nra) hr)) ((m.at (upd_ne nra.symm)).mono ?_) ⟨hk, hf⟩ upd_same
      rw [List.length_map]; omega
end
end K8

set_option Elab.async false
set_option linter.all false
set_option maxRecDepth 100000
set_option maxHeartbeats 4000000
namespace K8
open PySem PySem.Spec PyProof.Rows L2 M8
/-! a promise where nothing around is being shown -/
section
variable {P : Program} {w : World} {K : PySem.W.Frag} {mg : Str → Option Value} {base : Heap}
structure OkG (P : Program) (w : World) (K : PySem.W.Frag) (mg : Str → Option Value) (base : Heap) (k : Nat) (x : Str) (ps : List Str) (sp : Sp) : Prop where
  ex : ∃ f fd, mg x = some (.ref f) ∧ PySem.W.keepIn K (.ref f) = true ∧ L2.Binds K fd ps [] ∧ (∀ vs H Q E, sp vs H Q E → vs.length = ps.length) ∧
    ∀ (A : Around) (outer : List Env) (s : Shared) (H : Hp) (args : Args) (us : List Value) (vs : List V) (Q : VK) (E : XK), A.guards = some [] → Room k A → Env0 P w K mg base A outer s H → BindsTo s fd args (ps.zip us) → Vals vs us → sp vs H Q E →
      codeAny (model P w) A (.call (.ref f) args) (CR CX0 outer P w H s Q E) s
theorem OkG.of {x : Str} {st : Stmt} {N ps : List Str} {k : Nat} {sp : Sp} (a : At K mg x st ps) (S : FnScope N ps (defScope st)) (len : ∀ vs H Q E, sp vs H Q E → vs.length = ps.length)
    (hbody : ∀ (f : Addr) (cdv : Value) (A : Around) (outer : List Env) (s : Shared) (H : Hp) (vs : List V) (Q : VK) (E : XK), A.guards = some [] → Room k (A.deeper (envOfC x (defScope st) s.heap.objs.size f cdv)) → sp vs H Q E →
      ∃ t, PSs (cxOf CX0 P w K mg base N x (defScope st) f cdv A outer s H E).nox (defBody st) t ∧ t { nx := fun _ H' => Q .non H', rt := Q } (L2.start N vs) H) : OkG P w K mg base (k + 1) x ps sp := by
  obtain ⟨f, fd, hm, F, b⟩ := a.ex
  obtain ⟨oc, od, kV, doc, pm, an, cdv, ct, osl, rfl, lk, hcd⟩ := F.ex
  refine ⟨f, _, hm, F.kp, b, len, fun A outer s H args us vs Q E hA hr e0 hb hv hs => ?_⟩
  refine LamX.run_ofS lk hcd S hr e0 hb hv (len _ _ _ _ hs) fun hr' => ?_
  obtain ⟨t, h, q⟩ := hbody f cdv A outer s H vs Q E hA hr' hs
  exact ⟨t, h.nox, q⟩
theorem pe_callG {X : Cx} {x : Str} {ps : List Str} {k : Nat} {sp : Sp} {e : Expr} {es : List Expr} {t : TA} {p pos : Pos} (O : OkG X.prog X.w X.K X.mg X.base k x ps sp) (hA : X.A.guards = some []) (hr : Room k X.A) (hg : Gl X x) (ha : PA X (e :: es) t)
    (hdb : (x == ("__debug__" : Str)) = false := by decide) (he : starEach (e :: es) X.env = (false, eval e X.env) :: starEach es X.env := by rfl) (hpl : (backTo pos (starEach es X.env)).any (·.1) = false := by rfl) : PE X (.Call (.Name x p) (e :: es) [] pos) (tC0 sp t) := by
  obtain ⟨f, fd, hm, hk, b, len, F⟩ := O.ex
  constructor
  intro pins s σ H Q I h
  apply wpAny_Call_Name_kw
  apply ld_glob I hg hm (hd := hdb)
  have step : ∀ us s1 vs H1, Inv X pins σ H1 s1 → Vals vs us → sp vs H1 Q E0 → wpAny (model X.prog X.w) X.A (call (.ref f) us) (EP X pins σ Q) X.xe s1 := by
    intro us s1 vs H1 I1 r q
    have hl : us.length = ps.length := by rw [← r.length]; exact len _ _ _ _ q
    have hb := b s1 us I1.kIn (by simpa using hl)
    rw [List.append_nil] at hb
    apply wpAny_call
    apply codeAny_mono (F X.A X.stack s1 H1 ⟨us, []⟩ us vs Q E0 hA hr I1.env0 hb r q)
    intro r2 s2 hq
    match r2, hq with
    | .error e, hq => exact (show False from hq).elim
    | .ok (.ret u), hq => exact I1.after hq
  apply PySem.W.callWith_K (h₀ := X.base) I.ok.mod.kin hk _ he hpl
  exact thn (ha.run pos pins s σ H _ I h) fun us s1 ⟨vs, H1, I1, r, q⟩ => ⟨I1.kIn, step us s1 vs H1 I1 r q⟩
end
end K8

set_option Elab.async false
set_option linter.all false
set_option maxRecDepth 100000
set_option maxHeartbeats 4000000
namespace K8
open PySem PySem.Spec PyProof.Rows L2 M8
def spBodyR : Sp := fun vs H Q _ => ∃ a l ns v b S Ds n M B, vs = [.ref a, .ref l, v] ∧ Spr H a B ∧ B + 20000000 < lot ∧ H l = some (.lst (ns.map V.str)) ∧ l ≠ a ∧ Nms ns ∧ Own H b v S Ds ∧ a ∉ S ∧ n ≤ 4 ∧ 2 ≤ M ∧ M * 3 ^ n ≤ 800 ∧ AllW (DT ns M) n b ∧
  ∀ H', Exo [a] H H' → Spr H' a (B + 18000000) → Q (.bl true) H'
theorem words_flat (l : List Str) : (l.map V.str).all flatV = true := by rw [List.all_map]; exact List.all_eq_true.mpr (fun _ _ => rfl)
theorem words_in {z : Str} {l : List Str} (h : z ∉ l) : inV (.str z) (l.map V.str) = false := by
  cases hq : inV (.str z) (l.map V.str) with
  | false => rfl
  | true =>
    exfalso
    unfold inV at hq
    simp at hq
    obtain ⟨x, hx, e⟩ := hq
    have : x = z := by simpa [eqV] using e
    exact h (this ▸ hx)
theorem dep_up1 : ∀ {n : Nat} {d : Dat}, Dep n d → Dep (n + 1) d
  | 0, .lst _, h => ⟨h.1, fun d hd => (h.2 d hd).elim⟩
  | 0, .tup _, h => ⟨h.1, fun d hd => (h.2 d hd).elim⟩
  | 0, .dct _, h => h.elim
  | 0, .non, _ => trivial | 0, .bl _, _ => trivial | 0, .int _, _ => trivial | 0, .str _, _ => trivial | 0, .fn _, _ => trivial
  | n + 1, .lst _, h => ⟨h.1, fun d hd => dep_up1 (h.2 d hd)⟩
  | n + 1, .tup _, h => ⟨h.1, fun d hd => dep_up1 (h.2 d hd)⟩
  | n + 1, .dct _, h => dep_up1 (n := n) h
  | n + 1, .non, _ => trivial | n + 1, .bl _, _ => trivial | n + 1, .int _, _ => trivial | n + 1, .str _, _ => trivial | n + 1, .fn _, _ => trivial
theorem dep_up {n m : Nat} {d : Dat} (l : n ≤ m) (h : Dep n d) : Dep m d := by
  obtain ⟨j, rfl⟩ := Nat.le.dest l
  induction j with
  | zero => exact h
  | succ j ih => exact dep_up1 (ih (by omega))
theorem dep_dct {c : Coef} (h : c.length ≤ 1000) : Dep 4 (.dct (cD c)) := by
  refine ⟨by rw [List.length_map]; unfold cD; rw [List.length_map]; exact h, fun d hd => ?_⟩
  obtain ⟨p, hp, rfl⟩ := List.mem_map.mp hd
  unfold cD at hp
  obtain ⟨q, hq, rfl⟩ := List.mem_map.mp hp
  refine ⟨by simp, fun d hd => ?_⟩
  simp only [List.mem_cons, List.not_mem_nil, or_false] at hd
  rcases hd with rfl | rfl <;> trivial
theorem dep_term {c : Coef} {k : Int} (h : c.length ≤ 1000) : Dep 5 (tDat c k) := by
  refine ⟨by simp, fun d hd => ?_⟩
  rcases List.mem_cons.mp hd with rfl | hd
  · exact dep_dct h
  · rw [show d = .int k by simpa using hd]; trivial
theorem dep_tst {ts : Tst} (h : (coef ts).length ≤ 1000) : Dep 6 (tstDat ts) := by
  cases ts with
  | row c k =>
    refine ⟨by simp, fun d hd => ?_⟩
    rcases List.mem_cons.mp hd with rfl | hd
    · trivial
    · rw [show d = tDat c k by simpa using hd]; exact dep_term h
  | same c k =>
    refine ⟨by simp, fun d hd => ?_⟩
    rcases List.mem_cons.mp hd with rfl | hd
    · trivial
    · rw [show d = tDat c k by simpa using hd]; exact dep_term h
  | div m c k =>
    refine ⟨by simp, fun d hd => ?_⟩
    rcases List.mem_cons.mp hd with rfl | hd
    · trivial
    · rcases List.mem_cons.mp hd with rfl | hd
      · trivial
      · rw [show d = tDat c k by simpa using hd]; exact dep_term h
theorem dep_bd {p : Tst → Prop} (hp : ∀ ts, p ts → (coef ts).length ≤ 1000) : ∀ {n : Nat} {b : Bd}, AllT p n b → Dep (2 * n + 6) (bdDat b)
  | n, .t ts, x => by rw [bdDat]; exact dep_up (by omega) (dep_tst (hp _ (AllT.tst.mp x)))
  | 0, .neg _, x => x.elim
  | 0, .grp _ _, x => x.elim
  | n + 1, .neg b, x => by
    rw [bdDat]
    refine ⟨by simp, fun d hd => ?_⟩
    rcases List.mem_cons.mp hd with rfl | hd
    · trivial
    · rw [show d = bdDat b by simpa using hd]; exact dep_up1 (dep_bd hp (n := n) (b := b) x)
  | n + 1, .grp w bs, x => by
    rw [bdDat, bdDats_map]
    refine ⟨by simp, fun d hd => ?_⟩
    rcases List.mem_cons.mp hd with rfl | hd
    · trivial
    · rw [show d = .lst (bs.map bdDat) by simpa using hd]
      refine ⟨by rw [List.length_map]; have := x.1; omega, fun d hd => ?_⟩
      obtain ⟨b, hb, rfl⟩ := List.mem_map.mp hd
      exact dep_bd hp (n := n) (x.2 b hb)
theorem cnt_w {p : Tst → Prop} : ∀ {n : Nat} {b : Bd}, AllW p n b → cnt b ≤ 3 ^ n
  | n, .t _, _ => Nat.one_le_pow _ _ (by decide)
  | 0, .neg _, x => x.elim
  | 0, .grp _ _, x => x.elim
  | n + 1, .neg b, x => by
    have := cnt_w (n := n) (b := b) x
    show cnt b ≤ _
    rw [Nat.pow_succ]; omega
  | n + 1, .grp _ bs, x => by
    have h := cntL_le (B := 3 ^ n) (bs := bs) fun b hb => cnt_w (n := n) (x.2 b hb)
    have h2 : 3 ^ n * bs.length ≤ 3 ^ n * 3 := Nat.mul_le_mul_left _ x.1
    show cnt.cntL bs ≤ _
    rw [Nat.pow_succ]; omega
section
variable {P : Program} {w : World} {K : PySem.W.Frag} {mg : Str → Option Value} {base : Heap}
abbrev s__law_body_right : Stmt := top 64
theorem sc__law_body_right : FnScope ["spring", "names", "body", "handed", "due", "was", "found", "k", "numbers", "is_so_v", "told", "one"] ["spring", "names", "body"] (defScope s__law_body_right) := ⟨rfl, rfl, rfl, by decide +kernel, rfl, by decide +kernel, by decide +kernel⟩
theorem okG__law_body_right (T : Txt K mg) {C : Addr} (a : At K mg "_law_body_right" s__law_body_right ["spring", "names", "body"]) (aplain : At K mg "plain" s_plain ["body"]) (FTplain : ∀ {f : Addr} {fd : FuncData}, Fun K "plain" "plain" s_plain f fd → FnOk P w K mg base (L2.CX P w) 12 f fd ["body"] (spTurnB K C true 5)) (Oplain : Ok P w K mg base (L2.CX P w) 12 "plain" ["body"] (spTurnB K C true 5))
    (adenied : At K mg "denied" s_denied ["body"]) (FTdenied : ∀ {f : Addr} {fd : FuncData}, Fun K "denied" "denied" s_denied f fd → FnOk P w K mg base (L2.CX P w) 12 f fd ["body"] (spTurnB K C false 5)) (Odenied : Ok P w K mg base (L2.CX P w) 12 "denied" ["body"] (spTurnB K C false 5))
    (O_law_w_handed : Ok P w K mg base CX0 13 "_law_w_handed" ["spring", "thing"] (spHand K (hbud 11) (preN 11) (hndN 11))) (O_law_w_plain : Ok P w K mg base CX0 8 "_law_w_plain" ["body", "is_denied"] (spPlainL 5)) (O_law_same : Ok P w K mg base CX0 22 "_law_same" ["found", "due"] (spSameG K (Dep 20))) (O_law_words : Ok P w K mg base CX0 7 "_law_words" ["body"] (spWords 5)) (O_law_dicts : Ok P w K mg base CX0 7 "_law_dicts" ["body"] (spDicts 5)) (O_law_longer : Ok P w K mg base CX0 7 "_law_longer" ["thing"] (spLonger 5)) (O_law_alone : Ok P w K mg base CX0 1 "_law_alone" ["dicts"] spAlone) (O_law_w_numbers : Ok P w K mg base CX0 2 "_law_w_numbers" ["spring", "names", "far"] spNums) (O_law_w_is_so : Ok P w K mg base CX0 7 "_law_w_is_so" ["body", "numbers"] (spIsSoB 5)) (Oholds : Ok P w K mg base CX0 12 "holds" ["body", "numbers"] (spHolds K 5)) :
    OkG P w K mg base 24 "_law_body_right" ["spring", "names", "body"] spBodyR := by
  refine OkG.of a sc__law_body_right (fun vs H Q E h => ?_) (fun f cdv A outer s H vs Q E hA0 hr h => ?_)
  · obtain ⟨a, l, ns, v, b, S, Ds, n, M, B, rfl, _⟩ := h; rfl
  · obtain ⟨a, l, ns, v, b, S, Ds, n, M, B, rfl, hs, hB, hl, hla, hns, ho, haS, hn4, hM, hM3, al, qq⟩ := h
    have hA : (A.deeper (envOfC "_law_body_right" (defScope s__law_body_right) s.heap.objs.size f cdv)).guards = some [] := hA0
    refine ⟨_, (pss_cons (ps_par (i := 3) (j := 4) rfl sc__law_body_right.nd rfl rfl (by decide) rfl rfl (pa_cons (pe_callO O_law_w_handed (hr.mono (by first | decide | omega)) rfl (pa_cons (pv 0) (pa_cons (pv 2) pa_nil))) (pa_cons (pe_lst (pa_cons (pe_callO O_law_w_plain (hr.mono (by first | decide | omega)) rfl (pa_cons (pv 2) (pa_cons pe_bl pa_nil))) (pa_cons (pe_callO O_law_w_plain (hr.mono (by first | decide | omega)) rfl (pa_cons (pv 2) (pa_cons pe_bl pa_nil))) pa_nil))) pa_nil)) rfl)
      (pss_cons (ps_par (i := 5) (j := 6) rfl sc__law_body_right.nd rfl rfl (by decide) rfl rfl (pa_cons (pe_callB (call_reprB hA (hu200 hr)) rfl T.n_repr rfl (pa_cons (pv 3) pa_nil)) (pa_cons (pe_lst (pa_cons (pe_turn Oplain (hr.mono (by omega)) rfl (pv 3)) (pa_cons (pe_turn Odenied (hr.mono (by omega)) rfl (pv 3)) pa_nil))) pa_nil)) rfl)
      (pss_cons (ps_if (PW.pt (pw_or (pt_not (pt_val (pe_callO O_law_same (hr.mono (by first | decide | omega)) rfl (pa_cons (pv 6) (pa_cons (pv 4) pa_nil))))) (pw_or1 (pt_cmpR op_ne (pe_callB (call_reprB hA (hu200 hr)) rfl T.n_repr rfl (pa_cons (pv 3) pa_nil)) (pv 5) (nomark _))))) (pss_one (ps_ret pe_bl)) pss_nil)
      (pss_cons (ps_if (pt_cmpR op_in_seq pe_str (pe_op op_cat (pe_callO O_law_words (hr.mono (by first | decide | omega)) rfl (pa_cons (pe_ix (ix_qK (K := K) rfl) (pv 6) pe_int (fun _ _ => rfl)) pa_nil)) (pe_callO O_law_words (hr.mono (by first | decide | omega)) rfl (pa_cons (pe_ix (ix_qK (K := K) rfl) (pv 6) pe_int (fun _ _ => rfl)) pa_nil))) rfl) (pss_one (ps_ret pe_bl)) pss_nil)
      (pss_cons (ps_for PassesOwn.never rfl (pi_range1 rfl T.n_range (pa_cons pe_int pa_nil)) (pg_name (i := 7) sc__law_body_right.nd rfl (Or.inl rfl)) (pss_cons (ps_set (i := 8) sc__law_body_right.nd rfl (Or.inl rfl) (pe_callO O_law_w_numbers (hr.mono (by first | decide | omega)) rfl (pa_cons (pv 0) (pa_cons (pv 1) (pa_cons pe_int pa_nil)))))
      (pss_cons (ps_set (i := 9) sc__law_body_right.nd rfl (Or.inl rfl) (pe_callO O_law_w_is_so (hr.mono (by first | decide | omega)) rfl (pa_cons (pv 2) (pa_cons (pv 8) pa_nil))))
      (pss_cons (ps_set (i := 10) sc__law_body_right.nd rfl (Or.inl rfl) (pe_lst (pa_cons (pe_callO Oholds (hr.mono (by first | decide | omega)) rfl (pa_cons (pv 2) (pa_cons (pv 8) pa_nil))) (pa_cons (pe_callO Oholds (hr.mono (by first | decide | omega)) rfl (pa_cons (pe_ix (ix_qK (K := K) rfl) (pv 6) pe_int (fun _ _ => rfl)) (pa_cons (pv 8) pa_nil))) (pa_cons (pe_callO Oholds (hr.mono (by first | decide | omega)) rfl (pa_cons (pe_ix (ix_qK (K := K) rfl) (pv 6) pe_int (fun _ _ => rfl)) (pa_cons (pv 8) pa_nil))) pa_nil)))))
      (pss_one (ps_if (pt_not (pt_val (pe_callO O_law_same (hr.mono (by first | decide | omega)) rfl (pa_cons (pv 10) (pa_cons (pe_lst (pa_cons (pv 9) (pa_cons (pv 9) (pa_cons (pe_not (pv 9)) pa_nil)))) pa_nil))))) (pss_one (ps_ret pe_bl)) pss_nil))))))
      (pss_cons (ps_if (pt_not (pt_val (pe_callO O_law_alone (hr.mono (by first | decide | omega)) rfl (pa_cons (pe_op op_cat (pe_callO O_law_dicts (hr.mono (by first | decide | omega)) rfl (pa_cons (pe_ix (ix_qK (K := K) rfl) (pv 6) pe_int (fun _ _ => rfl)) pa_nil)) (pe_callO O_law_dicts (hr.mono (by first | decide | omega)) rfl (pa_cons (pe_ix (ix_qK (K := K) rfl) (pv 6) pe_int (fun _ _ => rfl)) pa_nil))) pa_nil)))) (pss_one (ps_ret pe_bl)) pss_nil)
      (pss_cons (ps_for PassesOwn.never rfl (pi_list (pv 6)) (pg_name (i := 11) sc__law_body_right.nd rfl (Or.inl rfl)) (pss_one (ps_expr (pe_callO O_law_longer (hr.mono (by first | decide | omega)) rfl (pa_cons (pv 11) pa_nil)))))
      (pss_one (ps_ret (pe_and (pe_callO O_law_same (hr.mono (by first | decide | omega)) rfl (pa_cons (pe_lst (pa_cons (pe_turnK aplain FTplain (hr.mono (by omega)) rfl (pv 3) bt_turn) (pa_cons (pe_turnK adenied FTdenied (hr.mono (by omega)) rfl (pv 2) bt_turnD) pa_nil))) (pa_cons (pv 4) pa_nil))) (pe_one (pe_cmpR op_eq (pe_callB (call_reprB hA (hu200 hr)) rfl T.n_repr rfl (pa_cons (pv 3) pa_nil)) (pv 5) (nomark _))))))))))))), ?_⟩
    have hbd : hbud 11 = 11184808 := by decide
    have hown0 : Own (sansL [a] H) b v S Ds := ho.imp fun x hx o h => sansL_at (fun z => haS (by rw [← (show x = a by simpa using z)]; exact hx)) h
    have hW : AllW HandT n b := al.imp fun ts h => bt_hand hns h.b
    have hpre : preN 11 (bdDat b) := by
      have := preN_up (preN_bd hW) (8 - 2 * n)
      rwa [show 2 * n + 3 + (8 - 2 * n) = 11 by omega] at this
    have hG : AllT GoodT 5 b := AllT.up (by omega) (al.allT fun ts h => bt_good hns h.b)
    refine ⟨_, rfl, _, rfl, a, v, bdDat b, B, [a], rfl, hs, by rw [hbd]; omega, by simp, fun x hx => by rw [show x = a by simpa using hx]; exact hs.ne, see_own hown0, hpre, fun v' d' H1 e1 s1 see1 hr1 => ?_⟩
    rw [hbd] at s1
    obtain ⟨b', ib, bc⟩ := hand_bd (8 - 2 * n) al (by rw [show 8 - 2 * n + 2 * n + 3 = 11 by omega]; exact hr1)
    have hpl : ∀ w, plainB w b' = plainB w b := plain_bc (p := HandT) (fun _ h => h) bc hW
    have hG' : AllT GoodT 5 b' := AllT.up (by omega) (all_bc (p := DT ns M) (fun ts c' h hc => good_hc hns h.b hc) bc al)
    have hsh : shw d' := shw_isB hn4 ib (all_bcW (p := DT ns M) (fun ts c' h hc => st_hc hns h hc) bc al)
    obtain ⟨hsq, hit⟩ := items_isB ib
    have ib5 : IsB 5 d' b' := ib.up (by omega)
    have hv' : ∀ {H'}, Exo [a] H1 H' → SeeF K H' v' d' := fun e => see_sans e see1
    have o1 : Own H1 b v S Ds := ho.imp fun x hx o h => e1 x o (fun z => haS (by rw [← (show x = a by simpa using z)]; exact hx)) h
    have hWn : AllT WnT 5 b := hG.imp fun _ => GoodT.wn
    refine ⟨_, rfl, v, b, S, Ds, false, rfl, o1, hWn, fun u1 H2 nb1 => ?_⟩
    obtain ⟨T1, E1, ow1, nd1, fr1, x12⟩ := nb1
    refine ⟨_, rfl, v, b, S, Ds, true, rfl, o1.ex x12, hWn, fun u2 H3 nb2 => ?_⟩
    obtain ⟨T2, E2, ow2, nd2, fr2, x23⟩ := nb2
    refine ⟨by show 2 ≤ sizeLine; decide, fun D1 hD1 => ?_⟩
    have x34 : Ex H3 (upd H3 D1 (.lst [u1, u2])) := Ex.new hD1
    generalize hH4 : upd H3 D1 (.lst [u1, u2]) = H4 at x34
    have d4 : H4 D1 = some (.lst [u1, u2]) := by rw [← hH4, upd_same]
    have x14 := (x12.trans x23).trans x34
    refine ⟨_, _, rfl, ?_⟩
    have e14 : Exo [a] H1 H4 := x14.exo _
    refine ⟨_, rfl, FnK K, v', d', rfl, hv' e14, hsq, hit, hsh, ?_⟩
    refine ⟨_, rfl, v', d', b', rfl, hv' e14, ib5, hG', fun p1 H5 nb3 => ?_⟩
    rw [hpl] at nb3
    obtain ⟨S1, Ds1, og1, sn1, sf1, x45⟩ := nb3
    refine ⟨_, rfl, v', d', b', rfl, hv' (e14.trans (x45.exo _)), ib5, hG', fun p2 H6 nb4 => ?_⟩
    rw [hpl] at nb4
    obtain ⟨S2, Ds2, og2, sn2, sf2, x56⟩ := nb4
    have dis12 : ∀ x ∈ S1, x ∉ S2 := fun x hx hy => og1.some x hx (sf2 x hy)
    refine ⟨by show 2 ≤ sizeLine; decide, fun D2 hD2 => ⟨_, _, rfl, ?_⟩⟩
    have dD : D2 ∉ S1 ++ S2 := fun z => (List.mem_append.mp z).elim (fun z => (og1.ex x56).some D2 z hD2) (fun z => og2.some D2 z hD2)
    have x67 : Ex H6 (upd H6 D2 (.lst [p1, p2])) := Ex.new hD2
    generalize hH7 : upd H6 D2 (.lst [p1, p2]) = H7 at x67
    have d7 : H7 D2 = some (.lst [p1, p2]) := by rw [← hH7, upd_same]
    have x47 := (x45.trans x56).trans x67
    have og1 := og1.ex (x56.trans x67)
    have og2 := og2.ex x67
    have due7 : ∀ {H'}, Ex H4 H' → SeeF K H' (.ref D1) (.lst [bdDat (plainB true b), bdDat (plainB false b)]) := fun e => .lst (e _ _ d4) (.cons (see_own ((ow1.ex (x23.trans x34)).ex e)) (.cons (see_own ((ow2.ex x34).ex e)) .nil))
    have pT := bt_plain (ns := ns) true (al.imp fun _ h => h.b)
    have pF := bt_plain (ns := ns) false (al.imp fun _ h => h.b)
    have pT5 : AllT (BT ns) 5 (plainB true b) := AllT.up (by omega) pT
    have pF5 : AllT (BT ns) 5 (plainB false b) := AllT.up (by omega) pF
    have hlen4 : ∀ ts, BT ns ts → (coef ts).length ≤ 1000 := fun ts h => by have := term_len4 h.1 hns.l4; omega
    have hdep : Dep 20 (.lst [bdDat (plainB true b), bdDat (plainB false b)]) := by
      refine ⟨by simp, fun d hd => ?_⟩
      simp only [List.mem_cons, List.not_mem_nil, or_false] at hd
      rcases hd with rfl | rfl
      · exact dep_up (by decide) (dep_bd (n := 5) hlen4 pT5)
      · exact dep_up (by decide) (dep_bd (n := 5) hlen4 pF5)
    refine ⟨_, rfl, _, rfl, .ref D2, .ref D1, _, rfl, .lst d7 (.cons (see_own og1) (.cons (see_own og2) .nil)), due7 x47, hdep, fun H8 x78 => ⟨_, rfl, iteF ?_⟩⟩
    have x48 := x47.trans x78
    refine ⟨_, rfl, FnK K, v', d', rfl, hv' (e14.trans (x48.exo _)), hsq, hit, hsh, _, rfl, rfl, _, rfl, ?_⟩
    rw [decide_eq_true rfl]
    refine iteF ?_
    obtain ⟨c1, wl1⟩ := cnt_plain hM true (al.imp fun _ h => h.m)
    obtain ⟨c2, wl2⟩ := cnt_plain hM false (al.imp fun _ h => h.m)
    have hpow : (M + 1) * 4 ^ n ≤ 40000 := by
      have hn : n = 0 ∨ n = 1 ∨ n = 2 ∨ n = 3 ∨ n = 4 := by omega
      rcases hn with rfl | rfl | rfl | rfl | rfl <;> omega
    have nT : Pln 5 (plainB true b) := Pln.up (by omega) (pln_plain (ns := ns) true (al.imp fun _ h => h.b))
    have nF : Pln 5 (plainB false b) := Pln.up (by omega) (pln_plain (ns := ns) false (al.imp fun _ h => h.b))
    have wl1 := Nat.le_trans wl1 hpow
    have wl2 := Nat.le_trans wl2 hpow
    refine ⟨_, rfl, D2, _, 0, _, rfl, rfl, SqQ.l (x78 _ _ d7), at0, p1, _, S1, Ds1, rfl, og1.ex x78, nT, by omega, fun W1 H9 hW1 x89 hw1 => ?_⟩
    refine ⟨_, rfl, D2, _, 1, _, rfl, rfl, SqQ.l ((x78.trans x89) _ _ d7), at1, p2, _, S2, Ds2, rfl, og2.ex (x78.trans x89), nF, by omega, fun W2 H10 hW2 x910 hw2 => ?_⟩
    refine ⟨W1, W2, _, _, rfl, rfl, x910 _ _ hw1, hw2, by rw [List.length_map, List.length_map, sizeLine_eq]; omega, fun W3 hW3 => ⟨W3, _, rfl, .inl (SqL.of upd_same), rfl, by rw [← List.map_append]; exact words_flat _, _, rfl, ?_⟩⟩
    rw [← List.map_append, words_in (fun z => (List.mem_append.mp z).elim (words_no nT) (words_no nF))]
    refine iteF ?_
    have x10 : Ex H10 (upd H10 W3 (.lst ((wordsB (plainB true b) ++ wordsB (plainB false b)).map V.str))) := Ex.new hW3
    generalize upd H10 W3 (.lst ((wordsB (plainB true b) ++ wordsB (plainB false b)).map V.str)) = H11 at x10
    have x711 := ((x78.trans x89).trans x910).trans x10
    have x411 := x47.trans x711
    have og1 := og1.ex x711
    have og2 := og2.ex x711
    have d11 := x711 _ _ d7
    clear hw1 hw2 hW1 hW2 hW3 x10 x910 x89 x48 x78 hH7 hH4
    have e1_11 : Exo [a] H H11 := e1.trans ((x14.trans x411).exo _)
    have s11 : Spr H11 a (B + 11184808) := s1.ex (x14.trans x411)
    have aD2 : D2 ≠ a := fun z => by
      have := (s1.ex ((x14.trans (x45.trans x56)))).ne
      rw [← z] at this; exact this hD2
    have aS1 : a ∉ S1 := fun z => (s1.ex x14).ne (sf1 a z)
    have aS2 : a ∉ S2 := fun z => (s1.ex (x14.trans x45)).ne (sf2 a z)
    have og1E : ∀ {H' : Hp}, Exo [a] H11 H' → Own H' (plainB true b) p1 S1 Ds1 := fun e => og1.imp fun x hx o h => e x o (fun z => aS1 (by rw [← (show x = a by simpa using z)]; exact hx)) h
    have og2E : ∀ {H' : Hp}, Exo [a] H11 H' → Own H' (plainB false b) p2 S2 Ds2 := fun e => og2.imp fun x hx o h => e x o (fun z => aS2 (by rw [← (show x = a by simpa using z)]; exact hx)) h
    have alB : AllT (BT ns) 5 b := AllT.up (by omega) (al.allT fun _ h => h.b)
    have goodE : ∀ {c : Bd}, AllT (BT ns) 5 c → AllT GoodT 5 c := fun h => h.imp fun _ h => bt_good hns h
    dsimp only [tNext, tSeq, tNil]
    refine tFor_of ?_
    refine ⟨6, rfl, by decide, by decide, ?_⟩
    refine for_itB (walk_range (n := 6)) (fun i σ H' => ∃ x7 x8 x9 x10, σ = [some (.ref a), some (.ref l), some v, some v', some (.ref D1), some (.str (toPy d').shown), some (.ref D2), x7, x8, x9, x10, none] ∧ Exo [a] H11 H' ∧ Spr H' a (B + 11184808 + 4 * i)) ⟨none, none, none, none, rfl, Exo.refl _ _, s11⟩ (fun _ _ _ _ _ => trivial) ?_ ?_
    · rintro i x σ H12 H13 hi ⟨x7, x8, x9, x10, rfl, e12, s12⟩ ⟨rfl, rfl⟩
      have hl12 : H13 l = some (.lst (ns.map V.str)) := e12.at1 hla (e1_11.at1 hla hl)
      refine ⟨_, rfl, _, rfl, a, l, ns, 9, B + 11184808 + 4 * i, rfl, s12, by omega, hl12, hla, hns.nd, hns.l4, by decide, by decide, fun nd cn H14 hnd e13 s13 hN hnD => ?_⟩
      have hnda : nd ≠ a := fun z => s12.ne (by rw [← z]; exact hnd)
      have hk : keys cn = ns := hN.ks
      have ownE : ∀ {H' : Hp}, Exo [a] H13 H' → Own H' b v S Ds := fun e => ho.imp fun x hx o h => ((e1_11.trans e12).trans e) x o (fun z => haS (by rw [← (show x = a by simpa using z)]; exact hx)) h
      have hndS : nd ∉ S := fun z => by
        have := (ownE (Exo.refl [a] H13)).some nd z
        exact this hnd
      have alB : AllT (BT ns) 5 b := AllT.up (by omega) (al.allT fun _ h => h.b)
      have gcn : Good cn := by
        refine ⟨⟨by rw [hk]; exact hns.nd, ?_⟩, fun p hp => ?_, fun n hn => pool_nm _ (hns.mem _ (by rw [← hk]; exact hn))⟩
        · have : (keys cn).length = cn.length := by unfold keys; rw [List.length_map]
          rw [hk] at this
          have := hns.l4
          omega
        · have := hN.far p hp; omega
      refine ⟨_, rfl, _, rfl, v, b, S, Ds, nd, cn, rfl, ownE e13, hnD, hndS, alB.imp fun _ h => bt_so hns hk h, by rw [hk]; exact hns.nd, fun H15 x15 => ?_⟩
      have namE : ∀ {c : Bd}, AllT (BT ns) 5 c → AllT (Nam (keys cn)) 5 c := fun h => by rw [hk]; exact h.imp fun _ h => bt_nam hns h
      have numE : ∀ {c : Bd}, AllT (BT ns) 5 c → AllT (Num cn) 5 c := fun h => h.imp fun _ h => bt_num hns hk h
      have goodE : ∀ {c : Bd}, AllT (BT ns) 5 c → AllT GoodT 5 c := fun h => h.imp fun _ h => bt_good hns h
      have c0 : cnt b ≤ 800 := by
        have h1 := cnt_w al
        have h2 : 3 ^ n ≤ M * 3 ^ n := Nat.le_mul_of_pos_left _ (by omega)
        omega
      have e15 : Exo [a] H13 H15 := e13.trans (x15.exo _)
      refine ⟨_, rfl, _, rfl, v, bdDat b, b, nd, cn, rfl, see_own (ownE e15), isB_dat alB, goodE alB, namE alB, c0, numE alB, x15 _ _ hnD, gcn, fun H16 x16 => ?_⟩
      have e11_15 : Exo [a] H11 H15 := e12.trans e15
      have e11_16 := e11_15.trans (x16.exo _)
      have ma : ∀ {x : Addr} {o : HO} {H' : Hp}, H7 x = some o → a ≠ x → Exo [a] H11 H' → H' x = some o := fun h n e => e.at1 (Ne.symm n) (x711 _ _ h)
      refine ⟨_, rfl, D2, _, 0, _, rfl, rfl, SqQ.l (e11_16.at1 aD2 d11), at0, _, rfl, p1, bdDat (plainB true b), plainB true b, nd, cn, rfl, see_own (og1E e11_16), isB_dat pT5, goodE pT5, namE pT5, by omega, numE pT5, x16 _ _ (x15 _ _ hnD), gcn, fun H17 x17 => ?_⟩
      have e11_17 := e11_16.trans (x17.exo _)
      refine ⟨_, rfl, D2, _, 1, _, rfl, rfl, SqQ.l (e11_17.at1 aD2 d11), at1, _, rfl, p2, bdDat (plainB false b), plainB false b, nd, cn, rfl, see_own (og2E e11_17), isB_dat pF5, goodE pF5, namE pF5, by omega, numE pF5, x17 _ _ (x16 _ _ (x15 _ _ hnD)), gcn, fun H18 x18 => ?_⟩
      have hso : AllT (fun ts => (keys (coef ts)).Nodup ∧ mOk ts) n b := al.allT fun _ h => ⟨h.b.1.nd, h.b.2.1⟩
      rw [so_plain cn true hso, so_plain cn false hso]
      refine ⟨by show 3 ≤ sizeLine; decide, fun T1 hT1 => ?_⟩
      have xT1 : Ex H18 (upd H18 T1 (.lst [.bl (soB cn b), .bl (soB cn b == true), .bl (soB cn b == false)])) := Ex.new hT1
      refine ⟨_, rfl, _, rfl, _, rfl, _, rfl, _, rfl, by show 3 ≤ sizeLine; decide, fun T2 hT2 => ?_⟩
      have xT2 := xT1.mut (xT1.free hT2) (o := .lst [.bl (soB cn b), .bl (soB cn b), .bl (!soB cn b)])
      have n12 : T1 ≠ T2 := fun z => by rw [← z, upd_same] at hT2; cases hT2
      refine ⟨.ref T1, .ref T2, .lst [.bl (soB cn b), .bl (soB cn b), .bl (!soB cn b)], rfl, .lst (by rw [upd_ne n12, upd_same]) ?_, .lst upd_same (.cons (.bl _) (.cons (.bl _) (.cons (.bl _) .nil))), ?_, fun H20 x20 => ⟨_, rfl, iteF ⟨_, _, _, _, rfl, ?_, ?_⟩⟩⟩
      · cases soB cn b
        · exact .cons (.bl _) (.cons (.bl _) (.cons (.bl _) .nil))
        · exact .cons (.bl _) (.cons (.bl _) (.cons (.bl _) .nil))
      · refine ⟨by simp, fun d hd => ?_⟩
        simp only [List.mem_cons, List.not_mem_nil, or_false] at hd
        rcases hd with rfl | rfl | rfl <;> trivial
      · exact (e11_17.trans (x18.exo _)).trans ((xT2.trans x20).exo _)
      · exact (((((((s13.ex x15).ex x16).ex x17).ex x18).ex xT2).ex x20)).mono (by omega)
    · rintro σ H12 ⟨x7, x8, x9, x10, rfl, e12, s12⟩
      have len1 : Ds1.length ≤ 1000 := by rw [own_cnt og1]; omega
      have len2 : Ds2.length ≤ 1000 := by rw [own_cnt og2]; omega
      refine ⟨_, rfl, D2, _, 0, _, rfl, rfl, SqQ.l (e12.at1 aD2 d11), at0, p1, _, S1, Ds1, rfl, og1E e12, nT, by omega, fun X1 H13 hX1 x13 hx1 => ?_⟩
      have e13 := e12.trans (x13.exo [a])
      refine ⟨_, rfl, D2, _, 1, _, rfl, rfl, SqQ.l (e13.at1 aD2 d11), at1, p2, _, S2, Ds2, rfl, og2E e13, nF, by omega, fun X2 H14 hX2 x1314 hx2 => ?_⟩
      have e14' := e13.trans (x1314.exo [a])
      refine ⟨X1, X2, _, _, rfl, rfl, x1314 _ _ hx1, hx2, by rw [List.length_map, List.length_map, sizeLine_eq]; omega, fun X3 hX3 => ?_⟩
      have x15 : Ex H14 (upd H14 X3 (.lst (Ds1.map V.ref ++ Ds2.map V.ref))) := Ex.new hX3
      have e15 := e14'.trans (x15.exo [a])
      have lateN : ∀ {ts : Tst}, BT ns ts → ("late" : Str) ∉ keys (coef ts) ∧ (coef ts).length ≤ 100 := fun h => ⟨fun z => absurd (hns.mem _ (h.1.sub _ z)) (by decide +kernel), by have := term_len4 h.1 hns.l4; omega⟩
      refine ⟨X3, Ds1 ++ Ds2, rfl, by rw [upd_same, List.map_append], List.nodup_append.mpr ⟨(own_sub og1).nodup sn1, (own_sub og2).nodup sn2, fun x hx y hy z => dis12 x ((own_sub og1).subset hx) (by rw [z]; exact (own_sub og2).subset hy)⟩, by rw [List.length_append]; omega, fun d hd => ?_, fun H16 x16 => ⟨_, rfl, iteF ?_⟩⟩
      · rcases List.mem_append.mp hd with hd | hd
        · obtain ⟨ts, h1, h2⟩ := own_dicts (og1E e15) pT5 d hd
          exact ⟨_, h2, (lateN h1).1, (lateN h1).2⟩
        · obtain ⟨ts, h1, h2⟩ := own_dicts (og2E e15) pF5 d hd
          exact ⟨_, h2, (lateN h1).1, (lateN h1).2⟩
      have e16 := e15.trans (x16.exo [a])
      have s16 : Spr H16 a (B + 11184808 + 4 * 6) := ((((s12.ex x13).ex x1314).ex x15).ex x16)
      dsimp only [tNext, tSeq, tNil]
      refine tFor_of ?_
      refine ⟨_, rfl, D2, rfl, ⟨[p1, p2], SqL.of (e16.at1 aD2 d11)⟩, ?_⟩
      have lenE : ∀ {c : Bd}, AllT (BT ns) 5 c → AllT (fun ts => (coef ts).length ≤ 100) 5 c := fun h => h.imp fun _ h => (lateN h).2
      refine for_itB (walk_list (xs := [p1, p2])) (fun i σ H' => ∃ x11, σ = [some (.ref a), some (.ref l), some v, some v', some (.ref D1), some (.str (toPy d').shown), some (.ref D2), x7, x8, x9, x10, x11] ∧ Exo (S1 ++ S2) H16 H' ∧ (i = 0 → Own H' (plainB true b) p1 S1 Ds1) ∧ (i ≤ 1 → Own H' (plainB false b) p2 S2 Ds2)) ⟨none, rfl, Exo.refl _ _, fun _ => og1E e16, fun _ => og2E e16⟩ (fun i σ H' _ ⟨_, _, e, _⟩ => SqL.of (e _ _ dD (e16.at1 aD2 d11))) ?_ ?_
      · rintro i x σ H17 H18 hi ⟨x11, rfl, e17, h1, h2⟩ ⟨rfl, hx⟩
        match i, hx with
        | 0, hx =>
          cases hx
          refine ⟨_, rfl, p1, _, S1, Ds1, rfl, h1 rfl, nT, sn1, lenE pT5, fun H19 e19 => ⟨_, rfl, fun x o nx h => e19 x o (fun z => nx (List.mem_append_left _ z)) (e17 x o nx h), fun z => by omega, fun _ => (h2 (by omega)).imp fun x hx o h => e19 x o (fun z => dis12 x z hx) h⟩⟩
        | 1, hx =>
          cases hx
          refine ⟨_, rfl, p2, _, S2, Ds2, rfl, h2 (by omega), nF, sn2, lenE pF5, fun H19 e19 => ⟨_, rfl, fun x o nx h => e19 x o (fun z => nx (List.mem_append_right _ z)) (e17 x o nx h), fun z => by omega, fun z => by omega⟩⟩
        | n + 2, hx => exact absurd hi (by simp)
      · rintro σ H17 ⟨x11, rfl, e17, _, _⟩
        have E17 : Exo [a] H4 H17 := fun x o nx h => by
          refine e17 x o (fun z => ?_) (((x411.exo [a]).trans e16) x o nx h)
          rcases List.mem_append.mp z with z | z
          · rw [sf1 x z] at h; cases h
          · have := sf2 x z
            rw [x45 _ _ h] at this; cases this
        have s17 : Spr H17 a (B + 11184808 + 4 * 6) := by
          obtain ⟨c, m, k, h, rest⟩ := s16
          exact ⟨c, m, k, e17 _ _ (fun z => (List.mem_append.mp z).elim (fun z => aS1 z) (fun z => aS2 z)) h, rest⟩
        have aD1 : D1 ≠ a := fun z => by
          have := (s1.ex (x12.trans x23)).ne
          rw [← z] at this; exact this hD1
        have aT1 : a ∉ T1 := fun z => s1.ne (fr1 a z)
        have aT2 : a ∉ T2 := fun z => (s1.ex x12).ne (fr2 a z)
        have due17 : ∀ {H'}, Exo [a] H4 H' → SeeF K H' (.ref D1) (.lst [bdDat (plainB true b), bdDat (plainB false b)]) := fun e => .lst (e.at1 aD1 d4)
          (.cons (see_own ((ow1.ex (x23.trans x34)).imp fun x hx o h => e x o (fun z => aT1 (by rw [← (show x = a by simpa using z)]; exact hx)) h)) (.cons (see_own ((ow2.ex x34).imp fun x hx o h => e x o (fun z => aT2 (by rw [← (show x = a by simpa using z)]; exact hx)) h)) .nil))
        have bodE : ∀ {H'}, Exo [a] H4 H' → Own H' b v S Ds := fun e => ho.imp fun x hx o h => ((e1.trans (x14.exo [a])).trans e) x o (fun z => haS (by rw [← (show x = a by simpa using z)]; exact hx)) h
        refine ⟨_, rfl, v', d', b', rfl, hv' (e14.trans E17), ib5, hG', fun r1 H18 nb5 => ?_⟩
        rw [hpl] at nb5
        obtain ⟨S5, Ds5, og5, _, _, x18⟩ := nb5
        refine ⟨_, rfl, v, bdDat b, b, rfl, see_own (bodE (E17.trans (x18.exo [a]))), isB_dat alB, goodE alB, fun r2 H19 nb6 => ?_⟩
        obtain ⟨S6, Ds6, og6, _, _, x19⟩ := nb6
        refine ⟨by show 2 ≤ sizeLine; decide, fun D3 hD3 => ?_⟩
        have x20 : Ex H19 (upd H19 D3 (.lst [r1, r2])) := Ex.new hD3
        have x1720 := (x18.trans x19).trans x20
        refine ⟨_, rfl, .ref D3, .ref D1, _, rfl, .lst upd_same (.cons (see_own (og5.ex (x19.trans x20))) (.cons (see_own (og6.ex x20)) .nil)), due17 (E17.trans (x1720.exo [a])), hdep, fun H21 x21 => ⟨_, rfl, iteT ?_⟩⟩
        have x1721 := x1720.trans x21
        refine ⟨_, rfl, FnK K, v', d', rfl, hv' (e14.trans (E17.trans (x1721.exo [a]))), hsq, hit, hsh, _, rfl, rfl, ?_⟩
        rw [decide_eq_true rfl]
        exact qq _ ((e1.trans e14).trans (E17.trans (x1721.exo [a]))) ((s17.ex x1721).mono (by omega))
end
end K8

set_option Elab.async false
set_option linter.all false
set_option maxRecDepth 100000
set_option maxHeartbeats 4000000
namespace K8
open PySem PySem.Spec PyProof.Rows L2 M8
theorem dep_flat {d : Dat} (h : flatD d = true) (n : Nat) : Dep n d := by cases n <;> cases d <;> first | trivial | cases h
theorem dep_tDat {c : Coef} (h : c.length ≤ 1000) (k : Int) (n : Nat) : Dep (n + 4) (tDat c k) := ⟨by simp, fun d hd => by
  rcases List.mem_cons.mp hd with rfl | hd
  · refine ⟨by unfold cD; rw [List.length_map, List.length_map]; exact h, fun d hd => ?_⟩
    obtain ⟨p, hp, rfl⟩ := List.mem_map.mp hd
    obtain ⟨q, hq, rfl⟩ := List.mem_map.mp hp
    refine ⟨by simp, fun d hd => ?_⟩
    rcases List.mem_cons.mp hd with rfl | hd
    · exact dep_flat rfl n
    · rcases List.mem_cons.mp hd with rfl | hd
      · exact dep_flat rfl n
      · cases hd
  · rcases List.mem_cons.mp hd with rfl | hd
    · exact dep_flat rfl _
    · cases hd⟩
theorem Dep.up : ∀ (n : Nat) (d : Dat), Dep n d → Dep (n + 1) d
  | 0, d, h => Step.imp (fun _ z => z.elim) d h
  | n + 1, d, h => Step.imp (fun d z => Dep.up n d z) d h
theorem Dep.le {n m : Nat} (h : n ≤ m) {d : Dat} (z : Dep n d) : Dep m d := by
  induction h with
  | refl => exact z
  | step _ ih => exact Dep.up _ _ ih
theorem dep_lst {n : Nat} {ds : List Dat} (h : ds.length ≤ 1000) (hd : ∀ d ∈ ds, Dep n d) : Dep (n + 1) (.lst ds) := ⟨h, hd⟩
theorem dep_tup {n : Nat} {ds : List Dat} (h : ds.length ≤ 1000) (hd : ∀ d ∈ ds, Dep n d) : Dep (n + 1) (.tup ds) := ⟨h, hd⟩
theorem all1 {p : Dat → Prop} {a : Dat} (h : p a) : ∀ d ∈ [a], p d := fun d hd => by rw [show d = a by simpa using hd]; exact h
theorem all2 {p : Dat → Prop} {a b : Dat} (h : p a) (h2 : p b) : ∀ d ∈ [a, b], p d := fun d hd => by
  rcases List.mem_cons.mp hd with rfl | hd
  · exact h
  · exact all1 h2 d hd
theorem all3 {p : Dat → Prop} {a b c : Dat} (h : p a) (h2 : p b) (h3 : p c) : ∀ d ∈ [a, b, c], p d := fun d hd => by
  rcases List.mem_cons.mp hd with rfl | hd
  · exact h
  · exact all2 h2 h3 d hd
/-! looked at by reckoning -/
def headOkB (d : Dat) : Bool := (flatD d && !isBool d) || (match d with | .lst [.str z] => decide (z = ("row" : Str)) | _ => false)
def dctOkB : Dat → Bool | .dct kds => decide (kds.length ≤ 1000) && (kds.all (fun p => flatD p.2 && (match p.1 with | .inl _ => true | .inr z => decide (z.cps.size ≤ 1000000))) && decide ((kds.map (·.1)).Nodup)) | _ => true
def termOkB (d : Dat) : Bool := (items d).all dctOkB
def testOkB (d : Dat) : Bool := match items d with | [h, t] => headOkB h && termOkB t | [h, _, t] => flatD h && termOkB t | _ => true
def stepB (G : Dat → Bool) : Dat → Bool
  | .lst ds => decide (ds.length ≤ 1000) && ds.all G
  | .tup ds => decide (ds.length ≤ 1000) && ds.all G
  | .dct kds => G (rows kds)
  | _ => true
def depB : Nat → Dat → Bool
  | 0 => stepB fun _ => false
  | n + 1 => stepB (depB n)
theorem headOk_of {d : Dat} (h : headOkB d = true) : headOk d := by
  unfold headOkB at h
  rcases Bool.or_eq_true_iff.mp h with h | h
  · obtain ⟨h1, h2⟩ := Bool.and_eq_true_iff.mp h
    exact .inl ⟨h1, fun b e => by rw [e] at h2; cases h2⟩
  · split at h
    · rename_i z _
      have : z = ("row" : Str) := of_decide_eq_true h
      rw [this]; exact .inr rfl
    · cases h
theorem dctOk_of {d : Dat} (h : dctOkB d = true) : dctOk d := by
  cases d with
  | dct kds =>
    obtain ⟨h1, h2⟩ := Bool.and_eq_true_iff.mp h
    obtain ⟨h2, h3⟩ := Bool.and_eq_true_iff.mp h2
    refine ⟨of_decide_eq_true h1, fun p hp => ?_, of_decide_eq_true h3⟩
    obtain ⟨h4, h5⟩ := Bool.and_eq_true_iff.mp (List.all_eq_true.mp h2 p hp)
    refine ⟨h4, ?_⟩
    obtain ⟨k, v⟩ := p
    cases k with
    | inl i => trivial
    | inr z => exact (show z.cps.size ≤ 1000000 from of_decide_eq_true h5)
  | _ => trivial
theorem termOk_of {d : Dat} (h : termOkB d = true) : termOk d := fun x hx => dctOk_of (List.all_eq_true.mp h x hx)
theorem testOk_of {d : Dat} (h : testOkB d = true) : testOk d := by
  unfold testOkB at h
  split at h
  · rename_i a b e
    obtain ⟨h1, h2⟩ := Bool.and_eq_true_iff.mp h
    unfold testOk
    rw [e]
    exact ⟨headOk_of h1, termOk_of h2⟩
  · rename_i a x b e
    obtain ⟨h1, h2⟩ := Bool.and_eq_true_iff.mp h
    unfold testOk
    rw [e]
    exact ⟨h1, termOk_of h2⟩
  · rename_i h1 h2
    unfold testOk
    split
    · next a b e => exact (h1 _ _ e).elim
    · next a x b e => exact (h2 _ _ _ e).elim
    · trivial
theorem step_of {G : Dat → Bool} {P : Dat → Prop} (hp : ∀ d, G d = true → P d) {d : Dat} (h : stepB G d = true) : Step P d := by
  cases d with
  | lst ds =>
    obtain ⟨h1, h2⟩ := Bool.and_eq_true_iff.mp h
    exact ⟨of_decide_eq_true h1, fun d hd => hp d (List.all_eq_true.mp h2 d hd)⟩
  | tup ds =>
    obtain ⟨h1, h2⟩ := Bool.and_eq_true_iff.mp h
    exact ⟨of_decide_eq_true h1, fun d hd => hp d (List.all_eq_true.mp h2 d hd)⟩
  | dct kds => exact hp _ h
  | _ => trivial
theorem dep_of : ∀ (n : Nat) (d : Dat), depB n d = true → Dep n d
  | 0, d, h => step_of (fun _ z => by cases z) h
  | n + 1, d, h => step_of (fun d z => dep_of n d z) h

def NoB (d : Dat) : Prop := okN 5 d ∧ isBodyN 5 d = false ∧ Dep 18 d
def okPB (G : Dat → Bool) : List Dat → Bool
  | [h, e] => headOkB h && ((!isNot h || G e) && (isNot h || !isGrp h || !isSq e || (decide ((items e).length ≤ 1000) && (items e).all G)))
  | _ => true
def okSB (G : Dat → Bool) (d : Dat) : Bool := testOkB d && (isTest d || okPB G (items d))
def okNB : Nat → Dat → Bool
  | 0 => okSB fun _ => false
  | n + 1 => okSB (okNB n)
theorem okP_of {G : Dat → Bool} {P : Dat → Prop} (hp : ∀ d, G d = true → P d) {ds : List Dat} (h : okPB G ds = true) : okP P ds := by
  match ds, h with
  | [], _ => trivial
  | [_], _ => trivial
  | [x, e], h =>
    obtain ⟨h1, h2⟩ := Bool.and_eq_true_iff.mp h
    obtain ⟨h2, h3⟩ := Bool.and_eq_true_iff.mp h2
    refine ⟨headOk_of h1, fun hn => ?_, fun hn hg hs => ?_⟩
    · rw [hn] at h2; exact hp _ (by simpa using h2)
    · rw [hn, hg, hs] at h3
      obtain ⟨h4, h5⟩ := Bool.and_eq_true_iff.mp (by simpa using h3 : (decide ((items e).length ≤ 1000) && (items e).all G) = true)
      exact ⟨of_decide_eq_true h4, fun x hx => hp _ (List.all_eq_true.mp h5 x hx)⟩
  | _ :: _ :: _ :: _, _ => trivial
theorem okS_of {G : Dat → Bool} {P : Dat → Prop} (hp : ∀ d, G d = true → P d) {d : Dat} (h : okSB G d = true) : okS P d := by
  obtain ⟨h1, h2⟩ := Bool.and_eq_true_iff.mp h
  exact ⟨testOk_of h1, fun ht => okP_of hp (by rw [ht] at h2; simpa using h2)⟩
theorem okN_of : ∀ (n : Nat) (d : Dat), okNB n d = true → okN n d
  | 0, d, h => okS_of (fun _ z => by cases z) h
  | n + 1, d, h => okS_of (fun d z => okN_of n d z) h
def noBB (d : Dat) : Bool := okNB 5 d && (!isBodyN 5 d && depB 18 d)
theorem noB_of {d : Dat} (h : noBB d = true) : NoB d := by
  obtain ⟨h1, h2⟩ := Bool.and_eq_true_iff.mp h
  obtain ⟨h2, h3⟩ := Bool.and_eq_true_iff.mp h2
  exact ⟨okN_of 5 d h1, by simpa using h2, dep_of 18 d h3⟩
theorem noB_all {ds : List Dat} (h : ds.all noBB = true) : ∀ d ∈ ds, NoB d := fun d hd => noB_of (List.all_eq_true.mp h d hd)
theorem fb1 : ∀ d ∈ nb1, NoB d := noB_all (by decide +kernel)
theorem fb2 : ∀ d ∈ (odds7.map perOdd).flatten, NoB d := noB_all (by decide +kernel)
theorem fb3 : ∀ d ∈ ([.tup [.str "row", tmD, .int 1]] : List Dat), NoB d := noB_all (by decide +kernel)
theorem fb4 : ∀ d ∈ nb2, NoB d := noB_all (by decide +kernel)
theorem fb5 : ∀ d ∈ ([.tup [.str "row", .tup [tmD, .int 0]]] : List Dat), NoB d := noB_all (by decide +kernel)
theorem fb6 : ∀ d ∈ ms6.map (fun m => Dat.tup [.str "by", m, tmD]), NoB d := noB_all (by decide +kernel)
theorem fb7 : ∀ d ∈ ([.tup [.str "none", .lst []], .tup [.str "rows", tmD]] : List Dat), NoB d := noB_all (by decide +kernel)
/-- a right body within -/
structure GB (g : Dat) : Prop where
  ok : ∀ n, 1 ≤ n → okN n g
  sq : isSq g = true
  tm : termOk g
  dep : Dep 10 g
theorem app {p : Dat → Prop} {a b : List Dat} (h1 : ∀ d ∈ a, p d) (h2 : ∀ d ∈ b, p d) : ∀ d ∈ a ++ b, p d := fun d hd => (List.mem_append.mp hd).elim (h1 d) (h2 d)
theorem fb8 {g : Dat} (G : GB g) : ∀ d ∈ nb3 g, NoB d := by
  have h3 : ∀ z : Str, (z = "not" ∨ z = "all") → NoB (.tup [.str z, g, g]) := fun z hz => by
    have hb : isTest (.tup [.str z, g, g]) = false := by
      show (true && (headBy (.str z) && (isFrom1 g && isTerm g))) = false
      rcases hz with rfl | rfl <;> rfl
    refine ⟨⟨⟨rfl, G.tm⟩, fun _ => trivial⟩, ?_, dep_tup (n := 17) (by simp) (all3 (dep_flat rfl _) (dep_up (by decide) G.dep) (dep_up (by decide) G.dep))⟩
    show (isTest (.tup [.str z, g, g]) || (true && false)) = false
    rw [hb]; rfl
  intro d hd
  have e : nb3 g = [.tup [.str "by", .int 2], .tup [.str "by", tmD, .int 2], .tup [.str "not"], .tup [.str "not", .non]] ++ ([.tup [.str "not", g, g]] ++ [.tup [.str "all", .non], .tup [.str "all", .dct []]]) := rfl
  rw [e] at hd
  refine app (noB_all (by decide +kernel)) (app (all1 (h3 "not" (.inl rfl))) (noB_all (by decide +kernel))) d hd
/-- two of a group, one of which is no body -/
theorem grp_no {n : Nat} {w : Bool} {ds : List Dat} (hl : ds.length ≤ 1000) (hok : ∀ d ∈ ds, okN n d) (hno : ∃ d ∈ ds, isBodyN n d = false) (ht : ∀ d ∈ ds, dctOk d) : okN (n + 1) (.tup [.str (kw w), .lst ds]) ∧ isBodyN (n + 1) (.tup [.str (kw w), .lst ds]) = false := by
  have hb : isTest (.tup [.str (kw w), .lst ds]) = false := by
    show (true && (headRS (.str (kw w)) && isTerm (.lst ds))) = false
    rw [kw_ok w (.lst ds)]; rfl
  refine ⟨⟨⟨.inl ⟨rfl, fun b z => by cases z⟩, ht⟩, fun _ => ⟨.inl ⟨rfl, fun b z => by cases z⟩, fun z => ?_, fun _ _ _ => ⟨hl, hok⟩⟩⟩, ?_⟩
  · rw [(kw_grp w).2] at z; cases z
  · show (isTest (.tup [.str (kw w), .lst ds]) || (true && (if isNot (.str (kw w)) = true then isBodyN n (.lst ds) else isGrp (.str (kw w)) && (true && ds.all (isBodyN n))))) = false
    rw [hb, (kw_grp w).2, (kw_grp w).1]
    have : ds.all (isBodyN n) = false := by
      rw [List.all_eq_false]
      obtain ⟨d, hd, h⟩ := hno
      exact ⟨d, hd, by rw [h]; simp⟩
    rw [this]; rfl
theorem ok_non (n : Nat) : okN n .non := by cases n <;> exact ⟨trivial, fun _ => trivial⟩
theorem ok_int (i : Int) (n : Nat) : okN n (.int i) := by cases n <;> exact ⟨trivial, fun _ => trivial⟩
theorem by0 (n : Nat) : okN n (.tup [.str "by", .int 0, tmD]) ∧ isBodyN n (.tup [.str "by", .int 0, tmD]) = false := by
  cases n with
  | zero => exact ⟨okN_of 0 _ (by decide +kernel), by decide +kernel⟩
  | succ n =>
    have ht : isTest (.tup [.str "by", .int 0, tmD]) = false := by decide +kernel
    refine ⟨⟨testOk_of (by decide +kernel), fun _ => trivial⟩, ?_⟩
    show (isTest (.tup [.str "by", .int 0, tmD]) || (true && false)) = false
    rw [ht]; rfl
theorem noB_no {g : Dat} (G : GB g) : ∀ d ∈ noB g, NoB d := by
  have d17 : Dep 17 g := dep_up (by decide) G.dep
  have any5 : NoB (.tup [.str "any", .lst [g, .int 5]]) := by
    obtain ⟨h1, h2⟩ := grp_no (n := 4) (w := false) (ds := [g, .int 5]) (by simp) (all2 (G.ok 4 (by decide)) (ok_int _ _)) ⟨.int 5, by simp, rfl⟩ (all2 (dctOk_sq G.sq) trivial)
    exact ⟨h1, h2, dep_tup (n := 17) (by simp) (all2 (dep_flat rfl _) (dep_lst (n := 16) (by simp) (all2 (dep_up (by decide) G.dep) (dep_flat rfl _))))⟩
  have allg : NoB (.tup [.str "all", g, g]) := by
    have hb : isTest (.tup [.str "all", g, g]) = false := by
      show (true && (headBy (.str "all") && (isFrom1 g && isTerm g))) = false
      rfl
    refine ⟨⟨⟨rfl, G.tm⟩, fun _ => trivial⟩, ?_, dep_tup (n := 17) (by simp) (all3 (dep_flat rfl _) d17 d17)⟩
    show (isTest (.tup [.str "all", g, g]) || (true && false)) = false
    rw [hb]; rfl
  have zero : NoB (.tup [.int 0, .lst [g]]) := by
    have hb : isTest (.tup [.int 0, .lst [g]]) = false := rfl
    refine ⟨⟨⟨.inl ⟨rfl, fun b z => by cases z⟩, all1 (dctOk_sq G.sq)⟩, fun _ => ⟨.inl ⟨rfl, fun b z => by cases z⟩, (fun z => by cases z), (fun _ z => by cases z)⟩⟩, ?_, dep_tup (n := 17) (by simp) (all2 (dep_flat rfl _) (dep_lst (n := 16) (by simp) (all1 (dep_up (by decide) G.dep))))⟩
    rfl
  have nest : NoB (.tup [.str "all", .lst [g, .tup [.str "any", .lst [g, .tup [.str "by", .int 0, tmD]]]]]) := by
    obtain ⟨b1, b2⟩ := by0 3
    obtain ⟨i1, i2⟩ := grp_no (n := 3) (w := false) (ds := [g, .tup [.str "by", .int 0, tmD]]) (by simp) (all2 (G.ok 3 (by decide)) b1) ⟨_, List.mem_cons_of_mem _ List.mem_cons_self, b2⟩ (all2 (dctOk_sq G.sq) trivial)
    obtain ⟨h1, h2⟩ := grp_no (n := 4) (w := true) (ds := [g, .tup [.str "any", .lst [g, .tup [.str "by", .int 0, tmD]]]]) (by simp) (all2 (G.ok 4 (by decide)) i1) ⟨_, List.mem_cons_of_mem _ List.mem_cons_self, i2⟩ (all2 (dctOk_sq G.sq) trivial)
    have by0d : Dep 13 (.tup [.str "by", .int 0, tmD]) := dep_of 13 _ (by decide +kernel)
    exact ⟨h1, h2, dep_tup (n := 17) (by simp) (all2 (dep_flat rfl _) (dep_lst (n := 16) (by simp) (all2 (dep_up (by decide) G.dep) (dep_tup (n := 15) (by simp) (all2 (dep_flat rfl _) (dep_lst (n := 14) (by simp) (all2 (dep_up (by decide) G.dep) (dep_up (by decide) by0d))))))))⟩
  unfold noB
  exact app (app (app (app (app (app (app (app (app fb1 fb2) fb3) fb4) fb5) fb6) (fb8 G)) (app (a := [.tup [.str "any", .str "ab"], .tup [.str "all", .lst [.non]]]) (b := [.tup [.str "any", .lst [g, .int 5]], .tup [.str "all", g, g]]) (noB_all (by decide +kernel)) (all2 any5 allg))) fb7) (all3 zero nest (noB_of (by decide +kernel)))
end K8

set_option Elab.async false
set_option linter.all false
set_option maxRecDepth 100000
set_option maxHeartbeats 4000000
namespace K8
open PySem PySem.Spec PyProof.Rows L2 M8 LamX
/-! what a call is met with -/
def TTmet (K : PySem.W.Frag) (C : Addr) : (XK → Hp → VK → Prop) → Hp → VK → Prop := fun tl H Q =>
  tl (fun cls d H' => ∃ b, PySem.W.exmOne K cls (.ref C) = some b ∧ (b = true → cls = .ref C ∧ ∃ (dd : Addr) (fs : List (Str × V)) (v : V), d = some dd ∧ H' dd = some (.xd fs) ∧ fs.lookup ("body" : Str) = some v ∧ ∀ p, H' p = none → Q (.ref p) (upd H' p (.tup [.str "body", v]))) ∧ (b = false → False))
    H (fun v H1 => [V.str "told", v].length ≤ sizeLine ∧ ∀ p, H1 p = none → Q (.ref p) (upd H1 p (.tup [.str "told", v])))
abbrev s__law_met : Stmt := top 66
theorem sc__law_met : FnScope ["ask", "e"] ["ask"] (defScope s__law_met) := ⟨rfl, rfl, rfl, by decide +kernel, rfl, by decide +kernel, by decide +kernel⟩
theorem pss_ex {X : Cx} {b : List Stmt} {ε : Type} {p : ε → Prop} {t : ε → TS} (h : ∀ e, p e → PSs X b (t e)) : PSs X b (fun D σ H => ∃ e, p e ∧ t e D σ H) := ⟨fun pins s σ H D I q => by
  obtain ⟨e, pe, q⟩ := q
  exact (h e pe).run pins s σ H D I q⟩
theorem pvL {X : Cx} (i n : Nat) {x : Str} {pos : Pos} (hN : X.N[i]? = some x := by rfl) (hn : X.N.length = n := by rfl) (hv : Vis X.env.scope x := by first | exact Or.inl rfl | exact Or.inr (Or.inl rfl) | exact Or.inr (Or.inr rfl)) (hd : (x == ("__debug__" : Str)) = false := by decide)
    (hcd : (x == ("__classdict__" : Str)) = false := by decide) : PE X (.Name x pos) (fun σ H Q => σ.length = n → tVar i σ H Q) := ⟨fun pins s σ H Q I q => (pe_var hN hv hd hcd).run pins s σ H Q I (q (by rw [← hn]; exact I.len))⟩
theorem met_gives {X : Cx} {C g : Addr} {cdg : Value} {q : Str} (B : BadC X.K X.mg C) : GivesTo X ["ask", "e"] "_law_met" (defScope s__law_met) g cdg (defBody s__law_met) "ask" q (TTmet X.K C) := by
  intro f c' s H Q tl act hc h
  refine ⟨_, pss_one (ps_try_as (X := (cxOf C8.CX0 X.prog X.w X.K X.mg X.base ["ask", "e"] "_law_met" (defScope s__law_met) g cdg X.A X.stack s H C8.E0).nox) (c := .ref C) (i := 1)
      (tb := fun W D σ H => ∃ Ech : XK, (∀ cls d σ' H', Ech cls d H' → W cls d σ' H') ∧ tRet (tTup (tCons (tC (.str "told")) (tCons (fun σZ HZ Q => σZ[0]? = some (some (.ref f)) ∧ HZ c' = some (CodeO c' q) ∧ tl Ech HZ Q) tNil))) D σ H)
      rfl rfl sc__law_met.nd rfl rfl ⟨rfl, rfl, .inl B.gC⟩ L2.takes0 (fun W pn xe tk _ => ?_) (fun a oe cls d pn hz hf => pss_one (ps_ret (pe_tup (pa_cons pe_str (pa_cons (pe_xf B.xf B.no hz hf (pvL 1 2)) pa_nil)))))), ?_⟩
  · exact pss_ex fun Ech hW => pss_one (ps_ret (pe_tup (pa_cons pe_str (pa_cons (act W pn xe Ech _ _ tk hW) pa_nil))))
  · have nl : ∀ v : V, (2 : Nat) ≤ sizeLine := fun _ => by decide
    refine ⟨fun cls d H' => ∃ b, PySem.W.exmOne X.K cls (.ref C) = some b ∧ (b = true → cls = .ref C ∧ ∃ (dd : Addr) (fs : List (Str × V)) (v : V), d = some dd ∧ H' dd = some (.xd fs) ∧ fs.lookup ("body" : Str) = some v ∧ ∀ p, H' p = none → Q (.ref p) (upd H' p (.tup [.str "body", v]))) ∧ (b = false → False), ?_, rfl, hc, ?_⟩
    · rintro cls d σ' H' ⟨b, e1, e2, e3⟩
      refine ⟨b, e1, fun hb a ha => ?_, fun hb => e3 hb⟩
      obtain ⟨h1, dd, fs, v, h2, h3, h4, h5⟩ := e2 hb
      intro hl
      have hl2 : (σ'.set 1 (some (V.ref a))).length = 2 := hl
      rw [List.length_set] at hl2
      exact ⟨.ref a, List.getElem?_set_self (by omega), rfl, h1, dd, fs, v, h2, h3, h4, by show 2 ≤ sizeLine; decide, fun p hp => h5 p hp⟩
    · exact h
end K8

set_option Elab.async false
set_option linter.all false
set_option maxRecDepth 100000
set_option maxHeartbeats 4000000
namespace K8
open PySem PySem.Spec PyProof.Rows L2 M8 LamX
/-! what is refused -/
def T0 (P : Addr) : List (Addr × Str) := [(P, ("_law_refused_right.<locals>." : Str) ++ "<lambda>")]
mutual
theorem See.ext {F : Addr → Prop} {H H' : Hp} (e : ExtN H H') : ∀ {v : V} {d : Dat}, See F H v d → See F H' v d
  | _, _, .non => .non
  | _, _, .bl b => .bl b
  | _, _, .int i => .int i
  | _, _, .str s => .str s
  | _, _, .lst h t => .lst (e _ _ h (fun ps z => by cases z)) (SeeL.ext e t)
  | _, _, .tup h t => .tup (e _ _ h (fun ps z => by cases z)) (SeeL.ext e t)
  | _, _, .dct h t => .dct (e _ _ h (fun ps z => by cases z)) (SeeK.ext e t)
  | _, _, .fn h => .fn h
theorem SeeL.ext {F : Addr → Prop} {H H' : Hp} (e : ExtN H H') : ∀ {vs : List V} {ds : List Dat}, SeeL F H vs ds → SeeL F H' vs ds
  | _, _, .nil => .nil
  | _, _, .cons h t => .cons (See.ext e h) (SeeL.ext e t)
theorem SeeK.ext {F : Addr → Prop} {H H' : Hp} (e : ExtN H H') : ∀ {vs : List (Key × V)} {ds : List (Key × Dat)}, SeeK F H vs ds → SeeK F H' vs ds
  | _, _, .nil => .nil
  | _, _, .cons h t => .cons (See.ext e h) (SeeK.ext e t)
end
def ExoN (a : Addr) (H H' : Hp) : Prop := ∀ b o, b ≠ a → H b = some o → (∀ ps, o ≠ .tbl ps) → H' b = some o
theorem tabs_upd {T : List (Addr × Str)} {H : Hp} {L : Addr} {xs ys : List V} (t : Tabs T H) (h : H L = some (.lst xs)) : Tabs T (upd H L (.lst ys)) := fun p hp => by
  obtain ⟨ps, h1, h2, h3⟩ := t p hp
  refine ⟨ps, by rw [upd_ne (fun z => by rw [z, h] at h1; cases h1)]; exact h1, h2, fun pos cv hc => ?_⟩
  obtain ⟨c2, h4, h5⟩ := h3 pos cv hc
  exact ⟨c2, h4, by rw [upd_ne (fun z => by rw [z, h] at h5; cases h5)]; exact h5⟩
theorem grp_noL {n : Nat} {w : Bool} {ds : List Dat} (hl : ds.length ≤ 1000) (hok : ∀ d ∈ ds, okN n d) (hno : ∃ d ∈ ds, isBodyN n d = false) (ht : ∀ d ∈ ds, dctOk d) : okN (n + 1) (.lst [.str (kw w), .lst ds]) ∧ isBodyN (n + 1) (.lst [.str (kw w), .lst ds]) = false := grp_no (w := w) hl hok hno ht
section
variable {P : Program} {w : World} {K : PySem.W.Frag} {mg : Str → Option Value} {base : Heap}
def spRefused (TP : Addr) : Sp := fun vs H Q _ => ∃ a l ns B, vs = [.ref a, .ref l] ∧ Spr H a B ∧ B + 400 < lot ∧ H l = some (.lst (ns.map V.str)) ∧ l ≠ a ∧ Nms ns ∧ Tabs (T0 TP) H ∧ ∀ H', ExoN a H H' → Tabs (T0 TP) H' → Q (.bl true) H'
abbrev s__law_refused_right : Stmt := top 67
theorem sc__law_refused_right : FnScope ["spring", "names", "good", "odd", "found", "held"] ["spring", "names"] (defScope s__law_refused_right) := ⟨rfl, rfl, rfl, by decide +kernel, rfl, by decide +kernel, by decide +kernel⟩
/-- a def whose code object is known -/
structure AtC (K : PySem.W.Frag) (mg : Str → Option Value) (x : Str) (st : Stmt) (ps : List Str) (c : Addr) : Prop where
  ex : ∃ (f : Addr) (oc : Value) (od : Option Addr) (kV doc pm : Value) (an : Option Addr) (ct : Value) (osl : Array (Option Value)), mg x = some (.ref f) ∧ K.lookup f = some ⟨oc, od, .func (PySem.W.fnOf x x (defArgs st) (defBody st) (defScope st) .none kV doc pm an (.ref c) ct), osl⟩ ∧
    PySem.W.codeIn K (.ref c) x = true ∧ PySem.W.keepIn K (.ref f) = true ∧ L2.Binds K (PySem.W.fnOf x x (defArgs st) (defBody st) (defScope st) .none kV doc pm an (.ref c) ct) ps []
theorem AtC.ok {x : Str} {st : Stmt} {N ps : List Str} {k : Nat} {sp : Sp} {c : Addr} (a : AtC K mg x st ps c) (S : FnScope N ps (defScope st)) (len : ∀ vs H Q E, sp vs H Q E → vs.length = ps.length)
    (hbody : ∀ (f : Addr) (A : Around) (outer : List Env) (s : Shared) (H : Hp) (vs : List V) (Q : VK) (E : XK), Room k (A.deeper (envOfC x (defScope st) s.heap.objs.size f (.ref c))) → sp vs H Q E →
      ∃ t, PSs (cxOf CX0 P w K mg base N x (defScope st) f (.ref c) A outer s H E).nox (defBody st) t ∧ t { nx := fun _ H' => Q .non H', rt := Q } (L2.start N vs) H) : Ok P w K mg base CX0 (k + 1) x ps sp := by
  obtain ⟨f, oc, od, kV, doc, pm, an, ct, osl, hm, lk, hcd, hk, b⟩ := a.ex
  refine ⟨f, _, hm, hk, b, fn_of lk hcd S len fun A outer s H vs Q E hr hsp => ?_⟩
  obtain ⟨t, h, q⟩ := hbody f A outer s H vs Q E hr hsp
  exact ⟨t, h.nox, q⟩
/-- the def that calls what it gets, as the lambda's rule takes it -/
structure MetF (K : PySem.W.Frag) (mg : Str → Option Value) (g : Addr) (oc cdv kV doc pm : Value) (od an : Option Addr) (ct : Value) (osl : Array (Option Value)) : Prop where
  m : mg "_law_met" = some (.ref g)
  k : PySem.W.keepIn K (.ref g) = true
  lk : K.lookup g = some ⟨oc, od, .func (PySem.W.fnOf "_law_met" "_law_met" (defArgs s__law_met) (defBody s__law_met) (defScope s__law_met) .none kV doc pm an cdv ct), osl⟩
  cd : PySem.W.codeIn K cdv "_law_met" = true
  b : L2.Binds K (PySem.W.fnOf "_law_met" "_law_met" (defArgs s__law_met) (defBody s__law_met) (defScope s__law_met) .none kV doc pm an cdv ct) ["ask"] []
theorem ok__law_refused_right (T : Txt K mg) {C TP c : Addr} (B : BadC K mg C) (a : AtC K mg "_law_refused_right" s__law_refused_right ["spring", "names"] c) (TB : TabB base mg c TP) {g : Addr} {oc cdv kV doc pm : Value} {od an : Option Addr} {ct : Value} {osl : Array (Option Value)} (M : MetF K mg g oc cdv kV doc pm od an ct osl) {fa : Addr}
    (Oplain : Ok P w K mg base (L2.CX P w) 12 "plain" ["body"] (spTurnB K C true 5)) (Odenied : Ok P w K mg base (L2.CX P w) 12 "denied" ["body"] (spTurnB K C false 5)) (O_law_w_body : Ok P w K mg base CX0 6 "_law_w_body" ["spring", "names", "great", "deep"] (spBodyW 1)) (O_law_w_no_bodies : Ok P w K mg base CX0 1 "_law_w_no_bodies" ["good"] (spNoB K fa)) (O_law_same : Ok P w K mg base CX0 22 "_law_same" ["found", "due"] (spSameG K (Dep 20))) (hfn : FnK K fa) : Ok P w K mg base CX0 24 "_law_refused_right" ["spring", "names"] (spRefused TP) := by
  obtain ⟨hmM, hkM, lkM, hcM, hbM⟩ := M
  obtain ⟨fP, fdP, hmP, hkP, bP, FP⟩ := Oplain.ex
  obtain ⟨fD, fdD, hmD, hkD, bD, FD⟩ := Odenied.ex
  refine a.ok sc__law_refused_right (fun vs H Q E h => ?_) (fun f A outer s H vs Q E hr h => ?_)
  · obtain ⟨a, l, ns, B, rfl, _⟩ := h; rfl
  · obtain ⟨a, l, ns, Bn, rfl, hs, hB, hl, hla, hns, hTab, q⟩ := h
    refine ⟨_, (pss_cons (ps_set (i := 2) sc__law_refused_right.nd rfl (Or.inl rfl) (pe_callO O_law_w_body (hr.mono (by first | decide | omega)) rfl (pa_cons (pv 0) (pa_cons (pv 1) (pa_cons pe_int (pa_cons pe_int pa_nil))))))
      (pss_cons (ps_for PassesOwn.never rfl (pi_list (pe_callO O_law_w_no_bodies (hr.mono (by first | decide | omega)) rfl (pa_cons (pv 2) pa_nil))) (pg_name (i := 3) sc__law_refused_right.nd rfl (Or.inr rfl)) (pss_cons (ps_set (i := 4) sc__law_refused_right.nd rfl (Or.inl rfl) (pe_lst (pa_cons (pe_lamcall (T := T0 TP) (TT := TTmet K C) (t := fun E => tCall (spTurnB K C true 5) [] E (tCons (tVar 3) tNil)) (k := 12) rfl hmM hkM lkM hcM hbM sc__law_met rfl (.inl rfl) (met_gives B) TB rfl (List.mem_singleton.mpr rfl) (fun p hp _ => by rw [List.mem_singleton.mp hp]; rfl) (hr.mono (by omega)) (lamS_by (sc := defScope s__law_refused_right) (by decide +kernel)) rfl (fun _ _ _ _ _ => rfl) (fun A outer s H E f c1 hr2 => pe_call FP hr2 rfl hmP hkP bP .nil (passes_call (takes_of rfl rfl rfl rfl) (fun _ _ _ _ h => h)) (pa_cons (pv 3) pa_nil))) pa_nil)))
      (pss_cons (ps_expr (pe_bmK (K := K) rfl (pe_bm PySem.F.plainAttrs_list PySem.F.slot_list_append PySem.F.type_list_append mt_append (pv 4) (pa_cons (pe_lamcall (T := T0 TP) (TT := TTmet K C) (t := fun E => tCall (spTurnB K C false 5) [] E (tCons (tVar 3) tNil)) (k := 12) rfl hmM hkM lkM hcM hbM sc__law_met rfl (.inl rfl) (met_gives B) TB rfl (List.mem_singleton.mpr rfl) (fun p hp _ => by rw [List.mem_singleton.mp hp]; rfl) (hr.mono (by omega)) (lamS_by (sc := defScope s__law_refused_right) (by decide +kernel)) rfl (fun _ _ _ _ _ => rfl) (fun A outer s H E f c1 hr2 => pe_call FD hr2 rfl hmD hkD bD .nil (passes_call (takes_of rfl rfl rfl rfl) (fun _ _ _ _ h => h)) (pa_cons (pv 3) pa_nil))) pa_nil))))
      (pss_one (ps_if (pt_not (pt_val (pe_callO O_law_same (hr.mono (by first | decide | omega)) rfl (pa_cons (pv 4) (pa_cons (pe_op op_rep (pe_lst (pa_cons (pe_tup (pa_cons pe_str (pa_cons (pv 3) pa_nil))) pa_nil)) pe_int) pa_nil))))) (pss_one (ps_ret pe_bl)) pss_nil)))))
      (pss_cons (ps_set (i := 5) sc__law_refused_right.nd rfl (Or.inr rfl) (pe_lst (pa_cons pe_str (pa_cons (pe_lst (pa_cons (pv 2) (pa_cons pe_non pa_nil))) pa_nil))))
      (pss_cons (ps_set (i := 4) sc__law_refused_right.nd rfl (Or.inl rfl) (pe_lst (pa_cons (pe_lamcall (T := T0 TP) (TT := TTmet K C) (t := fun E => tCall (spTurnB K C true 5) [] E (tCons (tVar 5) tNil)) (k := 12) rfl hmM hkM lkM hcM hbM sc__law_met rfl (.inl rfl) (met_gives B) TB rfl (List.mem_singleton.mpr rfl) (fun p hp _ => by rw [List.mem_singleton.mp hp]; rfl) (hr.mono (by omega)) (lamS_by (sc := defScope s__law_refused_right) (by decide +kernel)) rfl (fun _ _ _ _ _ => rfl) (fun A outer s H E f c1 hr2 => pe_call FP hr2 rfl hmP hkP bP .nil (passes_call (takes_of rfl rfl rfl rfl) (fun _ _ _ _ h => h)) (pa_cons (pv 5) pa_nil))) pa_nil)))
      (pss_cons (ps_expr (pe_bmK (K := K) rfl (pe_bm PySem.F.plainAttrs_list PySem.F.slot_list_append PySem.F.type_list_append mt_append (pv 4) (pa_cons (pe_lamcall (T := T0 TP) (TT := TTmet K C) (t := fun E => tCall (spTurnB K C false 5) [] E (tCons (tVar 5) tNil)) (k := 12) rfl hmM hkM lkM hcM hbM sc__law_met rfl (.inl rfl) (met_gives B) TB rfl (List.mem_singleton.mpr rfl) (fun p hp _ => by rw [List.mem_singleton.mp hp]; rfl) (hr.mono (by omega)) (lamS_by (sc := defScope s__law_refused_right) (by decide +kernel)) rfl (fun _ _ _ _ _ => rfl) (fun A outer s H E f c1 hr2 => pe_call FD hr2 rfl hmD hkD bD .nil (passes_call (takes_of rfl rfl rfl rfl) (fun _ _ _ _ h => h)) (pa_cons (pv 5) pa_nil))) pa_nil))))
      (pss_cons (ps_expr (pe_bmK (K := K) rfl (pe_bm PySem.F.plainAttrs_list PySem.F.slot_list_append PySem.F.type_list_append mt_append (pv 5) (pa_cons pe_str pa_nil))))
      (pss_one (ps_ret (pe_and (pe_callO O_law_same (hr.mono (by first | decide | omega)) rfl (pa_cons (pv 4) (pa_cons (pe_op op_rep (pe_lst (pa_cons (pe_tup (pa_cons pe_str (pa_cons (pv 5) pa_nil))) pa_nil)) pe_int) pa_nil))) (pe_one (pe_cmpR op_eq (pe_callB (len_qK (K := K) rfl) rfl T.n_len rfl (pa_cons (pe_ix (ix_qK (K := K) rfl) (pe_ix (ix_qK (K := K) rfl) (pv 4) pe_int (fun _ _ => rfl)) pe_int (fun _ _ => rfl)) pa_nil)) pe_int (nomark _)))))))))))), ?_⟩
    have h4 := hns.l4
    refine ⟨_, rfl, _, rfl, a, l, ns, 3, Bn, rfl, hs, by show Bn + 80 + 300 < lot; omega, hl, hla, hns.nd, hns.l4, by decide, by decide, fun gv b S Ds H1 e1 s1 nw aw => ?_⟩
    have hDT : AllW (DT ns 6) 1 b := aw.imp fun _ h => dt_of h (by decide)
    have alB : AllT (BT ns) 1 b := hDT.allT fun _ h => h.b
    have hgood : AllT GoodT 1 b := alB.imp fun _ h => bt_good hns h
    have sg1 : SeeF K H1 gv (bdDat b) := see_own nw.own
    have gb : GB (bdDat b) := by
      refine ⟨fun n hn => ?_, sq_of_isB (isB_dat hgood), termOk_isB (isB_dat hgood) hgood, ?_⟩
      · exact (isB_body (isB_dat (AllT.up hn hgood)) (AllT.up hn hgood)).2
      · exact dep_up (by decide) (dep_bd (n := 1) (fun ts h => by have := term_len4 h.1 hns.l4; omega) alB)
    generalize bdDat b = g at sg1 gb
    dsimp only [tSeq, gName]
    refine tFor_of ?_
    refine ⟨_, rfl, gv, g, rfl, sg1, fun R zs H2 hR e2 hR2 sz => ?_⟩
    have sg2 : SeeF K H2 gv g := sg1.mono e2
    have eA : Exo [a] H H2 := e1.trans (e2.exo _)
    have bad : ∀ d ∈ noB g ++ [.fn fa], NoB d := app (noB_no gb) (all1 ⟨⟨trivial, fun _ => trivial⟩, rfl, trivial⟩)
    generalize hds : noB g ++ [.fn fa] = ds at sz bad
    have tabsA : ∀ {H' : Hp}, Exo [a] H H' → (∀ b o, b = a → H b = some o → ∃ xs, o = .lst xs) → Tabs (T0 TP) H' := fun e ha => fun p hp => by
      obtain ⟨ps, h1, h2, h3⟩ := hTab p hp
      refine ⟨ps, e.at1 (fun z => by obtain ⟨xs, hx⟩ := ha _ _ z h1; cases hx) h1, h2, fun pos cv hc => ?_⟩
      obtain ⟨c2, h4, h5⟩ := h3 pos cv hc
      exact ⟨c2, h4, e.at1 (fun z => by obtain ⟨xs, hx⟩ := ha _ _ z h5; cases hx) h5⟩
    have alst : ∀ b o, b = a → H b = some o → ∃ xs, o = .lst xs := fun b o hb h => by
      obtain ⟨x1, x2, x3, x4, _⟩ := hs
      rw [hb, x4] at h; cases h; exact ⟨_, rfl⟩
    refine ⟨R, rfl, ⟨_, SqL.of hR2⟩, ?_⟩
    have one : ∀ {wb : Bool} {σ : L2.St} {i : Nat} {v : V} {d : Dat} {H4 : Hp} {R : V → Hp → Prop}, σ[i]? = some (some v) → SeeF K H4 v d → okN 5 d → isBodyN 5 d = false → Tabs (T0 TP) H4 →
        (∀ p H5, ExtN H4 H5 → Tabs (T0 TP) H5 → (∀ b o, H4 b = some o → (∀ ps, o ≠ .tbl ps) → b ≠ p) → H5 p = some (.tup [.str "body", v]) → R (.ref p) H5) → tLam (T0 TP) (TTmet K C) (fun E => tCall (spTurnB K C wb 5) [] E (tCons (tVar i) tNil)) σ H4 R := by
      intro wb σ i v d H4 R hσ hv hok hno hT k
      refine ⟨hT, fun H5 e5 T5 => ?_⟩
      refine ⟨v, hσ, v, d, rfl, See.ext e5 hv, .inr ⟨hok, hno, fun dd H6 hdd e6 hx => ?_⟩⟩
      refine ⟨true, B.te, fun _ => ⟨rfl, dd, _, v, rfl, hx, rfl, fun p hp => ?_⟩, fun z => by cases z⟩
      have e7 : Ex H5 (upd H6 p (.tup [.str "body", v])) := e6.mut (e6.free hp)
      have hp5 : H5 p = none := e6.free hp
      exact k p _ (e5.trans (ExtN.of e7)) (Tabs.ext T5 e7) (fun b o h nt z => by have := e5 b o h nt; rw [z, hp5] at this; cases this) upd_same
    refine for_itB (walk_list (xs := zs)) (fun i σ H' => ∃ x3 x4, σ = [some (.ref a), some (.ref l), some gv, x3, x4, none] ∧ ExoN a H H' ∧ H' R = some (.lst zs) ∧ SeeL (FnK K) H' zs ds ∧ SeeF K H' gv g ∧ Tabs (T0 TP) H') ⟨none, none, rfl, fun b o nb h _ => eA.at1 nb h, hR2, sz, sg2, tabsA eA alst⟩ (fun i σ H' _ ⟨_, _, _, _, h, _⟩ => SqL.of h) ?_ ?_
    · rintro i x σ H4 H5 hi ⟨x3, x4, rfl, eN, hR4, all4, sg4, tab4⟩ ⟨rfl, hx⟩
      obtain ⟨d, hd, sd⟩ := all4.getV hx
      obtain ⟨b1, b2, b3⟩ := bad d (List.mem_of_getElem? hd)
      refine one (v := x) (d := d) rfl sd b1 b2 tab4 fun p H6 e6 T6 hp hp6 => ?_
      refine ⟨by show 1 ≤ sizeLine; decide, fun F hF => ?_⟩
      have xF : Ex H6 (upd H6 F (.lst [.ref p])) := Ex.new hF
      refine ⟨_, rfl, .inl ⟨rfl, _, SqL.of upd_same⟩, one (v := x) (d := d) rfl ((See.ext e6 sd).mono xF) b1 b2 (Tabs.ext T6 xF) fun p2 H8 e8 T8 hp8 hp28 => ?_⟩
      have hF8 : H8 F = some (.lst [.ref p]) := e8 _ _ upd_same (fun ps z => by cases z)
      refine ⟨F, _, _, rfl, rfl, hF8, by show 1 < sizeLine; decide, ?_⟩
      have e6u : ExtN H6 (upd H8 F (.lst ([.ref p] ++ [.ref p2]))) := fun b o h nt => by
        rw [upd_ne (ne_of_none h hF)]; exact e8 _ _ (xF _ _ h) nt
      have Fp2 : p2 ≠ F := (hp8 F _ upd_same (fun ps z => by cases z)).symm
      have hpu : upd H8 F (.lst ([.ref p] ++ [.ref p2])) p = some (.tup [.str "body", x]) := e6u _ _ hp6 (fun ps z => by cases z)
      have hp2u : upd H8 F (.lst ([.ref p] ++ [.ref p2])) p2 = some (.tup [.str "body", x]) := by rw [upd_ne Fp2]; exact hp28
      have hFu : upd H8 F (.lst ([.ref p] ++ [.ref p2])) F = some (.lst [.ref p, .ref p2]) := upd_same
      have Tu : Tabs (T0 TP) (upd H8 F (.lst ([.ref p] ++ [.ref p2]))) := tabs_upd T8 hF8
      generalize upd H8 F (.lst ([.ref p] ++ [.ref p2])) = H9 at e6u hpu hp2u hFu Tu
      have e59 := e6.trans e6u
      have sd9 : SeeF K H9 x d := See.ext e59 sd
      refine ⟨_, rfl, _, rfl, by show 2 ≤ sizeLine; decide, fun t ht => ⟨by show 1 ≤ sizeLine; decide, fun Z hZ => ?_⟩⟩
      have xt : Ex H9 (upd H9 t (.tup [.str "body", x])) := Ex.new ht
      have xZ := xt.mut (xt.free hZ) (o := .lst [.ref t])
      have tZ : t ≠ Z := ne_of_none upd_same hZ
      refine ⟨Z, _, _, rfl, rfl, upd_same, by decide, by decide, by rw [sizeLine_eq]; simp, fun Rp hRp => ?_⟩
      have xR := xZ.mut (xZ.free hRp) (o := .lst (List.replicate (Int.toNat 2) [V.ref t]).flatten)
      have tR : t ≠ Rp := fun z => by rw [← z, upd_ne tZ, upd_same] at hRp; cases hRp
      have ht2 : upd (upd (upd H9 t (.tup [.str "body", x])) Z (.lst [.ref t])) Rp (.lst (List.replicate (Int.toNat 2) [V.ref t]).flatten) t = some (.tup [.str "body", x]) := by rw [upd_ne tR, upd_ne tZ, upd_same]
      have hR3 : upd (upd (upd H9 t (.tup [.str "body", x])) Z (.lst [.ref t])) Rp (.lst (List.replicate (Int.toNat 2) [V.ref t]).flatten) Rp = some (.lst [.ref t, .ref t]) := upd_same
      generalize upd (upd (upd H9 t (.tup [.str "body", x])) Z (.lst [.ref t])) Rp (.lst (List.replicate (Int.toNat 2) [V.ref t]).flatten) = H10 at xR ht2 hR3
      have sdA : SeeF K H10 x d := sd9.mono xR
      have tu : ∀ {q : Addr}, H10 q = some (.tup [.str "body", x]) → SeeF K H10 (.ref q) (.tup [.str "body", d]) := fun h => .tup h (.cons (.str _) (.cons sdA .nil))
      have dp : Dep 19 (.tup [.str "body", d]) := dep_tup (n := 18) (by simp) (all2 (dep_flat rfl _) b3)
      refine ⟨.ref F, .ref Rp, .lst [.tup [.str "body", d], .tup [.str "body", d]], rfl, .lst (xR _ _ hFu) (.cons (tu (xR _ _ hpu)) (.cons (tu (xR _ _ hp2u)) .nil)), .lst hR3 (.cons (tu ht2) (.cons (tu ht2) .nil)), dep_lst (n := 19) (by simp) (all2 dp dp), fun H11 e11 => ⟨_, rfl, iteF ?_⟩⟩
      have e5_11 := e59.trans (ExtN.of (xR.trans e11))
      exact ⟨_, _, rfl, fun b o nb h nt => e5_11 _ _ (eN b o nb h nt) nt, e5_11 _ _ hR4 (fun ps z => by cases z), SeeL.ext e5_11 all4, See.ext e5_11 sg4, Tabs.ext Tu (xR.trans e11)⟩
    · rintro σ H4 ⟨x3, x4, rfl, eN, hR4, all4, sg4, tab4⟩
      refine ⟨_, rfl, by show 2 ≤ sizeLine; decide, fun L1 hL1 => ⟨by show 2 ≤ sizeLine; decide, fun L2' hL2 => ?_⟩⟩
      have y1 : Ex H4 (upd H4 L1 (.lst [gv, .non])) := Ex.new hL1
      have y2 := y1.mut (y1.free hL2) (o := .lst [.str "all", .ref L1])
      have n12 : L1 ≠ L2' := ne_of_none upd_same hL2
      have hL1' : upd (upd H4 L1 (.lst [gv, .non])) L2' (.lst [.str "all", .ref L1]) L1 = some (.lst [gv, .non]) := by rw [upd_ne n12, upd_same]
      have hL2' : upd (upd H4 L1 (.lst [gv, .non])) L2' (.lst [.str "all", .ref L1]) L2' = some (.lst [.str "all", .ref L1]) := upd_same
      generalize upd (upd H4 L1 (.lst [gv, .non])) L2' (.lst [.str "all", .ref L1]) = H5 at y2 hL1' hL2'
      have sH : ∀ {H' : Hp}, Ex H5 H' → SeeF K H' (.ref L2') (.lst [.str "all", .lst [g, .non]]) := fun e => .lst (e _ _ hL2') (.cons (.str _) (.cons (.lst (e _ _ hL1') (.cons ((sg4.mono y2).mono e) (.cons .non .nil))) .nil))
      obtain ⟨hok, hno⟩ := grp_noL (n := 4) (w := true) (ds := [g, .non]) (by simp) (all2 (gb.ok 4 (by decide)) (ok_non _)) ⟨.non, List.mem_cons_of_mem _ List.mem_cons_self, rfl⟩ (all2 (dctOk_sq gb.sq) trivial)
      refine one (v := .ref L2') rfl (sH (Ex.refl _)) hok hno (Tabs.ext tab4 y2) fun p H6 e6 T6 hp hp6 => ?_
      refine ⟨by show 1 ≤ sizeLine; decide, fun F hF => ?_⟩
      have xF : Ex H6 (upd H6 F (.lst [.ref p])) := Ex.new hF
      refine ⟨_, rfl, .inl ⟨rfl, _, SqL.of upd_same⟩, one (v := .ref L2') rfl ((See.ext e6 (sH (Ex.refl _))).mono xF) hok hno (Tabs.ext T6 xF) fun p2 H8 e8 T8 hp8 hp28 => ?_⟩
      have hF8 : H8 F = some (.lst [.ref p]) := e8 _ _ upd_same (fun ps z => by cases z)
      refine ⟨F, _, _, rfl, rfl, hF8, by show 1 < sizeLine; decide, ?_⟩
      have e6u : ExtN H6 (upd H8 F (.lst ([.ref p] ++ [.ref p2]))) := fun b o h nt => by
        rw [upd_ne (ne_of_none h hF)]; exact e8 _ _ (xF _ _ h) nt
      have Fp2 : p2 ≠ F := (hp8 F _ upd_same (fun ps z => by cases z)).symm
      have hpu : upd H8 F (.lst ([.ref p] ++ [.ref p2])) p = some (.tup [.str "body", .ref L2']) := e6u _ _ hp6 (fun ps z => by cases z)
      have hp2u : upd H8 F (.lst ([.ref p] ++ [.ref p2])) p2 = some (.tup [.str "body", .ref L2']) := by rw [upd_ne Fp2]; exact hp28
      have hFu : upd H8 F (.lst ([.ref p] ++ [.ref p2])) F = some (.lst [.ref p, .ref p2]) := upd_same
      have Tu : Tabs (T0 TP) (upd H8 F (.lst ([.ref p] ++ [.ref p2]))) := tabs_upd T8 hF8
      generalize upd H8 F (.lst ([.ref p] ++ [.ref p2])) = H9 at e6u hpu hp2u hFu Tu
      have e59 := e6.trans e6u
      have hL9 : H9 L2' = some (.lst [.str "all", .ref L1]) := e59 _ _ hL2' (fun ps z => by cases z)
      refine ⟨_, rfl, .inl ⟨rfl, _, SqL.of hL9⟩, L2', _, _, rfl, rfl, hL9, by show 2 < sizeLine; decide, ?_⟩
      have hL2n : H4 L2' = none := y1.free hL2
      have e4_9 : ExtN H4 H9 := (ExtN.of y2).trans e59
      have tL : ∀ {b : Addr} {o : HO}, H9 b = some o → o ≠ .lst [.str "all", .ref L1] → b ≠ L2' := fun h n z => by rw [z, hL9] at h; exact n (Option.some.inj h).symm
      have nF : F ≠ L2' := tL hFu (by simp)
      have np : p ≠ L2' := tL hpu (by simp)
      have np2 : p2 ≠ L2' := tL hp2u (by simp)
      have hL1_9 : H9 L1 = some (.lst [gv, .non]) := e59 _ _ hL1' (fun ps z => by cases z)
      have e4_10 : ExtN H4 (upd H9 L2' (.lst ([.str "all", .ref L1] ++ [.str "late"]))) := fun b o h nt => by
        rw [upd_ne (ne_of_none h hL2n)]; exact e4_9 _ _ h nt
      have hF10 : upd H9 L2' (.lst ([.str "all", .ref L1] ++ [.str "late"])) F = some (.lst [.ref p, .ref p2]) := by rw [upd_ne nF]; exact hFu
      have hp10 : upd H9 L2' (.lst ([.str "all", .ref L1] ++ [.str "late"])) p = some (.tup [.str "body", .ref L2']) := by rw [upd_ne np]; exact hpu
      have hp210 : upd H9 L2' (.lst ([.str "all", .ref L1] ++ [.str "late"])) p2 = some (.tup [.str "body", .ref L2']) := by rw [upd_ne np2]; exact hp2u
      have hL1_10 : upd H9 L2' (.lst ([.str "all", .ref L1] ++ [.str "late"])) L1 = some (.lst [gv, .non]) := by rw [upd_ne n12]; exact hL1_9
      have hL10 : upd H9 L2' (.lst ([.str "all", .ref L1] ++ [.str "late"])) L2' = some (.lst [.str "all", .ref L1, .str "late"]) := upd_same
      have T10 : Tabs (T0 TP) (upd H9 L2' (.lst ([.str "all", .ref L1] ++ [.str "late"]))) := tabs_upd Tu hL9
      generalize upd H9 L2' (.lst ([.str "all", .ref L1] ++ [.str "late"])) = H10 at e4_10 hF10 hp10 hp210 hL1_10 hL10 T10
      refine ⟨_, rfl, _, rfl, by show 2 ≤ sizeLine; decide, fun t ht => ⟨by show 1 ≤ sizeLine; decide, fun Z hZ => ?_⟩⟩
      have xt : Ex H10 (upd H10 t (.tup [.str "body", .ref L2'])) := Ex.new ht
      have xZ := xt.mut (xt.free hZ) (o := .lst [.ref t])
      have tZ : t ≠ Z := ne_of_none upd_same hZ
      refine ⟨Z, _, _, rfl, rfl, upd_same, by decide, by decide, by rw [sizeLine_eq]; simp, fun Rp hRp => ?_⟩
      have xR := xZ.mut (xZ.free hRp) (o := .lst (List.replicate (Int.toNat 2) [V.ref t]).flatten)
      have tR : t ≠ Rp := fun z => by rw [← z, upd_ne tZ, upd_same] at hRp; cases hRp
      have ht2 : upd (upd (upd H10 t (.tup [.str "body", .ref L2'])) Z (.lst [.ref t])) Rp (.lst (List.replicate (Int.toNat 2) [V.ref t]).flatten) t = some (.tup [.str "body", .ref L2']) := by rw [upd_ne tR, upd_ne tZ, upd_same]
      have hR3 : upd (upd (upd H10 t (.tup [.str "body", .ref L2'])) Z (.lst [.ref t])) Rp (.lst (List.replicate (Int.toNat 2) [V.ref t]).flatten) Rp = some (.lst [.ref t, .ref t]) := upd_same
      generalize upd (upd (upd H10 t (.tup [.str "body", .ref L2'])) Z (.lst [.ref t])) Rp (.lst (List.replicate (Int.toNat 2) [V.ref t]).flatten) = H11 at xR ht2 hR3
      have sdA : SeeF K H11 (.ref L2') (.lst [.str "all", .lst [g, .non], .str "late"]) := .lst (xR _ _ hL10) (.cons (.str _) (.cons (.lst (xR _ _ hL1_10) (.cons (See.mono xR (See.ext e4_10 sg4)) (.cons .non .nil))) (.cons (.str _) .nil)))
      have tu : ∀ {q : Addr}, H11 q = some (.tup [.str "body", .ref L2']) → SeeF K H11 (.ref q) (.tup [.str "body", .lst [.str "all", .lst [g, .non], .str "late"]]) := fun h => .tup h (.cons (.str _) (.cons sdA .nil))
      have dp : Dep 19 (.tup [.str "body", .lst [.str "all", .lst [g, .non], .str "late"]]) := dep_tup (n := 18) (by simp) (all2 (dep_flat rfl _) (dep_lst (n := 17) (by simp) (all3 (dep_flat rfl _) (dep_lst (n := 16) (by simp) (all2 (dep_up (by decide) gb.dep) (dep_flat rfl _))) (dep_flat rfl _))))
      refine ⟨.ref F, .ref Rp, .lst [.tup [.str "body", .lst [.str "all", .lst [g, .non], .str "late"]], .tup [.str "body", .lst [.str "all", .lst [g, .non], .str "late"]]], rfl, .lst (xR _ _ hF10) (.cons (tu (xR _ _ hp10)) (.cons (tu (xR _ _ hp210)) .nil)), .lst hR3 (.cons (tu ht2) (.cons (tu ht2) .nil)), dep_lst (n := 19) (by simp) (all2 dp dp), fun H12 e12 => ⟨_, rfl, iteT ?_⟩⟩
      have x12 := xR.trans e12
      refine ⟨_, rfl, F, _, 0, _, rfl, rfl, SqQ.l (x12 _ _ hF10), at0, p, _, 1, _, rfl, rfl, SqQ.t (x12 _ _ hp10), at1, L2', _, rfl, SqQ.l (x12 _ _ hL10), rfl, ?_⟩
      exact q H12 (fun b o nb h nt => x12 _ _ (e4_10 _ _ (eN b o nb h nt) nt)) (Tabs.ext T10 x12)
end
end K8

set_option Elab.async false
set_option linter.all false
set_option maxRecDepth 100000
set_option maxHeartbeats 4000000
namespace K8
open PySem PySem.Spec PyProof.Rows L2 M8
def spChanged : Sp := fun vs H Q _ => ∃ a l ns B, vs = [.ref a, .ref l] ∧ Spr H a B ∧ B + 1000 < lot ∧ H l = some (.lst (ns.map V.str)) ∧ l ≠ a ∧ Nms ns ∧ ∀ H', Exo [a] H H' → Spr H' a (B + 160) → Q (.bl true) H'
section
variable {P : Program} {w : World} {K : PySem.W.Frag} {mg : Str → Option Value} {base : Heap}
abbrev s__law_changed_right : Stmt := top 65
theorem sc__law_changed_right : FnScope ["spring", "names", "parts", "held", "found", "due", "some", "k"] ["spring", "names"] (defScope s__law_changed_right) := ⟨rfl, rfl, rfl, by decide +kernel, rfl, by decide +kernel, by decide +kernel⟩
theorem ok__law_changed_right (T : Txt K mg) {C : Addr} (a : At K mg "_law_changed_right" s__law_changed_right ["spring", "names"]) (Oplain : Ok P w K mg base (L2.CX P w) 12 "plain" ["body"] (spTurnB K C true 5)) (Odenied : Ok P w K mg base (L2.CX P w) 12 "denied" ["body"] (spTurnB K C false 5)) (O_law_w_body : Ok P w K mg base CX0 6 "_law_w_body" ["spring", "names", "great", "deep"] (spBodyW 1)) (O_law_w_plain : Ok P w K mg base CX0 8 "_law_w_plain" ["body", "is_denied"] (spPlainL 5)) (O_law_same : Ok P w K mg base CX0 22 "_law_same" ["found", "due"] (spSameG K (Dep 20))) : Ok P w K mg base CX0 24 "_law_changed_right" ["spring", "names"] spChanged := a.ok fun f fd F => by
  refine F.ok sc__law_changed_right (fun vs H Q E h => ?_) (fun cdv A outer s H vs Q E hr h => ?_)
  · obtain ⟨a, l, ns, B, rfl, _⟩ := h; rfl
  · obtain ⟨a, l, ns, Bn, rfl, hs, hB, hl, hla, hns, q⟩ := h
    refine ⟨_, (pss_cons (ps_setLc (i := 2) (own := [("k", 7)]) (g := gName 7) (tt := tYes) rfl sc__law_changed_right.nd rfl rfl (sw_true rfl rfl rfl (by decide +kernel)) (pi_range1 rfl T.n_range (pa_cons pe_int pa_nil)) (blkOk_by (N := ["spring", "names", "parts", "held", "found", "due", "some", "k"]) (sc := defScope s__law_changed_right) (by decide +kernel)) (fun _ _ _ _ _ => (pg_name (i := 7) sc__law_changed_right.nd rfl (Or.inl rfl))) (fun _ _ _ _ _ => pts_nil) (fun _ _ _ _ _ => (pe_callO O_law_w_body (hr.mono (by first | decide | omega)) rfl (pa_cons (pv 0) (pa_cons (pv 1) (pa_cons pe_int (pa_cons pe_int pa_nil)))))))
      (pss_cons (ps_set (i := 3) sc__law_changed_right.nd rfl (Or.inl rfl) (pe_lst (pa_cons pe_str (pa_cons (pe_lst (pa_cons (pe_ix (ix_qK (K := K) rfl) (pv 2) pe_int (fun _ _ => rfl)) pa_nil)) pa_nil))))
      (pss_cons (ps_set (i := 4) sc__law_changed_right.nd rfl (Or.inl rfl) (pe_lst (pa_cons (pe_turn Oplain (hr.mono (by omega)) rfl (pv 3)) (pa_cons (pe_turn Odenied (hr.mono (by omega)) rfl (pv 3)) pa_nil))))
      (pss_cons (ps_expr (pe_bmK (K := K) rfl (pe_bm PySem.F.plainAttrs_list PySem.F.slot_list_append PySem.F.type_list_append mt_append (pe_ix (ix_qK (K := K) rfl) (pv 3) pe_int (fun _ _ => rfl)) (pa_cons (pe_ix (ix_qK (K := K) rfl) (pv 2) pe_int (fun _ _ => rfl)) pa_nil))))
      (pss_cons (ps_expr (pe_bmK (K := K) rfl (pe_bm PySem.F.plainAttrs_list PySem.F.slot_list_extend PySem.F.type_list_extend mt_extend (pv 4) (pa_cons (pe_lst (pa_cons (pe_turn Oplain (hr.mono (by omega)) rfl (pv 3)) (pa_cons (pe_turn Odenied (hr.mono (by omega)) rfl (pv 3)) pa_nil))) pa_nil))))
      (pss_cons (ps_set (i := 5) sc__law_changed_right.nd rfl (Or.inl rfl) (pe_lst pa_nil))
      (pss_cons (ps_for PassesOwn.never rfl (pi_tup (pe_tup (pa_cons (pe_slice sl_list (pv 2) po_none (po_some pe_int)) (pa_cons (pv 2) pa_nil)))) (pg_name (i := 6) sc__law_changed_right.nd rfl (Or.inl rfl)) (pss_one (ps_expr (pe_bmK (K := K) rfl (pe_bm PySem.F.plainAttrs_list PySem.F.slot_list_extend PySem.F.type_list_extend mt_extend (pv 5) (pa_cons (pe_lst (pa_cons (pe_callO O_law_w_plain (hr.mono (by first | decide | omega)) rfl (pa_cons (pe_tup (pa_cons pe_str (pa_cons (pv 6) pa_nil))) (pa_cons pe_bl pa_nil))) (pa_cons (pe_callO O_law_w_plain (hr.mono (by first | decide | omega)) rfl (pa_cons (pe_tup (pa_cons pe_str (pa_cons (pv 6) pa_nil))) (pa_cons pe_bl pa_nil))) pa_nil))) pa_nil))))))
      (pss_one (ps_ret (pe_callO O_law_same (hr.mono (by first | decide | omega)) rfl (pa_cons (pv 4) (pa_cons (pv 5) pa_nil)))))))))))), ?_⟩
    dsimp only [tSeq, tAsg, gName, tNil]
    refine tLc_of ?_
    refine ⟨2, rfl, by decide, by decide, ?_⟩
    refine lc_genD (walk_range (n := 2)) [a] (fun i H' => Spr H' a (Bn + i * 80)) (fun D i acc H' => ∃ bs S Ds, bs.length = i ∧ OwnL H' bs acc S Ds ∧ D ∉ S ∧ a ∉ S ∧ ∀ b ∈ bs, AllW (TstIn ns 3) 1 b) (by decide) (fun b hb => by rw [show b = a by simpa using hb]; exact hs.ne) (fun _ _ => trivial) (fun i H1 H2 hb h => h.at (hb a (by simp))) ?_ (by simpa using hs) ?_ ?_ ?_
    · rintro i acc H5 D l0 lx hD hN ⟨bs, S, Ds, h1, h2, h3, h4, h5⟩
      exact ⟨bs, S, Ds, h1, h2.imp fun x hx o ho => by rw [upd_ne (fun z : x = D => h3 (z ▸ hx))]; exact ho, h3, h4, h5⟩
    · intro D hD
      exact ⟨[], [], [], rfl, .nil, by simp, by simp, by simp⟩
    · rintro i x H5 H6 D acc R R' hi e5 m5 hD hDH ⟨bs, S, Ds, h1, h2, h3, h4, h5⟩ hacc ⟨rfl, rfl⟩ kk _
      refine ⟨rfl, yesT ⟨_, rfl, _, rfl, a, l, ns, 3, Bn + i * 80, rfl, m5, by show Bn + i * 80 + 80 + 300 < lot; omega, e5.at1 hla hl, hla, hns.nd, hns.l4, by decide, by decide, fun v b S1 D1 H7 e7 s7 nw aw => ?_⟩⟩
      have nDa : D ≠ a := fun z => hs.ne (by rw [← z]; exact hD)
      refine kk v H7 e7 (s7.mono (by show Bn + i * 80 + 80 ≤ _; rw [Nat.succ_mul]; omega)) ⟨bs ++ [b], S ++ S1, Ds ++ D1, by rw [List.length_append, h1]; rfl, OwnL.snoc nw.own (h2.imp fun x hx o ho => e7 x o (fun z => h4 (by rw [← (show x = a by simpa using z)]; exact hx)) ho), fun z => ?_, fun z => ?_, fun c hc => ?_⟩
      · rcases List.mem_append.mp z with z | z
        · exact h3 z
        · have := nw.fr D z
          rw [hDH] at this; cases this
      · rcases List.mem_append.mp z with z | z
        · exact h4 z
        · exact nw.na z
      · rcases List.mem_append.mp hc with hc | hc
        · exact h5 c hc
        · rw [show c = b by simpa using hc]; exact aw
    · rintro D acc H1 hD0 e1 s1 ⟨bs, S, Ds, h1, hown, hDS, haS, hall⟩ hD _
      obtain ⟨b1, b2, rfl⟩ : ∃ b1 b2, bs = [b1, b2] := by
        match bs, h1 with
        | [x, y], _ => exact ⟨x, y, rfl⟩
      cases hown with
      | @cons _ _ v1 vs1 S1 S2 D1 D2 o1 t1 =>
      cases t1 with
      | @cons _ _ v2 vs2 S2 S3 D2 D3 o2 t2 =>
      cases t2
      have bt : ∀ b ∈ [b1, b2], AllT (BT ns) 1 b := fun b hb => (hall b hb).allT fun _ h => (dt_of h (by decide)).b
      have g1 : AllT GoodT 1 b1 := (bt b1 (by simp)).imp fun _ h => bt_good hns h
      have g2 : AllT GoodT 1 b2 := (bt b2 (by simp)).imp fun _ h => bt_good hns h
      have some1 : ∀ x, x ∈ S1 ∨ x ∈ S2 → H1 x ≠ none := fun x hx => hx.elim (o1.some x) (o2.some x)
      refine ⟨_, rfl, D, _, 0, _, rfl, rfl, SqQ.l hD, at0, by show 1 ≤ sizeLine; decide, fun L1 hL1 => ⟨by show 2 ≤ sizeLine; decide, fun L2 hL2 => ?_⟩⟩
      have y1 : Ex H1 (upd H1 L1 (.lst [v1])) := Ex.new hL1
      have y2 := y1.mut (y1.free hL2) (o := .lst [.str "all", .ref L1])
      have n12 : L1 ≠ L2 := ne_of_none upd_same hL2
      have hL1' : upd (upd H1 L1 (.lst [v1])) L2 (.lst [.str "all", .ref L1]) L1 = some (.lst [v1]) := by rw [upd_ne n12, upd_same]
      have hL2' : upd (upd H1 L1 (.lst [v1])) L2 (.lst [.str "all", .ref L1]) L2 = some (.lst [.str "all", .ref L1]) := upd_same
      generalize upd (upd H1 L1 (.lst [v1])) L2 (.lst [.str "all", .ref L1]) = H2 at y2 hL1' hL2'
      have sH : ∀ {H' : Hp}, Ex H2 H' → SeeF K H' (.ref L2) (.lst [.str "all", .lst [bdDat b1]]) := fun e => .lst (e _ _ hL2') (.cons (.str _) (.cons (.lst (e _ _ hL1') (.cons (see_own ((o1.ex y2).ex e)) .nil)) .nil))
      have ib1 : IsB 5 (.lst [.str "all", .lst [bdDat b1]]) (.grp true [b1]) := IsB.up (n := 2) (by decide) ⟨rfl, _, rfl, rfl, .cons (isB_dat g1) .nil⟩
      have gg1 : AllT GoodT 5 (.grp true [b1]) := AllT.up (n := 2) (by decide) ⟨by simp, fun b hb => by rw [show b = b1 by simpa using hb]; exact g1⟩
      refine ⟨_, rfl, .ref L2, _, _, rfl, sH (Ex.refl _), ib1, gg1, fun r1 H3 nb1 => ?_⟩
      obtain ⟨R1, Q1, or1, _, fr1, x23⟩ := nb1
      refine ⟨_, rfl, .ref L2, _, _, rfl, sH x23, ib1, gg1, fun r2 H4 nb2 => ?_⟩
      obtain ⟨R2, Q2, or2, _, fr2, x34⟩ := nb2
      refine ⟨by show 2 ≤ sizeLine; decide, fun F hF => ?_⟩
      have x45 : Ex H4 (upd H4 F (.lst [r1, r2])) := Ex.new hF
      have hF5 : upd H4 F (.lst [r1, r2]) F = some (.lst [r1, r2]) := upd_same
      generalize upd H4 F (.lst [r1, r2]) = H5 at x45 hF5
      have x24 := x23.trans x34
      have x25 := x24.trans x45
      have hD5 : H5 D = some (.lst [v1, v2]) := x25 _ _ (y2 _ _ hD)
      have hL15 := x25 _ _ hL1'
      refine ⟨_, rfl, L2, _, 1, _, rfl, rfl, SqQ.l (x25 _ _ hL2'), at1, .inl ⟨rfl, _, SqL.of hL15⟩, _, rfl, D, _, 1, _, rfl, rfl, SqQ.l hD5, at1, L1, _, _, rfl, rfl, hL15, by show 1 < sizeLine; decide, ?_⟩
      have m56 : ∀ x o, x ≠ L1 → H5 x = some o → upd H5 L1 (.lst ([v1] ++ [v2])) x = some o := fun x o n h => by rw [upd_ne n]; exact h
      have hL16 : upd H5 L1 (.lst ([v1] ++ [v2])) L1 = some (.lst [v1, v2]) := upd_same
      generalize upd H5 L1 (.lst ([v1] ++ [v2])) = H6 at m56 hL16
      have m16 : ∀ x o, H1 x = some o → H6 x = some o := fun x o h => m56 x o (ne_of_none h hL1) (x25 _ _ (y2 _ _ h))
      have hL26 : H6 L2 = some (.lst [.str "all", .ref L1]) := m56 _ _ (Ne.symm n12) (x25 _ _ hL2')
      have fL1 : ∀ {x : Addr} {H' : Hp}, H' x = none → Ex H2 H' → x ≠ L1 := fun h e z => by rw [z, e _ _ hL1'] at h; cases h
      have hF6 : H6 F = some (.lst [r1, r2]) := m56 _ _ (fL1 hF x24) hF5
      have or1' : Own H6 _ r1 R1 Q1 := or1.imp fun x hx o h => m56 x o (fL1 (fr1 x hx) (Ex.refl _)) ((x34.trans x45) _ _ h)
      have or2' : Own H6 _ r2 R2 Q2 := or2.imp fun x hx o h => m56 x o (fL1 (fr2 x hx) x23) (x45 _ _ h)
      have nF1 : ∀ x ∈ R1, x ≠ F := fun x hx z => (or1.ex x34).some x hx (by rw [z]; exact hF)
      have nF2 : ∀ x ∈ R2, x ≠ F := fun x hx z => or2.some x hx (by rw [z]; exact hF)
      have o1' : Own H6 b1 v1 S1 D1 := o1.ex m16
      have o2' : Own H6 b2 v2 S2 D2 := o2.ex m16
      have sH2 : ∀ {H' : Hp}, Ex H6 H' → SeeF K H' (.ref L2) (.lst [.str "all", .lst [bdDat b1, bdDat b2]]) := fun e => .lst (e _ _ hL26) (.cons (.str _) (.cons (.lst (e _ _ hL16) (.cons (see_own (o1'.ex e)) (.cons (see_own (o2'.ex e)) .nil))) .nil))
      have ib2 : IsB 5 (.lst [.str "all", .lst [bdDat b1, bdDat b2]]) (.grp true [b1, b2]) := IsB.up (n := 2) (by decide) ⟨rfl, _, rfl, rfl, .cons (isB_dat g1) (.cons (isB_dat g2) .nil)⟩
      have gg2 : AllT GoodT 5 (.grp true [b1, b2]) := AllT.up (n := 2) (by decide) ⟨by simp, fun b hb => by
        rcases List.mem_cons.mp hb with rfl | hb
        · exact g1
        · rw [show b = b2 by simpa using hb]; exact g2⟩
      refine ⟨_, rfl, .inl ⟨rfl, _, SqL.of hF6⟩, _, rfl, .ref L2, _, _, rfl, sH2 (Ex.refl _), ib2, gg2, fun r3 H7 nb3 => ?_⟩
      obtain ⟨R3, Q3, or3, _, fr3, x67⟩ := nb3
      refine ⟨_, rfl, .ref L2, _, _, rfl, sH2 x67, ib2, gg2, fun r4 H8 nb4 => ?_⟩
      obtain ⟨R4, Q4, or4, _, fr4, x78⟩ := nb4
      refine ⟨by show 2 ≤ sizeLine; decide, fun G hG => ?_⟩
      have x89 : Ex H8 (upd H8 G (.lst [r3, r4])) := Ex.new hG
      have hG9 : upd H8 G (.lst [r3, r4]) G = some (.lst [r3, r4]) := upd_same
      generalize upd H8 G (.lst [r3, r4]) = H9 at x89 hG9
      have x69 := (x67.trans x78).trans x89
      have hF9 := x69 _ _ hF6
      refine ⟨F, G, _, _, rfl, rfl, hF9, hG9, by rw [sizeLine_eq]; simp, ?_⟩
      have m910 : ∀ x o, x ≠ F → H9 x = some o → upd H9 F (.lst ([r1, r2] ++ [r3, r4])) x = some o := fun x o n h => by rw [upd_ne n]; exact h
      have hF10 : upd H9 F (.lst ([r1, r2] ++ [r3, r4])) F = some (.lst [r1, r2, r3, r4]) := upd_same
      generalize upd H9 F (.lst ([r1, r2] ++ [r3, r4])) = H10 at m910 hF10
      have fF : ∀ {x : Addr} {H' : Hp}, H' x = none → Ex H6 H' → x ≠ F := fun h e z => by rw [z, e _ _ hF6] at h; cases h
      have or1a : Own H10 _ r1 R1 Q1 := or1'.imp fun x hx o h => m910 x o (nF1 x hx) (x69 _ _ h)
      have or2a : Own H10 _ r2 R2 Q2 := or2'.imp fun x hx o h => m910 x o (nF2 x hx) (x69 _ _ h)
      have or3a : Own H10 _ r3 R3 Q3 := or3.imp fun x hx o h => m910 x o (fF (fr3 x hx) (Ex.refl _)) ((x78.trans x89) _ _ h)
      have or4a : Own H10 _ r4 R4 Q4 := or4.imp fun x hx o h => m910 x o (fF (fr4 x hx) x67) (x89 _ _ h)
      have nFn : ∀ {x : Addr} {o : HO}, H1 x = some o → x ≠ F := fun h z => by rw [z] at h; have := (y2.trans x24) _ _ h; rw [hF] at this; cases this
      have m110 : Ex H1 H10 := fun x o h => m910 x o (nFn h) (x69 _ _ (m16 x o h))
      have o1a := o1.ex m110
      have o2a := o2.ex m110
      have hD10 := m110 _ _ hD
      refine ⟨by show 0 ≤ sizeLine; exact Nat.zero_le _, fun E hE => ?_⟩
      have xE : Ex H10 (upd H10 E (.lst [])) := Ex.new hE
      have hE11 : upd H10 E (.lst []) E = some (.lst []) := upd_same
      generalize upd H10 E (.lst []) = H11 at xE hE11
      dsimp only [tSeq, gName, tNil]
      refine tFor_of ?_
      refine ⟨_, rfl, _, rfl, D, _, rfl, SqL.of (xE _ _ hD10), fun P1 hP1 => ⟨_, rfl, by show 2 ≤ sizeLine; decide, fun tp htp => ⟨tp, rfl, ⟨[.ref P1, .ref D], SqT.of upd_same⟩, ?_⟩⟩⟩
      have xP : Ex H11 (upd H11 P1 (.lst (cutV [v1, v2] none (some 1)))) := Ex.new hP1
      have xT := xP.mut (xP.free htp) (o := .tup [.ref P1, .ref D])
      have nPt : P1 ≠ tp := ne_of_none upd_same htp
      have hP13 : upd (upd H11 P1 (.lst (cutV [v1, v2] none (some 1)))) tp (.tup [.ref P1, .ref D]) P1 = some (.lst [v1]) := by rw [upd_ne nPt, upd_same]; rfl
      have hT13 : upd (upd H11 P1 (.lst (cutV [v1, v2] none (some 1)))) tp (.tup [.ref P1, .ref D]) tp = some (.tup [.ref P1, .ref D]) := upd_same
      generalize upd (upd H11 P1 (.lst (cutV [v1, v2] none (some 1)))) tp (.tup [.ref P1, .ref D]) = H13 at xT hP13 hT13
      have hE13 := xT _ _ hE11
      have nE : ∀ {x : Addr} {o : HO}, H10 x = some o → x ≠ E := fun h z => by rw [z, hE] at h; cases h
      have nPE : P1 ≠ E := fun z => by rw [z, hE11] at hP1; cases hP1
      have ntE : tp ≠ E := fun z => by rw [z, hE13] at hT13; cases hT13
      have x1013 := xE.trans xT
      have keep : ∀ {H' : Hp}, Exo [E] H13 H' → Ex H10 H' := fun e x o h => e x o (by simpa using nE h) (x1013 _ _ h)
      generalize hall4 : [bdDat (plainB true (.grp true [b1])), bdDat (plainB false (.grp true [b1])), bdDat (plainB true (.grp true [b1, b2])), bdDat (plainB false (.grp true [b1, b2]))] = all4
      refine for_itB (walk_tup (xs := [.ref P1, .ref D])) (fun i σ H' => ∃ x6 acc, σ = [some (.ref a), some (.ref l), some (.ref D), some (.ref L2), some (.ref F), some (.ref E), x6, none] ∧ Exo [E] H13 H' ∧ H' E = some (.lst acc) ∧ acc.length ≤ 2 * i ∧ SeeL (FnK K) (sansL [E] H') acc (all4.take (2 * i))) ⟨none, [], rfl, Exo.refl _ _, hE13, Nat.zero_le _, by rw [Nat.mul_zero, List.take_zero]; exact .nil⟩ (fun i σ H' _ ⟨_, _, _, e, _⟩ => SqT.of (e _ _ (by simpa using ntE) hT13)) ?_ ?_
      · rintro i x σ H14 H15 hi ⟨x6, acc, rfl, e14, hE14, hacc, sE⟩ ⟨rfl, hx⟩
        have hi2 : i < 2 := hi
        have k14 := keep e14
        obtain ⟨Pa, bs, ws, Sx, Dx, rfl, hPa, oPa, wn, htk⟩ : ∃ Pa bs ws Sx Dx, x = .ref Pa ∧ H15 Pa = some (.lst ws) ∧ OwnL H15 bs ws Sx Dx ∧ AllT WnT 5 (.grp true bs) ∧ all4.take (2 * (i + 1)) = all4.take (2 * i) ++ [bdDat (plainB true (.grp true bs)), bdDat (plainB false (.grp true bs))] := by
          match i, hx with
          | 0, hx =>
            cases hx
            exact ⟨P1, [b1], [v1], _, _, rfl, e14 _ _ (by simpa using nPE) hP13, .cons (o1a.ex k14) .nil, gg1.imp fun _ => GoodT.wn, by rw [← hall4]; rfl⟩
          | 1, hx =>
            cases hx
            exact ⟨D, [b1, b2], [v1, v2], _, _, rfl, k14 _ _ hD10, .cons (o1a.ex k14) (.cons (o2a.ex k14) .nil), gg2.imp fun _ => GoodT.wn, by rw [← hall4]; rfl⟩
          | n + 2, hx => exact absurd hi (by simp)
        refine ⟨_, rfl, .inl ⟨rfl, _, SqL.of hE14⟩, _, rfl, by show 2 ≤ sizeLine; decide, fun q1 hq1 => ?_⟩
        have z1 : Ex H15 (upd H15 q1 (.tup [.str "all", .ref Pa])) := Ex.new hq1
        refine ⟨.ref q1, .grp true bs, q1 :: Pa :: Sx, Dx, false, rfl, .grp (w := true) upd_same (z1 _ _ hPa) (oPa.ex z1), wn, fun u1 H16 nb1 => ?_⟩
        obtain ⟨U1, V1, ou1, _, fu1, z2⟩ := nb1
        have z12 := z1.trans z2
        refine ⟨_, rfl, by show 2 ≤ sizeLine; decide, fun q2 hq2 => ?_⟩
        have z3 : Ex H16 (upd H16 q2 (.tup [.str "all", .ref Pa])) := Ex.new hq2
        have z13 := z12.trans z3
        refine ⟨.ref q2, .grp true bs, q2 :: Pa :: Sx, Dx, true, rfl, .grp (w := true) upd_same (z13 _ _ hPa) (oPa.ex z13), wn, fun u2 H18 nb2 => ?_⟩
        obtain ⟨U2, V2, ou2, _, fu2, z4⟩ := nb2
        refine ⟨by show 2 ≤ sizeLine; decide, fun G2 hG2 => ?_⟩
        have z5 : Ex H18 (upd H18 G2 (.lst [u1, u2])) := Ex.new hG2
        have z14 := z13.trans (z4.trans z5)
        have hE19 := z14 _ _ hE14
        refine ⟨E, G2, _, _, rfl, rfl, hE19, upd_same, by show acc.length + 2 ≤ sizeLine; rw [sizeLine_eq]; omega, ?_⟩
        have up : ∀ {x : Addr} {o : HO}, x ≠ E → upd H18 G2 (.lst [u1, u2]) x = some o → upd (upd H18 G2 (.lst [u1, u2])) E (.lst (acc ++ [u1, u2])) x = some o := fun n h => by rw [upd_ne n]; exact h
        have toS : ∀ {x : Addr} {o : HO}, x ≠ E → upd H18 G2 (.lst [u1, u2]) x = some o → sansL [E] (upd (upd H18 G2 (.lst [u1, u2])) E (.lst (acc ++ [u1, u2]))) x = some o := fun n h => sansL_at (by simpa using n) (up n h)
        have nU1 : ∀ x ∈ U1, x ≠ E := fun x hx z => by have := fu1 x hx; rw [z, z1 _ _ hE14] at this; cases this
        have nU2 : ∀ x ∈ U2, x ≠ E := fun x hx z => by have := fu2 x hx; rw [z, z13 _ _ hE14] at this; cases this
        refine ⟨_, acc ++ [u1, u2], rfl, fun x o nx h => up (by simpa using nx) (z14 _ _ (e14 x o nx h)), upd_same, by rw [List.length_append]; show acc.length + 2 ≤ _; omega, ?_⟩
        rw [htk]
        refine SeeL.append (SeeL.mono (sansL_mono fun x o nx h => ⟨nx, up (by simpa using nx) (z14 _ _ h)⟩) sE) (.cons ?_ (.cons ?_ .nil))
        · exact see_own (ou1.imp fun x hx o h => toS (nU1 x hx) ((z3.trans (z4.trans z5)) _ _ h))
        · exact see_own (ou2.imp fun x hx o h => toS (nU2 x hx) (z5 _ _ h))
      · rintro σ H14 ⟨x6, acc, rfl, e14, hE14, hacc, sE⟩
        have k14 := keep e14
        have hdep : Dep 20 (.lst all4) := by
          have d1 : AllT (BT ns) 2 (.grp true [b1]) := ⟨by simp, fun b hb => by rw [show b = b1 by simpa using hb]; exact bt b1 (by simp)⟩
          have len : ∀ ts, BT ns ts → (coef ts).length ≤ 1000 := fun ts h => by have := term_len4 h.1 hns.l4; omega
          have hw : ∀ b ∈ [b1, b2], AllW (BT ns) 1 b := fun b hb => (hall b hb).imp fun _ h => (dt_of h (by decide)).b
          have w1 : AllW (BT ns) 2 (.grp true [b1]) := ⟨by simp, fun b hb => hw b (by rw [show b = b1 by simpa using hb]; simp)⟩
          have w2 : AllW (BT ns) 2 (.grp true [b1, b2]) := ⟨by simp, fun b hb => hw b hb⟩
          rw [← hall4]
          refine ⟨by simp, fun d hd => ?_⟩
          simp only [List.mem_cons, List.not_mem_nil, or_false] at hd
          rcases hd with rfl | rfl | rfl | rfl
          · exact dep_up (by decide) (dep_bd (n := 3) len (bt_plain true w1))
          · exact dep_up (by decide) (dep_bd (n := 3) len (bt_plain false w1))
          · exact dep_up (by decide) (dep_bd (n := 3) len (bt_plain true w2))
          · exact dep_up (by decide) (dep_bd (n := 3) len (bt_plain false w2))
        have sF : SeeL (FnK K) H14 [r1, r2, r3, r4] all4 := by
          rw [← hall4]
          exact .cons (see_own (or1a.ex k14)) (.cons (see_own (or2a.ex k14)) (.cons (see_own (or3a.ex k14)) (.cons (see_own (or4a.ex k14)) .nil)))
        have sE' : SeeL (FnK K) H14 acc all4 := by
          have : all4.take (2 * [V.ref P1, V.ref D].length) = all4 := by rw [← hall4]; rfl
          rw [this] at sE
          exact SeeL.mono (sansL_ex _ _) sE
        refine ⟨_, rfl, _, rfl, .ref F, .ref E, .lst all4, rfl, .lst (k14 _ _ hF10) sF, .lst hE14 sE', hdep, fun H20 e20 => ?_⟩
        have k20 := (m110.trans k14).trans e20
        exact q H20 (e1.trans (k20.exo _)) ((s1.ex k20).mono (by show Bn + 2 * 80 ≤ _; omega))
end
end K8

set_option Elab.async false
set_option linter.all false
set_option maxRecDepth 100000
set_option maxHeartbeats 4000000
namespace K8
open PySem PySem.Spec PyProof.Rows L2 M8 LamX
section
variable {X : Cx}
theorem pe_negC {i : Int} {k : Nat} {p1 pos : Pos} : PE X (.UnaryOp .USub (.Constant (.int i) k p1) pos) (tC (.int (-i))) := ⟨fun pins s σ H Q I q => (pe_un un_neg pe_int).run pins s σ H Q I ⟨i, rfl, q⟩⟩
end
theorem SqL.keepN {K : PySem.W.Frag} {H H' : Hp} {l : Addr} {xs : List V} (h : SqL K H l xs) (e : ∀ o, H l = some o → (∀ ps, o ≠ .tbl ps) → H' l = some o) : SqL K H' l xs := by
  rcases h with (h | ⟨o, h⟩) | h
  · exact .inl (.inl (e _ h fun ps z => by cases z))
  · exact .inl (.inr ⟨o, e _ h fun ps z => by cases z⟩)
  · exact .inr h
theorem tabs_exo {T : List (Addr × Str)} {a : Addr} {B : Nat} {H H' : Hp} (e : Exo [a] H H') (s : Spr H a B) (t : Tabs T H) : Tabs T H' := fun p hp => by
  obtain ⟨ps, h1, h2, h3⟩ := t p hp
  obtain ⟨_, _, _, hx, _⟩ := s
  refine ⟨ps, e.at1 (fun z => by rw [z, hx] at h1; cases h1) h1, h2, fun pos cv hc => ?_⟩
  obtain ⟨c2, h4, h5⟩ := h3 pos cv hc
  exact ⟨c2, h4, e.at1 (fun z => by rw [z, hx] at h5; cases h5) h5⟩
def xC : Coef := [("x", 1)]
theorem xC_canon : canon xC = xC := Told.canon_eq ⟨by simp [keys, xC], by simp [keys, xC], by simp [xC]⟩
theorem xC_good : Good xC := ⟨⟨by simp [keys, xC], by simp [xC]⟩, fun p hp => by rw [show p = (("x" : Str), (1 : Int)) by simpa [xC] using hp]; decide, fun n hn => by rw [show n = ("x" : Str) by simpa [keys, xC] using hn]; decide +kernel⟩
def restD : Dat := .tup [.str "any", .lst [.tup [.str "by", .int 3, .tup [.dct [(.inr "x", .int 1)], .int (-1)]], .tup [.str "by", .int 3, .tup [.dct [(.inr "x", .int 1)], .int (-2)]]]]
theorem law_d1 : bdDat (plainB false (.grp false [.t (.row xC 0), .t (.div 3 xC 0)])) = .tup [.str "all", .lst [.tup [.str "row", .tup [.dct [(.inr "x", .int (-1))], .int (-1)]], restD]] := by
  rw [plainB, plainL, plainL, plainL, plainB, plainB, if_neg (by simp), if_neg (by simp)]
  show bdDat (.grp true [.t (.row (mapc (fun i => 0 - i) (canon xC)) (0 - 0 - 1)), .grp false [.t (.div 3 (canon xC) (0 - (((0 : Nat) : Int) + 1))), .t (.div 3 (canon xC) (0 - (((1 : Nat) : Int) + 1)))]]) = _
  rw [xC_canon]
  simp only [bdDat, bdDats]
  rfl
theorem law_d2 : bdDat (plainB false (.t (.div 1 xC 0))) = .tup [.str "any", .lst []] := by
  rw [plainB, if_neg (by simp)]
  show bdDat (.grp false []) = _
  simp only [bdDat, bdDats]
  rfl
theorem law_d3 : bdDat (plainB true (.neg (.grp true []))) = .tup [.str "any", .lst []] := by
  rw [plainB, plainB, plainL]
  show bdDat (.grp false []) = _
  simp only [bdDat, bdDats]
  rfl
def spLaw (K : PySem.W.Frag) (TP : Addr) : Sp := fun vs H Q _ => ∃ (a : Addr) (ns : List Int), vs = [.ref a] ∧ SqL K H a (ns.map V.int) ∧ ns.length ≤ 63 ∧ Tabs (T0 TP) H ∧ ∀ H', Q (.bl true) H'
section
variable {P : Program} {w : World} {K : PySem.W.Frag} {mg : Str → Option Value} {base : Heap}
abbrev s_law : Stmt := top 68
theorem sc_law : FnScope ["script", "turn", "spring", "names", "deep", "great", "by", "body", "rests", "found"] ["script"] (defScope s_law) := ⟨rfl, rfl, rfl, by decide +kernel, rfl, by decide +kernel, by decide +kernel⟩
theorem okG_law (T : Txt K mg) {C TP : Addr} (a : At K mg "law" s_law ["script"]) (Oplain : Ok P w K mg base (L2.CX P w) 12 "plain" ["body"] (spTurnB K C true 5)) (Odenied : Ok P w K mg base (L2.CX P w) 12 "denied" ["body"] (spTurnB K C false 5)) (G_law_body_right : OkG P w K mg base 24 "_law_body_right" ["spring", "names", "body"] spBodyR) (O_law_pick : Ok P w K mg base CX0 2 "_law_pick" ["spring", "some"] (spPick K)) (O_law_spring : Ok P w K mg base CX0 1 "_law_spring" ["script", "turn"] (spSpring K)) (O_law_w_names : Ok P w K mg base CX0 3 "_law_w_names" ["spring", "least", "most"] spNames) (O_law_w_body : Ok P w K mg base CX0 9 "_law_w_body" ["spring", "names", "great", "deep"] (spBodyA 4)) (O_law_w_term : Ok P w K mg base CX0 3 "_law_w_term" ["spring", "names", "great"] spTermW) (O_law_changed_right : Ok P w K mg base CX0 24 "_law_changed_right" ["spring", "names"] spChanged) (O_law_refused_right : Ok P w K mg base CX0 24 "_law_refused_right" ["spring", "names"] (spRefused TP)) (O_law_same : Ok P w K mg base CX0 22 "_law_same" ["found", "due"] (spSameG K (Dep 20))) : OkG P w K mg base 26 "law" ["script"] (spLaw K TP) := by
  refine OkG.of a sc_law (fun vs H Q E h => ?_) (fun f cdv A outer s H vs Q E hA0 hr h => ?_)
  · obtain ⟨sa, ns, rfl, _⟩ := h; rfl
  · obtain ⟨sa, ns, rfl, hS, hns, hTab, q⟩ := h
    have hA : (A.deeper (envOfC "law" (defScope s_law) s.heap.objs.size f cdv)).guards = some [] := hA0
    refine ⟨_, (pss_cons (ps_for PassesOwn.never rfl (pi_range1 rfl T.n_range (pa_cons pe_int pa_nil)) (pg_name (i := 1) sc_law.nd rfl (Or.inl rfl)) (pss_cons (ps_set (i := 2) sc_law.nd rfl (Or.inl rfl) (pe_callO O_law_spring (hr.mono (by first | decide | omega)) rfl (pa_cons (pv 0) (pa_cons (pv 1) pa_nil))))
      (pss_cons (ps_set (i := 3) sc_law.nd rfl (Or.inl rfl) (pe_callO O_law_w_names (hr.mono (by first | decide | omega)) rfl (pa_cons (pv 2) (pa_cons pe_int (pa_cons pe_int pa_nil)))))
      (pss_cons (ps_for PassesOwn.never rfl (pi_tup (pe_tup (pa_cons pe_int (pa_cons pe_int (pa_cons pe_int (pa_cons pe_int (pa_cons pe_int pa_nil))))))) (pg_name (i := 4) sc_law.nd rfl (Or.inl rfl)) (pss_cons (ps_set (i := 5) sc_law.nd rfl (Or.inl rfl) (pe_callO O_law_pick (hr.mono (by first | decide | omega)) rfl (pa_cons (pv 2) (pa_cons (pe_lst (pa_cons pe_int (pa_cons pe_int (pa_cons (pe_op op_pow pe_int pe_int) pa_nil)))) pa_nil))))
      (pss_one (ps_if (pt_not (pt_val (pe_callG G_law_body_right hA (hr.mono (by omega)) rfl (pa_cons (pv 2) (pa_cons (pv 3) (pa_cons (pe_callO O_law_w_body (hr.mono (by first | decide | omega)) rfl (pa_cons (pv 2) (pa_cons (pv 3) (pa_cons (pv 5) (pa_cons (pv 4) pa_nil))))) pa_nil)))))) (pss_one (ps_ret pe_bl)) pss_nil))))
      (pss_cons (ps_if (PW.pt (pw_or (pt_not (pt_val (pe_callO O_law_changed_right (hr.mono (by first | decide | omega)) rfl (pa_cons (pv 2) (pa_cons (pv 3) pa_nil))))) (pw_or1 (pt_not (pt_val (pe_callO O_law_refused_right (hr.mono (by first | decide | omega)) rfl (pa_cons (pv 2) (pa_cons (pv 3) pa_nil)))))))) (pss_one (ps_ret pe_bl)) pss_nil)
      (pss_cons (ps_set (i := 2) sc_law.nd rfl (Or.inl rfl) (pe_callO O_law_spring (hr.mono (by first | decide | omega)) rfl (pa_cons (pv 0) (pa_cons (pe_op op_add (pv 1) pe_int) pa_nil))))
      (pss_cons (ps_set (i := 6) sc_law.nd rfl (Or.inl rfl) (pe_tup (pa_cons pe_str (pa_cons (pe_callO O_law_pick (hr.mono (by first | decide | omega)) rfl (pa_cons (pv 2) (pa_cons (pe_lst (pa_cons pe_int (pa_cons pe_int (pa_cons pe_int pa_nil)))) pa_nil))) (pa_cons (pe_callO O_law_w_term (hr.mono (by first | decide | omega)) rfl (pa_cons (pv 2) (pa_cons (pv 3) (pa_cons pe_int pa_nil)))) pa_nil)))))
      (pss_one (ps_if (PW.pt (pw_or (pt_not (pt_val (pe_callG G_law_body_right hA (hr.mono (by omega)) rfl (pa_cons (pv 2) (pa_cons (pv 3) (pa_cons (pv 6) pa_nil)))))) (pw_or1 (pt_not (pt_val (pe_callG G_law_body_right hA (hr.mono (by omega)) rfl (pa_cons (pv 2) (pa_cons (pv 3) (pa_cons (pe_tup (pa_cons pe_str (pa_cons (pv 6) pa_nil))) pa_nil))))))))) (pss_one (ps_ret pe_bl)) pss_nil)))))))))
      (pss_cons (ps_set (i := 7) sc_law.nd rfl (Or.inl rfl) (litE (K := K) (U := []) (lz_tup (lz_cons (PE.lC pe_str (fun _ => .str _)) (lz_cons (lz_lst (lz_cons (lz_tup (lz_cons (PE.lC pe_str (fun _ => .str _)) (lz_cons (lz_tup (lz_cons (lz_d1 (key := .inr "x") pe_str pe_int (fun _ => by constructor)) (lz_cons (PE.lC pe_int (fun _ => .int _)) lz_nil))) lz_nil))) (lz_cons (lz_tup (lz_cons (PE.lC pe_str (fun _ => .str _)) (lz_cons (PE.lC pe_int (fun _ => .int _)) (lz_cons (lz_tup (lz_cons (lz_d1 (key := .inr "x") pe_str pe_int (fun _ => by constructor)) (lz_cons (PE.lC pe_int (fun _ => .int _)) lz_nil))) lz_nil)))) lz_nil))) lz_nil)))))
      (pss_cons (ps_set (i := 8) sc_law.nd rfl (Or.inl rfl) (litE (K := K) (U := []) (lz_tup (lz_cons (PE.lC pe_str (fun _ => .str _)) (lz_cons (lz_lst (lz_cons (lz_tup (lz_cons (PE.lC pe_str (fun _ => .str _)) (lz_cons (PE.lC pe_int (fun _ => .int _)) (lz_cons (lz_tup (lz_cons (lz_d1 (key := .inr "x") pe_str pe_int (fun _ => by constructor)) (lz_cons (lz_neg) lz_nil))) lz_nil)))) (lz_cons (lz_tup (lz_cons (PE.lC pe_str (fun _ => .str _)) (lz_cons (PE.lC pe_int (fun _ => .int _)) (lz_cons (lz_tup (lz_cons (lz_d1 (key := .inr "x") pe_str pe_int (fun _ => by constructor)) (lz_cons (lz_neg) lz_nil))) lz_nil)))) lz_nil))) lz_nil)))))
      (pss_cons (ps_set (i := 9) sc_law.nd rfl (Or.inl rfl) (pe_lst (pa_cons (pe_turn Odenied (hr.mono (by omega)) rfl (pv 7)) (pa_cons (pe_turn Odenied (hr.mono (by omega)) rfl (litE (K := K) (U := []) (lz_tup (lz_cons (PE.lC pe_str (fun _ => .str _)) (lz_cons (PE.lC pe_int (fun _ => .int _)) (lz_cons (lz_tup (lz_cons (lz_d1 (key := .inr "x") pe_str pe_int (fun _ => by constructor)) (lz_cons (PE.lC pe_int (fun _ => .int _)) lz_nil))) lz_nil)))))) (pa_cons (pe_turn Oplain (hr.mono (by omega)) rfl (litE (K := K) (U := []) (lz_tup (lz_cons (PE.lC pe_str (fun _ => .str _)) (lz_cons (lz_tup (lz_cons (PE.lC pe_str (fun _ => .str _)) (lz_cons (lz_lst lz_nil) lz_nil))) lz_nil))))) pa_nil)))))
      (pss_one (ps_ret (pe_callO O_law_same (hr.mono (by first | decide | omega)) rfl (pa_cons (pv 9) (pa_cons (litE (K := K) (U := [8]) (lz_lst (lz_cons (lz_tup (lz_cons (PE.lC pe_str (fun _ => .str _)) (lz_cons (lz_lst (lz_cons (lz_tup (lz_cons (PE.lC pe_str (fun _ => .str _)) (lz_cons (lz_tup (lz_cons (lz_d1 (key := .inr "x") pe_str pe_negC (fun _ => by constructor)) (lz_cons (lz_neg) lz_nil))) lz_nil))) (lz_cons (PE.lV (U := [8]) (pv 8) (by decide)) lz_nil))) lz_nil))) (lz_cons (lz_tup (lz_cons (PE.lC pe_str (fun _ => .str _)) (lz_cons (lz_lst lz_nil) lz_nil))) (lz_cons (lz_tup (lz_cons (PE.lC pe_str (fun _ => .str _)) (lz_cons (lz_lst lz_nil) lz_nil))) lz_nil))))) pa_nil))))))))), ?_⟩
    have hlot : lot = 1000000000000 := rfl
    dsimp only [tSeq, gName, tNext]
    refine tFor_of ?_
    refine ⟨3, rfl, by decide, by decide, ?_⟩
    refine for_itB (walk_range (n := 3)) (fun i σ H' => ∃ x1 x2 x3 x4 x5 x6 x7 x8 x9, σ = [some (.ref sa), x1, x2, x3, x4, x5, x6, x7, x8, x9] ∧ SqL K H' sa (ns.map V.int) ∧ Tabs (T0 TP) H') ⟨none, none, none, none, none, none, none, none, none, rfl, hS, hTab⟩ (fun _ _ _ _ _ => trivial) ?_ ?_
    · rintro i x σ H1 H1' hi ⟨x1, x2, x3, x4, x5, x6, x7, x8, x9, rfl, hS1, hT1⟩ ⟨rfl, rfl⟩
      refine ⟨_, rfl, _, rfl, sa, ns, _, rfl, hS1, hns, by omega, by omega, fun a Hs ha es ss => ?_⟩
      refine ⟨_, rfl, a, 0, rfl, ss, by omega, fun l ns' H2 hl e2 s2 hnm hl2 => ?_⟩
      have h4 := hnm.l4
      have nla : l ≠ a := fun z => ss.ne (by rw [← z]; exact hl)
      refine ⟨by show 5 ≤ sizeLine; decide, fun G hG => ?_⟩
      refine ⟨G, rfl, ⟨_, SqT.of upd_same⟩, ?_⟩
      have eG := Ex.new (o := .tup [.int 0, .int 1, .int 2, .int 3, .int 4]) hG
      have nGa : G ≠ a := fun z => s2.ne (by rw [← z]; exact hG)
      generalize hHb : upd H2 G (.tup [.int 0, .int 1, .int 2, .int 3, .int 4]) = Hb
      have eGb : Ex H2 Hb := by rw [← hHb]; exact eG
      have hGb : Hb G = some (.tup [.int 0, .int 1, .int 2, .int 3, .int 4]) := by rw [← hHb]; exact upd_same
      have sb := s2.ex eGb
      have hlb := eGb _ _ hl2
      refine for_itB (walk_tup (xs := [.int 0, .int 1, .int 2, .int 3, .int 4])) (fun j σ H' => ∃ x4 x5 x6 x7 x8 x9, σ = [some (.ref sa), some (.int (0 + (i : Int))), some (.ref a), some (.ref l), x4, x5, x6, x7, x8, x9] ∧ Exo [a] Hb H' ∧ Spr H' a (14 + 20000000 * j))
        ⟨x4, x5, x6, x7, x8, x9, rfl, Exo.refl _ _, sb⟩ (fun j σ H' _ ⟨_, _, _, _, _, _, _, e, _⟩ => SqT.of (e.at1 nGa hGb)) ?_ ?_
      · rintro j y σ H3 H3' hj ⟨y4, y5, y6, y7, y8, y9, rfl, e3, s3⟩ ⟨rfl, hy⟩
        have hj4 : j < 5 := hj
        obtain ⟨dp, rfl, hd⟩ : ∃ dp : Nat, y = .int (dp : Int) ∧ dp ≤ 4 := by
          match j, hy with
          | 0, hy => cases hy; exact ⟨0, rfl, by decide⟩
          | 1, hy => cases hy; exact ⟨1, rfl, by decide⟩
          | 2, hy => cases hy; exact ⟨2, rfl, by decide⟩
          | 3, hy => cases hy; exact ⟨3, rfl, by decide⟩
          | 4, hy => cases hy; exact ⟨4, rfl, by decide⟩
          | n + 5, hy => simp at hy
        refine ⟨_, rfl, _, _, rfl, rfl, ⟨by decide, by decide, by decide⟩, by show 3 ≤ sizeLine; decide, fun L1 hL1 => ?_⟩
        have n1 : L1 ≠ a := fun z => s3.ne (by rw [← z]; exact hL1)
        refine ⟨a, L1, _, _, rfl, s3.ex (Ex.new hL1), by omega, n1, SqQ.l upd_same, by simp, by simp, fun jj y H5 hy e5 s5 => ?_⟩
        obtain ⟨g, rfl, hg0, hg1⟩ : ∃ g : Int, y = .int g ∧ 0 < g ∧ g ≤ 1000000 := by
          match jj, hy with
          | 0, hy => cases hy; exact ⟨_, rfl, by decide, by decide⟩
          | 1, hy => cases hy; exact ⟨_, rfl, by decide, by decide⟩
          | 2, hy => cases hy; exact ⟨_, rfl, by decide, by decide⟩
          | n + 3, hy => simp at hy
        have e35 : Exo [a] H3' H5 := ((Ex.new hL1).exo _).trans e5
        have hl5 := e35.at1 nla (e3.at1 nla hlb)
        have hbud : bud dp ≤ 10000 := by
          have : dp = 0 ∨ dp = 1 ∨ dp = 2 ∨ dp = 3 ∨ dp = 4 := by omega
          rcases this with rfl | rfl | rfl | rfl | rfl <;> decide
        refine ⟨_, rfl, _, rfl, _, rfl, _, rfl, _, rfl, _, rfl, dp, hd, a, l, ns', g, _, rfl, s5, by omega, hl5, nla, hnm.nd, h4, hg0, hg1, fun v b S Ds H6 e6 s6 nw aw => ?_⟩
        have hM3 : 6 * 3 ^ dp ≤ 800 := by
          have : dp = 0 ∨ dp = 1 ∨ dp = 2 ∨ dp = 3 ∨ dp = 4 := by omega
          rcases this with rfl | rfl | rfl | rfl | rfl <;> decide
        refine ⟨a, l, ns', v, b, S, Ds, dp, 6, _, rfl, s6, by omega, e6.at1 nla hl5, nla, hnm, nw.own, nw.na, hd, by decide, hM3, aw.imp fun _ h => dt_of h hg1, fun H7 e7 s7 => ⟨_, rfl, iteF ?_⟩⟩
        exact ⟨_, _, _, _, _, _, rfl, ((e3.trans e35).trans e6).trans e7, s7.mono (by omega)⟩
      · rintro σ H3 ⟨y4, y5, y6, y7, y8, y9, rfl, e3, s3⟩
        have s3 : Spr H3 a (14 + 20000000 * 5) := s3
        have hl3 := e3.at1 nla hlb
        refine ⟨_, rfl, _, rfl, a, l, ns', _, rfl, s3, by omega, hl3, nla, hnm, fun H4 e4 s4 => ⟨_, rfl, iteF ?_⟩⟩
        have esb : Exo [a] Hs Hb := e2.trans (eGb.exo _)
        have es4 : Exo [a] Hs H4 := (esb.trans e3).trans e4
        have tab4 : Tabs (T0 TP) H4 := tabs_exo es4 ss (Tabs.ext hT1 es)
        refine ⟨_, rfl, _, rfl, a, l, ns', _, rfl, s4, by omega, e4.at1 nla hl3, nla, hnm, tab4, fun H5 eN T5 => ⟨_, rfl, iteF ?_⟩⟩
        have hl5 : H5 l = some (.lst (ns'.map V.str)) := eN _ _ nla (e4.at1 nla hl3) (fun ps z => by cases z)
        have hS5 : SqL K H5 sa (ns.map V.int) := SqL.keepN hS1 fun o h nt => by
          have nsa : sa ≠ a := fun z => by rw [z, ha] at h; cases h
          exact eN _ _ nsa (es4.at1 nsa (es _ _ h)) nt
        refine ⟨_, rfl, _, rfl, _, _, rfl, rfl, sa, ns, _, rfl, hS5, hns, by omega, by omega, fun a2 H6 ha2 e6 s6 => ?_⟩
        have nla2 : l ≠ a2 := ne_of_none hl5 ha2
        have hl6 := e6 _ _ hl5
        refine ⟨_, rfl, by show 3 ≤ sizeLine; decide, fun L1 hL1 => ?_⟩
        have n1 : L1 ≠ a2 := fun z => s6.ne (by rw [← z]; exact hL1)
        refine ⟨a2, L1, _, _, rfl, s6.ex (Ex.new hL1), by omega, n1, SqQ.l upd_same, by simp, by simp, fun jj y H7 hy e7 s7 => ?_⟩
        obtain ⟨m, rfl, hm0, hm1⟩ : ∃ m : Int, y = .int m ∧ 0 < m ∧ m ≤ 60 := by
          match jj, hy with
          | 0, hy => cases hy; exact ⟨_, rfl, by decide, by decide⟩
          | 1, hy => cases hy; exact ⟨_, rfl, by decide, by decide⟩
          | 2, hy => cases hy; exact ⟨_, rfl, by decide, by decide⟩
          | n + 3, hy => simp at hy
        have e67 : Exo [a2] H6 H7 := ((Ex.new hL1).exo _).trans e7
        have hl7 := e67.at1 nla2 hl6
        refine ⟨_, rfl, _, rfl, a2, l, ns', 9, _, rfl, s7, by omega, hl7, nla2, hnm.nd, h4, by decide, by decide, fun t d c k H8 e8 s8 n8 hc hk => ?_⟩
        obtain ⟨f1, f2, f3⟩ := n8
        have ta : t ≠ a2 := fun z => s7.ne (by rw [← z]; exact f1)
        have da : d ≠ a2 := fun z => s7.ne (by rw [← z]; exact f2)
        refine ⟨by show 3 ≤ sizeLine; decide, fun q1 hq1 => ?_⟩
        have q1a : q1 ≠ a2 := fun z => s8.ne (by rw [← z]; exact hq1)
        have x9 : Ex H8 (upd H8 q1 (.tup [.str "by", .int m, .ref t])) := Ex.new hq1
        have hT : TAt (upd H8 q1 (.tup [.str "by", .int m, .ref t])) q1 t d (.div m c k) := ⟨upd_same, x9 _ _ f3.1, x9 _ _ f3.2⟩
        have s9 := s8.ex x9
        have hl9 := x9 _ _ (e8.at1 nla2 hl7)
        generalize upd H8 q1 (.tup [.str "by", .int m, .ref t]) = H9 at x9 hT s9 hl9
        have hDT : DT ns' 60 (.div m c k) := ⟨⟨term_up hc (by decide), ⟨hm0, by omega⟩, hm1⟩, by show k.natAbs ≤ _; omega, hm1⟩
        have haS : a2 ∉ [q1, t, d] := fun z => by
          simp only [List.mem_cons, List.not_mem_nil, or_false] at z
          rcases z with z | z | z
          · exact q1a z.symm
          · exact ta z.symm
          · exact da z.symm
        refine ⟨_, rfl, _, rfl, _, rfl, a2, l, ns', .ref q1, .t (.div m c k), _, _, 0, 60, _, rfl, s9, by omega, hl9, nla2, hnm, .t hT, haS, by decide, by decide, by decide, hDT, fun H10 e10 s10 => ⟨_, rfl, iteF ?_⟩⟩
        have hT10 : TAt H10 q1 t d (.div m c k) := hT.imp fun x hx o h => e10.at1 (fun z => haS (by rw [← z]; exact hx)) h
        refine ⟨_, rfl, _, rfl, _, rfl, by show 2 ≤ sizeLine; decide, fun q2 hq2 => ?_⟩
        have x11 : Ex H10 (upd H10 q2 (.tup [.str "not", .ref q1])) := Ex.new hq2
        have q2a : q2 ≠ a2 := fun z => s10.ne (by rw [← z]; exact hq2)
        refine ⟨a2, l, ns', .ref q2, .neg (.t (.div m c k)), q2 :: [q1, t, d], [d], 1, 60, _, rfl, s10.ex x11, by omega, x11 _ _ (e10.at1 nla2 hl9), nla2, hnm, .neg upd_same (.t (hT10.ex x11)), fun z => by rcases List.mem_cons.mp z with z | z; exact q2a z.symm; exact haS z, by decide, by decide, by decide, hDT, fun H12 e12 s12 => ⟨_, rfl, iteF ?_⟩⟩
        have e5_12 : Exo [a2] H5 H12 := (e6.exo _).trans (e67.trans (e8.trans ((x9.exo _).trans (e10.trans ((x11.exo _).trans e12)))))
        have hT12 : Tabs (T0 TP) H12 := by
          have z := tabs_exo (T := T0 TP) (H := H6) (H' := H12) (e67.trans (e8.trans ((x9.exo _).trans (e10.trans ((x11.exo _).trans e12))))) s6 (Tabs.ext T5 e6)
          exact z
        refine ⟨_, _, _, _, _, _, _, _, _, rfl, SqL.keepN hS5 fun o h nt => e5_12.at1 (ne_of_none h ha2) h, hT12⟩
    · rintro σ H1 ⟨x1, x2, x3, x4, x5, x6, x7, x8, x9, rfl, hS1, hT1⟩
      have U0 : ∀ {H : Hp} {σ : L2.St}, True := trivial
      refine ⟨[], fun _ => .non, ⟨fun _ h => by simp at h, fun _ h => by simp at h⟩, fun vb H2 e2 sb => ?_⟩
      refine ⟨[], fun _ => .non, ⟨fun _ h => by simp at h, fun _ h => by simp at h⟩, fun vr H3 e3 sr => ?_⟩
      have sb3 : SeeF K H3 vb _ := (sb.mono (sansL_ex [] H2)).mono e3
      have g1 : AllT GoodT 1 (.grp false [.t (.row xC 0), .t (.div 3 xC 0)]) := ⟨by simp, fun b hb => by
        simp only [List.mem_cons, List.not_mem_nil, or_false] at hb
        rcases hb with rfl | rfl
        · exact ⟨xC_good, trivial⟩
        · exact ⟨xC_good, by decide, by decide⟩⟩
      have i1 : IsB 1 (.tup [.str "any", .lst [.tup [.str "row", .tup [.dct [(.inr "x", .int 1)], .int 0]], .tup [.str "by", .int 3, .tup [.dct [(.inr "x", .int 1)], .int 0]]]]) (.grp false [.t (.row xC 0), .t (.div 3 xC 0)]) := ⟨rfl, _, rfl, rfl, .cons (isTst_dat (.row xC 0)) (.cons (isTst_dat (.div 3 xC 0)) .nil)⟩
      refine ⟨_, rfl, vb, _, .grp false [.t (.row xC 0), .t (.div 3 xC 0)], rfl, sb3, i1.up (by decide), AllT.up (by decide) g1, fun u1 H4 nb1 => ?_⟩
      obtain ⟨S1, D1, o1, _, _, x1'⟩ := nb1
      refine ⟨[], fun _ => .non, ⟨fun _ h => by simp at h, fun _ h => by simp at h⟩, fun v2 H5 e5 s2 => ⟨v2, _, .t (.div 1 xC 0), rfl, s2.mono (sansL_ex [] H5), IsB.tst.mpr (isTst_dat (.div 1 xC 0)), AllT.tst.mpr ⟨xC_good, by decide, by decide⟩, fun u2 H6 nb2 => ?_⟩⟩
      obtain ⟨S2, D2, o2, _, _, x2'⟩ := nb2
      refine ⟨[], fun _ => .non, ⟨fun _ h => by simp at h, fun _ h => by simp at h⟩, fun v3 H7 e7 s3 => ⟨v3, _, .neg (.grp true []), rfl, s3.mono (sansL_ex [] H7), IsB.up (n := 2) (by decide) ⟨rfl, _, rfl, rfl, _, rfl, rfl, .nil⟩, AllT.up (n := 2) (by decide) ⟨by simp, by simp⟩, fun u3 H8 nb3 => ⟨by show 3 ≤ sizeLine; decide, fun F hF => ?_⟩⟩⟩
      obtain ⟨S3, D3, o3, _, _, x3'⟩ := nb3
      have xF : Ex H8 (upd H8 F (.lst [u1, u2, u3])) := Ex.new hF
      have x38 := ((((x1'.trans e5).trans x2').trans e7).trans x3').trans xF
      have sr9 := (sr.mono (sansL_ex [] H3)).mono x38
      refine ⟨_, rfl, ⟨[], fun _ => restD, ⟨fun _ h => by simp at h, fun i hi => ⟨vr, by rw [show i = 8 by simpa using hi]; rfl, sr9.mono fun b o h => sansL_at (by simp) h⟩⟩, fun m H10 e10 sm => ?_⟩⟩
      have z1 := see_own (F := FnK K) (o1.ex (((((e5.trans x2').trans e7).trans x3').trans xF).trans e10))
      have z2 := see_own (F := FnK K) (o2.ex (((e7.trans x3').trans xF).trans e10))
      have z3 := see_own (F := FnK K) (o3.ex (xF.trans e10))
      rw [law_d1] at z1
      rw [law_d2] at z2
      rw [law_d3] at z3
      exact ⟨.ref F, m, .lst [.tup [.str "all", .lst [.tup [.str "row", .tup [.dct [(.inr "x", .int (-1))], .int (-1)]], restD]], .tup [.str "any", .lst []], .tup [.str "any", .lst []]], rfl, .lst (e10 _ _ upd_same) (.cons z1 (.cons z2 (.cons z3 .nil))), sm.mono (sansL_ex [] H10), dep_of 20 _ (by decide +kernel), fun H20 e20 => q H20⟩
end
end K8

set_option Elab.async false
set_option linter.all false
set_option maxRecDepth 100000
set_option maxHeartbeats 4000000
namespace K8
open PySem PySem.Spec PyProof.Rows L2 M8 LamX
/-! the end of the row: the promise is asked at the caller's own stack alone -/
section
variable {P : Program} {w : World} {K : PySem.W.Frag} {mg mb : Str → Option Value} {a fa : Addr} {cs : List (Addr × Addr)} {vs : List Value} {ns : List Int} {s : Shared}
def lstO (vs : List Value) : Obj := { cls := .type "list", data := .seq vs.toArray }
def tblO : Obj := { cls := .none, data := .fields #[] }
/-- what is tracked at the call: the tables, and the script where the frag has it not -/
def H0 (K : PySem.W.Frag) (cs : List (Addr × Addr)) (a : Addr) (vs : List Value) (ns : List Int) : Hp := fun b =>
  if b ∈ cs.map (·.2) then some (.tbl #[]) else if b = a ∧ K.lookup a = none then some (.frz (lstO vs) (.lst (ns.map V.int))) else none
structure AtCall (K : PySem.W.Frag) (cs : List (Addr × Addr)) (a : Addr) (vs : List Value) (ns : List Int) (s : Shared) : Prop where
  kin : K.In s.heap
  tb : ∀ b ∈ cs.map (·.2), s.heap.get? b = some tblO
  nk : ∀ b ∈ cs.map (·.2), K.lookup b = none
  scr : s.heap.get? a = some (lstO vs)
  ia : IntsAre vs ns
  len : ns.length ≤ sizeLine
theorem AtCall.aT (c : AtCall K cs a vs ns s) : a ∉ cs.map (·.2) := fun z => by
  have h := (c.tb a z).symm.trans c.scr
  have h2 : tblO.data = (lstO vs).data := congrArg Obj.data (Option.some.inj h)
  cases h2
theorem H0_tbl {b : Addr} (h : b ∈ cs.map (·.2)) : H0 K cs a vs ns b = some (.tbl #[]) := if_pos h
theorem H0_free (c : AtCall K cs a vs ns s) {b : Addr} {o : Obj} (h : s.heap.get? b = some o) (n1 : o.data ≠ .seq vs.toArray 0 ∨ K.lookup a ≠ none) (n2 : o.data ≠ .fields #[]) : H0 K cs a vs ns b = none := by
  unfold H0
  rw [if_neg (fun z => n2 (by rw [c.tb b z] at h; cases h; rfl)), if_neg]
  rintro ⟨rfl, z⟩
  rcases n1 with n1 | n1
  · rw [c.scr] at h; cases h; exact n1 rfl
  · exact n1 z
theorem H0_kin (c : AtCall K cs a vs ns s) {b : Addr} {o : Obj} (h : K.lookup b = some o) : H0 K cs a vs ns b = none := by
  unfold H0
  rw [if_neg (fun z => by rw [c.nk b z] at h; cases h), if_neg]
  rintro ⟨rfl, z⟩
  rw [z] at h; cases h
theorem H0_script (c : AtCall K cs a vs ns s) : SqL K (H0 K cs a vs ns) a (ns.map V.int) := by
  cases hk : K.lookup a with
  | none => exact .inl (.inr ⟨lstO vs, by unfold H0; rw [if_neg c.aT, if_pos ⟨rfl, hk⟩]⟩)
  | some o =>
    have h := c.kin a o hk
    rw [c.scr] at h
    cases h
    exact .inr ⟨_, vs.toArray, _, hk, rfl, rfl, rfl, by rw [List.size_toArray, c.ia.length]; exact c.len, by simpa using vals_ints c.ia⟩
theorem H0_ok (c : AtCall K cs a vs ns s) : HOk P w (H0 K cs a vs ns) s.heap := fun b u h => by
  unfold H0 at h
  by_cases hb : b ∈ cs.map (·.2)
  · rw [if_pos hb] at h
    cases h
    exact c.tb b hb
  · rw [if_neg hb] at h
    by_cases ha : b = a ∧ K.lookup a = none
    · rw [if_pos ha] at h
      cases h
      rw [ha.1]
      exact ⟨c.scr, by rw [List.length_map]; exact c.len, vs, _, vals_ints c.ia, c.scr⟩
    · rw [if_neg ha] at h; cases h
theorem base_get (c : AtCall K cs a vs ns s) {b : Addr} {o : Obj} (h : s.heap.get? b = some o) (n1 : o.data ≠ .seq vs.toArray 0) (n2 : o.data ≠ .fields #[]) : (hidT s.heap (H0 K cs a vs ns)).get? b = some o := hidT_get h (H0_free c h (.inl n1) n2)
theorem base_ns (c : AtCall K cs a vs ns s) {b : Addr} {m : Str → Option Value} (h : s.heap.Ns b m) : (hidT s.heap (H0 K cs a vs ns)).Ns b m := by
  obtain ⟨o, es, ep, h1, h2, h3⟩ := h
  exact ⟨o, es, ep, base_get c h1 (by rw [h2]; intro z; cases z) (by rw [h2]; intro z; cases z), h2, h3⟩
theorem base_kin (c : AtCall K cs a vs ns s) : K.In (hidT s.heap (H0 K cs a vs ns)) := fun b o h => hidT_get (c.kin b o h) (H0_kin c h)
theorem ends (c : AtCall K cs a vs ns s) (g : s.heap.Ns mainGlobals mg) (hb : s.heap.Ns builtinsNs mb) (hbb : ∀ x : Str, x ≠ "__name__" → mb x = bootBuiltins x) (hlim : s.heap.NoLimit) (hg : s.gens = #[]) (hc : ∀ p ∈ cs, PySem.W.CodeHd s.heap p.1 p.2)
    (hbm : ∃ (bm : Addr) (ob : Obj), mg "__builtins__" = some (.ref bm) ∧ bm ≠ builtinsNs ∧ s.heap.get? bm = some ob ∧ ob.cls = .type "module" ∧ ob.dict = some builtinsNs ∧ ob.data = .plain)
    (F : ∀ base : Heap, K.In base → base.Ns mainGlobals mg → (∀ p ∈ cs, TabB base mg p.1 p.2) → ∀ H : Hp, (∀ p ∈ cs, H p.2 = some (.tbl #[])) → SqL K H a (ns.map V.int) → Env0 P w K mg base callerA [] s H →
      codeAny (model P w) callerA (.call (.ref fa) ⟨[.ref a], []⟩) (CR CX0 [] P w H s (fun v _ => v = .bl true) E0) s) :
    codeAny (model P w) callerA (.call (.ref fa) ⟨[.ref a], []⟩) (fun r s' => r = .ok (.ret (.bool true)) ∧ OldK s.heap s'.heap ∧ s'.os = s.os ∧ AllBare s'.gens) s := by
  have tabs : ∀ p ∈ cs, TabB (hidT s.heap (H0 K cs a vs ns)) mg p.1 p.2 := by
    intro p hp
    have hP := c.tb p.2 (List.mem_map.mpr ⟨p, hp, rfl⟩)
    constructor
    · obtain ⟨o, us, file, tf, flags, tg, inF, text, tt, d1, d2, d3, d4, rest⟩ := hc p hp
      refine ⟨o, us, file, tf, flags, tg, inF, text, tt, base_get c d1 (by rw [d3]; intro z; cases z) ?_, d2, d3, d4, rest⟩
      rw [d3]
      intro z
      cases z
      simp at d4
    · obtain ⟨bm, ob, m1, m2, m3, m4, m5, m6⟩ := hbm
      refine ⟨bm, ob, m1, m2, ?_, ?_, base_get c m3 (by rw [m6]; intro z; cases z) (by rw [m6]; intro z; cases z), m4, m5, m6⟩
      · rintro rfl
        obtain ⟨o, es, ep, g1, g2, _⟩ := g
        rw [g1] at m3; cases m3
        rw [g2] at m6; cases m6
      · rintro rfl
        rw [hP] at m3; cases m3; cases m6
    · intro z
      obtain ⟨o, es, ep, g1, g2, _⟩ := g
      rw [z, hP] at g1; cases g1; cases g2
  have md : L2.Mod K mg (hidT s.heap (H0 K cs a vs ns)) := ⟨base_kin c, base_ns c g, ⟨mb, base_ns c hb, hbb⟩, by
    obtain ⟨mc, l1, l2⟩ := hlim
    exact ⟨mc, base_ns c l1, l2⟩⟩
  have env : Env0 P w K mg (hidT s.heap (H0 K cs a vs ns)) callerA [] s (H0 K cs a vs ns) := ⟨rfl, md, fun b o h => of_hidT h, Nat.le_of_eq (hidT_size _ _), trivial, fun b hb => absurd (show b ∈ ([] : List Addr) from hb) (by simp), H0_ok c, .of_eq hg⟩
  have run := F _ (base_kin c) (base_ns c g) tabs (H0 K cs a vs ns) (fun p hp => H0_tbl (List.mem_map.mpr ⟨p, hp, rfl⟩)) (H0_script c) env
  apply codeAny_mono run
  intro r s' hr
  match r, hr with
  | .ok (.ret u), hr =>
    obtain ⟨v, H', os, bare, un, ok', rv, rfl⟩ := hr
    obtain rfl : u = Value.bool true := rv
    have kept : ∀ b o, b ∉ cs.map (·.2) → s.heap.get? b = some o → s'.heap.get? b = some o := by
      intro b o nb h
      cases q : H0 K cs a vs ns b with
      | none => exact un.keep b o h q (by intro z; cases z) (by simp)
      | some u =>
        have q2 := q
        unfold H0 at q2
        rw [if_neg nb] at q2
        by_cases ha : b = a ∧ K.lookup a = none
        · rw [if_pos ha] at q2
          cases q2
          have z := un.frzs b _ _ q
          obtain ⟨e1, _⟩ := ok' b _ z
          rw [ha.1, c.scr] at h
          cases h
          exact e1
        · rw [if_neg ha] at q2; cases q2
    have grown : ∀ b ∈ cs.map (·.2), ∃ more : Array Value, s'.heap.get? b = some { cls := .none, data := .fields more } := by
      intro b hb
      obtain ⟨more, z⟩ := un.tbls b #[] (H0_tbl hb)
      exact ⟨_, ok' b _ z⟩
    refine ⟨rfl, ⟨fun b o h => ?_, fun b o h => ?_⟩, os, bare⟩
    · by_cases hb : b ∈ cs.map (·.2)
      · obtain ⟨more, hm⟩ := grown b hb
        obtain ⟨p, hp, rfl⟩ := List.mem_map.mp hb
        have ht := c.tb p.2 hb
        rw [ht] at h
        cases h
        exact .inr (.inl ⟨((hc p hp).tab ht).isCodeTable, rfl, #[], more, rfl, by rw [Array.empty_append]; exact hm⟩)
      · exact .inl (kept b o hb h)
    · by_cases hb : b ∈ cs.map (·.2)
      · obtain ⟨more, hm⟩ := grown b hb
        exact ⟨_, hm⟩
      · exact ⟨o, kept b o hb h⟩
end
end K8

set_option Elab.async false
set_option linter.all false
set_option maxRecDepth 100000
set_option maxHeartbeats 4000000
namespace K8
open PySem PySem.Spec PyProof.Rows L2 M8 LamX
/-! the walk of the row: one def holds a generator expression, its table is empty at the call -/
/-- where the table of the def x lies, in the frag -/
structure TabK (K : PySem.W.Frag) (mg : Str → Option Value) (x : Str) (c TP : Addr) : Prop where
  ex : ∃ (f : Addr) (o : Obj) (fd : FuncData) (e : Value) (dd : Option Addr) (vs : Array Value) (sl : Array (Option Value)), mg x = some (.ref f) ∧ K.lookup f = some o ∧ o.data = .func fd ∧ fd.code = .ref c ∧ K.lookup c = some ⟨e, dd, .fields vs, sl⟩ ∧ vs[11]? = some (.ref TP)
  nk : K.lookup TP = none
  hd : PySem.W.codeHdIn K c TP = true
theorem walk_tab {l : PySem.W.OpenLaw} {n k : Nat} {q : Program} {loose : List Str} {XP : (Str → Option Value) → Heap → Prop} {YP : World → Heap → Prop} {d : DefRec} {K : Params → PySem.W.Frag} {x y : Str} {sp : World → Addr → Sp}
    (hn : l.most = some n) (hn2 : n ≤ sizeLine) (hdf : d.params.defaults = []) (hr : Room k callerA) (hrec : ((recsOf q).any fun e => e.name == x) = true) (hY : ∀ (w : World) (h : Heap), YP w h → (K w.params).In h)
    (hsp : ∀ (w : World) (TP : Addr) (H : Hp) (a : Addr) (ns : List Int), ns.length ≤ n → (∀ j ∈ ns, Builtin.Int.intBits j ≤ 1048576) → H TP = some (.tbl #[]) → SqL (K w.params) H a (ns.map V.int) → sp w TP [.ref a] H (fun v _ => v = .bl true) E0)
    (F : ∀ (w : World) (mg : Str → Option Value) (h : Heap), YP w h → (K w.params).In h → h.Ns mainGlobals mg → ∃ c TP, TabK (K w.params) mg x c TP ∧ ∀ base : Heap, (K w.params).In base → base.Ns mainGlobals mg → TabB base mg c TP → OkG l.prog w (K w.params) mg base k d.name [y] (sp w TP)) :
    PySem.W.WalkO q loose XP YP l.row.toRowW d [] (fun f vs => PySem.call f vs) := by
  refine Att.attach_callB hn hdf fun w s₀ s₁ mg mb fa o pm cd doc a vs ns G Y ho hd hcd hmg hobj hints hlen hbits hg => ?_
  have KX := hY w _ Y
  obtain ⟨c, TP, tk, OF⟩ := F w mg _ Y KX G.T.g
  have hP : s₁.heap.get? TP = some tblO := by
    obtain ⟨f, o1, fd1, e, dd, vs1, sl, k0, k1, k2, k3, k4, k5⟩ := tk.ex
    obtain ⟨dL, hm, hn1⟩ := List.any_eq_true.mp hrec
    have hn2 : dL.name = x := beq_iff_eq.mp hn1
    obtain ⟨a', o', fd', c', P', h1, h2, h3, h4, h5, h6⟩ := G.T.tab dL hm
    rw [hn2, k0] at h1
    cases h1
    rw [KX _ _ k1] at h2
    cases h2
    rw [k2] at h3
    cases h3
    rw [k3] at h4
    cases h4
    obtain ⟨⟨oc, vc, e1, _, e3, e4⟩, hP⟩ := h6
    rw [KX _ _ k4] at e1
    cases e1
    cases e3
    rw [k5] at e4
    cases e4
    exact hP
  have cal : AtCall (K w.params) [(c, TP)] a vs ns s₁ := by
    refine ⟨KX, ?_, ?_, hobj, hints, Nat.le_trans hlen hn2⟩
    · intro b hb
      obtain rfl : b = TP := by simpa using hb
      exact hP
    · intro b hb
      obtain rfl : b = TP := by simpa using hb
      exact tk.nk
  refine ends (K := K w.params) cal G.T.g G.T.b G.T.builtins G.T.nolimit hg ?_ G.T.bmain ?_
  · intro p hp
    obtain rfl : p = (c, TP) := by simpa using hp
    exact PySem.W.codeHd_of_K KX tk.hd
  · intro base hb hns tb H hH hS e0
    obtain ⟨f, fd, hm, hk, b, len, run⟩ := (OF base hb hns (tb (c, TP) (by simp))).ex
    rw [hmg] at hm
    cases hm
    have bd := b s₁ [.ref a] KX rfl
    rw [List.append_nil] at bd
    exact run callerA [] s₁ H ⟨[.ref a], []⟩ [.ref a] [.ref a] _ E0 rfl hr e0 bd (.cons rfl .nil) (hsp w TP H a ns hlen hbits (hH (c, TP) (by simp)) hS)
end K8

set_option Elab.async false
set_option linter.all false
set_option maxRecDepth 100000
set_option maxHeartbeats 4000000
namespace K8
open PySem PySem.Spec PyProof.Rows L2 M8
/-! ### a function of the text is itself -/
theorem fun_slot_eq : Slot "function" (cmpInfo .Eq).2.1 "object.__eq__" :=
  .of (owner := "object") (n := "__eq__") (by rw [typeLookup_type, builtinLookup_eq_fast]; kernel_rfl) (by decide +kernel) (by decide +kernel) (by decide +kernel)
    (by first | exact .inl (by decide +kernel) | exact .inr (by decide +kernel)) (by rw [isSubtype_type]; kernel_rfl)
theorem fnEq_of {K : PySem.W.Frag} {a : Addr} {o : Obj} (hk : K.lookup a = some o) (hc : o.cls = .type "function") : FnEq K a := by
  intro prog w A E s Q hu hin hq
  have hT : s.TypeIs (.ref a) "function" := ⟨o, hin a o hk, hc⟩
  refine wpAny_richCompare_same_room (op := .Eq) hT hT fun_slot_eq (wpAny_call_entry fun_slot_eq hT F.cmpEntry_eq ?_ (F.cmpArgs_eq _ _)) (by omega)
  refine objEq_entry_same ⟨_, rfl, by simp, ?_⟩
  exact hq s.toks
/-! ### a function's class -/
theorem fun_slot_ga : Slot "function" "__getattribute__" "object.__getattribute__" :=
  .of (owner := "object") (n := "__getattribute__") (by rw [typeLookup_type, builtinLookup_eq_fast]; kernel_rfl) (by decide +kernel) (by decide +kernel) (by decide +kernel)
    (by first | exact .inl (by decide +kernel) | exact .inr (by decide +kernel)) (by rw [isSubtype_type]; kernel_rfl)
theorem fun_lk_class : typeLookup (.type "function") "__class__" = pure (some (.builtin "object.__class__")) := by rw [typeLookup_type, builtinLookup_eq_fast]; kernel_rfl
theorem fun_sub_class : isSubtype (.type "function") (.type (".".intercalate ("object.__class__".cutAt '.').dropLast)) = pure true := by
  rw [F.owner_object_class, isSubtype_type]; kernel_rfl
theorem ga_args2 (a b : Value) : argsOk "object.__getattribute__" ⟨[a, b], []⟩ := by unfold argsOk; kernel_rfl
section
variable {prog : Program} {w : World} {A : Around} {E : Value → Shared → Prop} {h : Heap} {g : Array GenState} {d : Drawn} {t : Nat} {os : OsState} {a : Addr} {o : Obj}
theorem fun_cls_get {R : Result → Shared → Prop} (hx : h.get? a = some o) (hc : o.cls = .type "function") (hq : R (.ok (.ret (.type "function"))) ⟨h, g, d, t, os⟩) :
    codeAny (model prog w) A (.call (.builtin "getset_descriptor.__get__") ⟨[.builtin "object.__class__", .ref a, .type "function"], []⟩) R ⟨h, g, d, t, os⟩ := by
  have hT : (⟨h, g, d, t, os⟩ : Shared).TypeIs (.ref a) "function" := ⟨_, hx, hc⟩
  have hD : (⟨h, g, d, t, os⟩ : Shared).TypeIs (.builtin "object.__class__") "getset_descriptor" := F.typeOf_object_class
  have hs := fun_sub_class
  refine codeAny_call_builtin F.slot_gs_get.plain F.entry_gs_get (F.slot_gs_get.check _ _ _ _ _ _ _ _ hD (F.args_gs_get _ _ _) ?_)
  repeat (any_goals (first | assumption | wp_step))
  refine ⟨Code.quiet_builtin _ (by decide +kernel), codeAny_builtin F.entry_object_class ?_⟩
  repeat (any_goals (first | assumption | wp_step))
theorem fun_cls_entry {tk : Tok} {Q : Fin → Shared → Prop} (hx : h.get? a = some o) (hc : o.cls = .type "function") (hq : Q (.done (.ret (.type "function"))) ⟨h, g, d, t, os⟩) :
    wpAny (model prog w) A (Builtin.«object.__getattribute__» ⟨[.ref a, .str "__class__" tk], []⟩) Q E ⟨h, g, d, t, os⟩ := by
  have hT : (⟨h, g, d, t, os⟩ : Shared).TypeIs (.ref a) "function" := ⟨_, hx, hc⟩
  have hD : (⟨h, g, d, t, os⟩ : Shared).TypeIs (.builtin "object.__class__") "getset_descriptor" := F.typeOf_object_class
  have h1 := fun_lk_class
  have h2 := F.typeOf_object_class
  have h3 := F.slot_gs_get.lookup
  have h4 := F.slot_gs_set.lookup
  repeat (any_goals (first | assumption | wp_step))
  refine fun_cls_get hx hc ?_
  repeat (any_goals (first | assumption | wp_step))
theorem fun_cls_call {tk : Tok} {R : Result → Shared → Prop} (hx : h.get? a = some o) (hc : o.cls = .type "function") (hq : R (.ok (.ret (.type "function"))) ⟨h, g, d, t, os⟩) :
    codeAny (model prog w) A (.call (.builtin "object.__getattribute__") ⟨[.ref a, .str "__class__" tk], []⟩) R ⟨h, g, d, t, os⟩ :=
  codeAny_call_builtin fun_slot_ga.plain F.entry_object_getattribute (fun_slot_ga.check _ _ _ _ _ _ _ _ (show (⟨h, g, d, t, os⟩ : Shared).TypeIs (.ref a) "function" from ⟨_, hx, hc⟩) (ga_args2 _ _) (fun_cls_entry hx hc hq))
theorem fun_cls_by {tk : Tok} {Q : Value → Shared → Prop} (hx : h.get? a = some o) (hc : o.cls = .type "function") (hq : Q (.type "function") ⟨h, g, d, t, os⟩) : wpAny (model prog w) A (getAttrBy (.ref a) (.str "__class__" tk) false) Q E ⟨h, g, d, t, os⟩ := by
  have hT : (⟨h, g, d, t, os⟩ : Shared).TypeIs (.ref a) "function" := ⟨_, hx, hc⟩
  have h1 := fun_slot_ga.lookup
  have h2 := fun_slot_ga.bind (.ref a)
  repeat (any_goals (first | assumption | wp_step))
  refine fun_cls_call hx hc ?_
  repeat (any_goals (first | assumption | wp_step))
theorem fun_cls {Q : Option Value → Shared → Prop} (hx : h.get? a = some o) (hc : o.cls = .type "function") (hq : Q (some (.type "function")) ⟨h, g, d, t + 1, os⟩) : wpAny (model prog w) A (getAttr? (.ref a) "__class__") Q E ⟨h, g, d, t, os⟩ := by
  unfold getAttr? getAttrBy?
  repeat (any_goals (first | assumption | with_reducible apply fun_cls_by hx hc | wp_step))
end
theorem kitx_fun {K : PySem.W.Frag} {a : Addr} : PySem.W.KitX K (.ref a) (.type "function") (PySem.W.KitAt a "function") :=
  PySem.W.kitx_of PySem.W.kitAt_ty (fun {_ _ _ _ _ s} p k => by obtain ⟨h, g, d, t, os⟩ := s; obtain ⟨o, h1, h2⟩ := p; exact fun_cls h1 h2 k)
theorem fnK_of {K : PySem.W.Frag} {a : Addr} {o : Obj} (hk : K.lookup a = some o) (hc : o.cls = .type "function") : FnK K a :=
  ⟨fnEq_of hk hc, _, kitx_fun, fun h hin => ⟨o, hin a o hk, hc⟩⟩
end K8

set_option Elab.async false
set_option linter.all false
set_option maxRecDepth 100000
set_option maxHeartbeats 4000000
namespace K8
open PySem PySem.Spec PyProof.Rows L2 M8 LamX
/-! the facts of the text, asked of the frag -/
theorem at_mk {K : PySem.W.Frag} {h : Heap} {mg : Str → Option Value} {x : Str} {st : Stmt} {ps : List Str} {f : Addr} {oc : Value} {od an : Option Addr} {osl : Array (Option Value)} {kV doc pm cdv ct : Value} (X : K.In h) (G : h.Ns mainGlobals mg)
    (a : PySem.W.nsIn K mainGlobals x = some (some (.ref f))) (l : K.lookup f = some ⟨oc, od, .func (PySem.W.fnOf x x (defArgs st) (defBody st) (defScope st) .none kV doc pm an cdv ct), osl⟩) (c : PySem.W.codeIn K cdv x = true) (k : PySem.W.keepIn K (.ref f) = true)
    (b : ∀ (kV doc pm : Value) (an : Option Addr) (cdv ct : Value) (us : List Value), us.length = ps.length → bindArgs (PySem.W.fnOf x x (defArgs st) (defBody st) (defScope st) .none kV doc pm an cdv ct) ⟨us, []⟩ = pure (ps.zip us)) : At K mg x st ps :=
  ⟨⟨f, _, PySem.W.mg_of X G a, fun_mk l c k, (fun_mk l c k).binds b⟩⟩
theorem then_of {p q : Prop} (a : p) (b : p → q) : q := b a
theorem spLaw_hsp (K : PySem.W.Frag) (TP : Addr) (H : L2.Hp) (a : Addr) (ns : List Int) (hl : ns.length ≤ 63) (ht : H TP = some (.tbl #[])) (hS : L2.SqL K H a (ns.map L2.V.int)) : K8.spLaw K TP [.ref a] H (fun v _ => v = .bl true) L2.E0 :=
  ⟨a, ns, rfl, hS, hl, fun p hp => by
    obtain rfl := List.mem_singleton.mp hp
    exact .nil ht, fun _ => rfl⟩
def wordsV : List String := ["of", "give", "nothing", "and", "or", "not", "all", "any", "divides", "none", "let", "most", "if", "else", "first", "below", "by", "over"]
def wordsVB : List String → List Value → Bool
  | [], [] => true
  | x :: r, .str y _ :: q => decide ((x : Str) = y) && wordsVB r q
  | _, _ => false
theorem wordsVB_ok : ∀ {xs : List String} {us : List Value}, wordsVB xs us = true → Vals (xs.map fun x : String => V.str x) us
  | [], [], _ => .nil
  | x :: r, u :: q, h => by
    cases u with
    | str y t =>
      obtain ⟨h1, h2⟩ := Bool.and_eq_true_iff.mp (show (decide ((x : Str) = y) && wordsVB r q) = true from h)
      exact .cons ⟨t, by rw [of_decide_eq_true h1]⟩ (wordsVB_ok h2)
    | _ => cases h
  | [], _ :: _, h => by cases h
  | _ :: _, [], h => by cases h
theorem txt_mk {K : PySem.W.Frag} {h : Heap} {mg : Str → Option Value} {t1 t2 t3 : Tok} {wa : Addr} {dd : Option Addr} {its : Array Value} {n : Nat} {osl : Array (Option Value)} (X : K.In h) (G : h.Ns mainGlobals mg)
    (n_isinstance : mg "isinstance" = none) (n_len : mg "len" = none) (n_all : mg "all" = none) (n_any : mg "any" = none) (n_sum : mg "sum" = none) (n_sorted : mg "sorted" = none) (n_abs : mg "abs" = none) (n_repr : mg "repr" = none) (n_range : mg "range" = none) (n_enumerate : mg "enumerate" = none) (n_zip : mg "zip" = none) (n_int : mg "int" = none) (n_bool : mg "bool" = none) (n_str : mg "str" = none) (n_list : mg "list" = none) (n_tuple : mg "tuple" = none) (n_dict : mg "dict" = none)
    (a1 : PySem.W.nsIn K mainGlobals "LETTERS" = some (some (.str "abcdefghijklmnopqrstuvwxyz" t1))) (a2 : PySem.W.nsIn K mainGlobals "FIGURES" = some (some (.str "0123456789" t2))) (a3 : PySem.W.nsIn K mainGlobals "MOST_SIGNS" = some (some (.int 8 t3)))
    (a4 : PySem.W.nsIn K mainGlobals "WORDS" = some (some (.ref wa))) (a5 : K.lookup wa = some ⟨.type "tuple", dd, .seq its n, osl⟩) (a7 : wordsVB wordsV its.toList = true) : Txt K mg :=
  { n_isinstance := n_isinstance, n_len := n_len, n_all := n_all, n_any := n_any, n_sum := n_sum, n_sorted := n_sorted, n_abs := n_abs, n_repr := n_repr, n_range := n_range, n_enumerate := n_enumerate, n_zip := n_zip, n_int := n_int, n_bool := n_bool, n_str := n_str, n_list := n_list, n_tuple := n_tuple, n_dict := n_dict, c_LETTERS := ⟨_, PySem.W.mg_of X G a1⟩, c_FIGURES := ⟨_, PySem.W.mg_of X G a2⟩, c_MOST := ⟨_, PySem.W.mg_of X G a3⟩,
    c_WORDS := ⟨wa, PySem.W.mg_of X G a4, fun H => by
      have v := wordsVB_ok a7
      refine .inr ⟨_, its, n, a5, rfl, rfl, ?_, v⟩
      have e := Vals.length v
      rw [List.length_map] at e
      rw [← Array.length_toList, ← e]
      rw [sizeLine_eq]; decide⟩ }
theorem exm_same {K : PySem.W.Frag} {S : Addr} (h1 : PySem.W.subIn K (.ref S) (.type "BaseException") = some true) (h2 : PySem.W.isClsIn K S = true) (h3 : PySem.W.typeIn K (.ref S) = some (.type "type")) (h4 : PySem.W.subIn K (.ref S) (.ref S) = some true) :
    PySem.W.exmOne K (.ref S) (.ref S) = some true := by
  unfold PySem.W.exmOne
  rw [h1, if_pos (by rfl)]
  show (if ((PySem.W.clsIn K S).isSome && PySem.W.typeIn K (.ref S) == some (.type "type")) = true then PySem.W.subIn K (.ref S) (.ref S) else none) = some true
  rw [show (PySem.W.clsIn K S).isSome = true from h2, h3, if_pos (by rfl), h4]
theorem bad_mk {K : PySem.W.Frag} {h : Heap} {mg : Str → Option Value} {C f1 : Addr} (X : K.In h) (G : h.Ns mainGlobals mg)
    {nm q : Str} {N : Addr} {bs bm : List Value} {sn : List Str} {sub : List Value} {ab : Bool} {col : Option Bool} {dd : Option Addr} {m0 m1 m2 m3 m5 : Option Value}
    {od1 an1 : Option Addr} {sl1 : Array (Option Value)} {oc1 kV1 dc1 pm1 cd1 ct1 : Value}
    (gC : PySem.W.nsIn K mainGlobals "BadBody" = some (some (.ref C)))
    (xL : K.lookup C = some (excClassObj nm q C N bs bm true sn sub ab col dd m0 m1 m2 m3 m5 "ValueError.__new__"))
    (sa : PySem.W.findIn K (.ref C) "__setattr__" = some (some (.builtin "object.__setattr__"))) (ga : PySem.W.findIn K (.ref C) "__getattribute__" = some (some (.builtin "BaseException.__getattribute__"))) (gg : PySem.W.findIn K (.ref C) "__getattr__" = some none) (nb : PySem.W.findIn K (.ref C) "body" = some none)
    (a1 : PySem.W.findIn K (.ref C) "__init__" = some (some (.ref f1))) (t1 : PySem.W.typeIn K (.ref f1) = some (.type "function"))
    (l1 : K.lookup f1 = some ⟨oc1, od1, .func (PySem.W.fnOf "__init__" "BadBody.__init__" (defArgs s_init) (defBody s_init) (defScope s_init) .none kV1 dc1 pm1 an1 cd1 ct1), sl1⟩) (c1 : PySem.W.codeIn K cd1 "BadBody.__init__" = true) (k1 : PySem.W.keepIn K (.ref f1) = true)
    (kC : PySem.W.keepIn K (.ref C) = true) (eC : PySem.W.subIn K (.ref C) (.type "BaseException") = some true) (tC : PySem.W.typeIn K (.ref C) = some (.type "type")) (hC : PySem.W.hasDictIn K C = true) (iC : PySem.W.isClsIn K C = true) (sC : PySem.W.subIn K (.ref C) (.ref C) = some true)
    (rb : PySem.HandSPX.refsVE bm = true) : BadC K mg C :=
  { gC := PySem.W.mg_of X G gC, ox := ⟨⟨nm, q, N, bs, bm, sn, sub, ab, col, dd, m0, m1, m2, m3, m5, xL, rb⟩, sa, eC, tC, kC⟩, xf := ⟨ga, gg, eC, hC⟩, no := nb, te := exm_same eC iC tC sC,
    ini := ⟨f1, _, a1, t1, fun_mk l1 c1 k1, (fun_mk l1 c1 k1).binds fun _ _ _ _ _ _ us hl => match us, hl with | [_, _], _ => rfl⟩ }
theorem ref_mk {K : PySem.W.Frag} {h : Heap} {mg : Str → Option Value} {x : Str} {st : Stmt} {ps : List Str} {f c TP : Addr} {oc : Value} {od an : Option Addr} {osl : Array (Option Value)} {kV doc pm ct : Value} {e : Value} {dd : Option Addr} {vs : Array Value} {sl : Array (Option Value)} (X : K.In h) (G : h.Ns mainGlobals mg)
    (a : PySem.W.nsIn K mainGlobals x = some (some (.ref f))) (l : K.lookup f = some ⟨oc, od, .func (PySem.W.fnOf x x (defArgs st) (defBody st) (defScope st) .none kV doc pm an (.ref c) ct), osl⟩) (cd : PySem.W.codeIn K (.ref c) x = true) (k : PySem.W.keepIn K (.ref f) = true)
    (lc : K.lookup c = some ⟨e, dd, .fields vs, sl⟩) (v11 : vs[11]? = some (.ref TP)) (nk : K.lookup TP = none) (hd : PySem.W.codeHdIn K c TP = true)
    (b : ∀ (kV doc pm : Value) (an : Option Addr) (cdv ct : Value) (us : List Value), us.length = ps.length → bindArgs (PySem.W.fnOf x x (defArgs st) (defBody st) (defScope st) .none kV doc pm an cdv ct) ⟨us, []⟩ = pure (ps.zip us)) : AtC K mg x st ps c ∧ TabK K mg x c TP :=
  ⟨⟨f, oc, od, kV, doc, pm, an, ct, osl, PySem.W.mg_of X G a, l, cd, k, (fun_mk l cd k).binds b⟩, ⟨⟨f, _, _, e, dd, vs, sl, PySem.W.mg_of X G a, l, rfl, rfl, lc, v11⟩, nk, hd⟩⟩
theorem met_mk {K : PySem.W.Frag} {h : Heap} {mg : Str → Option Value} {f : Addr} {oc : Value} {od an : Option Addr} {osl : Array (Option Value)} {kV doc pm cdv ct : Value} (X : K.In h) (G : h.Ns mainGlobals mg)
    (a : PySem.W.nsIn K mainGlobals "_law_met" = some (some (.ref f))) (l : K.lookup f = some ⟨oc, od, .func (PySem.W.fnOf "_law_met" "_law_met" (defArgs s__law_met) (defBody s__law_met) (defScope s__law_met) .none kV doc pm an cdv ct), osl⟩) (cd : PySem.W.codeIn K cdv "_law_met" = true) (k : PySem.W.keepIn K (.ref f) = true) : MetF K mg f oc cdv kV doc pm od an ct osl :=
  ⟨PySem.W.mg_of X G a, k, l, cd, (fun_mk l cd k).binds fun _ _ _ _ _ _ us hl => match us, hl with | [_], _ => rfl⟩
theorem fnk_mk {K : PySem.W.Frag} {h : Heap} {mg : Str → Option Value} {x : Str} {f : Addr} {o : Obj} (X : K.In h) (G : h.Ns mainGlobals mg) (a : PySem.W.nsIn K mainGlobals x = some (some (.ref f))) (l : K.lookup f = some o) (hc : o.cls = .type "function") (k : PySem.W.keepIn K (.ref f) = true) :
    mg x = some (.ref f) ∧ PySem.W.keepIn K (.ref f) = true ∧ FnK K f := ⟨PySem.W.mg_of X G a, k, fnK_of l hc⟩
end K8

set_option Elab.async false
set_option linter.all false
set_option maxRecDepth 100000
set_option maxHeartbeats 4000000
namespace K8
open PySem PySem.Spec PyProof.Rows L2 M8 LamX
section
variable {P : Program} {w : World} {K : PySem.W.Frag} {mg : Str → Option Value} {base : Heap}
theorem ok_handN (T : Txt K mg) (a : At K mg "_law_w_handed" s__law_w_handed ["spring", "thing"]) (O_law_draw : Ok P w K mg base CX0 1 "_law_draw" ["spring", "many"] spDraw) (O_law_mixed : Ok P w K mg base CX0 2 "_law_mixed" ["spring", "some"] (spMixed K)) : ∀ k, Ok P w K mg base CX0 (k+2) "_law_w_handed" ["spring", "thing"] (spHand K (hbud k) (preN k) (hndN k))
  | 0 => a.ok fun f fd F => F.ok sc__law_w_handed (fun vs H Q E h => by obtain ⟨a, v, d, B, N, rfl, _⟩ := h; rfl) (fun cdv A outer s H vs Q E hr h => by obtain ⟨a, v, d, B, N, rfl, _, _, _, _, _, hg, _⟩ := h; exact hg.elim)
  | k + 1 => ok_hand_step T a O_law_draw O_law_mixed (ok_handN T a O_law_draw O_law_mixed k)
theorem all_ok (T : Txt K mg) {C TP c : Addr} (B : BadC K mg C) (h_is_whole : At K mg "is_whole" s_is_whole ["thing"]) (h_is_from_one : At K mg "is_from_one" s_is_from_one ["thing"]) (h_is_list : At K mg "is_list" s_is_list ["thing"]) (h_is_run : At K mg "is_run" s_is_run ["thing"]) (h_is_name : At K mg "is_name" s_is_name ["thing"]) (h_is_numbers : At K mg "is_numbers" s_is_numbers ["thing"]) (h_is_term : At K mg "is_term" s_is_term ["thing"]) (h_names_of : At K mg "names_of" s_names_of ["term"]) (h_told_term : At K mg "told_term" s_told_term ["term"]) (h_scaled : At K mg "scaled" s_scaled ["term", "number"]) (h_turned : At K mg "turned" s_turned ["term"]) (h_is_test : At K mg "is_test" s_is_test ["thing"]) (h_less : At K mg "less" s_less ["term", "number"]) (h_told_test : At K mg "told_test" s_told_test ["test"]) (h_term_of : At K mg "term_of" s_term_of ["test"]) (h_change_along : At K mg "change_along" s_change_along ["term", "ray"]) (h_value_of : At K mg "value_of" s_value_of ["term", "numbers"]) (h_is_numbers_with : At K mg "is_numbers_with" s_is_numbers_with ["thing", "names"]) (h_is_test_so : At K mg "is_test_so" s_is_test_so ["test", "numbers"]) (h_is_body : At K mg "is_body" s_is_body ["thing"]) (h_tests_of : At K mg "tests_of" s_tests_of ["body"]) (h_names_of_bodies : At K mg "names_of_bodies" s_names_of_bodies ["bodies"]) (h_is_so : At K mg "is_so" s_is_so ["body", "numbers"]) (h_holds : At K mg "holds" s_holds ["body", "numbers"]) (h__denied_test : At K mg "_denied_test" s__denied_test ["test"]) (h__without_not : At K mg "_without_not" s__without_not ["body", "wanted"]) (h_plain : At K mg "plain" s_plain ["body"]) (h_denied : At K mg "denied" s_denied ["body"]) (h__law_draw : At K mg "_law_draw" s__law_draw ["spring", "many"]) (h__law_pick : At K mg "_law_pick" s__law_pick ["spring", "some"]) (h__law_mixed : At K mg "_law_mixed" s__law_mixed ["spring", "some"]) (h__law_spring : At K mg "_law_spring" s__law_spring ["script", "turn"]) (h__law_same : At K mg "_law_same" s__law_same ["found", "due"]) (h__law_w_names : At K mg "_law_w_names" s__law_w_names ["spring", "least", "most"]) (h__law_w_told : At K mg "_law_w_told" s__law_w_told ["term"]) (h__law_w_body_told : At K mg "_law_w_body_told" s__law_w_body_told ["body"]) (h__law_w_term : At K mg "_law_w_term" s__law_w_term ["spring", "names", "great"]) (h__law_w_test : At K mg "_law_w_test" s__law_w_test ["spring", "names", "great"]) (h__law_w_body : At K mg "_law_w_body" s__law_w_body ["spring", "names", "great", "deep"]) (h__law_w_worth : At K mg "_law_w_worth" s__law_w_worth ["term", "numbers"]) (h__law_w_is_so : At K mg "_law_w_is_so" s__law_w_is_so ["body", "numbers"]) (h__law_w_numbers : At K mg "_law_w_numbers" s__law_w_numbers ["spring", "names", "far"]) (h__law_w_handed : At K mg "_law_w_handed" s__law_w_handed ["spring", "thing"]) (h__law_w_less : At K mg "_law_w_less" s__law_w_less ["term", "number"]) (h__law_w_turned : At K mg "_law_w_turned" s__law_w_turned ["term"]) (h__law_w_plain : At K mg "_law_w_plain" s__law_w_plain ["body", "is_denied"]) (h__law_w_no_bodies : At K mg "_law_w_no_bodies" s__law_w_no_bodies ["good"]) (h__law_words : At K mg "_law_words" s__law_words ["body"]) (h__law_longer : At K mg "_law_longer" s__law_longer ["thing"]) (h__law_dicts : At K mg "_law_dicts" s__law_dicts ["body"]) (h__law_alone : At K mg "_law_alone" s__law_alone ["dicts"]) (h__law_body_right : At K mg "_law_body_right" s__law_body_right ["spring", "names", "body"]) (h__law_changed_right : At K mg "_law_changed_right" s__law_changed_right ["spring", "names"]) (h_law : At K mg "law" s_law ["script"])
    (h_ref : AtC K mg "_law_refused_right" s__law_refused_right ["spring", "names"] c) (TB : TabB base mg c TP) {g : Addr} {oc cdv kV doc pm : Value} {od an : Option Addr} {ct : Value} {osl : Array (Option Value)} (M : MetF K mg g oc cdv kV doc pm od an ct osl)
    {fn : Addr} (hfa : mg "_law_w_no_bodies" = some (.ref fn)) (hkf : PySem.W.keepIn K (.ref fn) = true) (hfn : FnK K fn) : OkG P w K mg base 26 "law" ["script"] (spLaw K TP) := by
  have o_is_whole : Ok P w K mg base CX0 1 "is_whole" ["thing"] (spWhole K) := ok_is_whole T h_is_whole
  have o_is_from_one : Ok P w K mg base CX0 2 "is_from_one" ["thing"] (spFrom1 K) := ok_is_from_one T h_is_from_one o_is_whole
  have o_is_list : Ok P w K mg base CX0 1 "is_list" ["thing"] (spIsList K) := ok_is_list T h_is_list
  have o_is_run : Ok P w K mg base CX0 1 "is_run" ["thing"] (spRun K) := ok_is_run T h_is_run
  have o_is_name : Ok P w K mg base CX0 2 "is_name" ["thing"] (spName K) := ok_is_name T h_is_name (by assumption)
  have o_is_numbers : Ok P w K mg base CX0 3 "is_numbers" ["thing"] (spNumbers K) := ok_is_numbers T h_is_numbers (by assumption) (by assumption)
  have o_is_term : Ok P w K mg base CX0 4 "is_term" ["thing"] (spTerm K) := ok_is_term T h_is_term (by assumption) (by assumption) (by assumption)
  have o_names_of : Ok P w K mg base CX0 1 "names_of" ["term"] spNamesOf := ok_names_of T h_names_of
  have o_told_term : Ok P w K mg base CX0 2 "told_term" ["term"] spTold := ok_told_term T h_told_term (by assumption)
  have o_scaled : Ok P w K mg base CX0 3 "scaled" ["term", "number"] spScaled := ok_scaled T h_scaled (by assumption)
  have o_turned : Ok P w K mg base CX0 4 "turned" ["term"] spTurned := ok_turned T h_turned (by assumption)
  have o_is_test : Ok P w K mg base CX0 5 "is_test" ["thing"] (spTest K) := ok_is_test T h_is_test (by assumption) (by assumption) (by assumption)
  have o_less := ok_less (P := P) (w := w) (base := base) T h_less o_told_term
  have o_told_test := ok_told_test (P := P) (w := w) (base := base) T h_told_test o_told_term
  have o_term_of := ok_term_of (P := P) (w := w) (base := base) T h_term_of
  have o_change_along := ok_change_along (P := P) (w := w) (base := base) T h_change_along o_names_of
  have o_value_of := ok_value_of (P := P) (w := w) (base := base) T h_value_of o_change_along
  have o_is_numbers_with := ok_is_numbers_with (P := P) (w := w) (base := base) T h_is_numbers_with o_is_numbers
  have o_is_test_so := ok_is_test_so (P := P) (w := w) (base := base) T h_is_test_so o_value_of o_term_of
  have o_is_body : Ok P w K mg base CX0 11 "is_body" ["thing"] (spBodyG K (okN 5) (isBodyN 5)) := ok_is_body T h_is_body o_is_test o_is_list 5
  have o_tests_of : Ok P w K mg base CX0 7 "tests_of" ["body"] (spTests K 5) := ok_tests_of T h_tests_of 5
  have o_names_of_bodies : Ok P w K mg base CX0 8 "names_of_bodies" ["bodies"] (spNamesOfB K 5) := ok_names_of_bodies T h_names_of_bodies (n := 5) (k := 7) (by decide) o_tests_of o_term_of o_names_of
  have o_is_so : Ok P w K mg base CX0 10 "is_so" ["body", "numbers"] (spSoB K 5) := ok_is_so T h_is_so o_is_test_so 5
  have o_holds : Ok P w K mg base CX0 12 "holds" ["body", "numbers"] (spHolds K 5) := ok_holds T h_holds (n := 5) (k := 11) (by decide) o_is_body o_is_numbers_with o_names_of_bodies o_is_so
  have o__denied_test := ok__denied_test (P := P) (w := w) (base := base) T h__denied_test o_less o_turned
  have o__without_not : Ok P w K mg base CX0 11 "_without_not" ["body", "wanted"] (spWN K 5) := ok__without_not T h__without_not o_told_test o__denied_test 5
  have f_plain : ∀ {f : Addr} {fd : FuncData}, Fun K "plain" "plain" s_plain f fd → FnOk P w K mg base (L2.CX P w) 12 f fd ["body"] (spTurnB K C true 5) := fun F => fn_plain T B (n := 5) (k := 11) (by decide) o_is_body o__without_not F
  have o_plain : Ok P w K mg base (L2.CX P w) 12 "plain" ["body"] (spTurnB K C true 5) := h_plain.ok fun f fd F => f_plain F
  have f_denied : ∀ {f : Addr} {fd : FuncData}, Fun K "denied" "denied" s_denied f fd → FnOk P w K mg base (L2.CX P w) 12 f fd ["body"] (spTurnB K C false 5) := fun F => fn_denied T B (n := 5) (k := 11) (by decide) o_is_body o__without_not F
  have o_denied : Ok P w K mg base (L2.CX P w) 12 "denied" ["body"] (spTurnB K C false 5) := h_denied.ok fun f fd F => f_denied F
  have o__law_draw : Ok P w K mg base CX0 1 "_law_draw" ["spring", "many"] spDraw := ok__law_draw T h__law_draw
  have o__law_pick : Ok P w K mg base CX0 2 "_law_pick" ["spring", "some"] (spPick K) := ok__law_pick T h__law_pick (by assumption)
  have o__law_mixed : Ok P w K mg base CX0 2 "_law_mixed" ["spring", "some"] (spMixed K) := ok__law_mixed T h__law_mixed (by assumption)
  have o__law_spring : Ok P w K mg base CX0 1 "_law_spring" ["script", "turn"] (spSpring K) := ok__law_spring T h__law_spring
  have o__law_same : Ok P w K mg base CX0 22 "_law_same" ["found", "due"] (spSameG K (Dep 20)) := ok_same T h__law_same 20
  have o__law_w_names : Ok P w K mg base CX0 3 "_law_w_names" ["spring", "least", "most"] spNames := ok__law_w_names T h__law_w_names (by assumption) (by assumption)
  have o__law_w_told : Ok P w K mg base CX0 1 "_law_w_told" ["term"] spToldL := ok__law_w_told T h__law_w_told
  have o__law_w_body_told : Ok P w K mg base CX0 2 "_law_w_body_told" ["body"] spBodyTold := ok__law_w_body_told T h__law_w_body_told (by assumption)
  have o__law_w_term : Ok P w K mg base CX0 3 "_law_w_term" ["spring", "names", "great"] spTermW := ok__law_w_term T h__law_w_term (by assumption) (by assumption)
  have o__law_w_test : Ok P w K mg base CX0 4 "_law_w_test" ["spring", "names", "great"] spTestW := ok__law_w_test T h__law_w_test (by assumption) (by assumption)
  have o__law_w_body : Ok P w K mg base CX0 9 "_law_w_body" ["spring", "names", "great", "deep"] (spBodyA 4) := ok__law_w_body T h__law_w_body o__law_draw o__law_pick o__law_w_test 4
  have o_b1 : Ok P w K mg base CX0 6 "_law_w_body" ["spring", "names", "great", "deep"] (spBodyW 1) := (ok__law_w_body (P := P) (w := w) (base := base) T h__law_w_body o__law_draw o__law_pick o__law_w_test 1).imp fun vs H Q E h => ⟨1, Nat.le_refl _, h⟩
  have o__law_w_worth : Ok P w K mg base CX0 1 "_law_w_worth" ["term", "numbers"] spWorth := ok__law_w_worth T h__law_w_worth
  have o__law_w_is_so : Ok P w K mg base CX0 7 "_law_w_is_so" ["body", "numbers"] (spIsSoB 5) := ok__law_w_is_soB T h__law_w_is_so o__law_w_worth 5
  have o__law_w_numbers : Ok P w K mg base CX0 2 "_law_w_numbers" ["spring", "names", "far"] spNums := ok__law_w_numbers T h__law_w_numbers (by assumption)
  have o__law_w_handed : Ok P w K mg base CX0 13 "_law_w_handed" ["spring", "thing"] (spHand K (hbud 11) (preN 11) (hndN 11)) := ok_handN T h__law_w_handed o__law_draw o__law_mixed 11
  have o__law_w_less : Ok P w K mg base CX0 1 "_law_w_less" ["term", "number"] spLessL := ok__law_w_less T h__law_w_less
  have o__law_w_turned : Ok P w K mg base CX0 1 "_law_w_turned" ["term"] spTurnL := ok__law_w_turned T h__law_w_turned
  have o__law_w_plain : Ok P w K mg base CX0 8 "_law_w_plain" ["body", "is_denied"] (spPlainL 5) := ok__law_w_plain T h__law_w_plain o__law_w_body_told o__law_w_less o__law_w_turned 5
  have o__law_words : Ok P w K mg base CX0 7 "_law_words" ["body"] (spWords 5) := ok__law_words T h__law_words 5
  have o__law_dicts : Ok P w K mg base CX0 7 "_law_dicts" ["body"] (spDicts 5) := ok__law_dicts T h__law_dicts 5
  have o__law_longer : Ok P w K mg base CX0 7 "_law_longer" ["thing"] (spLonger 5) := ok__law_longer T h__law_longer 5
  have o__law_alone : Ok P w K mg base CX0 1 "_law_alone" ["dicts"] spAlone := ok__law_alone T h__law_alone
  have o_nb := ok__law_w_no_bodies (P := P) (w := w) (base := base) T h__law_w_no_bodies hfa hkf hfn
  have o_ref := ok__law_refused_right (P := P) (w := w) T B h_ref TB M o_plain o_denied o_b1 o_nb o__law_same hfn
  have o_ch := ok__law_changed_right (P := P) (w := w) (base := base) T h__law_changed_right o_plain o_denied o_b1 o__law_w_plain o__law_same
  have og := okG__law_body_right (P := P) (w := w) (base := base) T h__law_body_right h_plain f_plain o_plain h_denied f_denied o_denied o__law_w_handed o__law_w_plain o__law_same o__law_words o__law_dicts o__law_longer o__law_alone o__law_w_numbers o__law_w_is_so o_holds
  exact okG_law T h_law o_plain o_denied og o__law_pick o__law_spring o__law_w_names o__law_w_body o__law_w_term o_ch o_ref o__law_same
end
end K8

set_option Elab.async false
set_option linter.all false
set_option maxRecDepth 100000
open PySem PySem.W PyProof.Rows
set_option maxRecDepth 100000 in
set_option maxHeartbeats 0 in
theorem PySem.Challenge.cw_outofwishes_k07_whole_opposites_holds : PySem.Challenge.rw_outofwishes_k07_whole_opposites.Holds := by
  w_on; o_law; k_head; (case hw => w_witness2)
  k_fill
  refine K8.walk_tab (n := 63) (k := 26) (x := "_law_refused_right") (y := "script") (l := PySem.Challenge.rw_outofwishes_k07_whole_opposites) (sp := fun w TP => K8.spLaw _ TP) rfl (by decide) rfl ⟨rfl, by decide, by decide⟩ (by decide +kernel) (fun w h Y => PySem.W.km_in_of Y) (fun w TP H a ns hl _ ht hS => K8.spLaw_hsp _ TP H a ns hl ht hS) ?F
  case F =>
    intro w mg h Y KX G
    refine' K8.then_of (K8.at_mk (x := "is_whole") (st := K8.s_is_whole) (ps := ["thing"]) KX G ?a_1 ?l_1 ?c_1 ?k_1 (fun kV doc pm an cdv ct us hl => match us, hl with | [_], _ => rfl)) ?nxt_1
    case a_1 => k_is
    case l_1 => k_is
    case c_1 => k_is
    case k_1 => k_is
    intro h_is_whole
    refine' K8.then_of (K8.at_mk (x := "is_from_one") (st := K8.s_is_from_one) (ps := ["thing"]) KX G ?a_2 ?l_2 ?c_2 ?k_2 (fun kV doc pm an cdv ct us hl => match us, hl with | [_], _ => rfl)) ?nxt_2
    case a_2 => k_is
    case l_2 => k_is
    case c_2 => k_is
    case k_2 => k_is
    intro h_is_from_one
    refine' K8.then_of (K8.at_mk (x := "is_list") (st := K8.s_is_list) (ps := ["thing"]) KX G ?a_3 ?l_3 ?c_3 ?k_3 (fun kV doc pm an cdv ct us hl => match us, hl with | [_], _ => rfl)) ?nxt_3
    case a_3 => k_is
    case l_3 => k_is
    case c_3 => k_is
    case k_3 => k_is
    intro h_is_list
    refine' K8.then_of (K8.at_mk (x := "is_run") (st := K8.s_is_run) (ps := ["thing"]) KX G ?a_4 ?l_4 ?c_4 ?k_4 (fun kV doc pm an cdv ct us hl => match us, hl with | [_], _ => rfl)) ?nxt_4
    case a_4 => k_is
    case l_4 => k_is
    case c_4 => k_is
    case k_4 => k_is
    intro h_is_run
    refine' K8.then_of (K8.at_mk (x := "is_name") (st := K8.s_is_name) (ps := ["thing"]) KX G ?a_5 ?l_5 ?c_5 ?k_5 (fun kV doc pm an cdv ct us hl => match us, hl with | [_], _ => rfl)) ?nxt_5
    case a_5 => k_is
    case l_5 => k_is
    case c_5 => k_is
    case k_5 => k_is
    intro h_is_name
    refine' K8.then_of (K8.at_mk (x := "is_numbers") (st := K8.s_is_numbers) (ps := ["thing"]) KX G ?a_6 ?l_6 ?c_6 ?k_6 (fun kV doc pm an cdv ct us hl => match us, hl with | [_], _ => rfl)) ?nxt_6
    case a_6 => k_is
    case l_6 => k_is
    case c_6 => k_is
    case k_6 => k_is
    intro h_is_numbers
    refine' K8.then_of (K8.at_mk (x := "is_term") (st := K8.s_is_term) (ps := ["thing"]) KX G ?a_7 ?l_7 ?c_7 ?k_7 (fun kV doc pm an cdv ct us hl => match us, hl with | [_], _ => rfl)) ?nxt_7
    case a_7 => k_is
    case l_7 => k_is
    case c_7 => k_is
    case k_7 => k_is
    intro h_is_term
    refine' K8.then_of (K8.at_mk (x := "names_of") (st := K8.s_names_of) (ps := ["term"]) KX G ?a_8 ?l_8 ?c_8 ?k_8 (fun kV doc pm an cdv ct us hl => match us, hl with | [_], _ => rfl)) ?nxt_8
    case a_8 => k_is
    case l_8 => k_is
    case c_8 => k_is
    case k_8 => k_is
    intro h_names_of
    refine' K8.then_of (K8.at_mk (x := "told_term") (st := K8.s_told_term) (ps := ["term"]) KX G ?a_9 ?l_9 ?c_9 ?k_9 (fun kV doc pm an cdv ct us hl => match us, hl with | [_], _ => rfl)) ?nxt_9
    case a_9 => k_is
    case l_9 => k_is
    case c_9 => k_is
    case k_9 => k_is
    intro h_told_term
    refine' K8.then_of (K8.at_mk (x := "scaled") (st := K8.s_scaled) (ps := ["term", "number"]) KX G ?a_10 ?l_10 ?c_10 ?k_10 (fun kV doc pm an cdv ct us hl => match us, hl with | [_, _], _ => rfl)) ?nxt_10
    case a_10 => k_is
    case l_10 => k_is
    case c_10 => k_is
    case k_10 => k_is
    intro h_scaled
    refine' K8.then_of (K8.at_mk (x := "turned") (st := K8.s_turned) (ps := ["term"]) KX G ?a_11 ?l_11 ?c_11 ?k_11 (fun kV doc pm an cdv ct us hl => match us, hl with | [_], _ => rfl)) ?nxt_11
    case a_11 => k_is
    case l_11 => k_is
    case c_11 => k_is
    case k_11 => k_is
    intro h_turned
    refine' K8.then_of (K8.at_mk (x := "is_test") (st := K8.s_is_test) (ps := ["thing"]) KX G ?a_12 ?l_12 ?c_12 ?k_12 (fun kV doc pm an cdv ct us hl => match us, hl with | [_], _ => rfl)) ?nxt_12
    case a_12 => k_is
    case l_12 => k_is
    case c_12 => k_is
    case k_12 => k_is
    intro h_is_test
    refine' K8.then_of (K8.at_mk (x := "less") (st := K8.s_less) (ps := ["term", "number"]) KX G ?a_13 ?l_13 ?c_13 ?k_13 (fun kV doc pm an cdv ct us hl => match us, hl with | [_, _], _ => rfl)) ?nxt_13
    case a_13 => k_is
    case l_13 => k_is
    case c_13 => k_is
    case k_13 => k_is
    intro h_less
    refine' K8.then_of (K8.at_mk (x := "told_test") (st := K8.s_told_test) (ps := ["test"]) KX G ?a_14 ?l_14 ?c_14 ?k_14 (fun kV doc pm an cdv ct us hl => match us, hl with | [_], _ => rfl)) ?nxt_14
    case a_14 => k_is
    case l_14 => k_is
    case c_14 => k_is
    case k_14 => k_is
    intro h_told_test
    refine' K8.then_of (K8.at_mk (x := "term_of") (st := K8.s_term_of) (ps := ["test"]) KX G ?a_15 ?l_15 ?c_15 ?k_15 (fun kV doc pm an cdv ct us hl => match us, hl with | [_], _ => rfl)) ?nxt_15
    case a_15 => k_is
    case l_15 => k_is
    case c_15 => k_is
    case k_15 => k_is
    intro h_term_of
    refine' K8.then_of (K8.at_mk (x := "change_along") (st := K8.s_change_along) (ps := ["term", "ray"]) KX G ?a_16 ?l_16 ?c_16 ?k_16 (fun kV doc pm an cdv ct us hl => match us, hl with | [_, _], _ => rfl)) ?nxt_16
    case a_16 => k_is
    case l_16 => k_is
    case c_16 => k_is
    case k_16 => k_is
    intro h_change_along
    refine' K8.then_of (K8.at_mk (x := "value_of") (st := K8.s_value_of) (ps := ["term", "numbers"]) KX G ?a_17 ?l_17 ?c_17 ?k_17 (fun kV doc pm an cdv ct us hl => match us, hl with | [_, _], _ => rfl)) ?nxt_17
    case a_17 => k_is
    case l_17 => k_is
    case c_17 => k_is
    case k_17 => k_is
    intro h_value_of
    refine' K8.then_of (K8.at_mk (x := "is_numbers_with") (st := K8.s_is_numbers_with) (ps := ["thing", "names"]) KX G ?a_18 ?l_18 ?c_18 ?k_18 (fun kV doc pm an cdv ct us hl => match us, hl with | [_, _], _ => rfl)) ?nxt_18
    case a_18 => k_is
    case l_18 => k_is
    case c_18 => k_is
    case k_18 => k_is
    intro h_is_numbers_with
    refine' K8.then_of (K8.at_mk (x := "is_test_so") (st := K8.s_is_test_so) (ps := ["test", "numbers"]) KX G ?a_19 ?l_19 ?c_19 ?k_19 (fun kV doc pm an cdv ct us hl => match us, hl with | [_, _], _ => rfl)) ?nxt_19
    case a_19 => k_is
    case l_19 => k_is
    case c_19 => k_is
    case k_19 => k_is
    intro h_is_test_so
    refine' K8.then_of (K8.at_mk (x := "is_body") (st := K8.s_is_body) (ps := ["thing"]) KX G ?a_20 ?l_20 ?c_20 ?k_20 (fun kV doc pm an cdv ct us hl => match us, hl with | [_], _ => rfl)) ?nxt_20
    case a_20 => k_is
    case l_20 => k_is
    case c_20 => k_is
    case k_20 => k_is
    intro h_is_body
    refine' K8.then_of (K8.at_mk (x := "tests_of") (st := K8.s_tests_of) (ps := ["body"]) KX G ?a_21 ?l_21 ?c_21 ?k_21 (fun kV doc pm an cdv ct us hl => match us, hl with | [_], _ => rfl)) ?nxt_21
    case a_21 => k_is
    case l_21 => k_is
    case c_21 => k_is
    case k_21 => k_is
    intro h_tests_of
    refine' K8.then_of (K8.at_mk (x := "names_of_bodies") (st := K8.s_names_of_bodies) (ps := ["bodies"]) KX G ?a_22 ?l_22 ?c_22 ?k_22 (fun kV doc pm an cdv ct us hl => match us, hl with | [_], _ => rfl)) ?nxt_22
    case a_22 => k_is
    case l_22 => k_is
    case c_22 => k_is
    case k_22 => k_is
    intro h_names_of_bodies
    refine' K8.then_of (K8.at_mk (x := "is_so") (st := K8.s_is_so) (ps := ["body", "numbers"]) KX G ?a_23 ?l_23 ?c_23 ?k_23 (fun kV doc pm an cdv ct us hl => match us, hl with | [_, _], _ => rfl)) ?nxt_23
    case a_23 => k_is
    case l_23 => k_is
    case c_23 => k_is
    case k_23 => k_is
    intro h_is_so
    refine' K8.then_of (K8.at_mk (x := "holds") (st := K8.s_holds) (ps := ["body", "numbers"]) KX G ?a_24 ?l_24 ?c_24 ?k_24 (fun kV doc pm an cdv ct us hl => match us, hl with | [_, _], _ => rfl)) ?nxt_24
    case a_24 => k_is
    case l_24 => k_is
    case c_24 => k_is
    case k_24 => k_is
    intro h_holds
    refine' K8.then_of (K8.at_mk (x := "_denied_test") (st := K8.s__denied_test) (ps := ["test"]) KX G ?a_25 ?l_25 ?c_25 ?k_25 (fun kV doc pm an cdv ct us hl => match us, hl with | [_], _ => rfl)) ?nxt_25
    case a_25 => k_is
    case l_25 => k_is
    case c_25 => k_is
    case k_25 => k_is
    intro h__denied_test
    refine' K8.then_of (K8.at_mk (x := "_without_not") (st := K8.s__without_not) (ps := ["body", "wanted"]) KX G ?a_26 ?l_26 ?c_26 ?k_26 (fun kV doc pm an cdv ct us hl => match us, hl with | [_, _], _ => rfl)) ?nxt_26
    case a_26 => k_is
    case l_26 => k_is
    case c_26 => k_is
    case k_26 => k_is
    intro h__without_not
    refine' K8.then_of (K8.at_mk (x := "plain") (st := K8.s_plain) (ps := ["body"]) KX G ?a_27 ?l_27 ?c_27 ?k_27 (fun kV doc pm an cdv ct us hl => match us, hl with | [_], _ => rfl)) ?nxt_27
    case a_27 => k_is
    case l_27 => k_is
    case c_27 => k_is
    case k_27 => k_is
    intro h_plain
    refine' K8.then_of (K8.at_mk (x := "denied") (st := K8.s_denied) (ps := ["body"]) KX G ?a_28 ?l_28 ?c_28 ?k_28 (fun kV doc pm an cdv ct us hl => match us, hl with | [_], _ => rfl)) ?nxt_28
    case a_28 => k_is
    case l_28 => k_is
    case c_28 => k_is
    case k_28 => k_is
    intro h_denied
    refine' K8.then_of (K8.at_mk (x := "_law_draw") (st := K8.s__law_draw) (ps := ["spring", "many"]) KX G ?a_29 ?l_29 ?c_29 ?k_29 (fun kV doc pm an cdv ct us hl => match us, hl with | [_, _], _ => rfl)) ?nxt_29
    case a_29 => k_is
    case l_29 => k_is
    case c_29 => k_is
    case k_29 => k_is
    intro h__law_draw
    refine' K8.then_of (K8.at_mk (x := "_law_pick") (st := K8.s__law_pick) (ps := ["spring", "some"]) KX G ?a_30 ?l_30 ?c_30 ?k_30 (fun kV doc pm an cdv ct us hl => match us, hl with | [_, _], _ => rfl)) ?nxt_30
    case a_30 => k_is
    case l_30 => k_is
    case c_30 => k_is
    case k_30 => k_is
    intro h__law_pick
    refine' K8.then_of (K8.at_mk (x := "_law_mixed") (st := K8.s__law_mixed) (ps := ["spring", "some"]) KX G ?a_31 ?l_31 ?c_31 ?k_31 (fun kV doc pm an cdv ct us hl => match us, hl with | [_, _], _ => rfl)) ?nxt_31
    case a_31 => k_is
    case l_31 => k_is
    case c_31 => k_is
    case k_31 => k_is
    intro h__law_mixed
    refine' K8.then_of (K8.at_mk (x := "_law_spring") (st := K8.s__law_spring) (ps := ["script", "turn"]) KX G ?a_32 ?l_32 ?c_32 ?k_32 (fun kV doc pm an cdv ct us hl => match us, hl with | [_, _], _ => rfl)) ?nxt_32
    case a_32 => k_is
    case l_32 => k_is
    case c_32 => k_is
    case k_32 => k_is
    intro h__law_spring
    refine' K8.then_of (K8.at_mk (x := "_law_same") (st := K8.s__law_same) (ps := ["found", "due"]) KX G ?a_33 ?l_33 ?c_33 ?k_33 (fun kV doc pm an cdv ct us hl => match us, hl with | [_, _], _ => rfl)) ?nxt_33
    case a_33 => k_is
    case l_33 => k_is
    case c_33 => k_is
    case k_33 => k_is
    intro h__law_same
    refine' K8.then_of (K8.at_mk (x := "_law_w_names") (st := K8.s__law_w_names) (ps := ["spring", "least", "most"]) KX G ?a_34 ?l_34 ?c_34 ?k_34 (fun kV doc pm an cdv ct us hl => match us, hl with | [_, _, _], _ => rfl)) ?nxt_34
    case a_34 => k_is
    case l_34 => k_is
    case c_34 => k_is
    case k_34 => k_is
    intro h__law_w_names
    refine' K8.then_of (K8.at_mk (x := "_law_w_told") (st := K8.s__law_w_told) (ps := ["term"]) KX G ?a_35 ?l_35 ?c_35 ?k_35 (fun kV doc pm an cdv ct us hl => match us, hl with | [_], _ => rfl)) ?nxt_35
    case a_35 => k_is
    case l_35 => k_is
    case c_35 => k_is
    case k_35 => k_is
    intro h__law_w_told
    refine' K8.then_of (K8.at_mk (x := "_law_w_body_told") (st := K8.s__law_w_body_told) (ps := ["body"]) KX G ?a_36 ?l_36 ?c_36 ?k_36 (fun kV doc pm an cdv ct us hl => match us, hl with | [_], _ => rfl)) ?nxt_36
    case a_36 => k_is
    case l_36 => k_is
    case c_36 => k_is
    case k_36 => k_is
    intro h__law_w_body_told
    refine' K8.then_of (K8.at_mk (x := "_law_w_term") (st := K8.s__law_w_term) (ps := ["spring", "names", "great"]) KX G ?a_37 ?l_37 ?c_37 ?k_37 (fun kV doc pm an cdv ct us hl => match us, hl with | [_, _, _], _ => rfl)) ?nxt_37
    case a_37 => k_is
    case l_37 => k_is
    case c_37 => k_is
    case k_37 => k_is
    intro h__law_w_term
    refine' K8.then_of (K8.at_mk (x := "_law_w_test") (st := K8.s__law_w_test) (ps := ["spring", "names", "great"]) KX G ?a_38 ?l_38 ?c_38 ?k_38 (fun kV doc pm an cdv ct us hl => match us, hl with | [_, _, _], _ => rfl)) ?nxt_38
    case a_38 => k_is
    case l_38 => k_is
    case c_38 => k_is
    case k_38 => k_is
    intro h__law_w_test
    refine' K8.then_of (K8.at_mk (x := "_law_w_body") (st := K8.s__law_w_body) (ps := ["spring", "names", "great", "deep"]) KX G ?a_39 ?l_39 ?c_39 ?k_39 (fun kV doc pm an cdv ct us hl => match us, hl with | [_, _, _, _], _ => rfl)) ?nxt_39
    case a_39 => k_is
    case l_39 => k_is
    case c_39 => k_is
    case k_39 => k_is
    intro h__law_w_body
    refine' K8.then_of (K8.at_mk (x := "_law_w_worth") (st := K8.s__law_w_worth) (ps := ["term", "numbers"]) KX G ?a_40 ?l_40 ?c_40 ?k_40 (fun kV doc pm an cdv ct us hl => match us, hl with | [_, _], _ => rfl)) ?nxt_40
    case a_40 => k_is
    case l_40 => k_is
    case c_40 => k_is
    case k_40 => k_is
    intro h__law_w_worth
    refine' K8.then_of (K8.at_mk (x := "_law_w_is_so") (st := K8.s__law_w_is_so) (ps := ["body", "numbers"]) KX G ?a_41 ?l_41 ?c_41 ?k_41 (fun kV doc pm an cdv ct us hl => match us, hl with | [_, _], _ => rfl)) ?nxt_41
    case a_41 => k_is
    case l_41 => k_is
    case c_41 => k_is
    case k_41 => k_is
    intro h__law_w_is_so
    refine' K8.then_of (K8.at_mk (x := "_law_w_numbers") (st := K8.s__law_w_numbers) (ps := ["spring", "names", "far"]) KX G ?a_42 ?l_42 ?c_42 ?k_42 (fun kV doc pm an cdv ct us hl => match us, hl with | [_, _, _], _ => rfl)) ?nxt_42
    case a_42 => k_is
    case l_42 => k_is
    case c_42 => k_is
    case k_42 => k_is
    intro h__law_w_numbers
    refine' K8.then_of (K8.at_mk (x := "_law_w_handed") (st := K8.s__law_w_handed) (ps := ["spring", "thing"]) KX G ?a_43 ?l_43 ?c_43 ?k_43 (fun kV doc pm an cdv ct us hl => match us, hl with | [_, _], _ => rfl)) ?nxt_43
    case a_43 => k_is
    case l_43 => k_is
    case c_43 => k_is
    case k_43 => k_is
    intro h__law_w_handed
    refine' K8.then_of (K8.at_mk (x := "_law_w_less") (st := K8.s__law_w_less) (ps := ["term", "number"]) KX G ?a_44 ?l_44 ?c_44 ?k_44 (fun kV doc pm an cdv ct us hl => match us, hl with | [_, _], _ => rfl)) ?nxt_44
    case a_44 => k_is
    case l_44 => k_is
    case c_44 => k_is
    case k_44 => k_is
    intro h__law_w_less
    refine' K8.then_of (K8.at_mk (x := "_law_w_turned") (st := K8.s__law_w_turned) (ps := ["term"]) KX G ?a_45 ?l_45 ?c_45 ?k_45 (fun kV doc pm an cdv ct us hl => match us, hl with | [_], _ => rfl)) ?nxt_45
    case a_45 => k_is
    case l_45 => k_is
    case c_45 => k_is
    case k_45 => k_is
    intro h__law_w_turned
    refine' K8.then_of (K8.at_mk (x := "_law_w_plain") (st := K8.s__law_w_plain) (ps := ["body", "is_denied"]) KX G ?a_46 ?l_46 ?c_46 ?k_46 (fun kV doc pm an cdv ct us hl => match us, hl with | [_, _], _ => rfl)) ?nxt_46
    case a_46 => k_is
    case l_46 => k_is
    case c_46 => k_is
    case k_46 => k_is
    intro h__law_w_plain
    refine' K8.then_of (K8.at_mk (x := "_law_w_no_bodies") (st := K8.s__law_w_no_bodies) (ps := ["good"]) KX G ?a_47 ?l_47 ?c_47 ?k_47 (fun kV doc pm an cdv ct us hl => match us, hl with | [_], _ => rfl)) ?nxt_47
    case a_47 => k_is
    case l_47 => k_is
    case c_47 => k_is
    case k_47 => k_is
    intro h__law_w_no_bodies
    refine' K8.then_of (K8.at_mk (x := "_law_words") (st := K8.s__law_words) (ps := ["body"]) KX G ?a_48 ?l_48 ?c_48 ?k_48 (fun kV doc pm an cdv ct us hl => match us, hl with | [_], _ => rfl)) ?nxt_48
    case a_48 => k_is
    case l_48 => k_is
    case c_48 => k_is
    case k_48 => k_is
    intro h__law_words
    refine' K8.then_of (K8.at_mk (x := "_law_longer") (st := K8.s__law_longer) (ps := ["thing"]) KX G ?a_49 ?l_49 ?c_49 ?k_49 (fun kV doc pm an cdv ct us hl => match us, hl with | [_], _ => rfl)) ?nxt_49
    case a_49 => k_is
    case l_49 => k_is
    case c_49 => k_is
    case k_49 => k_is
    intro h__law_longer
    refine' K8.then_of (K8.at_mk (x := "_law_dicts") (st := K8.s__law_dicts) (ps := ["body"]) KX G ?a_50 ?l_50 ?c_50 ?k_50 (fun kV doc pm an cdv ct us hl => match us, hl with | [_], _ => rfl)) ?nxt_50
    case a_50 => k_is
    case l_50 => k_is
    case c_50 => k_is
    case k_50 => k_is
    intro h__law_dicts
    refine' K8.then_of (K8.at_mk (x := "_law_alone") (st := K8.s__law_alone) (ps := ["dicts"]) KX G ?a_51 ?l_51 ?c_51 ?k_51 (fun kV doc pm an cdv ct us hl => match us, hl with | [_], _ => rfl)) ?nxt_51
    case a_51 => k_is
    case l_51 => k_is
    case c_51 => k_is
    case k_51 => k_is
    intro h__law_alone
    refine' K8.then_of (K8.at_mk (x := "_law_body_right") (st := K8.s__law_body_right) (ps := ["spring", "names", "body"]) KX G ?a_52 ?l_52 ?c_52 ?k_52 (fun kV doc pm an cdv ct us hl => match us, hl with | [_, _, _], _ => rfl)) ?nxt_52
    case a_52 => k_is
    case l_52 => k_is
    case c_52 => k_is
    case k_52 => k_is
    intro h__law_body_right
    refine' K8.then_of (K8.at_mk (x := "_law_changed_right") (st := K8.s__law_changed_right) (ps := ["spring", "names"]) KX G ?a_53 ?l_53 ?c_53 ?k_53 (fun kV doc pm an cdv ct us hl => match us, hl with | [_, _], _ => rfl)) ?nxt_53
    case a_53 => k_is
    case l_53 => k_is
    case c_53 => k_is
    case k_53 => k_is
    intro h__law_changed_right
    refine' K8.then_of (K8.at_mk (x := "law") (st := K8.s_law) (ps := ["script"]) KX G ?a_54 ?l_54 ?c_54 ?k_54 (fun kV doc pm an cdv ct us hl => match us, hl with | [_], _ => rfl)) ?nxt_54
    case a_54 => k_is
    case l_54 => k_is
    case c_54 => k_is
    case k_54 => k_is
    intro h_law
    refine' K8.then_of (PySem.W.mg_none_of (n := "isinstance") KX G ?a_55) ?nxt_55
    case a_55 => k_is
    intro n_isinstance
    refine' K8.then_of (PySem.W.mg_none_of (n := "len") KX G ?a_56) ?nxt_56
    case a_56 => k_is
    intro n_len
    refine' K8.then_of (PySem.W.mg_none_of (n := "all") KX G ?a_57) ?nxt_57
    case a_57 => k_is
    intro n_all
    refine' K8.then_of (PySem.W.mg_none_of (n := "any") KX G ?a_58) ?nxt_58
    case a_58 => k_is
    intro n_any
    refine' K8.then_of (PySem.W.mg_none_of (n := "sum") KX G ?a_59) ?nxt_59
    case a_59 => k_is
    intro n_sum
    refine' K8.then_of (PySem.W.mg_none_of (n := "sorted") KX G ?a_60) ?nxt_60
    case a_60 => k_is
    intro n_sorted
    refine' K8.then_of (PySem.W.mg_none_of (n := "abs") KX G ?a_61) ?nxt_61
    case a_61 => k_is
    intro n_abs
    refine' K8.then_of (PySem.W.mg_none_of (n := "repr") KX G ?a_62) ?nxt_62
    case a_62 => k_is
    intro n_repr
    refine' K8.then_of (PySem.W.mg_none_of (n := "range") KX G ?a_63) ?nxt_63
    case a_63 => k_is
    intro n_range
    refine' K8.then_of (PySem.W.mg_none_of (n := "enumerate") KX G ?a_64) ?nxt_64
    case a_64 => k_is
    intro n_enumerate
    refine' K8.then_of (PySem.W.mg_none_of (n := "zip") KX G ?a_65) ?nxt_65
    case a_65 => k_is
    intro n_zip
    refine' K8.then_of (PySem.W.mg_none_of (n := "int") KX G ?a_66) ?nxt_66
    case a_66 => k_is
    intro n_int
    refine' K8.then_of (PySem.W.mg_none_of (n := "bool") KX G ?a_67) ?nxt_67
    case a_67 => k_is
    intro n_bool
    refine' K8.then_of (PySem.W.mg_none_of (n := "str") KX G ?a_68) ?nxt_68
    case a_68 => k_is
    intro n_str
    refine' K8.then_of (PySem.W.mg_none_of (n := "list") KX G ?a_69) ?nxt_69
    case a_69 => k_is
    intro n_list
    refine' K8.then_of (PySem.W.mg_none_of (n := "tuple") KX G ?a_70) ?nxt_70
    case a_70 => k_is
    intro n_tuple
    refine' K8.then_of (PySem.W.mg_none_of (n := "dict") KX G ?a_71) ?nxt_71
    case a_71 => k_is
    intro n_dict
    refine' K8.then_of (K8.txt_mk KX G n_isinstance n_len n_all n_any n_sum n_sorted n_abs n_repr n_range n_enumerate n_zip n_int n_bool n_str n_list n_tuple n_dict ?a_72 ?b_72 ?c_72 ?d_72 ?e_72 ?g_72) ?nxt_72
    case a_72 => k_is
    case b_72 => k_is
    case c_72 => k_is
    case d_72 => k_is
    case e_72 => k_is
    case g_72 => decide +kernel
    intro T
    refine' K8.then_of (K8.bad_mk KX G ?gC_73 ?xL_73 ?sa_73 ?ga_73 ?gg_73 ?nb_73 ?ini_73 ?ti_73 ?li_73 ?ci_73 ?ki_73 ?kC_73 ?eC_73 ?tC_73 ?hC_73 ?iC_73 ?sC_73 ?rb_73) ?nxt_73
    case gC_73 => k_is
    case xL_73 => k_is
    case sa_73 => k_is
    case ga_73 => k_is
    case gg_73 => k_is
    case nb_73 => k_is
    case ini_73 => k_is
    case ti_73 => k_is
    case li_73 => k_is
    case ci_73 => k_is
    case ki_73 => k_is
    case kC_73 => k_is
    case eC_73 => k_is
    case tC_73 => k_is
    case hC_73 => k_is
    case iC_73 => k_is
    case sC_73 => k_is
    case rb_73 => decide +kernel
    intro B
    refine' K8.then_of (K8.ref_mk (x := "_law_refused_right") (st := K8.s__law_refused_right) (ps := ["spring", "names"]) KX G ?a_74 ?l_74 ?c_74 ?k_74 ?lc_74 ?v_74 ?nk_74 ?hd_74 (fun kV doc pm an cdv ct us hl => match us, hl with | [_, _], _ => rfl)) ?nxt_74
    case a_74 => k_is
    case l_74 => k_is
    case c_74 => k_is
    case k_74 => k_is
    case lc_74 => k_is
    case v_74 => exact rfl
    case nk_74 => kernel_rfl
    case hd_74 => kernel_rfl
    intro R
    refine' K8.then_of (K8.met_mk KX G ?a_75 ?l_75 ?c_75 ?k_75) ?nxt_75
    case a_75 => k_is
    case l_75 => k_is
    case c_75 => k_is
    case k_75 => k_is
    intro M
    refine' K8.then_of (K8.fnk_mk (x := "_law_w_no_bodies") KX G ?a_76 ?l_76 ?c_76 ?k_76) ?nxt_76
    case a_76 => k_is
    case l_76 => k_is
    case c_76 => exact rfl
    case k_76 => k_is
    intro N
    exact ⟨_, _, R.2, fun base _ _ TB => K8.all_ok T B h_is_whole h_is_from_one h_is_list h_is_run h_is_name h_is_numbers h_is_term h_names_of h_told_term h_scaled h_turned h_is_test h_less h_told_test h_term_of h_change_along h_value_of h_is_numbers_with h_is_test_so h_is_body h_tests_of h_names_of_bodies h_is_so h_holds h__denied_test h__without_not h_plain h_denied h__law_draw h__law_pick h__law_mixed h__law_spring h__law_same h__law_w_names h__law_w_told h__law_w_body_told h__law_w_term h__law_w_test h__law_w_body h__law_w_worth h__law_w_is_so h__law_w_numbers h__law_w_handed h__law_w_less h__law_w_turned h__law_w_plain h__law_w_no_bodies h__law_words h__law_longer h__law_dicts h__law_alone h__law_body_right h__law_changed_right h_law R.1 TB M N.1 N.2.1 N.2.2⟩
