import PyProof.Rows.All
import Wide.All
import OpenK.AllK
import Wide.FinOn
import PyProof.Rows.TmSorted
import PyProof.Rows.SortStr
import HandS.ForMost
import HandS.Gcd
import HandS.IsInst
import HandS.ListItems
import HandS.DictComp
import HandS.More
import HandS.Zip
import HandS.Wide
import HandS.TryOnly
import HandS.ExcInit
import HandS.ExcField
import HandS.Lambda
import HandS.EndTab
import HandS.Style
import HandS.Flow
import HandS.Conv
import HandS.Small
import HandS.Steps
import HandS.Walk
import PyProof.P3In
import HandS.SetKeys
import HandS.SetBool
import PyProof.Rows.SortShellAny
import HandS.Strs
import HandS.WordsExc
import KE.GoesEnum
import HandS.Finally
import PyProof.ReprNest
import PyProof.ReprDict
import PyProof.StrHeap
import PyProof.ReprRoads
import PyProof.ReprReads
import PyProof.RowDictHeap
import PyProof.ReprLen
import PyProof.FitsInt
import HandS.EndOwn
import PySem.Challenge.RW_outofwishes_k35_whole_all_values
set_option linter.all false
set_option autoImplicit false
namespace M8
open PySem PySem.Spec PyProof.Rows
/-! the order of texts, one sorted arrangement -/
def leS (a b : Str) : Prop := ltCps b.cps.toList a.cps.toList = false
theorem leS_iff {a b : Str} : leS a b ↔ ¬ b.cps.toList < a.cps.toList := by
  unfold leS; rw [ltCps_eq]; exact decide_eq_false_iff_not
theorem leS_antisymm {a b : Str} (h1 : leS a b) (h2 : leS b a) : a = b := by
  rw [leS_iff] at h1 h2
  have e : a.cps.toList = b.cps.toList := List.le_antisymm (List.not_lt.mp h1) (List.not_lt.mp h2)
  cases a; cases b; simp at e; simp [e]
theorem leS_trans {a b c : Str} (h1 : leS a b) (h2 : leS b c) : leS a c := by
  rw [leS_iff] at *
  exact List.not_lt.mpr (List.le_trans (List.not_lt.mp h1) (List.not_lt.mp h2))
theorem rising_pw : ∀ (l : List Str) (p : Str), risingS p l = true → (p :: l).Pairwise leS
  | [], p, _ => by simp
  | x :: r, p, h => by
    have h' : (!ltCps x.cps.toList p.cps.toList && risingS x r) = true := h
    simp only [Bool.and_eq_true, Bool.not_eq_true'] at h'
    have ih := rising_pw r x h'.2
    refine List.pairwise_cons.mpr ⟨fun y hy => ?_, ih⟩
    rcases List.mem_cons.mp hy with e | hy
    · rw [e]; exact h'.1
    · exact leS_trans h'.1 (List.rel_of_pairwise_cons ih hy)
theorem sorted_pw : ∀ {l : List Str}, sortedS l = true → l.Pairwise leS
  | [], _ => by simp
  | x :: r, h => rising_pw r x h
noncomputable def srt (xs : List Str) : List Str := open Classical in if h : ∃ ys : List Str, ys.Perm xs ∧ ys.Pairwise leS then Classical.choose h else []
theorem srt_eq {xs ys : List Str} (hp : ys.Perm xs) (hs : ys.Pairwise leS) : srt xs = ys := by
  have hx : ∃ ys : List Str, ys.Perm xs ∧ ys.Pairwise leS := ⟨ys, hp, hs⟩
  unfold srt
  rw [dif_pos hx]
  have q := Classical.choose_spec hx
  exact List.Perm.eq_of_pairwise (fun a b _ _ => leS_antisymm) q.2 hs (q.1.trans hp.symm)
theorem srt_ex : ∀ xs : List Str, ∃ ys : List Str, ys.Perm xs ∧ ys.Pairwise leS
  | xs => by
    refine ⟨xs.mergeSort (fun a b => !ltCps b.cps.toList a.cps.toList), List.mergeSort_perm _ _, ?_⟩
    have := List.pairwise_mergeSort (le := fun a b : Str => !ltCps b.cps.toList a.cps.toList) (fun a b c h1 h2 => by
      simp only [Bool.not_eq_true'] at *
      exact leS_trans (a := a) (b := b) (c := c) h1 h2) (fun a b => by
      rw [ltCps_eq, ltCps_eq]
      by_cases h : b.cps.toList < a.cps.toList
      · have : ¬ a.cps.toList < b.cps.toList := fun q => List.lt_irrefl _ (List.lt_trans h q)
        simp [this]
      · simp [h]) xs
    exact this.imp fun {a b} h => by
      have h' : (!ltCps b.cps.toList a.cps.toList) = true := h
      simpa [leS] using h'
theorem srt_perm (xs : List Str) : (srt xs).Perm xs := by
  obtain ⟨ys, h1, h2⟩ := srt_ex xs
  rw [srt_eq h1 h2]; exact h1
theorem srt_pw (xs : List Str) : (srt xs).Pairwise leS := by
  obtain ⟨ys, h1, h2⟩ := srt_ex xs
  rw [srt_eq h1 h2]; exact h2
theorem srt_congr {xs ys : List Str} (h : xs.Perm ys) : srt xs = srt ys := srt_eq ((srt_perm ys).trans h.symm) (srt_pw ys)
theorem srt_filter (xs : List Str) (p : Str → Bool) : srt (xs.filter p) = (srt xs).filter p :=
  srt_eq ((srt_perm xs).filter p) ((srt_pw xs).sublist List.filter_sublist)
theorem srt_of_sorted {xs : List Str} (h : xs.Pairwise leS) : srt xs = xs := srt_eq (.refl _) h
theorem srt_nil : srt [] = [] := srt_of_sorted .nil
theorem srt_nodup {xs : List Str} (h : xs.Nodup) : (srt xs).Nodup := (srt_perm xs).nodup_iff.mpr h
theorem mem_srt {xs : List Str} {x : Str} : x ∈ srt xs ↔ x ∈ xs := (srt_perm xs).mem_iff
theorem srt_length (xs : List Str) : (srt xs).length = xs.length := (srt_perm xs).length_eq

/-! coefficients -/
abbrev Coef := List (Str × Int)
def look (c : Coef) (n : Str) : Option Int := (c.find? fun p => decide (p.1 = n)).map (·.2)
def co (c : Coef) (n : Str) : Int := (look c n).getD 0
def keys (c : Coef) : List Str := c.map (·.1)
structure Wf (c : Coef) : Prop where
  nd : (keys c).Nodup
theorem look_mem {c : Coef} {n : Str} {i : Int} (h : look c n = some i) : (n, i) ∈ c := by
  unfold look at h
  cases e : c.find? fun p => decide (p.1 = n) with
  | none => rw [e] at h; simp at h
  | some p =>
    rw [e] at h
    have h1 := List.find?_some e
    have h2 := List.mem_of_find?_eq_some e
    simp at h h1
    obtain ⟨a, b⟩ := p
    simp at h h1
    subst h1; subst h
    exact h2
theorem look_of_mem : ∀ {c : Coef} {n : Str} {i : Int}, (keys c).Nodup → (n, i) ∈ c → look c n = some i
  | [], _, _, _, h => by simp at h
  | (m, j) :: c, n, i, hn, h => by
    have hn' : m ∉ keys c ∧ (keys c).Nodup := List.nodup_cons.mp hn
    unfold look
    rw [List.find?_cons]
    by_cases e : m = n
    · subst e
      rw [show decide (m = m) = true from decide_eq_true rfl]
      rcases List.mem_cons.mp h with h | h
      · cases h; rfl
      · exact absurd (List.mem_map.mpr ⟨(m, i), h, rfl⟩) hn'.1
    · rw [show decide (m = n) = false from decide_eq_false e]
      rcases List.mem_cons.mp h with h | h
      · cases h; exact absurd rfl e
      · exact look_of_mem hn'.2 h
theorem look_none {c : Coef} {n : Str} (h : n ∉ keys c) : look c n = none := by
  cases e : look c n with
  | none => rfl
  | some i => exact absurd (List.mem_map.mpr ⟨(n, i), look_mem e, rfl⟩) h
theorem look_some {c : Coef} {n : Str} (h : n ∈ keys c) (hn : (keys c).Nodup) : ∃ i, look c n = some i := by
  obtain ⟨p, hp, e⟩ := List.mem_map.mp h
  subst e
  exact ⟨p.2, look_of_mem hn hp⟩
theorem co_of_mem {c : Coef} {n : Str} {i : Int} (hn : (keys c).Nodup) (h : (n, i) ∈ c) : co c n = i := by
  unfold co; rw [look_of_mem hn h]; rfl
theorem co_notin {c : Coef} {n : Str} (h : n ∉ keys c) : co c n = 0 := by unfold co; rw [look_none h]; rfl
/-- the names with a coefficient other than 0, ascending -/
noncomputable def nz (c : Coef) : List Str := srt ((c.filter fun p => decide (p.2 ≠ 0)).map (·.1))
/-- the told form -/
noncomputable def canon (c : Coef) : Coef := (nz c).map fun n => (n, co c n)
theorem filter_keys {c : Coef} (hn : (keys c).Nodup) : (c.filter fun p => decide (p.2 ≠ 0)).map (·.1) = (keys c).filter fun n => decide (co c n ≠ 0) := by
  have : ∀ l : Coef, (∀ p ∈ l, p ∈ c) → (l.filter fun p => decide (p.2 ≠ 0)).map (·.1) = (keys l).filter fun n => decide (co c n ≠ 0) := by
    intro l
    induction l with
    | nil => intro _; rfl
    | cons p l ih =>
      intro h
      have e : co c p.1 = p.2 := co_of_mem hn (h p List.mem_cons_self)
      have ih' := ih fun q hq => h q (List.mem_cons_of_mem _ hq)
      unfold keys at *
      rw [List.filter_cons, List.map_cons, List.filter_cons, e, ← ih']
      split <;> simp
  exact this c fun _ h => h
theorem nz_eq {c : Coef} (hn : (keys c).Nodup) : nz c = (srt (keys c)).filter fun n => decide (co c n ≠ 0) := by
  unfold nz; rw [filter_keys hn, srt_filter]
theorem mem_nz {c : Coef} {n : Str} (hn : (keys c).Nodup) : n ∈ nz c ↔ co c n ≠ 0 := by
  rw [nz_eq hn, List.mem_filter, mem_srt]
  constructor
  · intro h; simpa using h.2
  · intro h
    refine ⟨Decidable.byContradiction fun k => h (co_notin k), by simpa using h⟩
theorem nz_nodup {c : Coef} (hn : (keys c).Nodup) : (nz c).Nodup := by
  rw [nz_eq hn]; exact (srt_nodup hn).filter _
theorem nz_pw (c : Coef) : (nz c).Pairwise leS := srt_pw _
theorem keys_canon (c : Coef) : keys (canon c) = nz c := by
  unfold keys canon; rw [List.map_map]; exact List.map_id' _
theorem canon_nodup {c : Coef} (hn : (keys c).Nodup) : (keys (canon c)).Nodup := by rw [keys_canon]; exact nz_nodup hn
theorem co_canon {c : Coef} (hn : (keys c).Nodup) (n : Str) : co (canon c) n = co c n := by
  by_cases h : n ∈ nz c
  · exact co_of_mem (canon_nodup hn) (List.mem_map.mpr ⟨n, h, rfl⟩)
  · rw [co_notin (by rw [keys_canon]; exact h)]
    have := fun k => h ((mem_nz hn).mpr k)
    exact (Decidable.byContradiction fun k => this k).symm
/-- two dicts with the same coefficients are told the same -/
theorem nz_congr {c d : Coef} (hc : (keys c).Nodup) (hd : (keys d).Nodup) (h : ∀ n, co c n = co d n) : nz c = nz d := by
  have e1 := nz_pw c
  have e2 := nz_pw d
  refine List.Perm.eq_of_pairwise (fun a b _ _ => leS_antisymm) e1 e2 ?_
  refine (List.perm_ext_iff_of_nodup (nz_nodup hc) (nz_nodup hd)).mpr fun n => ?_
  rw [mem_nz hc, mem_nz hd, h]
theorem canon_congr {c d : Coef} (hc : (keys c).Nodup) (hd : (keys d).Nodup) (h : ∀ n, co c n = co d n) : canon c = canon d := by
  unfold canon
  rw [nz_congr hc hd h]
  exact List.map_congr_left fun n _ => by rw [h]
theorem canon_canon {c : Coef} (hc : (keys c).Nodup) : canon (canon c) = canon c := canon_congr (canon_nodup hc) hc (co_canon hc)
/-- a told one: ascending, without 0 -/
structure Told (c : Coef) : Prop where
  pw : (keys c).Pairwise leS
  nd : (keys c).Nodup
  nz : ∀ p ∈ c, p.2 ≠ 0
theorem told_canon {c : Coef} (hc : (keys c).Nodup) : Told (canon c) := by
  refine ⟨by rw [keys_canon]; exact nz_pw c, canon_nodup hc, fun p hp => ?_⟩
  obtain ⟨n, hn, rfl⟩ := List.mem_map.mp hp
  exact (mem_nz hc).mp hn
theorem Told.canon_eq {c : Coef} (h : Told c) : canon c = c := by
  have e : _root_.M8.nz c = keys c := by
    unfold _root_.M8.nz
    have : (c.filter fun p => decide (p.2 ≠ 0)) = c := List.filter_eq_self.mpr fun p hp => by simpa using h.nz p hp
    rw [this]
    exact srt_of_sorted h.pw
  unfold canon
  rw [e]
  unfold keys
  rw [List.map_map]
  conv => rhs; rw [← List.map_id c]
  refine List.map_congr_left fun p hp => ?_
  obtain ⟨n, i⟩ := p
  show (n, co c n) = (n, i)
  rw [co_of_mem h.nd hp]
/-- each coefficient changed -/
def mapc (f : Int → Int) (c : Coef) : Coef := c.map fun p => (p.1, f p.2)
theorem keys_mapc (f : Int → Int) (c : Coef) : keys (mapc f c) = keys c := by unfold keys mapc; rw [List.map_map]; rfl
theorem look_mapc (f : Int → Int) : ∀ (c : Coef) (n : Str), look (mapc f c) n = (look c n).map f
  | [], _ => rfl
  | (m, j) :: c, n => by
    have ih := look_mapc f c n
    unfold look mapc at *
    rw [List.map_cons, List.find?_cons, List.find?_cons]
    by_cases e : m = n
    · simp [e]
    · simp [e]; simpa using ih
theorem co_mapc {f : Int → Int} (h0 : f 0 = 0) (c : Coef) (n : Str) : co (mapc f c) n = f (co c n) := by
  unfold co; rw [look_mapc]
  cases look c n with
  | none => exact h0.symm
  | some i => rfl
theorem told_mapc {f : Int → Int} {c : Coef} (h : Told c) (hf : ∀ p ∈ c, f p.2 ≠ 0) : Told (mapc f c) := by
  refine ⟨by rw [keys_mapc]; exact h.pw, by rw [keys_mapc]; exact h.nd, fun p hp => ?_⟩
  obtain ⟨q, hq, rfl⟩ := List.mem_map.mp hp
  exact hf q hq
/-- the told form of changed coefficients, where 0 stays 0 and nothing else becomes 0 -/
theorem canon_mapc {f : Int → Int} (h0 : f 0 = 0) {c : Coef} (hc : (keys c).Nodup) (hf : ∀ p ∈ canon c, f p.2 ≠ 0) : canon (mapc f c) = mapc f (canon c) := by
  have hk : (keys (mapc f c)).Nodup := by rw [keys_mapc]; exact hc
  rw [← (told_mapc (told_canon hc) hf).canon_eq]
  refine canon_congr hk (by rw [keys_mapc]; exact canon_nodup hc) fun n => ?_
  rw [co_mapc h0, co_mapc h0, co_canon hc]
end M8

set_option linter.all false
set_option autoImplicit false
namespace M8
open PySem PySem.Spec PyProof.Rows
def gcdI (a b : Int) : Int := ((Nat.gcd a.natAbs b.natAbs : Nat) : Int)
theorem gcdI_dvd_l (a b : Int) : gcdI a b ∣ a := by
  unfold gcdI; exact Int.ofNat_dvd_left.mpr (Nat.gcd_dvd_left _ _)
theorem gcdI_dvd_r (a b : Int) : gcdI a b ∣ b := by
  unfold gcdI; exact Int.ofNat_dvd_left.mpr (Nat.gcd_dvd_right _ _)
theorem gcdI_nn (a b : Int) : 0 ≤ gcdI a b := by unfold gcdI; omega
theorem dvd_gcdI {d a b : Int} (h1 : d ∣ a) (h2 : d ∣ b) : d ∣ gcdI a b := by
  unfold gcdI
  exact Int.ofNat_dvd_right.mpr (Nat.dvd_gcd (Int.natAbs_dvd_natAbs.mpr h1) (Int.natAbs_dvd_natAbs.mpr h2))
def gcds (l : List Int) (g0 : Int) : Int := l.foldl gcdI g0
theorem gcds_dvd0 : ∀ (l : List Int) (g : Int), gcds l g ∣ g
  | [], g => Int.dvd_refl g
  | a :: l, g => Int.dvd_trans (gcds_dvd0 l (gcdI g a)) (gcdI_dvd_l g a)
theorem gcds_dvd : ∀ (l : List Int) (g : Int) (x : Int), x ∈ l → gcds l g ∣ x
  | a :: l, g, x, h => by
    rcases List.mem_cons.mp h with e | h
    · rw [e]; exact Int.dvd_trans (gcds_dvd0 l (gcdI g a)) (gcdI_dvd_r g a)
    · exact gcds_dvd l (gcdI g a) x h
theorem gcds_nn : ∀ (l : List Int) (g : Int), 0 ≤ g → 0 ≤ gcds l g
  | [], g, h => h
  | a :: l, g, _ => gcds_nn l _ (gcdI_nn g a)
theorem dvd_gcds {d : Int} : ∀ (l : List Int) (g : Int), d ∣ g → (∀ x ∈ l, d ∣ x) → d ∣ gcds l g
  | [], g, h, _ => h
  | a :: l, g, h, hl => dvd_gcds l _ (dvd_gcdI h (hl a List.mem_cons_self)) fun x hx => hl x (List.mem_cons_of_mem _ hx)
def vals (c : Coef) : List Int := c.map (·.2)
noncomputable def dvs (g0 : Int) (c : Coef) : Int := (nz c).foldl (fun g n => gcdI g (co c n)) g0
theorem dvs_eq (g0 : Int) (c : Coef) : dvs g0 c = gcds (vals (canon c)) g0 := by
  unfold dvs gcds vals canon
  rw [List.map_map, List.foldl_map]; rfl
theorem dvs_nn {g0 : Int} (h : 0 ≤ g0) (c : Coef) : 0 ≤ dvs g0 c := by rw [dvs_eq]; exact gcds_nn _ _ h
theorem dvs_dvd (g0 : Int) (c : Coef) {p : Str × Int} (h : p ∈ canon c) : dvs g0 c ∣ p.2 := by
  rw [dvs_eq]; exact gcds_dvd _ _ _ (List.mem_map.mpr ⟨p, h, rfl⟩)
theorem dvs_dvd0 (g0 : Int) (c : Coef) : dvs g0 c ∣ g0 := by rw [dvs_eq]; exact gcds_dvd0 _ _
theorem canon_nz {c : Coef} (hc : (keys c).Nodup) {p : Str × Int} (h : p ∈ canon c) : p.2 ≠ 0 := (told_canon hc).nz p h
theorem dvs_zero {c : Coef} (hc : (keys c).Nodup) : dvs 0 c = 0 ↔ canon c = [] := by
  constructor
  · intro h
    cases e : canon c with
    | nil => rfl
    | cons p l =>
      have hp : p ∈ canon c := by rw [e]; simp
      have := dvs_dvd 0 c hp
      rw [h] at this
      exact absurd (Int.zero_dvd.mp this) (canon_nz hc hp)
  · intro h; rw [dvs_eq, h]; rfl
theorem dvs_pos {c : Coef} (hc : (keys c).Nodup) (h : dvs 0 c ≠ 0) : 0 < dvs 0 c := by
  have := dvs_nn (Int.le_refl 0) c; omega
theorem dvs_le {g0 : Int} {c : Coef} {b : Int} {p : Str × Int} (hc : (keys c).Nodup) (hp : p ∈ canon c) (hb : p.2.natAbs ≤ b) : dvs g0 c ≤ b := by
  have h1 := dvs_dvd g0 c hp
  have h2 := Int.natAbs_dvd_natAbs.mpr h1
  have h3 := Nat.le_of_dvd (Int.natAbs_pos.mpr (canon_nz hc hp)) h2
  omega
theorem co_mem {c : Coef} {n : Str} (h : co c n ≠ 0) : (n, co c n) ∈ c := by
  unfold co at h ⊢
  cases e : look c n with
  | none => rw [e] at h; exact absurd rfl h
  | some i => exact look_mem e
theorem canon_sub {c : Coef} (hc : (keys c).Nodup) {p : Str × Int} (h : p ∈ canon c) : p ∈ c := by
  obtain ⟨n, hn, rfl⟩ := List.mem_map.mp h
  exact co_mem ((mem_nz hc).mp hn)
inductive Tst where
  | row (c : Coef) (k : Int) | same (c : Coef) (k : Int) | div (m : Int) (c : Coef) (k : Int)
abbrev Res := Bool ⊕ Tst
noncomputable def pRow (c : Coef) (k : Int) : Res := if dvs 0 c = 0 then .inl (decide (0 ≤ k)) else .inr (.row (canon (mapc (fun i => i / dvs 0 c) c)) (k / dvs 0 c))
noncomputable def pSame (c : Coef) (k : Int) : Res := if dvs 0 c = 0 then .inl (decide (k = 0)) else if k % dvs 0 c ≠ 0 then .inl false else
  if co c ((nz c).headD "") < 0 then .inr (.same (canon (mapc (fun i => -1 * i) (canon (mapc (fun i => i / dvs 0 c) c)))) (-1 * (k / dvs 0 c))) else .inr (.same (canon (mapc (fun i => i / dvs 0 c) c)) (k / dvs 0 c))
noncomputable def rsts (m : Int) (c : Coef) : Coef := canon (mapc (fun i => i % m) c)
noncomputable def pBy (m : Int) (c : Coef) (k : Int) : Res := if (k % m) % dvs m (rsts m c) ≠ 0 then .inl false else if (nz (rsts m c)).length = 0 then .inl true else
  .inr (.div (m / dvs m (rsts m c)) (canon (mapc (fun i => i / dvs m (rsts m c)) (rsts m c))) ((k % m) / dvs m (rsts m c)))
noncomputable def pTight : Tst → Res | .row c k => pRow c k | .same c k => pSame c k | .div m c k => pBy m c k
/-! the law's way, of told coefficients -/
def lRow (c : Coef) (k : Int) : Res := if c = [] then .inl (decide (0 ≤ k)) else .inr (.row (mapc (fun i => i.fdiv (gcds (vals c) 0)) c) (k.fdiv (gcds (vals c) 0)))
def sgnd (c : Coef) : Int := if ((vals c).headD 0) < 0 then 0 - gcds (vals c) 0 else gcds (vals c) 0
def lSame (c : Coef) (k : Int) : Res := if c = [] then .inl (decide (k = 0)) else if k % gcds (vals c) 0 > 0 then .inl false else .inr (.same (mapc (fun i => i.fdiv (sgnd c)) c) (k.fdiv (sgnd c)))
def lrs (m : Int) (c : Coef) : Coef := (mapc (fun i => i % m) c).filter fun p => decide (p.2 > 0)
def lBy (m : Int) (c : Coef) (k : Int) : Res := if (k % m) % gcds (m :: vals (lrs m c)) 0 > 0 ∨ lrs m c = [] then .inl (decide (lrs m c = []) && decide (k % m = 0)) else
  .inr (.div (m / gcds (m :: vals (lrs m c)) 0) (mapc (fun i => i / gcds (m :: vals (lrs m c)) 0) (lrs m c)) ((k % m) / gcds (m :: vals (lrs m c)) 0))
theorem mapc_congr {f g : Int → Int} {c : Coef} (h : ∀ p ∈ c, f p.2 = g p.2) : mapc f c = mapc g c := List.map_congr_left fun p hp => by rw [h p hp]
theorem div_ne0 {i d : Int} (h : d ∣ i) (hi : i ≠ 0) (hd : d ≠ 0) : i / d ≠ 0 := by
  obtain ⟨q, rfl⟩ := h
  rw [Int.mul_ediv_cancel_left _ hd]
  intro z; rw [z] at hi; simp at hi
theorem canon_div {c : Coef} (hc : (keys c).Nodup) {d : Int} (hd : d ≠ 0) (h : ∀ p ∈ canon c, d ∣ p.2) : canon (mapc (fun i => i / d) c) = mapc (fun i => i / d) (canon c) :=
  canon_mapc (by simp) hc fun p hp => div_ne0 (h p hp) (canon_nz hc hp) hd
theorem pRow_eq {c : Coef} (hc : (keys c).Nodup) (k : Int) : pRow c k = lRow (canon c) k := by
  unfold pRow lRow
  by_cases h : dvs 0 c = 0
  · rw [if_pos h, if_pos ((dvs_zero hc).mp h)]
  · rw [if_neg h, if_neg fun z => h ((dvs_zero hc).mpr z)]
    have hp := dvs_pos hc h
    rw [canon_div hc h fun p hp => dvs_dvd 0 c hp, ← dvs_eq]
    have e : ∀ i : Int, i.fdiv (dvs 0 c) = i / dvs 0 c := fun i => Int.fdiv_eq_ediv_of_nonneg _ (Int.le_of_lt hp)
    simp only [e]
theorem head_canon (c : Coef) : (vals (canon c)).headD 0 = if canon c = [] then 0 else co c ((nz c).headD "") := by
  unfold canon vals
  cases nz c with
  | nil => rfl
  | cons n l => simp
theorem pSame_eq {c : Coef} (hc : (keys c).Nodup) (k : Int) : pSame c k = lSame (canon c) k := by
  unfold pSame lSame
  by_cases h : dvs 0 c = 0
  · rw [if_pos h, if_pos ((dvs_zero hc).mp h)]
  · have hne : canon c ≠ [] := fun z => h ((dvs_zero hc).mpr z)
    rw [if_neg h, if_neg hne]
    have hp := dvs_pos hc h
    rw [← dvs_eq]
    have hk := Int.emod_nonneg k h
    by_cases hm : k % dvs 0 c = 0
    · rw [if_neg (show ¬ (k % dvs 0 c ≠ 0) from fun z => z hm), if_neg (show ¬ (k % dvs 0 c > 0) by omega)]
      have hdk : dvs 0 c ∣ k := Int.dvd_of_emod_eq_zero hm
      have e1 := canon_div hc h fun p hp => dvs_dvd 0 c hp
      rw [e1]
      unfold sgnd
      rw [head_canon, if_neg hne, ← dvs_eq]
      by_cases hn : co c ((nz c).headD "") < 0
      · rw [if_pos hn, if_pos hn]
        have hnd : (keys (mapc (fun i => i / dvs 0 c) (canon c))).Nodup := by rw [keys_mapc]; exact canon_nodup hc
        have ht : Told (mapc (fun i => i / dvs 0 c) (canon c)) := told_mapc (told_canon hc) fun p hp => div_ne0 (dvs_dvd 0 c hp) (canon_nz hc hp) h
        have e2 : canon (mapc (fun i => -1 * i) (mapc (fun i => i / dvs 0 c) (canon c))) = mapc (fun i => -1 * i) (mapc (fun i => i / dvs 0 c) (canon c)) := by
          have := canon_mapc (f := fun i => -1 * i) (by simp) hnd (by
            rw [ht.canon_eq]
            intro p hp; have := ht.nz p hp; omega)
          rw [this, ht.canon_eq]
        rw [e2]
        have ed : ∀ i : Int, dvs 0 c ∣ i → i.fdiv (0 - dvs 0 c) = -1 * (i / dvs 0 c) := by
          rintro i ⟨q, rfl⟩
          rw [Int.mul_ediv_cancel_left _ h]
          have : dvs 0 c * q = (0 - dvs 0 c) * (-q) := by rw [Int.zero_sub, Int.neg_mul_neg]
          rw [this, Int.mul_fdiv_cancel_left _ (by omega)]
          omega
        rw [ed k hdk]
        have e3 : mapc (fun i => -1 * i) (mapc (fun i => i / dvs 0 c) (canon c)) = mapc (fun i => i.fdiv (0 - dvs 0 c)) (canon c) := by
          unfold mapc; rw [List.map_map]
          refine List.map_congr_left fun p hp => ?_
          show (p.1, -1 * (p.2 / dvs 0 c)) = (p.1, p.2.fdiv (0 - dvs 0 c))
          rw [ed p.2 (dvs_dvd 0 c hp)]
        rw [e3]
      · rw [if_neg hn, if_neg hn]
        have e : ∀ i : Int, i.fdiv (dvs 0 c) = i / dvs 0 c := fun i => Int.fdiv_eq_ediv_of_nonneg _ (Int.le_of_lt hp)
        simp only [e]
    · rw [if_pos (show k % dvs 0 c ≠ 0 from hm), if_pos (show k % dvs 0 c > 0 by omega)]
theorem co_lrs {m : Int} {c : Coef} (hm : 0 < m) (hc : (keys c).Nodup) (n : Str) : co (lrs m c) n = co c n % m := by
  have hk : (keys (mapc (fun i => i % m) c)).Nodup := by rw [keys_mapc]; exact hc
  have hs : (keys (lrs m c)).Nodup := by unfold lrs keys; exact hk.sublist (List.filter_sublist.map _)
  have e : co (mapc (fun i => i % m) c) n = co c n % m := co_mapc (f := fun i => i % m) (by simp) c n
  by_cases h : co c n % m = 0
  · rw [h]
    refine Decidable.byContradiction fun z => ?_
    have h1 := co_mem z
    have h2 := (List.mem_filter.mp h1).1
    rw [← e, co_of_mem hk h2] at h
    exact z h
  · have h1 : (n, co c n % m) ∈ mapc (fun i => i % m) c := by
      have := co_mem (c := mapc (fun i => i % m) c) (n := n) (by rw [e]; exact h)
      rw [e] at this; exact this
    have h0 := Int.emod_nonneg (co c n) (Int.ne_of_gt hm)
    exact co_of_mem hs (List.mem_filter.mpr ⟨h1, by simp; omega⟩)
theorem lrs_told {m : Int} {c : Coef} (hm : 0 < m) (h : Told c) : Told (lrs m c) := by
  have hk : keys (mapc (fun i => i % m) c) = keys c := keys_mapc _ _
  have sub : (keys (lrs m c)).Sublist (keys c) := by rw [← hk]; exact List.filter_sublist.map _
  refine ⟨h.pw.sublist sub, h.nd.sublist sub, fun p hp => ?_⟩
  have := (List.mem_filter.mp hp).2
  simp at this; omega
theorem rsts_eq {m : Int} {c : Coef} (hm : 0 < m) (hc : (keys c).Nodup) : rsts m c = lrs m (canon c) := by
  have hk : (keys (mapc (fun i => i % m) c)).Nodup := by rw [keys_mapc]; exact hc
  have ht := lrs_told hm (told_canon hc)
  unfold rsts
  rw [← ht.canon_eq]
  refine canon_congr hk ht.nd fun n => ?_
  rw [co_lrs hm (canon_nodup hc), co_canon hc, co_mapc (f := fun i => i % m) (by simp)]
theorem gcds_m {m : Int} (hm : 0 < m) (l : List Int) : gcds (m :: l) 0 = gcds l m := by
  show gcds l (gcdI 0 m) = gcds l m
  have : gcdI 0 m = m := by unfold gcdI; simp; omega
  rw [this]
theorem dvs_told (g0 : Int) {c : Coef} (h : Told c) : dvs g0 c = gcds (vals c) g0 := by rw [dvs_eq, h.canon_eq]
theorem pBy_eq {m : Int} {c : Coef} (hm : 0 < m) (hc : (keys c).Nodup) (k : Int) : pBy m c k = lBy m (canon c) k := by
  have ht := lrs_told hm (told_canon hc)
  unfold pBy lBy
  rw [rsts_eq hm hc, dvs_told m ht, gcds_m hm]
  have hd : gcds (vals (lrs m (canon c))) m ∣ m := gcds_dvd0 _ _
  have hdn : 0 ≤ gcds (vals (lrs m (canon c))) m := gcds_nn _ _ (by omega)
  have hd0 : gcds (vals (lrs m (canon c))) m ≠ 0 := fun z => by rw [z] at hd; have := Int.zero_dvd.mp hd; omega
  have hk := Int.emod_nonneg (k % m) hd0
  have hkm := Int.emod_nonneg k (Int.ne_of_gt hm)
  have hnz : (nz (lrs m (canon c))).length = 0 ↔ lrs m (canon c) = [] := by
    have e : keys (canon (lrs m (canon c))) = nz (lrs m (canon c)) := keys_canon _
    rw [← e, ht.canon_eq]; unfold keys; rw [List.length_map]; exact List.length_eq_zero_iff
  by_cases he : lrs m (canon c) = []
  · have e1 : gcds (vals (lrs m (canon c))) m = m := by rw [he]; rfl
    rw [e1] at hk ⊢
    have e2 : k % m % m = k % m := Int.emod_emod_of_dvd k (Int.dvd_refl m)
    rw [e2, if_pos (show k % m > 0 ∨ lrs m (canon c) = [] from .inr he)]
    by_cases hz : k % m = 0
    · rw [if_neg (show ¬ (k % m ≠ 0) from fun z => z hz), if_pos (hnz.mpr he), hz, decide_eq_true he]; rfl
    · rw [if_pos (show k % m ≠ 0 from hz), decide_eq_true he, decide_eq_false hz]; rfl
  · by_cases hz : k % m % gcds (vals (lrs m (canon c))) m = 0
    · rw [if_neg (show ¬ (k % m % gcds (vals (lrs m (canon c))) m ≠ 0) from fun z => z hz), if_neg (fun q => he (hnz.mp q)), if_neg (show ¬ (k % m % gcds (vals (lrs m (canon c))) m > 0 ∨ lrs m (canon c) = []) from fun q => q.elim (fun q => by omega) he)]
      have hnd := ht.nd
      have e3 := canon_div hnd hd0 (fun p hp => by rw [ht.canon_eq] at hp; exact gcds_dvd _ _ _ (List.mem_map.mpr ⟨p, hp, rfl⟩))
      rw [e3, ht.canon_eq]
    · rw [if_pos (show k % m % gcds (vals (lrs m (canon c))) m ≠ 0 from hz), if_pos (show k % m % gcds (vals (lrs m (canon c))) m > 0 ∨ lrs m (canon c) = [] from .inl (by omega)), decide_eq_false he]; rfl
noncomputable def lTight : Tst → Res | .row c k => lRow (canon c) k | .same c k => lSame (canon c) k | .div m c k => lBy m (canon c) k
def coef : Tst → Coef | .row c _ => c | .same c _ => c | .div _ c _ => c
def mOk : Tst → Prop | .div m _ _ => 0 < m ∧ m ≤ 1000 | _ => True
theorem tight_eq {t : Tst} (hc : (keys (coef t)).Nodup) (hm : mOk t) : pTight t = lTight t := by
  cases t with
  | row c k => exact pRow_eq hc k
  | same c k => exact pSame_eq hc k
  | div m c k => exact pBy_eq hm.1 hc k
end M8

set_option Elab.async false
set_option linter.all false
set_option maxRecDepth 100000
set_option maxHeartbeats 4000000
namespace K8
open PySem PySem.Spec PyProof.Rows L2
def top (i : Nat) : Stmt := PySem.Challenge.pw_outofwishes_k35_whole_all_values.main.body.getD i (.Pass ⟨0, 0, 0, 0⟩)
/-! ### a def of the text, by name: where it stands, how its arguments bind, what it promises -/
section
variable {P : Program} {w : World} {K : PySem.W.Frag} {mg : Str → Option Value} {base : Heap}
structure Ok (P : Program) (w : World) (K : PySem.W.Frag) (mg : Str → Option Value) (base : Heap) (CX : CXT) (k : Nat) (x : Str) (ps : List Str) (sp : Sp) : Prop where
  ex : ∃ f fd, mg x = some (.ref f) ∧ PySem.W.keepIn K (.ref f) = true ∧ Binds K fd ps [] ∧ FnOk P w K mg base CX k f fd ps sp
/-- a def as the top has left it -/
structure At (K : PySem.W.Frag) (mg : Str → Option Value) (x : Str) (st : Stmt) (ps : List Str) : Prop where
  ex : ∃ f fd, mg x = some (.ref f) ∧ Fun K x x st f fd ∧ Binds K fd ps []
theorem At.ok {CX : CXT} {x : Str} {st : Stmt} {ps : List Str} {k : Nat} {sp : Sp} (a : At K mg x st ps) (h : ∀ f fd, Fun K x x st f fd → FnOk P w K mg base CX k f fd ps sp) : Ok P w K mg base CX k x ps sp := by
  obtain ⟨f, fd, hm, F, b⟩ := a.ex
  exact ⟨f, fd, hm, F.kp, b, h f fd F⟩
theorem Ok.mono {CX : CXT} {x : Str} {ps : List Str} {j k : Nat} {sp : Sp} (o : Ok P w K mg base CX j x ps sp) (h : j ≤ k) : Ok P w K mg base CX k x ps sp := by
  obtain ⟨f, fd, hm, hk, b, F⟩ := o.ex
  exact ⟨f, fd, hm, hk, b, F.mono h⟩
theorem Ok.imp {CX : CXT} {x : Str} {ps : List Str} {k : Nat} {sp sp' : Sp} (o : Ok P w K mg base CX k x ps sp) (h : ∀ vs H Q E, sp' vs H Q E → sp vs H Q E) : Ok P w K mg base CX k x ps sp' := by
  obtain ⟨f, fd, hm, hk, b, F⟩ := o.ex
  exact ⟨f, fd, hm, hk, b, F.imp h⟩
end
section
variable {X : Cx}
/-- f(e, ..) of a def that lets nothing out -/
def tC0 (sp : Sp) (t : TA) : TE := fun σ H Q => t σ H fun vs H1 => sp vs H1 Q E0
theorem pe_callO {x : Str} {ps : List Str} {k : Nat} {sp : Sp} {e : Expr} {es : List Expr} {t : TA} {p pos : Pos} (O : Ok X.prog X.w X.K X.mg X.base CX0 k x ps sp) (hr : Room k X.A) (hg : Gl X x) (ha : PA X (e :: es) t)
    (hdb : (x == ("__debug__" : Str)) = false := by decide) (he : starEach (e :: es) X.env = (false, eval e X.env) :: starEach es X.env := by rfl) (hpl : (backTo pos (starEach es X.env)).any (·.1) = false := by rfl) : PE X (.Call (.Name x p) (e :: es) [] pos) (tC0 sp t) := by
  obtain ⟨f, fd, hm, hk, b, F⟩ := O.ex
  have h := pe_call (p := p) (pos := pos) F hr hg hm hk b .nil pass0 ha hdb he hpl
  refine ⟨fun pins s σ H Q I q => h.run pins s σ H Q I ?_⟩
  show t σ H fun vs H1 => sp (vs ++ []) H1 Q E0
  have e1 : (fun (vs : List V) (H1 : Hp) => sp (vs ++ []) H1 Q E0) = fun vs H1 => sp vs H1 Q E0 := by funext vs H1; rw [List.append_nil]
  rw [e1]
  exact q
end
end K8
namespace K8
open PySem PySem.Spec PyProof.Rows L2 M8
/-! ### data, and what a value shows of it -/
inductive Dat where
  | non | bl (b : Bool) | int (i : Int) | str (s : Str)
  | lst (ds : List Dat) | tup (ds : List Dat) | dct (kds : List (Key × Dat)) | fn (a : Addr)
/-- things that are no data, as they may be told of a heap -/
structure Fk where
  p : Hp → Addr → Prop
  mono : ∀ {H H' : Hp} {a : Addr}, (∀ b o, (∀ ps, o ≠ .tbl ps) → H b = some o → H' b = some o) → p H a → p H' a
mutual
inductive See (F : Fk) (H : Hp) : V → Dat → Prop
  | non : See F H .non .non
  | bl (b : Bool) : See F H (.bl b) (.bl b)
  | int (i : Int) : See F H (.int i) (.int i)
  | str (s : Str) : See F H (.str s) (.str s)
  | lst {a : Addr} {xs : List V} {ds : List Dat} : H a = some (.lst xs) → SeeL F H xs ds → See F H (.ref a) (.lst ds)
  | tup {a : Addr} {xs : List V} {ds : List Dat} : H a = some (.tup xs) → SeeL F H xs ds → See F H (.ref a) (.tup ds)
  | dct {a : Addr} {kvs : List (Key × V)} {kds : List (Key × Dat)} : H a = some (.dK kvs) → SeeK F H kvs kds → See F H (.ref a) (.dct kds)
  | fn {a : Addr} : F.p H a → See F H (.ref a) (.fn a)
inductive SeeL (F : Fk) (H : Hp) : List V → List Dat → Prop
  | nil : SeeL F H [] []
  | cons {v : V} {vs : List V} {d : Dat} {ds : List Dat} : See F H v d → SeeL F H vs ds → SeeL F H (v :: vs) (d :: ds)
inductive SeeK (F : Fk) (H : Hp) : List (Key × V) → List (Key × Dat) → Prop
  | nil : SeeK F H [] []
  | cons {k : Key} {v : V} {vs : List (Key × V)} {d : Dat} {ds : List (Key × Dat)} : See F H v d → SeeK F H vs ds → SeeK F H ((k, v) :: vs) ((k, d) :: ds)
end
def Ex (H H' : Hp) : Prop := ∀ b o, H b = some o → H' b = some o
theorem Ex.refl (H : Hp) : Ex H H := fun _ _ h => h
theorem Ex.trans {H H1 H2 : Hp} (a : Ex H H1) (b : Ex H1 H2) : Ex H H2 := fun x o h => b x o (a x o h)
theorem Ex.new {H : Hp} {p : Addr} {o : HO} (h : H p = none) : Ex H (upd H p o) := fun a u e => by
  rw [upd_ne (ne_of_none e h)]; exact e
theorem Ex.mut {H H' : Hp} {p : Addr} {o : HO} (e : Ex H H') (h : H p = none) : Ex H (upd H' p o) := fun a u ha => by
  rw [upd_ne (ne_of_none ha h)]; exact e a u ha
theorem Ex.free {H H' : Hp} {p : Addr} (e : Ex H H') (h : H' p = none) : H p = none := by
  cases q : H p with
  | none => rfl
  | some o => rw [e p o q] at h; cases h
section
variable {F : Fk} {H H' : Hp}
mutual
theorem See.mono (e : Ex H H') : ∀ {v : V} {d : Dat}, See F H v d → See F H' v d
  | _, _, .non => .non
  | _, _, .bl b => .bl b
  | _, _, .int i => .int i
  | _, _, .str s => .str s
  | _, _, .lst h t => .lst (e _ _ h) (SeeL.mono e t)
  | _, _, .tup h t => .tup (e _ _ h) (SeeL.mono e t)
  | _, _, .dct h t => .dct (e _ _ h) (SeeK.mono e t)
  | _, _, .fn h => .fn (F.mono (fun b o _ h => e b o h) h)
theorem SeeL.mono (e : Ex H H') : ∀ {vs : List V} {ds : List Dat}, SeeL F H vs ds → SeeL F H' vs ds
  | _, _, .nil => .nil
  | _, _, .cons h t => .cons (See.mono e h) (SeeL.mono e t)
theorem SeeK.mono (e : Ex H H') : ∀ {vs : List (Key × V)} {ds : List (Key × Dat)}, SeeK F H vs ds → SeeK F H' vs ds
  | _, _, .nil => .nil
  | _, _, .cons h t => .cons (See.mono e h) (SeeK.mono e t)
end
theorem SeeL.len : ∀ {vs : List V} {ds : List Dat}, SeeL F H vs ds → vs.length = ds.length
  | _, _, .nil => rfl
  | _, _, .cons _ t => by simp [SeeL.len t]
theorem SeeL.get : ∀ {vs : List V} {ds : List Dat}, SeeL F H vs ds → ∀ {i : Nat} {d : Dat}, ds[i]? = some d → ∃ v, vs[i]? = some v ∧ See F H v d
  | _, _, .nil, i, d, h => by simp at h
  | _, _, .cons h _, 0, d, e => by simp at e; subst e; exact ⟨_, rfl, h⟩
  | _, _, .cons _ t, i + 1, d, e => by simpa using SeeL.get t (i := i) (d := d) (by simpa using e)
theorem SeeL.getV : ∀ {vs : List V} {ds : List Dat}, SeeL F H vs ds → ∀ {i : Nat} {v : V}, vs[i]? = some v → ∃ d, ds[i]? = some d ∧ See F H v d
  | _, _, .nil, i, d, h => by simp at h
  | _, _, .cons h _, 0, d, e => by simp at e; subst e; exact ⟨_, rfl, h⟩
  | _, _, .cons _ t, i + 1, d, e => by simpa using SeeL.getV t (i := i) (v := d) (by simpa using e)
theorem SeeK.len : ∀ {vs : List (Key × V)} {ds : List (Key × Dat)}, SeeK F H vs ds → vs.length = ds.length
  | _, _, .nil => rfl
  | _, _, .cons _ t => by simp [SeeK.len t]
theorem SeeK.get : ∀ {vs : List (Key × V)} {ds : List (Key × Dat)}, SeeK F H vs ds → ∀ {i : Nat} {k : Key} {v : V}, vs[i]? = some (k, v) → ∃ d, ds[i]? = some (k, d) ∧ See F H v d
  | _, _, .nil, i, k, v, h => by simp at h
  | _, _, .cons h _, 0, k, v, e => by simp at e; obtain ⟨rfl, rfl⟩ := e; exact ⟨_, rfl, h⟩
  | _, _, .cons _ t, i + 1, k, v, e => by simpa using SeeK.get t (i := i) (k := k) (v := v) (by simpa using e)
theorem SeeL.append : ∀ {vs ws : List V} {ds es : List Dat}, SeeL F H vs ds → SeeL F H ws es → SeeL F H (vs ++ ws) (ds ++ es)
  | _, _, _, _, .nil, h => h
  | _, _, _, _, .cons a t, h => .cons a (SeeL.append t h)
end
/-- coefficients as a dict's entries -/
def cK (c : Coef) : List (Key × V) := c.map fun p => (.inr p.1, .int p.2)
def cD (c : Coef) : List (Key × Dat) := c.map fun p => (.inr p.1, .int p.2)
theorem seeK_c {F : Fk} {H : Hp} : ∀ (c : Coef), SeeK F H (cK c) (cD c)
  | [] => .nil
  | _ :: c => .cons (.int _) (seeK_c c)
theorem cK_of {F : Fk} {H : Hp} : ∀ {c : Coef} {kvs : List (Key × V)}, SeeK F H kvs (cD c) → kvs = cK c
  | [], _, h => by cases h; rfl
  | p :: c, _, h => by
    cases h with
    | cons h t => cases h; rw [cK_of t]; rfl
theorem valV_cK (c : Coef) (n : Str) : valV (cK c) (.inr n) = (look c n).map V.int := by
  induction c with
  | nil => rfl
  | cons p c ih =>
    unfold cK valV look at *
    rw [List.map_cons, List.find?_cons, List.find?_cons, key_rr]
    by_cases e : p.1 = n
    · simp [e]
    · simp [e]; simpa using ih
theorem cK_len (c : Coef) : (cK c).length = c.length := by unfold cK; rw [List.length_map]
/-- a pair of coefficients and a constant, a list or a tuple -/
def TermAt (H : Hp) (v : V) (c : Coef) (k : Int) : Prop := ∃ a d, v = .ref a ∧ (H a = some (.lst [.ref d, .int k]) ∨ H a = some (.tup [.ref d, .int k])) ∧ H d = some (.dK (cK c))
theorem TermAt.mono {H H' : Hp} (e : Ex H H') {v : V} {c : Coef} {k : Int} (t : TermAt H v c k) : TermAt H' v c k := by
  obtain ⟨a, d, rfl, h, hd⟩ := t
  exact ⟨a, d, rfl, h.imp (e _ _) (e _ _), e _ _ hd⟩
def tDat (c : Coef) (k : Int) : Dat := .tup [.dct (cD c), .int k]
def lDat (c : Coef) (k : Int) : Dat := .lst [.dct (cD c), .int k]
theorem TermAt.of_tup {F : Fk} {H : Hp} {v : V} {c : Coef} {k : Int} (h : See F H v (tDat c k)) : TermAt H v c k := by
  cases h with
  | tup ha t =>
    cases t with
    | cons h1 t =>
      cases h1 with
      | dct hd tk =>
        cases t with
        | cons h2 t =>
          cases h2; cases t
          exact ⟨_, _, rfl, .inr ha, by rw [← cK_of tk]; exact hd⟩
theorem TermAt.of_lst {F : Fk} {H : Hp} {v : V} {c : Coef} {k : Int} (h : See F H v (lDat c k)) : TermAt H v c k := by
  cases h with
  | lst ha t =>
    cases t with
    | cons h1 t =>
      cases h1 with
      | dct hd tk =>
        cases t with
        | cons h2 t =>
          cases h2; cases t
          exact ⟨_, _, rfl, .inl ha, by rw [← cK_of tk]; exact hd⟩
/-- a list or a tuple, tracked or of the text -/
def SqQ (K : PySem.W.Frag) (H : Hp) (a : Addr) (xs : List V) : Prop := SqL K H a xs ∨ SqT K H a xs
theorem SqQ.l {K : PySem.W.Frag} {H : Hp} {a : Addr} {xs : List V} (h : H a = some (.lst xs)) : SqQ K H a xs := .inl (SqL.of h)
theorem SqQ.t {K : PySem.W.Frag} {H : Hp} {a : Addr} {xs : List V} (h : H a = some (.tup xs)) : SqQ K H a xs := .inr (SqT.of h)
theorem SqQ.or {K : PySem.W.Frag} {H : Hp} {a : Addr} {xs : List V} (h : H a = some (.lst xs) ∨ H a = some (.tup xs)) : SqQ K H a xs := h.elim SqQ.l SqQ.t
def rIxQ (K : PySem.W.Frag) : R2 := fun x y H Q => ∃ p xs i v, x = .ref p ∧ y = .int i ∧ SqQ K H p xs ∧ atI xs i = some v ∧ Q v H
section
variable {X : Cx}
theorem ix_q : IxR X (rIxQ X.K) := by
  have h := IxR.or (ix_list (X := X)) (ix_tup (X := X))
  intro a b pins s σ H x y v u Q I rx ry q hs
  refine h a b pins s σ H x y v u Q I rx ry ?_ hs
  obtain ⟨p, xs, i, z, e1, e2, e3, e4, e5⟩ := q
  rcases e3 with e3 | e3
  · exact .inl ⟨p, xs, i, z, e1, e2, e3, e4, e5⟩
  · exact .inr ⟨p, xs, i, z, e1, e2, e3, e4, e5⟩
end
theorem atN {xs : List V} {i : Nat} {v : V} (h : xs[i]? = some v) : atI xs (i : Int) = some v := by
  have hi := (List.getElem?_eq_some_iff.mp h).1
  unfold atI ixN
  rw [if_pos (by omega), if_pos (by omega)]
  simpa using h
theorem ix_qK {X : Cx} {K : PySem.W.Frag} (h : X.K = K) : IxR X (rIxQ K) := h ▸ ix_q
/-- len of a list or a tuple, the written part told -/
def rLenQ (K : PySem.W.Frag) : List V → Hp → VK → Prop := fun xs H Q => ∃ p ys, xs = [.ref p] ∧ SqQ K H p ys ∧ Q (.int ys.length) H
theorem len_qK {X : Cx} {K : PySem.W.Frag} (h : X.K = K) : CallR X (.builtin "len") (rLenQ K) := h ▸ call_len_seq
theorem pe_bmK {X : Cx} {K : PySem.W.Frag} {o e : Expr} {es : List Expr} {to : TE} {t : TA} {apos cpos : Pos} {ty : String} {name : Str} {r : V → List V → Hp → VK → Prop} (hK : X.K = K) (h : PE X (.Call (.Attribute o name apos) (e :: es) [] cpos) (tBM X.K ty r to t)) :
    PE X (.Call (.Attribute o name apos) (e :: es) [] cpos) (tBM K ty r to t) := hK ▸ h
theorem atZ {xs : List V} {i : Int} {v : V} (h0 : 0 ≤ i) (h : xs[i.toNat]? = some v) : atI xs i = some v := by
  have := atN h
  rwa [show ((i.toNat : Nat) : Int) = i by omega] at this
theorem at0 {x : V} {xs : List V} : atI (x :: xs) 0 = some x := atN (i := 0) rfl
theorem at1 {x y : V} {xs : List V} : atI (x :: y :: xs) 1 = some y := atN (i := 1) rfl
theorem at2 {x y z : V} {xs : List V} : atI (x :: y :: z :: xs) 2 = some z := atN (i := 2) rfl
theorem atLast {xs : List V} {v : V} : atI (xs ++ [v]) (-1) = some v := by
  unfold atI ixN
  rw [if_neg (by omega), if_pos (by rw [List.length_append]; simp; omega)]
  have : ((-1 : Int) + ((xs ++ [v]).length : Nat)).toNat = xs.length := by rw [List.length_append]; simp; omega
  simp only [Option.bind_some]
  rw [this]; simp
end K8

set_option Elab.async false
set_option linter.all false
set_option maxRecDepth 100000
set_option maxHeartbeats 4000000
namespace K8
open PySem PySem.Spec PyProof.Rows L2 M8
/-! ### isinstance of data -/
/-- a function of the text, as a thing that is asked for its class -/
def FnEq (K : PySem.W.Frag) (a : Addr) : Prop := ∀ (prog : Program) (w : World) (A : Around) (E : Value → Shared → Prop) (s : Shared) (Q : Value → Shared → Prop), A.units + 1 < cLine → K.In s.heap → (∀ tk, Q (.bool true) { s with toks := tk }) →
  wpAny (model prog w) A (compareOp .Eq (.ref a) (.ref a)) Q E s
def FnK (K : PySem.W.Frag) (a : Addr) : Prop := FnEq K a ∧ ∃ P : Heap → Prop, PySem.W.KitX K (.ref a) (.type "function") P ∧ ∀ h : Heap, K.In h → P h
theorem exd_tbl {dx : Addr} {fs : List (Str × V)} {ps : Array Value} : exd dx fs ≠ .tbl ps := fun z => by
  unfold exd at z
  cases z
theorem exd_there {P : Program} {w : World} {H : Hp} {h : Heap} {dx : Addr} {fs : List (Str × V)} (hok : HOk P w H h) (he : H dx = some (exd dx fs)) : ∃ od, h.get? dx = some od := by
  obtain ⟨mA, n, _⟩ := exd_at hok he
  obtain ⟨o, es, ep, ho, _⟩ := n
  exact ⟨o, ho⟩
/-- classes that are asked for by isinstance here -/
def basics : List String := ["int", "bool", "str", "dict", "list", "tuple"]
/-- what an error of the text's own is, held as a value: itself alone, of none of these classes -/
structure ExcV (K : PySem.W.Frag) (C : Addr) : Prop where
  eq : ∀ (prog : Program) (w : World) (A : Around) (E : Value → Shared → Prop) (s : Shared) (Q : Value → Shared → Prop) (a dx t1 : Addr), s.heap.get? a = some ({ cls := .ref C, dict := some dx, data := .fields #[.ref t1, .none, .none, .none, .bool false, .none] } : Obj) → A.units + 1 < cLine → K.In s.heap →
    (∀ tk, Q (.bool true) { s with toks := tk }) → wpAny (model prog w) A (compareOp .Eq (.ref a) (.ref a)) Q E s
  kit : ∀ (h : Heap) (a dx t1 : Addr) (od : Obj), h.get? a = some ({ cls := .ref C, dict := some dx, data := .fields #[.ref t1, .none, .none, .none, .bool false, .none] } : Obj) → h.get? dx = some od → ∃ P : Heap → Prop, PySem.W.KitX K (.ref a) (.ref C) P ∧ P h
  one : ∀ T ∈ basics, PySem.W.kitOne K (.ref C) (.type T) = some false
/-- an error held as a value -/
def ExcAt (K : PySem.W.Frag) (H : Hp) (a : Addr) : Prop := ∃ (C dx : Addr) (fs : List (Str × V)), ExcV K C ∧ H a = some (exo a C (some dx)) ∧ H dx = some (exd dx fs)
def FKK (K : PySem.W.Frag) : Fk where
  p := fun H a => FnK K a ∨ ExcAt K H a
  mono := fun e h => h.imp id fun ⟨C, dx, fs, X, h1, h2⟩ => ⟨C, dx, fs, X, e _ _ (fun _ => exo_tbl) h1, e _ _ (fun _ => exd_tbl) h2⟩
abbrev SeeF (K : PySem.W.Frag) (H : Hp) (v : V) (d : Dat) : Prop := See (FKK K) H v d
def tyD : Dat → String
  | .non => "NoneType" | .bl _ => "bool" | .int _ => "int" | .str _ => "str" | .lst _ => "list" | .tup _ => "tuple" | .dct _ => "dict" | .fn _ => "function"
def kitD (d : Dat) (T : String) : Option Bool := if T ∈ basics then kitB (tyD d) T else none
theorem kitD_of {d : Dat} {T : String} {b : Bool} (h : kitD d T = some b) : T ∈ basics ∧ kitB (tyD d) T = some b := by
  unfold kitD at h
  split at h
  · rename_i m; exact ⟨m, h⟩
  · cases h
theorem kit_see {X : Cx} {pins : List (Addr × Obj)} {σ : L2.St} {H : Hp} {s : Shared} {x : V} {u : Value} {d : Dat} (I : Inv X pins σ H s) (rx : RelV x u) (h : SeeF X.K H x d) :
    (∃ P : Heap → Prop, PySem.W.KitX X.K u (.type (tyD d)) P ∧ P s.heap ∧ u ≠ .builtin "__main__.__loader__#opaque") ∨
      ∃ (a C : Addr) (P : Heap → Prop), d = .fn a ∧ ExcV X.K C ∧ PySem.W.KitX X.K u (.ref C) P ∧ P s.heap ∧ u ≠ .builtin "__main__.__loader__#opaque" := by
  cases h with
  | non => exact .inl (kit_of I rx (.base .non))
  | bl b => exact .inl (kit_of I rx (.base (.bl b)))
  | int i => exact .inl (kit_of I rx (.base (.int i)))
  | str z => exact .inl (kit_of I rx (.base (.str z)))
  | lst ha _ => exact .inl (kit_of I rx (.base (.lst ha)))
  | tup ha _ => exact .inl (kit_of I rx (.base (.tup ha)))
  | dct ha _ => exact .inl (kit_of I rx (.base (.dK ha)))
  | @fn a hf =>
    cases (show u = Value.ref a from rx)
    rcases hf with ⟨_, P, Z, hp⟩ | ⟨C, dx, fs, X1, h1, h2⟩
    · exact .inl ⟨P, Z, hp _ I.kIn, fun z => nomatch z⟩
    · obtain ⟨t1, g1⟩ := exo_at I.hok h1
      obtain ⟨od, g2⟩ := exd_there I.hok h2
      obtain ⟨P, Z, hp⟩ := X1.kit _ a dx t1 od g1 g2
      exact .inr ⟨a, C, P, rfl, X1, Z, hp, fun z => nomatch z⟩
theorem kitB_fn {T : String} (h : T ∈ basics) : kitB "function" T = some false := by
  unfold basics at h
  simp only [List.mem_cons, List.not_mem_nil, or_false] at h
  rcases h with rfl | rfl | rfl | rfl | rfl | rfl <;> decide +kernel
def rIsiD (K : PySem.W.Frag) : List V → Hp → VK → Prop := fun xs H Q => ∃ (x : V) (T : String) (d : Dat) (b : Bool), xs = [x, .ty T] ∧ SeeF K H x d ∧ kitD d T = some b ∧ Q (.bl b) H
theorem call_isiD {X : Cx} : CallR X (.builtin "isinstance") (rIsiD X.K) := by
  intro pins s σ H xs us Q I r h
  obtain ⟨x, T, d, b, rfl, hs, e, q⟩ := h
  obtain ⟨u1, u2, rfl, r1, r2⟩ := vals2 r
  cases (show u2 = Value.type T from r2)
  obtain ⟨eb, e⟩ := kitD_of e
  rcases kit_see I r1 hs with ⟨P, Z, p, hx⟩ | ⟨a, C, P, rfl, X1, Z, p, hx⟩
  · exact PySem.W.kia_one Z I.kIn p (kit_ty e) hx fun tk => ⟨.bl b, H, I.tok tk, rfl, q⟩
  · have e' : kitB "function" T = some b := e
    rw [kitB_fn eb] at e'
    cases e'
    exact PySem.W.kia_one Z I.kIn p (X1.one T eb) hx fun tk => ⟨.bl false, H, I.tok tk, rfl, q⟩
def kitBs (d : Dat) : List String → Option Bool
  | [] => some false
  | T :: Ts => match kitD d T with
    | some true => some true
    | some false => kitBs d Ts
    | none => none
theorem kitAny_of {K : PySem.W.Frag} {d : Dat} : ∀ {Ts : List String} {b : Bool}, kitBs d Ts = some b → PySem.W.kitAny K (.type (tyD d)) (Ts.map Value.type) = some b
  | [], b, h => h
  | T :: Ts, b, h => by
    unfold kitBs at h
    split at h
    · rename_i e
      exact kitAny_cons (kit_ty (kitD_of e).2) (fun z => nomatch z) fun _ => (Option.some.inj h).symm
    · rename_i e
      exact kitAny_cons (kit_ty (kitD_of e).2) (fun _ => kitAny_of h) (fun z => nomatch z)
    · cases h
theorem kitAny_ofE {K : PySem.W.Frag} {a C : Addr} (X1 : ExcV K C) : ∀ {Ts : List String} {b : Bool}, kitBs (.fn a) Ts = some b → b = false ∧ PySem.W.kitAny K (.ref C) (Ts.map Value.type) = some b
  | [], b, h => ⟨(Option.some.inj h).symm, h⟩
  | T :: Ts, b, h => by
    unfold kitBs at h
    split at h
    · rename_i e
      have := (kitD_of e).2.symm.trans (kitB_fn (kitD_of e).1)
      cases this
    · rename_i e
      obtain ⟨h1, h2⟩ := kitAny_ofE X1 h
      exact ⟨h1, kitAny_cons (X1.one T (kitD_of e).1) (fun _ => h2) (fun z => nomatch z)⟩
    · cases h
def rIsiDT (K : PySem.W.Frag) : List V → Hp → VK → Prop := fun xs H Q => ∃ (x : V) (tp : Addr) (Ts : List String) (d : Dat) (b : Bool), xs = [x, .ref tp] ∧ H tp = some (.tup (Ts.map V.ty)) ∧ SeeF K H x d ∧ kitBs d Ts = some b ∧ Q (.bl b) H
theorem cls_tys : ∀ Ts : List String, Paired ClsV (Ts.map V.ty) (Ts.map Value.type)
  | [] => .nil
  | T :: Ts => .cons (.ty T) (cls_tys Ts)
theorem call_isiDT {X : Cx} : CallR X (.builtin "isinstance") (rIsiDT X.K) := by
  intro pins s σ H xs us Q I r h
  obtain ⟨x, tp, Ts, d, b, rfl, hT, hs, e, q⟩ := h
  obtain ⟨u1, u2, rfl, r1, r2⟩ := vals2 r
  cases (show u2 = Value.ref tp from r2)
  obtain ⟨_, its, rv, o, h1, h2, n, h3⟩ := (show ObjOk X.prog X.w H s.heap tp (.tup (Ts.map V.ty)) from I.hok tp _ hT)
  have e3 := ClsV.all (cls_tys Ts) rv
  subst e3
  obtain ⟨oc, od, dt, sl⟩ := o
  simp only at h2 h3
  subst h2 h3
  rcases kit_see I r1 hs with ⟨P, Z, p, hx⟩ | ⟨a, C, P, rfl, X1, Z, p, hx⟩
  · exact PySem.W.kia_tup Z I.kIn p h1 (kitAny_of e) hx fun tk => ⟨.bl b, H, I.tok tk, rfl, q⟩
  · exact PySem.W.kia_tup Z I.kIn p h1 (kitAny_ofE X1 e).2 hx fun tk => ⟨.bl b, H, I.tok tk, rfl, q⟩
/-! what these classes answer -/
def isInt : Dat → Bool | .bl _ => true | .int _ => true | _ => false
def isBool : Dat → Bool | .bl _ => true | _ => false
def isStr : Dat → Bool | .str _ => true | _ => false
def isDct : Dat → Bool | .dct _ => true | _ => false
def isLst : Dat → Bool | .lst _ => true | _ => false
def isTup : Dat → Bool | .tup _ => true | _ => false
theorem kit_int (d : Dat) : kitD d "int" = some (isInt d) := (if_pos (by decide)).trans (by cases d <;> (simp only [tyD, isInt]; decide +kernel))
theorem kit_bool (d : Dat) : kitD d "bool" = some (isBool d) := (if_pos (by decide)).trans (by cases d <;> (simp only [tyD, isBool]; decide +kernel))
theorem kit_str (d : Dat) : kitD d "str" = some (isStr d) := (if_pos (by decide)).trans (by cases d <;> (simp only [tyD, isStr]; decide +kernel))
theorem kit_dct (d : Dat) : kitD d "dict" = some (isDct d) := (if_pos (by decide)).trans (by cases d <;> (simp only [tyD, isDct]; decide +kernel))
theorem kit_lst (d : Dat) : kitD d "list" = some (isLst d) := (if_pos (by decide)).trans (by cases d <;> (simp only [tyD, isLst]; decide +kernel))
theorem kit_tup (d : Dat) : kitD d "tuple" = some (isTup d) := (if_pos (by decide)).trans (by cases d <;> (simp only [tyD, isTup]; decide +kernel))
theorem kit_lt (d : Dat) : kitBs d ["list", "tuple"] = some (isLst d || isTup d) := by unfold kitBs; rw [kit_lst]; unfold kitBs; rw [kit_tup]; unfold kitBs; cases isLst d <;> cases isTup d <;> rfl
theorem kit_dlt (d : Dat) : kitBs d ["dict", "list", "tuple"] = some (isDct d || (isLst d || isTup d)) := by unfold kitBs; rw [kit_dct, kit_lt]; cases isDct d <;> cases isLst d <;> cases isTup d <;> rfl
/-- the name of a built-in class -/
theorem pe_tyN {X : Cx} {n : String} {pos : Pos} (hg : Gl X n) (hm : X.mg n = none) (hv : bootBuiltins n = some (.type n)) (hn : (n : Str) ≠ "__name__" := by decide) (hd : ((n : Str) == ("__debug__" : Str)) = false := by decide) : PE X (.Name n pos) (tC (.ty n)) :=
  pe_bltn (v := .ty n) hg hm hv rfl hn hd
/-- what the top has left of the names that are no defs -/
structure Txt (K : PySem.W.Frag) (mg : Str → Option Value) : Prop where
  n_isinstance : mg "isinstance" = none
  n_len : mg "len" = none
  n_all : mg "all" = none
  n_any : mg "any" = none
  n_sum : mg "sum" = none
  n_sorted : mg "sorted" = none
  n_abs : mg "abs" = none
  n_repr : mg "repr" = none
  n_range : mg "range" = none
  n_enumerate : mg "enumerate" = none
  n_zip : mg "zip" = none
  n_int : mg "int" = none
  n_bool : mg "bool" = none
  n_str : mg "str" = none
  n_list : mg "list" = none
  n_tuple : mg "tuple" = none
  n_dict : mg "dict" = none
  n_min : mg "min" = none
  n_max : mg "max" = none
  g_gcd : mg "gcd" = some (.builtin "math.gcd")
  c_LETTERS : ∃ t, mg "LETTERS" = some (.str "abcdefghijklmnopqrstuvwxyz" t)
  c_FIGURES : ∃ t, mg "FIGURES" = some (.str "0123456789" t)
  c_MOST : ∃ t, mg "MOST_SIGNS" = some (.int 8 t)
  c_WORDS : ∃ wa, mg "WORDS" = some (.ref wa) ∧ ∀ H : Hp, SqT K H wa (["of", "give", "nothing", "and", "or", "not", "all", "any", "divides", "none", "let", "most", "if", "else", "first", "below", "by", "over"].map fun x : String => V.str x)
section
variable {P : Program} {w : World} {K : PySem.W.Frag} {mg : Str → Option Value} {base : Heap}
/-- whether a thing is an integer, a number from 1 on, a list -/
def isWhole (d : Dat) : Bool := isInt d && !isBool d
def spWhole (K : PySem.W.Frag) : Sp := fun vs H Q _ => ∃ v d, vs = [v] ∧ SeeF K H v d ∧ Q (.bl (isWhole d)) H
abbrev s_is_whole : Stmt := top 11
theorem sc_is_whole : FnScope ["thing"] ["thing"] (defScope s_is_whole) := ⟨rfl, rfl, rfl, by decide +kernel, rfl, by decide +kernel, by decide +kernel⟩
theorem ok_is_whole (T : Txt K mg) (a : At K mg "is_whole" s_is_whole ["thing"]) : Ok P w K mg base CX0 1 "is_whole" ["thing"] (spWhole K) := a.ok fun f fd F => by
  refine F.ok sc_is_whole (fun vs H Q E h => ?_) (fun cdv A outer s H vs Q E hr h => ?_)
  · obtain ⟨v, d, rfl, _⟩ := h; rfl
  · obtain ⟨v, d, rfl, hs, q⟩ := h
    refine ⟨_, (pss_one (ps_ret (pe_and (pe_callB call_isiD rfl T.n_isinstance rfl (pa_cons (pv 0) (pa_cons (pe_tyN (n := "int") rfl T.n_int rfl) pa_nil))) (pe_one (pe_not (pe_callB call_isiD rfl T.n_isinstance rfl (pa_cons (pv 0) (pa_cons (pe_tyN (n := "bool") rfl T.n_bool rfl) pa_nil)))))))), ?_⟩
    refine ⟨_, rfl, v, "int", d, _, rfl, hs, kit_int d, _, rfl, ?_⟩
    unfold isWhole at q
    cases e : isInt d with
    | false => rw [e] at q; exact q
    | true =>
      rw [e] at q
      exact ⟨_, rfl, v, "bool", d, _, rfl, hs, kit_bool d, _, rfl, q⟩
end
end K8

set_option Elab.async false
set_option linter.all false
set_option maxRecDepth 100000
set_option maxHeartbeats 4000000
namespace K8
open PySem PySem.Spec PyProof.Rows L2 M8
/-- all but the objects of S is as it was -/
def Exo (S : List Addr) (H H' : Hp) : Prop := ∀ b o, b ∉ S → H b = some o → H' b = some o
theorem Exo.refl (S : List Addr) (H : Hp) : Exo S H H := fun _ _ _ h => h
theorem Exo.trans {S : List Addr} {H H1 H2 : Hp} (a : Exo S H H1) (b : Exo S H1 H2) : Exo S H H2 := fun x o n h => b x o n (a x o n h)
theorem Ex.exo {H H' : Hp} (e : Ex H H') (S : List Addr) : Exo S H H' := fun b o _ h => e b o h
theorem Exo.ex {H H' : Hp} (e : Exo [] H H') : Ex H H' := fun b o h => e b o (by simp) h
theorem Exo.mut {S : List Addr} {H H' : Hp} {p : Addr} {o : HO} (e : Exo S H H') (h : H p = none) : Exo S H (upd H' p o) := fun a u n ha => by
  rw [upd_ne (ne_of_none ha h)]; exact e a u n ha
theorem Exo.own {S : List Addr} {H H' : Hp} {p : Addr} {o : HO} (e : Exo S H H') (h : p ∈ S) : Exo S H (upd H' p o) := fun a u n ha => by
  have q : a ≠ p := fun z => n (by rw [z]; exact h)
  rw [upd_ne q]; exact e a u n ha
theorem yesT {σ : L2.St} {H : Hp} {A B : Hp → Prop} (h : A H) : tYes σ H (fun b H3 => if b = true then A H3 else B H3) := by
  unfold tYes; exact iteT h
/-- what a comprehension's walk asks -/
def LcB (g : TG) (tt : TT) (te : TE) (vs : List Nat) (σ : L2.St) (Q : VK) (J : It) (H1 : Hp) : Prop := ∀ D, H1 D = none → ∃ W : Nat → Nat → Hp → Prop, (∃ m, W 0 m (upd H1 D (.lst []))) ∧ ∀ i m H, W i m H →
  (J.stop i H ∧ Q (.ref D) H) ∨ (J.go i H ∧ ∃ Nx : Hp → Prop, (∀ H', Nx H' → ∃ m', m' < m ∧ W (i + 1) m' H') ∧ ∀ x H', J.yld i H x H' → g x (wipe σ vs) H' fun σ2 H2 => wipe σ2 vs = wipe σ vs ∧ tt σ2 H2 fun b H3 =>
    if b = true then te σ2 H3 fun y H4 => ∃ acc, H4 D = some (.lst acc) ∧ acc.length < sizeLine ∧ Nx (upd H4 D (.lst (acc ++ [y]))) else Nx H3)
theorem tLc_of {wi : TI} {g : TG} {tt : TT} {te : TE} {vs : List Nat} {σ : L2.St} {H : Hp} {Q : VK} (h : wi σ H (LcB g tt te vs σ Q)) : tLc wi g tt te vs σ H Q := h
def DcB (g : TG) (tt : TT) (tk tv : TE) (vs : List Nat) (σ : L2.St) (Q : VK) (J : It) (H1 : Hp) : Prop := ∀ D, H1 D = none → ∃ W : Nat → Nat → Hp → Prop, (∃ m, W 0 m (upd H1 D (.dK []))) ∧ ∀ i m H, W i m H →
  (J.stop i H ∧ Q (.ref D) H) ∨ (J.go i H ∧ ∃ Nx : Hp → Prop, (∀ H', Nx H' → ∃ m', m' < m ∧ W (i + 1) m' H') ∧ ∀ x H', J.yld i H x H' → g x (wipe σ vs) H' fun σ2 H2 => wipe σ2 vs = wipe σ vs ∧ tt σ2 H2 fun b H3 =>
    if b = true then tk σ2 H3 fun y H4 => tv σ2 H4 fun z H5 => ∃ kvs k, y = kV k ∧ H5 D = some (.dK kvs) ∧ kvs.length < sizeLine ∧ Nx (upd H5 D (.dK (putK kvs k z))) else Nx H3)
theorem tDc_of {wi : TI} {g : TG} {tt : TT} {tk tv : TE} {vs : List Nat} {σ : L2.St} {H : Hp} {Q : VK} (h : wi σ H (DcB g tt tk tv vs σ Q)) : tDc wi g tt tk tv vs σ H Q := h
def ForB (g : TG) (tb : TS) (D : Ends) (σ : L2.St) (J : It) (H1 : Hp) : Prop := ∃ W : Nat → Nat → L2.St → Hp → Prop, (∃ m, W 0 m σ H1) ∧ ∀ i m σ H, W i m σ H → (J.stop i H ∧ D.nx σ H) ∨ (J.go i H ∧ ∃ N : L2.St → Hp → Prop, (∀ σ' H', N σ' H' → ∃ m', m' < m ∧ W (i + 1) m' σ' H') ∧
  ∀ x H', J.yld i H x H' → g x σ H' fun σ2 H2 => tb { D with nx := N, ct := N, bk := D.nx } σ2 H2)
theorem tFor_of {wi : TI} {g : TG} {tb : TS} {D : Ends} {σ : L2.St} {H : Hp} (h : wi σ H (ForB g tb D σ)) : tFor wi g tb D σ H := h
section
variable {J : It} {n : Nat} {G : Hp → Prop} {Y : Nat → Hp → V → Hp → Prop}
theorem for_itB (w : Walk J n G Y) {g : TG} {tb : TS} {D : Ends} {σ : L2.St} {H : Hp} (Pv : Nat → L2.St → Hp → Prop) (h0 : Pv 0 σ H) (hG : ∀ i σ H, i ≤ n → Pv i σ H → G H)
    (hs : ∀ i x σ H H', i < n → Pv i σ H → Y i H x H' → g x σ H' fun σ2 H2 => tb { D with nx := Pv (i + 1), ct := Pv (i + 1), bk := D.nx } σ2 H2) (hd : ∀ σ H, Pv n σ H → D.nx σ H) : ForB g tb D σ J H := for_it w Pv h0 hG hs hd
end
section
variable {J : It} {n : Nat} {G : Hp → Prop} {Y : Nat → Hp → V → Hp → Prop}
/-- a list comprehension over any walk, its element and test changing the objects of S alone -/
theorem lc_gen (w : Walk J n G Y) {g : TG} {tt : TT} {te : TE} {vs : List Nat} {σ : L2.St} {H1 : Hp} {Q : VK} (S : List Addr) (M : Nat → Hp → Prop) (A : Nat → List V → Hp → Prop) (hn : n ≤ 1000000) (hS : ∀ b ∈ S, H1 b ≠ none)
    (hG : ∀ H, Exo S H1 H → G H) (hM : ∀ i H H', (∀ b ∈ S, H' b = H b) → M i H → M i H')
    (hA : ∀ i acc H D l0 l, H D = some (.lst l0) → H1 D = none → A i acc H → A i acc (upd H D (.lst l))) (m0 : M 0 H1) (a0 : ∀ D, H1 D = none → A 0 [] (upd H1 D (.lst [])))
    (hs : ∀ i x H H' acc (R : V → Hp → Prop) (R' : Hp → Prop), i < n → Exo S H1 H → M i H → A i acc H → acc.length ≤ i → Y i H x H' →
      (∀ y H4, Exo S H H4 → M (i + 1) H4 → A (i + 1) (acc ++ [y]) H4 → R y H4) → (∀ H4, Exo S H H4 → M (i + 1) H4 → A (i + 1) acc H4 → R' H4) →
      g x (wipe σ vs) H' fun σ2 H2 => wipe σ2 vs = wipe σ vs ∧ tt σ2 H2 fun b H3 => if b = true then te σ2 H3 R else R' H3)
    (hd : ∀ D acc H, H1 D = none → Exo S H1 H → M n H → A n acc H → H D = some (.lst acc) → acc.length ≤ n → Q (.ref D) H) :
    LcB g tt te vs σ Q J H1 := by
  intro D hD
  have nS : D ∉ S := fun z => hS D z hD
  have sl : (1000000 : Nat) < sizeLine := by rw [sizeLine_eq]; decide
  refine lc_it w (fun i H => Exo S H1 H ∧ M i H ∧ ∃ acc, H D = some (.lst acc) ∧ acc.length ≤ i ∧ A i acc H) ⟨(Exo.refl S H1).mut hD, hM 0 _ _ (fun b hb => upd_ne fun z => nS (z ▸ hb)) m0, [], upd_same, Nat.le_refl _, a0 D hD⟩ (fun i H _ p => hG H p.1) ?_ ?_
  · rintro i x H H' hi ⟨e, m, acc, hDH, hl, a⟩ y
    refine hs i x H H' acc _ _ hi e m a hl y (fun z H4 e4 m4 a4 => ?_) (fun H4 e4 m4 a4 => ?_)
    · have h4 := e4 D _ nS hDH
      refine ⟨acc, h4, by omega, (e.trans e4).mut hD, hM _ _ _ (fun b hb => upd_ne fun q => nS (q ▸ hb)) m4, _, upd_same, by rw [List.length_append]; simp; omega, hA _ _ _ _ _ _ h4 hD a4⟩
    · exact ⟨e.trans e4, m4, acc, e4 D _ nS hDH, by omega, a4⟩
  · rintro H ⟨e, m, acc, hDH, hl, a⟩
    exact hd D acc H hD e m a hDH hl
/-- nothing but new things: the values known ahead -/
theorem lc_val (w : Walk J n G Y) {g : TG} {tt : TT} {te : TE} {vs : List Nat} {σ : L2.St} {H1 : Hp} {Q : VK} (V0 : Nat → List V) (hn : n ≤ 1000000) (hV0 : V0 0 = [])
    (hG : ∀ H, Ex H1 H → G H)
    (hs : ∀ i x H H' (R : V → Hp → Prop) (R' : Hp → Prop), i < n → Ex H1 H → Y i H x H' → (∀ y H4, Ex H H4 → V0 (i + 1) = V0 i ++ [y] → R y H4) → (∀ H4, Ex H H4 → V0 (i + 1) = V0 i → R' H4) →
      g x (wipe σ vs) H' fun σ2 H2 => wipe σ2 vs = wipe σ vs ∧ tt σ2 H2 fun b H3 => if b = true then te σ2 H3 R else R' H3)
    (hd : ∀ D H, H1 D = none → Ex H1 H → H D = some (.lst (V0 n)) → Q (.ref D) H) :
    LcB g tt te vs σ Q J H1 :=
  lc_gen w [] (fun _ _ => True) (fun i acc _ => acc = V0 i) hn (fun b hb => by simp at hb) (fun H e => hG H e.ex) (fun _ _ _ _ _ => trivial) (fun _ _ _ _ _ _ _ _ h => h) trivial (fun _ _ => hV0.symm)
    (fun i x H H' acc R R' hi e _ a _ y k k' => by
      subst a
      exact hs i x H H' R R' hi e.ex y (fun z H4 e4 q => k z H4 (e4.exo _) trivial q.symm) (fun H4 e4 q => k' H4 (e4.exo _) trivial q.symm))
    (fun D acc H hD e _ a hDH _ => by subst a; exact hd D H hD e.ex hDH)
/-- a dict comprehension over distinct names, the values integers known ahead -/
theorem dc_names {ns : List Str} (f : Str → Int) (w : Walk J ns.length G Y) {j : Nat} {tv : TE} {vs : List Nat} {σ : L2.St} {H1 : Hp} {Q : VK} (hn : ns.length ≤ 1000000) (hd : ns.Nodup) (hG : ∀ H, Ex H1 H → G H)
    (hY : ∀ (i : Nat) (x : V) (H H' : Hp), i < ns.length → Ex H1 H → Y i H x H' → H' = H ∧ ∃ nm, ns[i]? = some nm ∧ x = .str nm) (hj : (wipe σ vs)[j]? ≠ none) (hw : ∀ x, wipe ((wipe σ vs).set j (some x)) vs = wipe σ vs)
    (hs : ∀ (i : Nat) (nm : Str) (H : Hp) (R : V → Hp → Prop), ns[i]? = some nm → Ex H1 H → (∀ H4, Ex H H4 → R (.int (f nm)) H4) → tv ((wipe σ vs).set j (some (.str nm))) H R)
    (hq : ∀ D H, H1 D = none → Ex H1 H → H D = some (.dK (cK (ns.map fun n => (n, f n)))) → Q (.ref D) H) :
    DcB (gName j) tYes (tVar j) tv vs σ Q J H1 := by
  intro D hD
  have sl : (1000000 : Nat) < sizeLine := by rw [sizeLine_eq]; decide
  let P : Nat → Hp → Prop := fun i H => Ex H1 H ∧ H D = some (.dK (cK ((ns.take i).map fun n => (n, f n))))
  refine ⟨fun i m H => m = ns.length - i ∧ i ≤ ns.length ∧ P i H, ⟨ns.length, by simp, Nat.zero_le _, Ex.new hD, upd_same⟩, ?_⟩
  rintro i m H ⟨rfl, hi, e, hDH⟩
  by_cases hlt : i < ns.length
  · refine .inr ⟨w.goes i H hlt (hG H e), P (i + 1), fun H' p' => ⟨ns.length - (i + 1), by omega, rfl, hlt, p'⟩, fun x H' y => ?_⟩
    obtain ⟨rfl, nm, hnm, rfl⟩ := hY i x H H' hlt e (w.yields i H x H' hlt (hG H e) y)
    refine ⟨hw _, ?_⟩
    unfold tYes
    dsimp only
    rw [if_pos rfl]
    have hjl : j < (wipe σ vs).length := Decidable.byContradiction fun q => hj (List.getElem?_eq_none (by omega))
    refine ⟨.str nm, List.getElem?_set_self hjl, hs i nm H' _ hnm e fun H4 e4 => ?_⟩
    have ht : ns.take (i + 1) = ns.take i ++ [nm] := by
      rw [List.take_add_one, hnm]; rfl
    refine ⟨_, .inr nm, rfl, e4 D _ hDH, ?_, (e.trans e4).mut hD, ?_⟩
    · rw [cK_len, List.length_map, List.length_take]; omega
    · rw [upd_same]
      have hno : nm ∉ ns.take i := by
        intro q
        have h2 : (ns.take i ++ [nm]).Nodup := by rw [← ht]; exact hd.sublist (List.take_sublist _ _)
        rw [List.nodup_append] at h2
        exact h2.2.2 nm q nm (by simp) rfl
      have hany : ((cK ((ns.take i).map fun n => (n, f n))).any fun kv => decide (kv.1 = Sum.inr nm)) = false := by
        rw [List.any_eq_false]
        intro kv hkv
        unfold cK at hkv
        rw [List.map_map] at hkv
        obtain ⟨m, hm, rfl⟩ := List.mem_map.mp hkv
        simp
        intro q
        exact hno (q ▸ hm)
      unfold putK
      rw [hany, if_neg (by simp), ht, List.map_append]
      unfold cK
      rw [List.map_append]; rfl
  · have ei : i = ns.length := by omega
    subst ei
    refine .inl ⟨w.stops H (hG H e), hq D H hD e ?_⟩
    rw [hDH, List.take_length]
end
end K8

set_option Elab.async false
set_option linter.all false
set_option maxRecDepth 100000
set_option maxHeartbeats 4000000
namespace K8
open PySem PySem.Spec PyProof.Rows L2 M8
section
variable {P : Program} {w : World} {K : PySem.W.Frag} {mg : Str → Option Value} {base : Heap}
def geInt (d : Dat) (n : Int) : Bool := match d with | .int i => decide (n ≤ i) | _ => false
def isFrom1 (d : Dat) : Bool := isWhole d && geInt d 1
def spFrom1 (K : PySem.W.Frag) : Sp := fun vs H Q _ => ∃ v d, vs = [v] ∧ SeeF K H v d ∧ Q (.bl (isFrom1 d)) H
abbrev s_is_from_one : Stmt := top 12
theorem sc_is_from_one : FnScope ["thing"] ["thing"] (defScope s_is_from_one) := ⟨rfl, rfl, rfl, by decide +kernel, rfl, by decide +kernel, by decide +kernel⟩
theorem ok_is_from_one (T : Txt K mg) (a : At K mg "is_from_one" s_is_from_one ["thing"]) (Ois_whole : Ok P w K mg base CX0 1 "is_whole" ["thing"] (spWhole K)) : Ok P w K mg base CX0 2 "is_from_one" ["thing"] (spFrom1 K) := a.ok fun f fd F => by
  refine F.ok sc_is_from_one (fun vs H Q E h => ?_) (fun cdv A outer s H vs Q E hr h => ?_)
  · obtain ⟨v, d, rfl, _⟩ := h; rfl
  · obtain ⟨v, d, rfl, hs, q⟩ := h
    refine ⟨_, (pss_one (ps_ret (pe_and (pe_callO Ois_whole (hr.mono (by decide)) rfl (pa_cons (pv 0) pa_nil)) (pe_one (pe_cmpR op_ge (pv 0) pe_int (nomark _)))))), ?_⟩
    refine ⟨_, rfl, v, d, rfl, hs, _, rfl, ?_⟩
    unfold isFrom1 at q
    cases e : isWhole d with
    | false => rw [e] at q; exact q
    | true =>
      rw [e] at q
      cases hs with
      | int i => exact ⟨_, rfl, _, _, rfl, rfl, q⟩
      | bl b => cases e
      | non => cases e
      | str z => cases e
      | lst _ _ => cases e
      | tup _ _ => cases e
      | dct _ _ => cases e
      | fn _ => cases e
def isSq (d : Dat) : Bool := isLst d || isTup d
def spIsList (K : PySem.W.Frag) : Sp := fun vs H Q _ => ∃ v d, vs = [v] ∧ SeeF K H v d ∧ ∀ H', Ex H H' → Q (.bl (isSq d)) H'
abbrev s_is_list : Stmt := top 13
theorem sc_is_list : FnScope ["thing"] ["thing"] (defScope s_is_list) := ⟨rfl, rfl, rfl, by decide +kernel, rfl, by decide +kernel, by decide +kernel⟩
theorem ok_is_list (T : Txt K mg) (a : At K mg "is_list" s_is_list ["thing"]) : Ok P w K mg base CX0 1 "is_list" ["thing"] (spIsList K) := a.ok fun f fd F => by
  refine F.ok sc_is_list (fun vs H Q E h => ?_) (fun cdv A outer s H vs Q E hr h => ?_)
  · obtain ⟨v, d, rfl, _⟩ := h; rfl
  · obtain ⟨v, d, rfl, hs, q⟩ := h
    refine ⟨_, (pss_one (ps_ret (pe_callB call_isiDT rfl T.n_isinstance rfl (pa_cons (pv 0) (pa_cons (pe_tup (pa_cons (pe_tyN (n := "list") rfl T.n_list rfl) (pa_cons (pe_tyN (n := "tuple") rfl T.n_tuple rfl) pa_nil))) pa_nil))))), ?_⟩
    refine ⟨_, rfl, by show 2 ≤ sizeLine; decide, fun p hp => ?_⟩
    exact ⟨v, p, ["list", "tuple"], d, _, rfl, upd_same, hs.mono (Ex.new hp), kit_lt d, q _ (Ex.new hp)⟩
/-! names -/
def letters : Str := "abcdefghijklmnopqrstuvwxyz"
def figures : Str := "0123456789"
def signOk (c : Nat) : Bool := decide (c ∈ letters.cps.toList) || decide (c ∈ figures.cps.toList)
def isRunS (z : Str) : Bool := !decide (z = ("" : Str)) && z.cps.toList.all signOk
def isRun : Dat → Bool | .str z => isRunS z | _ => false
def spRun (K : PySem.W.Frag) : Sp := fun vs H Q _ => ∃ v d, vs = [v] ∧ SeeF K H v d ∧ (∀ z, d = .str z → z.cps.size ≤ 1000000) ∧ ∀ H', Ex H H' → Q (.bl (isRun d)) H'
abbrev s_is_run : Stmt := top 14
theorem sc_is_run : FnScope ["thing", "sign"] ["thing"] (defScope s_is_run) := ⟨rfl, rfl, rfl, by decide +kernel, rfl, by decide +kernel, by decide +kernel⟩
theorem ok_is_run (T : Txt K mg) (a : At K mg "is_run" s_is_run ["thing"]) : Ok P w K mg base CX0 1 "is_run" ["thing"] (spRun K) := a.ok fun f fd F => by
  refine F.ok sc_is_run (fun vs H Q E h => ?_) (fun cdv A outer s H vs Q E hr h => ?_)
  · obtain ⟨v, d, rfl, _⟩ := h; rfl
  · obtain ⟨v, d, rfl, hs, hz, q⟩ := h
    refine ⟨_, (pss_cons (ps_if (PW.pt (pw_or (pt_not (pt_val (pe_callB call_isiD rfl T.n_isinstance rfl (pa_cons (pv 0) (pa_cons (pe_tyN (n := "str") rfl T.n_str rfl) pa_nil))))) (pw_or1 (pt_cmpR op_eq (pv 0) pe_str (nomark _))))) (pss_one (ps_ret pe_bl)) pss_nil)
      (pss_one (ps_ret (pe_callB (cr_all rfl) rfl T.n_all rfl (pa_cons (pe_lc (own := [("sign", 1)]) (g := gName 1) (tt := tYes) rfl sc_is_run.nd (pi_str (pv 0)) (blkOk_by (N := ["thing", "sign"]) (sc := defScope s_is_run) (by decide +kernel)) (fun _ _ _ _ _ => (pg_name (i := 1) sc_is_run.nd rfl (Or.inl rfl))) (fun _ _ _ _ _ => pts_nil) (fun _ _ _ _ _ => (pe_or (pe_cmpR op_inS (pv 1) (pe_glob (v := .str letters) rfl T.c_LETTERS.choose_spec ⟨_, rfl⟩) rfl) (pe_one (pe_cmpR op_inS (pv 1) (pe_glob (v := .str figures) rfl T.c_FIGURES.choose_spec ⟨_, rfl⟩) rfl))))) pa_nil))))), ?_⟩
    refine ⟨_, rfl, v, "str", d, _, rfl, hs, kit_str d, _, rfl, ?_⟩
    cases hs with
    | str z =>
      refine iteF ⟨_, rfl, rfl, _, rfl, ?_⟩
      have hz' := hz z rfl
      by_cases e : z = ("" : Str)
      · have e' : V.str z = V.str "" := by rw [e]
        have e2 : isRunS z = false := by unfold isRunS; rw [decide_eq_true e]; rfl
        rw [decide_eq_true e']
        have q1 := q H (Ex.refl H)
        change Q (.bl (isRunS z)) H at q1
        rw [e2] at q1
        exact iteT q1
      · have e' : ¬ V.str z = V.str "" := fun k => e (V.str.inj k)
        have e2 : isRunS z = z.cps.toList.all signOk := by unfold isRunS; rw [decide_eq_false e]; rfl
        rw [decide_eq_false e']
        refine iteF ?_
        dsimp only [tNext, tRet, tCB, tCons, tNil]
        refine tLc_of ?_
        refine ⟨_, rfl, z, rfl, ?_⟩
        refine lc_val walk_str (fun i => ((z.cps.toList.take i).map signOk).map V.bl) hz' rfl (fun _ _ => trivial) ?_ ?_
        · rintro i x H1 H2 R R' hi e ⟨rfl, c, hc, rfl⟩ k _
          have hc' : z.cps.toList[i]? = some c := by simpa using hc
          have ht : ((z.cps.toList.take (i + 1)).map signOk).map V.bl = ((z.cps.toList.take i).map signOk).map V.bl ++ [V.bl (signOk c)] := by
            rw [List.take_add_one, hc']; simp
          refine ⟨rfl, yesT ?_⟩
          refine ⟨_, rfl, c, letters, rfl, rfl, _, rfl, ?_⟩
          unfold signOk at ht
          by_cases h1 : c ∈ letters.cps.toList
          · rw [decide_eq_true h1] at ht ⊢
            exact iteT (k _ _ (Ex.refl _) ht)
          · rw [decide_eq_false h1] at ht ⊢
            exact iteF ⟨_, rfl, c, figures, rfl, rfl, k _ _ (Ex.refl _) ht⟩
        · intro D H1 hD e hDH
          have hl : z.cps.toList.take z.cps.size = z.cps.toList := List.take_of_length_le (by simp)
          rw [hl] at hDH
          refine ⟨D, _, rfl, SqL.of hDH, ?_⟩
          have q1 := q H1 e
          change Q (.bl (isRunS z)) H1 at q1
          rw [e2] at q1
          rw [List.all_map]
          exact q1
    | bl b => exact iteT (q H (Ex.refl H))
    | non => exact iteT (q H (Ex.refl H))
    | int z => exact iteT (q H (Ex.refl H))
    | lst _ _ => exact iteT (q H (Ex.refl H))
    | tup _ _ => exact iteT (q H (Ex.refl H))
    | dct _ _ => exact iteT (q H (Ex.refl H))
    | fn _ => exact iteT (q H (Ex.refl H))
end
end K8

set_option Elab.async false
set_option linter.all false
set_option maxRecDepth 100000
set_option maxHeartbeats 4000000
namespace K8
open PySem PySem.Spec PyProof.Rows L2 M8
def words : List Str := ["of", "give", "nothing", "and", "or", "not", "all", "any", "divides", "none", "let", "most", "if", "else", "first", "below", "by", "over"]
def isNameS (z : Str) : Bool := isRunS z && (decide (z.cps.size ≤ 8) && (decide (z.cps.getD 0 0 ∈ letters.cps.toList) && !inV (.str z) (words.map V.str)))
def isName : Dat → Bool | .str z => isNameS z | _ => false
def strOk : Dat → Prop | .str z => z.cps.size ≤ 1000000 | _ => True
def flatD : Dat → Bool | .non => true | .bl _ => true | .int _ => true | .str _ => true | _ => false
def keyD : Key → Dat | .inl i => .int i | .inr z => .str z
theorem see_key {F : Fk} {H : Hp} (k : Key) : See F H (kV k) (keyD k) := by cases k <;> constructor
theorem see_flat {F : Fk} {H H' : Hp} {v : V} {d : Dat} (h : See F H v d) (f : flatD d = true) : See F H' v d := by
  cases h with
  | non => exact .non
  | bl b => exact .bl b
  | int i => exact .int i
  | str z => exact .str z
  | lst _ _ => cases f
  | tup _ _ => cases f
  | dct _ _ => cases f
  | fn _ => cases f
theorem Ex.unlock {H H2 : Hp} {a : Addr} {u o : HO} (e : Ex (upd H a o) H2) (h : H a = some u) : Ex H (upd H2 a u) := fun b ob hb => by
  by_cases q : b = a
  · rw [q] at hb ⊢; rw [upd_same, ← h, hb]
  · rw [upd_ne q]; exact e b ob (by rw [upd_ne q]; exact hb)
section
variable {P : Program} {w : World} {K : PySem.W.Frag} {mg : Str → Option Value} {base : Heap}
def spName (K : PySem.W.Frag) : Sp := fun vs H Q _ => ∃ v d, vs = [v] ∧ SeeF K H v d ∧ strOk d ∧ ∀ H', Ex H H' → Q (.bl (isName d)) H'
abbrev s_is_name : Stmt := top 15
theorem sc_is_name : FnScope ["thing"] ["thing"] (defScope s_is_name) := ⟨rfl, rfl, rfl, by decide +kernel, rfl, by decide +kernel, by decide +kernel⟩
theorem ok_is_name (T : Txt K mg) (a : At K mg "is_name" s_is_name ["thing"]) (Ois_run : Ok P w K mg base CX0 1 "is_run" ["thing"] (spRun K)) : Ok P w K mg base CX0 2 "is_name" ["thing"] (spName K) := a.ok fun f fd F => by
  refine F.ok sc_is_name (fun vs H Q E h => ?_) (fun cdv A outer s H vs Q E hr h => ?_)
  · obtain ⟨v, d, rfl, _⟩ := h; rfl
  · obtain ⟨v, d, rfl, hs, hz, q⟩ := h
    refine ⟨_, (pss_one (ps_ret (pe_and (pe_callO Ois_run (hr.mono (by decide)) rfl (pa_cons (pv 0) pa_nil)) (pe_and (pe_cmpR op_le (pe_callB call_len_str rfl T.n_len rfl (pa_cons (pv 0) pa_nil)) (pe_glob (v := .int 8) rfl T.c_MOST.choose_spec ⟨_, rfl⟩) (nomark _)) (pe_and (pe_cmpR op_inS (pe_ix ix_str (pv 0) pe_int (fun _ _ => rfl)) (pe_glob (v := .str letters) rfl T.c_LETTERS.choose_spec ⟨_, rfl⟩) rfl) (pe_one (pe_cmpR op_notIn_seq (pv 0) (pe_glob (v := .ref T.c_WORDS.choose) rfl T.c_WORDS.choose_spec.1 rfl) rfl))))))), ?_⟩
    refine ⟨_, rfl, v, d, rfl, hs, fun z e => by subst e; exact hz, fun H1 e1 => ?_⟩
    have q1 := q H1 e1
    cases hs with
    | str z =>
      change Q (.bl (isNameS z)) H1 at q1
      refine ⟨_, rfl, ?_⟩
      change (if isRunS z = true then _ else _)
      unfold isNameS at q1
      cases e : isRunS z with
      | false => rw [e] at q1; exact iteF q1
      | true =>
        rw [e] at q1
        have hne : z.cps.size ≠ 0 := fun k => by
          have : z = ("" : Str) := by
            cases z with
            | mk a => simp at k; subst k; rfl
          rw [this] at e; exact absurd e (by decide +kernel)
        have sl : (1000000 : Nat) ≤ sizeLine := by rw [sizeLine_eq]; decide
        refine iteT ?_
        refine ⟨_, rfl, z, rfl, Nat.le_trans hz sl, _, _, rfl, rfl, _, rfl, ?_⟩
        have ez : decide ((z.length : Int) ≤ 8) = decide (z.cps.size ≤ 8) := decide_eq_decide.mpr (by show ((z.cps.size : Nat) : Int) ≤ 8 ↔ _; omega)
        rw [ez]
        cases e8 : decide (z.cps.size ≤ 8) with
        | false => rw [e8] at q1; exact iteF q1
        | true =>
          rw [e8] at q1
          refine iteT ?_
          have hc : z.cps.toList[0]? = some (z.cps.getD 0 0) := by
            have : 0 < z.cps.size := by omega
            simp [Array.getD, this]
          have ha : atI z.cps.toList 0 = some (z.cps.getD 0 0) := by
            unfold atI ixN
            rw [if_pos (by omega), if_pos (by simp; omega)]
            exact hc
          refine ⟨_, rfl, z, 0, _, rfl, rfl, Nat.le_trans hz sl, ha, _, letters, rfl, rfl, _, rfl, ?_⟩
          cases e9 : decide (z.cps.getD 0 0 ∈ letters.cps.toList) with
          | false => rw [e9] at q1; exact iteF q1
          | true =>
            rw [e9] at q1
            refine iteT ?_
            exact ⟨_, rfl, _, _, rfl, .inr (T.c_WORDS.choose_spec.2 H1), rfl, by decide +kernel, q1⟩
    | bl b => exact ⟨_, rfl, iteF q1⟩
    | non => exact ⟨_, rfl, iteF q1⟩
    | int z => exact ⟨_, rfl, iteF q1⟩
    | lst _ _ => exact ⟨_, rfl, iteF q1⟩
    | tup _ _ => exact ⟨_, rfl, iteF q1⟩
    | dct _ _ => exact ⟨_, rfl, iteF q1⟩
    | fn _ => exact ⟨_, rfl, iteF q1⟩
def keyOk : Key → Prop | .inr z => z.cps.size ≤ 1000000 | _ => True
/-- values that numbers may have: flat ones, a list of flat ones, an empty dict -/
def valOk : Dat → Bool | .lst ds => ds.all flatD | .dct kds => kds.isEmpty | d => flatD d
theorem see_flats {F : Fk} {H H' : Hp} : ∀ {vs : List V} {ds : List Dat}, SeeL F H vs ds → ds.all flatD = true → SeeL F H' vs ds
  | _, _, .nil, _ => .nil
  | _, _, .cons h t, f => by
    rw [List.all_cons, Bool.and_eq_true] at f
    exact .cons (see_flat h f.1) (see_flats t f.2)
theorem see_val {F : Fk} {H H' : Hp} {a : Addr} {kvs : List (Key × V)} {v : V} {d : Dat} (ha : H a = some (.dK kvs)) (hk : kvs ≠ []) (e : ∀ b o, b ≠ a → H b = some o → H' b = some o) (h : See F H v d) (f : valOk d = true) : See F H' v d := by
  cases h with
  | lst hl t => exact .lst (e _ _ (fun z => by rw [z, ha] at hl; cases hl) hl) (see_flats t f)
  | @dct l ks kds hl t =>
    cases kds with
    | nil =>
      cases t
      exact .dct (e _ _ (fun z => by rw [z, ha] at hl; exact hk (by cases hl; rfl)) hl) .nil
    | cons _ _ => cases f
  | non => exact .non
  | bl b => exact .bl b
  | int i => exact .int i
  | str z => exact .str z
  | tup _ _ => cases f
  | fn _ => cases f
def dctOk : Dat → Prop | .dct kds => kds.length ≤ 1000 ∧ (∀ p ∈ kds, valOk p.2 = true ∧ keyOk p.1) ∧ (kds.map (·.1)).Nodup | _ => True
def isNumbers : Dat → Bool | .dct kds => kds.all fun p => isName (keyD p.1) && isWhole p.2 | _ => false
def spNumbers (K : PySem.W.Frag) : Sp := fun vs H Q _ => ∃ v d, vs = [v] ∧ SeeF K H v d ∧ dctOk d ∧ ∀ H', Ex H H' → Q (.bl (isNumbers d)) H'
theorem valV_get {kvs : List (Key × V)} (hd : (kvs.map (·.1)).Nodup) {i : Nat} {k : Key} {v : V} (h : kvs[i]? = some (k, v)) : valV kvs k = some v := by
  induction kvs generalizing i with
  | nil => simp at h
  | cons p kvs ih =>
    have hd' := List.nodup_cons.mp hd
    cases i with
    | zero => simp at h; subst h; exact valV_pos rfl
    | succ i =>
      have h' : kvs[i]? = some (k, v) := by simpa using h
      rw [valV_neg fun e => hd'.1 (List.mem_map.mpr ⟨_, List.mem_of_getElem? h', e.symm⟩)]
      exact ih hd'.2 h'
theorem SeeK.keys {F : Fk} {H : Hp} : ∀ {vs : List (Key × V)} {ds : List (Key × Dat)}, SeeK F H vs ds → vs.map (·.1) = ds.map (·.1)
  | _, _, .nil => rfl
  | _, _, .cons _ t => by simp [SeeK.keys t]
abbrev s_is_numbers : Stmt := top 16
theorem sc_is_numbers : FnScope ["thing", "name"] ["thing"] (defScope s_is_numbers) := ⟨rfl, rfl, rfl, by decide +kernel, rfl, by decide +kernel, by decide +kernel⟩
theorem ok_is_numbers (T : Txt K mg) (a : At K mg "is_numbers" s_is_numbers ["thing"]) (Ois_name : Ok P w K mg base CX0 2 "is_name" ["thing"] (spName K)) (Ois_whole : Ok P w K mg base CX0 1 "is_whole" ["thing"] (spWhole K)) : Ok P w K mg base CX0 3 "is_numbers" ["thing"] (spNumbers K) := a.ok fun f fd F => by
  refine F.ok sc_is_numbers (fun vs H Q E h => ?_) (fun cdv A outer s H vs Q E hr h => ?_)
  · obtain ⟨v, d, rfl, _⟩ := h; rfl
  · obtain ⟨v, d, rfl, hs, hok, q⟩ := h
    refine ⟨_, (pss_cons (ps_if (pt_not (pt_val (pe_callB call_isiD rfl T.n_isinstance rfl (pa_cons (pv 0) (pa_cons (pe_tyN (n := "dict") rfl T.n_dict rfl) pa_nil))))) (pss_one (ps_ret pe_bl)) pss_nil)
      (pss_one (ps_ret (pe_callB (cr_all rfl) rfl T.n_all rfl (pa_cons (pe_lock (pe_lc (own := [("name", 1)]) (g := gName 1) (tt := tYes) rfl sc_is_numbers.nd (pi_keys (pv 0)) (blkOk_by (N := ["thing", "name"]) (sc := defScope s_is_numbers) (by decide +kernel)) (fun _ _ _ _ _ => (pg_name (i := 1) sc_is_numbers.nd rfl (Or.inl rfl))) (fun _ _ _ _ _ => pts_nil) (fun _ _ _ _ _ => (pe_and (pe_callO Ois_name (hr.mono (by decide)) rfl (pa_cons (pv 1) pa_nil)) (pe_one (pe_callO Ois_whole (hr.mono (by decide)) rfl (pa_cons (pe_dget (hu_of hr) (pv 0) (pv 1) (fun _ _ => rfl)) pa_nil))))))) pa_nil))))), ?_⟩
    refine ⟨_, rfl, v, "dict", d, _, rfl, hs, kit_dct d, _, rfl, ?_⟩
    cases hs with
    | @dct a kvs kds ha hk =>
      refine iteF ?_
      dsimp only [tNext, tRet, tCB, tCons, tNil]
      obtain ⟨hl, hf, hnd⟩ := hok
      have hlen := hk.len
      refine ⟨a, .dK kvs, ha, trivial, fun od => ?_⟩
      refine tLc_of ?_
      refine ⟨_, rfl, a, od, rfl, .inl ⟨kvs, upd_same, ?_⟩⟩
      refine lc_val walk_keys (fun i => ((kds.take i).map fun p => isName (keyD p.1) && isWhole p.2).map V.bl) (by omega) rfl (fun H1 e => e _ _ upd_same) ?_ ?_
      · rintro i x H1 H2 R R' hi e ⟨rfl, k, z, hkz, rfl⟩ kk _
        obtain ⟨d, hd, hsd⟩ := hk.get hkz
        have hm := List.mem_of_getElem? hd
        have hfd := hf _ hm
        have ht : ((kds.take (i + 1)).map fun p => isName (keyD p.1) && isWhole p.2).map V.bl = ((kds.take i).map fun p => isName (keyD p.1) && isWhole p.2).map V.bl ++ [V.bl (isName (keyD k) && isWhole d)] := by
          rw [List.take_add_one, hd]; simp
        refine ⟨rfl, yesT ?_⟩
        refine ⟨_, rfl, _, _, rfl, see_key k, by cases k <;> first | trivial | exact hfd.2, fun H3 e3 => ⟨_, rfl, ?_⟩⟩
        have hD3 : H3 a = some (.frz od (.dK kvs)) := e3 _ _ (e _ _ upd_same)
        have hv : valV kvs k = some z := valV_get (by rw [hk.keys]; exact hnd) hkz
        cases e1 : isName (keyD k) with
        | false => rw [e1] at ht; exact iteF (kk _ _ e3 ht)
        | true =>
          rw [e1] at ht
          refine iteT ⟨_, rfl, _, rfl, a, z, rfl, .inl ⟨kvs, k, .inr ⟨od, hD3⟩, rfl, hv.symm⟩, z, d, rfl, see_val ha (fun z => by rw [z] at hkz; cases hkz) (fun b o hb h => e3 _ _ (e _ _ (by rw [upd_ne hb]; exact h))) hsd hfd.1, kk _ _ e3 ht⟩
      · intro D H1 hD e hDH
        have hx := e _ _ upd_same
        have hDa : D ≠ a := fun z => by rw [z, upd_same] at hD; cases hD
        have hl2 : kds.take kvs.length = kds := List.take_of_length_le (by omega)
        rw [hl2] at hDH
        refine ⟨hx, D, _, rfl, SqL.of (by rw [upd_ne hDa]; exact hDH), ?_⟩
        have q1 := q _ (e.unlock ha)
        rw [List.all_map]
        exact q1
    | bl b => exact iteT (q H (Ex.refl H))
    | non => exact iteT (q H (Ex.refl H))
    | int z => exact iteT (q H (Ex.refl H))
    | str z => exact iteT (q H (Ex.refl H))
    | lst _ _ => exact iteT (q H (Ex.refl H))
    | tup _ _ => exact iteT (q H (Ex.refl H))
    | fn _ => exact iteT (q H (Ex.refl H))
end
end K8

set_option Elab.async false
set_option linter.all false
set_option maxRecDepth 100000
set_option maxHeartbeats 4000000
namespace K8
open PySem PySem.Spec PyProof.Rows L2 M8
section
variable {P : Program} {w : World} {K : PySem.W.Frag} {mg : Str → Option Value} {base : Heap}
def items : Dat → List Dat | .lst ds => ds | .tup ds => ds | _ => []
/-- a list or a tuple shows its items -/
theorem see_sq {F : Fk} {H : Hp} {v : V} {d : Dat} (h : See F H v d) (s : isSq d = true) : ∃ a xs, v = .ref a ∧ (H a = some (.lst xs) ∨ H a = some (.tup xs)) ∧ SeeL F H xs (items d) := by
  cases h with
  | lst ha t => exact ⟨_, _, rfl, .inl ha, t⟩
  | tup ha t => exact ⟨_, _, rfl, .inr ha, t⟩
  | non => cases s
  | bl b => cases s
  | int i => cases s
  | str z => cases s
  | dct _ _ => cases s
  | fn _ => cases s
def isTerm (d : Dat) : Bool := isSq d && (match items d with | [x, k] => isNumbers x && isWhole k | _ => false)
def termOk (d : Dat) : Prop := ∀ x ∈ items d, dctOk x
def spTerm (K : PySem.W.Frag) : Sp := fun vs H Q _ => ∃ v d, vs = [v] ∧ SeeF K H v d ∧ termOk d ∧ ∀ H', Ex H H' → Q (.bl (isTerm d)) H'
theorem dec_len {xs : List V} {n : Nat} : decide (V.int (xs.length : Int) = V.int (n : Int)) = decide (xs.length = n) := decide_eq_decide.mpr ⟨fun h => by have := V.int.inj h; omega, fun h => by rw [h]⟩
abbrev s_is_term : Stmt := top 19
theorem sc_is_term : FnScope ["thing"] ["thing"] (defScope s_is_term) := ⟨rfl, rfl, rfl, by decide +kernel, rfl, by decide +kernel, by decide +kernel⟩
theorem ok_is_term (T : Txt K mg) (a : At K mg "is_term" s_is_term ["thing"]) (Ois_list : Ok P w K mg base CX0 1 "is_list" ["thing"] (spIsList K)) (Ois_numbers : Ok P w K mg base CX0 3 "is_numbers" ["thing"] (spNumbers K)) (Ois_whole : Ok P w K mg base CX0 1 "is_whole" ["thing"] (spWhole K)) : Ok P w K mg base CX0 4 "is_term" ["thing"] (spTerm K) := a.ok fun f fd F => by
  refine F.ok sc_is_term (fun vs H Q E h => ?_) (fun cdv A outer s H vs Q E hr h => ?_)
  · obtain ⟨v, d, rfl, _⟩ := h; rfl
  · obtain ⟨v, d, rfl, hs, hok, q⟩ := h
    refine ⟨_, (pss_one (ps_ret (pe_and (pe_callO Ois_list (hr.mono (by decide)) rfl (pa_cons (pv 0) pa_nil)) (pe_and (pe_cmpR op_eq (pe_callB (len_qK (K := K) rfl) rfl T.n_len rfl (pa_cons (pv 0) pa_nil)) pe_int (nomark _)) (pe_and (pe_callO Ois_numbers (hr.mono (by decide)) rfl (pa_cons (pe_ix (ix_qK (K := K) rfl) (pv 0) pe_int (fun _ _ => rfl)) pa_nil)) (pe_one (pe_callO Ois_whole (hr.mono (by decide)) rfl (pa_cons (pe_ix (ix_qK (K := K) rfl) (pv 0) pe_int (fun _ _ => rfl)) pa_nil)))))))), ?_⟩
    refine ⟨_, rfl, v, d, rfl, hs, fun H1 e1 => ⟨_, rfl, ?_⟩⟩
    have q1 := q H1 e1
    unfold isTerm at q q1
    cases e : isSq d with
    | false => rw [e] at q1; exact iteF q1
    | true =>
      rw [e] at q q1
      refine iteT ?_
      obtain ⟨p, xs, rfl, hp, hx⟩ := see_sq (hs.mono e1) e
      have hlen := hx.len
      refine ⟨_, rfl, p, xs, rfl, SqQ.or hp, rfl, _, rfl, ?_⟩
      have dl : decide (V.int (xs.length : Int) = V.int 2) = decide (xs.length = 2) := dec_len (n := 2)
      rw [dl]
      by_cases h2 : xs.length = 2
      · rw [decide_eq_true h2]
        refine iteT ?_
        match hi : items d, hx, hlen with
        | [x, k], .cons h1 (.cons h3 .nil), _ =>
          refine ⟨_, rfl, p, _, 0, _, rfl, rfl, SqQ.or hp, at0, _, x, rfl, h1, hok x (by rw [hi]; simp), fun H2 e2 => ⟨_, rfl, ?_⟩⟩
          have q2 := q H2 (e1.trans e2)
          rw [hi] at q2
          change Q (.bl (isNumbers x && isWhole k)) H2 at q2
          cases en : isNumbers x with
          | false => rw [en] at q2; exact iteF q2
          | true =>
            rw [en] at q2
            exact iteT ⟨_, rfl, p, _, 1, _, rfl, rfl, SqQ.or (hp.imp (e2 _ _) (e2 _ _)), at1, _, k, rfl, h3.mono e2, q2⟩
        | [], _, hl => rw [hl] at h2; cases h2
        | [_], _, hl => rw [hl] at h2; cases h2
        | _ :: _ :: _ :: _, _, hl => rw [hl] at h2; simp at h2
      · rw [decide_eq_false h2]
        refine iteF ?_
        have : (match items d with | [x, k] => isNumbers x && isWhole k | _ => false) = false := by
          split
          · rename_i x k hi; rw [hi] at hlen; exact absurd hlen h2
          · rfl
        rw [this] at q1
        exact q1
/-! the names of a term, ascending -/
def NewT (H H' : Hp) (v : V) (c : Coef) (k : Int) : Prop := ∃ q d, v = .ref q ∧ H q = none ∧ H d = none ∧ H' q = some (.tup [.ref d, .int k]) ∧ H' d = some (.dK (cK c)) ∧ Ex H H'
theorem NewT.at {H H' : Hp} {v : V} {c : Coef} {k : Int} (n : NewT H H' v c k) : TermAt H' v c k := by
  obtain ⟨q, d, rfl, _, _, h1, h2, _⟩ := n
  exact ⟨q, d, rfl, .inr h1, h2⟩
theorem NewT.ex {H H' : Hp} {v : V} {c : Coef} {k : Int} (n : NewT H H' v c k) : Ex H H' := by
  obtain ⟨q, d, rfl, _, _, h1, h2, e⟩ := n; exact e
/-- few names, no name twice -/
structure Few (c : Coef) : Prop where
  nd : (keys c).Nodup
  len : c.length ≤ 60
theorem Few.canon {c : Coef} (h : Few c) : Few (canon c) := ⟨canon_nodup h.nd, by
  have : (M8.canon c).length ≤ c.length := by
    unfold M8.canon nz
    rw [List.length_map, srt_length, List.length_map]
    exact List.length_filter_le _ _
  have := h.len; omega⟩
theorem Few.mapc {c : Coef} (h : Few c) (f : Int → Int) : Few (mapc f c) := ⟨by rw [keys_mapc]; exact h.nd, by unfold M8.mapc; rw [List.length_map]; exact h.len⟩
theorem nz_len {c : Coef} (h : Few c) : (nz c).length ≤ 60 := by
  unfold nz
  rw [srt_length, List.length_map]
  exact Nat.le_trans (List.length_filter_le _ _) h.len
theorem get_cK {c : Coef} {i : Nat} {n : Str} {z : Int} (h : c[i]? = some (n, z)) : (cK c)[i]? = some (.inr n, .int z) := by unfold cK; rw [List.getElem?_map, h]; rfl
theorem keys_cK (c : Coef) : (cK c).map (·.1) = (keys c).map Sum.inr := by unfold cK keys; rw [List.map_map, List.map_map]; rfl
theorem valV_co {c : Coef} {n : Str} (h : n ∈ keys c) (hn : (keys c).Nodup) : valV (cK c) (.inr n) = some (.int (co c n)) := by
  obtain ⟨i, hi⟩ := look_some h hn
  rw [valV_cK, hi]; unfold co; rw [hi]; rfl
def spNamesOf : Sp := fun vs H Q _ => ∃ v c k, vs = [v] ∧ TermAt H v c k ∧ Few c ∧ ∀ p H', H p = none → Ex H H' → H' p = some (.lst ((nz c).map V.str)) → Q (.ref p) H'
abbrev s_names_of : Stmt := top 20
theorem sc_names_of : FnScope ["term", "coefficients", "name"] ["term"] (defScope s_names_of) := ⟨rfl, rfl, rfl, by decide +kernel, rfl, by decide +kernel, by decide +kernel⟩
theorem ok_names_of (T : Txt K mg) (a : At K mg "names_of" s_names_of ["term"]) : Ok P w K mg base CX0 1 "names_of" ["term"] spNamesOf := a.ok fun f fd F => by
  refine F.ok sc_names_of (fun vs H Q E h => ?_) (fun cdv A outer s H vs Q E hr h => ?_)
  · obtain ⟨v, c, k, rfl, _⟩ := h; rfl
  · obtain ⟨v, c, k, rfl, ⟨p, d, rfl, hp, hd⟩, few, q⟩ := h
    refine ⟨_, (pss_cons (ps_set (i := 1) sc_names_of.nd rfl (Or.inr rfl) (pe_ix (ix_qK (K := K) rfl) (pv 0) pe_int (fun _ _ => rfl)))
      (pss_one (ps_ret (pe_callB cr_sortedS rfl T.n_sorted rfl (pa_cons (pe_lock (pe_lc (own := [("name", 2)]) (g := gName 2) (tt := _) rfl sc_names_of.nd (pi_keys (pv 1)) (blkOk_by (N := ["term", "coefficients", "name"]) (sc := defScope s_names_of) (by decide +kernel)) (fun _ _ _ _ _ => (pg_name (i := 2) sc_names_of.nd rfl (Or.inl rfl))) (fun _ _ _ _ _ => (pts_one (pt_cmpR op_ne (pe_dget (hu_of hr) (pv 1) (pv 2) (fun _ _ => rfl)) pe_int (nomark _)))) (fun _ _ _ _ _ => (pv 2)))) pa_nil))))), ?_⟩
    refine ⟨_, rfl, p, _, 0, _, rfl, rfl, SqQ.or hp, at0, ?_⟩
    dsimp only [tNext, tRet, tCB, tCons, tNil, gName]
    refine ⟨d, _, hd, trivial, fun od => ?_⟩
    refine tLc_of ?_
    refine ⟨_, rfl, d, od, rfl, .inl ⟨_, upd_same, ?_⟩⟩
    have hl : (cK c).length = c.length := cK_len c
    refine lc_val walk_keys (fun i => (((c.take i).filter fun p => decide (p.2 ≠ 0)).map (·.1)).map V.str) (by have := few.len; omega) rfl (fun H1 e => e _ _ upd_same) ?_ ?_
    · rintro i x H1 H2 R R' hi e ⟨rfl, k', z, hkz, rfl⟩ kk kk'
      have hci : i < c.length := by omega
      obtain ⟨⟨n, y⟩, hcy'⟩ : ∃ p : Str × Int, c[i]? = some p := ⟨c[i], List.getElem?_eq_getElem hci⟩
      rw [get_cK hcy'] at hkz
      cases hkz
      have hm : n ∈ keys c := List.mem_map.mpr ⟨(n, y), List.mem_of_getElem? hcy', rfl⟩
      have hco : co c n = y := co_of_mem few.nd (List.mem_of_getElem? hcy')
      have hD3 : H2 d = some (.frz od (.dK (cK c))) := e _ _ upd_same
      have ht : c.take (i + 1) = c.take i ++ [(n, y)] := by rw [List.take_add_one, hcy']; rfl
      refine ⟨rfl, ?_⟩
      refine ⟨_, rfl, _, rfl, d, _, rfl, .inl ⟨cK c, .inr n, .inr ⟨od, hD3⟩, rfl, (valV_co hm few.nd).symm⟩, rfl, _, rfl, ?_⟩
      rw [hco]
      by_cases hy : y = 0
      · have e1 : (!decide (V.int y = V.int 0)) = false := by rw [hy]; rfl
        rw [e1]
        refine iteF (kk' _ (Ex.refl _) ?_)
        rw [ht, List.filter_append, hy]; simp
      · have e1 : (!decide (V.int y = V.int 0)) = true := by rw [decide_eq_false fun z => hy (V.int.inj z)]; rfl
        rw [e1]
        refine iteT ⟨_, rfl, kk _ _ (Ex.refl _) ?_⟩
        rw [ht, List.filter_append, List.map_append, List.map_append, List.filter_cons, if_pos (by simpa using hy)]; rfl
    · intro D H1 hD e hDH
      have hx := e _ _ upd_same
      have hDd : D ≠ d := fun z => by rw [z, upd_same] at hD; cases hD
      have hl2 : c.take (cK c).length = c := List.take_of_length_le (by omega)
      rw [hl2] at hDH
      have ex := e.unlock hd
      refine ⟨hx, D, _, rfl, SqL.of (by rw [upd_ne hDd]; exact hDH), ?_, fun ys p2 hperm hsort hp2 => ?_⟩
      · rw [List.length_map]
        have := List.length_filter_le (fun p : Str × Int => decide (p.2 ≠ 0)) c
        have := few.len; omega
      · refine q p2 _ (ex.free hp2) (ex.mut (ex.free hp2)) ?_
        rw [upd_same]
        have : nz c = ys := srt_eq hperm (sorted_pw hsort)
        rw [this]
end
end K8

set_option Elab.async false
set_option linter.all false
set_option maxRecDepth 100000
set_option maxHeartbeats 4000000
namespace K8
open PySem PySem.Spec PyProof.Rows L2 M8
/-! x in a written tuple of texts, x flat or a list of texts -/
def rInT (K : PySem.W.Frag) : R2 := fun x y H Q => ∃ d ds, Dp K H x d ∧ Dp K H y (.tuple ds) ∧ SeqAt.shaped d = true ∧ SeqAt.shaped (.tuple ds) = true ∧ Q (.bl (ds.any fun z => PyData.eqv z d)) H
theorem op_inT {X : Cx} (hu : X.A.units + 65 < cLine) : OpR X (compareOp .In) (rInT X.K) := by
  intro pins s σ H x y v u Q I rx ry h
  obtain ⟨d, ds, hd, he, sd, se, q⟩ := h
  obtain ⟨as, r1⟩ := Dp.reads I d x v hd rx
  obtain ⟨bs, r2⟩ := Dp.reads I (.tuple ds) y u he ry
  have hroom : X.A.units + 1 + min (PyData.depthAll ds) d.depth < cLine := room_in_shaped sd hu
  exact SeqAt.in_tuple_reads r2 r1 (SeqAt.canLay_of_shaped se) (SeqAt.canLay_of_shaped sd) hroom ⟨.bl _, H, I, rfl, q⟩
theorem op_in_z {X : Cx} (hu : X.A.units + 65 < cLine) : OpR X (compareOp .In) (fun x y H Q => rIn X.K false x y H Q ∨ rInT X.K x y H Q) := OpR.or op_in_seq (op_inT hu)
theorem hu65 {A : Around} {k : Nat} (hr : Room (k + 1) A) : A.units + 65 < cLine := by have := hr.un; omega
/-! {name: f(term[0][name]) for name in term[0]} -/
theorem mapc_keys {c : Coef} (few : Few c) (f : Int → Int) : (keys c).map (fun n => (n, f (co c n))) = mapc f c := by
  unfold keys mapc
  rw [List.map_map]
  refine List.map_congr_left fun p hp => ?_
  obtain ⟨n, i⟩ := p
  show (n, f (co c n)) = (n, f i)
  rw [co_of_mem few.nd hp]
theorem dc_lock {H : Hp} {d : Addr} {c : Coef} {td tv : TE} {j : Nat} {vs : List Nat} {σ : L2.St} {Q : VK} (f : Int → Int) (hd : H d = some (.dK (cK c))) (few : Few c)
    (htd : ∀ (H2 : Hp) (R : V → Hp → Prop), (∀ b o, b ≠ d → H b = some o → H2 b = some o) → R (.ref d) H2 → td σ H2 R) (hj : (wipe σ vs)[j]? ≠ none) (hw : ∀ x, wipe ((wipe σ vs).set j (some x)) vs = wipe σ vs)
    (hv : ∀ (nm : Str) (H2 : Hp) (od : Obj) (R : V → Hp → Prop), nm ∈ keys c → H2 d = some (.frz od (.dK (cK c))) → (∀ b o, b ≠ d → H b = some o → H2 b = some o) → (∀ H4, Ex H2 H4 → R (.int (f (co c nm))) H4) → tv ((wipe σ vs).set j (some (.str nm))) H2 R)
    (hq : ∀ p H', H p = none → Ex H H' → H' p = some (.dK (cK (mapc f c))) → Q (.ref p) H') : tLockE (tDc (iKeys td) (gName j) tYes (tVar j) tv vs) σ H Q := by
  refine ⟨d, _, hd, trivial, fun od => ?_⟩
  refine tDc_of ?_
  have out : ∀ H2 : Hp, Ex (upd H d (.frz od (.dK (cK c)))) H2 → ∀ b o, b ≠ d → H b = some o → H2 b = some o := fun H2 e b o hb h => e b o (by rw [upd_ne hb]; exact h)
  refine htd _ _ (fun b o hb h => by rw [upd_ne hb]; exact h) ⟨d, od, rfl, .inl ⟨_, upd_same, ?_⟩⟩
  have hl : (cK c).length = (keys c).length := by rw [cK_len]; unfold keys; rw [List.length_map]
  have w := walk_keys (d := d) (o := od) (kvs := cK c)
  rw [hl] at w
  refine dc_names (ns := keys c) (fun n => f (co c n)) w (by have := few.len; rw [← hl, cK_len]; omega) few.nd (fun H1 e => e _ _ upd_same) ?_ hj hw ?_ ?_
  · rintro i x H1 H2 hi e ⟨rfl, k', z, hkz, rfl⟩
    obtain ⟨⟨n, y⟩, hcy⟩ : ∃ p : Str × Int, c[i]? = some p := ⟨c[i]'(by rw [← hl, cK_len] at hi; exact hi), List.getElem?_eq_getElem _⟩
    rw [get_cK hcy] at hkz
    cases hkz
    exact ⟨rfl, n, by unfold keys; rw [List.getElem?_map, hcy]; rfl, rfl⟩
  · intro i nm H1 R hnm e k
    exact hv nm H1 od R (List.mem_of_getElem? hnm) (e _ _ upd_same) (out H1 e) k
  · intro p H1 hp e hp1
    have hx := e _ _ upd_same
    have hpd : p ≠ d := fun z => by rw [z, upd_same] at hp; cases hp
    rw [mapc_keys few] at hp1
    exact ⟨hx, hq p _ (by rw [upd_ne hpd] at hp; exact hp) (e.unlock hd) (by rw [upd_ne hpd]; exact hp1)⟩
section
variable {P : Program} {w : World} {K : PySem.W.Frag} {mg : Str → Option Value} {base : Heap}
def spTold : Sp := fun vs H Q _ => ∃ v c k, vs = [v] ∧ TermAt H v c k ∧ Few c ∧ ∀ u H', NewT H H' u (canon c) k → Q u H'
abbrev s_told_term : Stmt := top 21
theorem sc_told_term : FnScope ["term", "name"] ["term"] (defScope s_told_term) := ⟨rfl, rfl, rfl, by decide +kernel, rfl, by decide +kernel, by decide +kernel⟩
theorem ok_told_term (T : Txt K mg) (a : At K mg "told_term" s_told_term ["term"]) (Onames_of : Ok P w K mg base CX0 1 "names_of" ["term"] spNamesOf) : Ok P w K mg base CX0 2 "told_term" ["term"] spTold := a.ok fun f fd F => by
  refine F.ok sc_told_term (fun vs H Q E h => ?_) (fun cdv A outer s H vs Q E hr h => ?_)
  · obtain ⟨v, c, k, rfl, _⟩ := h; rfl
  · obtain ⟨v, c, k, rfl, ⟨p, d, rfl, hp, hd⟩, few, q⟩ := h
    refine ⟨_, (pss_one (ps_ret (pe_tup (pa_cons (pe_dc (own := [("name", 1)]) (g := gName 1) (tt := tYes) rfl sc_told_term.nd (pi_list (pe_callO Onames_of (hr.mono (by decide)) rfl (pa_cons (pv 0) pa_nil))) (blkOk_by (N := ["term", "name"]) (sc := defScope s_told_term) (by decide +kernel)) (fun _ _ _ _ _ => (pg_name (i := 1) sc_told_term.nd rfl (Or.inl rfl))) (fun _ _ _ _ _ => pts_nil) (fun _ _ _ _ _ => (pv 1)) (fun _ _ _ _ _ => (pe_dget (hu_of hr) (pe_ix (ix_qK (K := K) rfl) (pv 0) pe_int (fun _ _ => rfl)) (pv 1) (fun _ _ => rfl)))) (pa_cons (pe_ix (ix_qK (K := K) rfl) (pv 0) pe_int (fun _ _ => rfl)) pa_nil))))), ?_⟩
    dsimp only [tNext, tRet, tTup, tCons, tNil]
    refine tDc_of ?_
    refine ⟨_, rfl, _, c, k, rfl, ⟨p, d, rfl, hp, hd⟩, few, fun l H1 hl e1 hl1 => ?_⟩
    refine ⟨l, rfl, ⟨_, SqL.of hl1⟩, ?_⟩
    have hlen : ((nz c).map V.str).length = (nz c).length := List.length_map _
    have wk := walk_list (K := K) (a := l) (xs := (nz c).map V.str)
    rw [hlen] at wk
    refine dc_names (ns := nz c) (co c) wk (by have := nz_len few; omega) (nz_nodup few.nd) (fun H2 e => SqL.of (e _ _ hl1)) ?_ (by simp [wipe, L2.start]) (fun _ => rfl) ?_ ?_
    · rintro i x H2 H3 hi e ⟨rfl, hx⟩
      rw [List.getElem?_map] at hx
      obtain ⟨n, hn, rfl⟩ := Option.map_eq_some_iff.mp hx
      exact ⟨rfl, n, hn, rfl⟩
    · intro i nm H2 R hnm e kk
      have e2 := e1.trans e
      have hm : nm ∈ keys c := Decidable.byContradiction fun z => (mem_nz few.nd).mp (List.mem_of_getElem? hnm) (co_notin z)
      exact ⟨_, rfl, p, _, 0, _, rfl, rfl, SqQ.or (hp.imp (e2 _ _) (e2 _ _)), at0, _, rfl, d, _, rfl, .inl ⟨cK c, .inr nm, .inl (e2 _ _ hd), rfl, (valV_co hm few.nd).symm⟩, kk _ (Ex.refl _)⟩
    · intro D H2 hD e hD2
      have e2 := e1.trans e
      refine ⟨_, rfl, p, _, 1, _, rfl, rfl, SqQ.or (hp.imp (e2 _ _) (e2 _ _)), at1, by show 2 ≤ sizeLine; decide, fun t ht => ?_⟩
      refine q _ _ ⟨t, D, rfl, e2.free ht, e1.free hD, upd_same, ?_, e2.mut (e2.free ht)⟩
      rw [upd_ne (ne_of_none hD2 ht)]
      exact hD2
def spScaled : Sp := fun vs H Q _ => ∃ v c k m, vs = [v, .int m] ∧ TermAt H v c k ∧ Few c ∧ (-(2 ^ 64) < m ∧ m < 2 ^ 64) ∧ ∀ u H', NewT H H' u (canon (mapc (fun i => m * i) c)) (m * k) → Q u H'
end
end K8

set_option Elab.async false
set_option linter.all false
set_option maxRecDepth 100000
set_option maxHeartbeats 4000000
namespace K8
open PySem PySem.Spec PyProof.Rows L2 M8
section
variable {P : Program} {w : World} {K : PySem.W.Frag} {mg : Str → Option Value} {base : Heap}
def spDivided : Sp := fun vs H Q _ => ∃ v c k g, vs = [v, .int g] ∧ TermAt H v c k ∧ Few c ∧ (0 < g ∧ g < 1073741824) ∧ ∀ u H', NewT H H' u (canon (mapc (fun i => i / g) c)) (k / g) → Q u H'
def spRests : Sp := fun vs H Q _ => ∃ v c k g, vs = [v, .int g] ∧ TermAt H v c k ∧ Few c ∧ 0 < g ∧ ∀ u H', NewT H H' u (canon (mapc (fun i => i % g) c)) (k % g) → Q u H'
def spTurned : Sp := fun vs H Q _ => ∃ v c k, vs = [v] ∧ TermAt H v c k ∧ Few c ∧ ∀ u H', NewT H H' u (canon (mapc (fun i => -1 * i) c)) (-1 * k) → Q u H'
def spDivisor : Sp := fun vs H Q _ => ∃ v c k g0, vs = [v, .int g0] ∧ TermAt H v c k ∧ Few c ∧ ∀ H', Ex H H' → Q (.int (dvs g0 c)) H'
end
end K8

set_option Elab.async false
set_option linter.all false
set_option maxRecDepth 100000
set_option maxHeartbeats 4000000
namespace K8
open PySem PySem.Spec PyProof.Rows L2 M8
/-! a test told, new throughout; a truth -/
def NewTst (H H' : Hp) (u : V) : Tst → Prop
  | .row c k => ∃ q t d, u = .ref q ∧ H q = none ∧ H t = none ∧ H d = none ∧ H' q = some (.tup [.str "row", .ref t]) ∧ H' t = some (.tup [.ref d, .int k]) ∧ H' d = some (.dK (cK c)) ∧ Ex H H'
  | .same c k => ∃ q t d, u = .ref q ∧ H q = none ∧ H t = none ∧ H d = none ∧ H' q = some (.tup [.str "same", .ref t]) ∧ H' t = some (.tup [.ref d, .int k]) ∧ H' d = some (.dK (cK c)) ∧ Ex H H'
  | .div m c k => ∃ q t d, u = .ref q ∧ H q = none ∧ H t = none ∧ H d = none ∧ H' q = some (.tup [.str "by", .int m, .ref t]) ∧ H' t = some (.tup [.ref d, .int k]) ∧ H' d = some (.dK (cK c)) ∧ Ex H H'
def NewR (H H' : Hp) (u : V) : Res → Prop
  | .inl b => u = .bl b ∧ Ex H H'
  | .inr t => NewTst H H' u t
theorem NewT.pair {H H1 : Hp} {v : V} {c : Coef} {k : Int} (n : NewT H H1 v c k) {q : Addr} (hq : H1 q = none) (pre : List V) : ∃ t d, v = .ref t ∧ H q = none ∧ H t = none ∧ H d = none ∧ upd H1 q (.tup (pre ++ [v])) q = some (.tup (pre ++ [.ref t])) ∧
    upd H1 q (.tup (pre ++ [v])) t = some (.tup [.ref d, .int k]) ∧ upd H1 q (.tup (pre ++ [v])) d = some (.dK (cK c)) ∧ Ex H (upd H1 q (.tup (pre ++ [v]))) := by
  obtain ⟨t, d, rfl, ht, hd, h1, h2, e⟩ := n
  refine ⟨t, d, rfl, e.free hq, ht, hd, upd_same, ?_, ?_, e.mut (e.free hq)⟩
  · rw [upd_ne (ne_of_none h1 hq)]; exact h1
  · rw [upd_ne (ne_of_none h2 hq)]; exact h2
/-- coefficients within a thousand million -/
def Lim (c : Coef) : Prop := ∀ p ∈ c, p.2.natAbs ≤ 1000000000
theorem dvs_lim {c : Coef} (few : Few c) (l : Lim c) (h : dvs 0 c ≠ 0) : 0 < dvs 0 c ∧ dvs 0 c < 1073741824 := by
  refine ⟨dvs_pos few.nd h, ?_⟩
  cases e : canon c with
  | nil => exact absurd ((dvs_zero few.nd).mpr e) h
  | cons p r =>
    have hp : p ∈ canon c := by rw [e]; simp
    have := dvs_le (g0 := 0) (b := 1000000000) few.nd hp (by have := l p (canon_sub few.nd hp); omega)
    omega
theorem dec_int0 {i j : Int} : decide (V.int i = V.int j) = decide (i = j) := decide_eq_decide.mpr ⟨fun h => V.int.inj h, fun h => by rw [h]⟩
theorem dec_len0 {n : Nat} : decide (V.int (n : Int) = V.int 0) = decide (n = 0) := decide_eq_decide.mpr ⟨fun h => by have := V.int.inj h; omega, fun h => by rw [h]; rfl⟩
section
variable {P : Program} {w : World} {K : PySem.W.Frag} {mg : Str → Option Value} {base : Heap}
def spTRow : Sp := fun vs H Q _ => ∃ v c k, vs = [v] ∧ TermAt H v c k ∧ Few c ∧ Lim c ∧ ∀ u H', NewR H H' u (pRow c k) → Q u H'
def spTSame : Sp := fun vs H Q _ => ∃ v c k, vs = [v] ∧ TermAt H v c k ∧ Few c ∧ Lim c ∧ ∀ u H', NewR H H' u (pSame c k) → Q u H'
def spTBy : Sp := fun vs H Q _ => ∃ v m c k, vs = [.int m, v] ∧ TermAt H v c k ∧ Few c ∧ 0 < m ∧ m ≤ 1000 ∧ ∀ u H', NewR H H' u (pBy m c k) → Q u H'
end
end K8

set_option Elab.async false
set_option linter.all false
set_option maxRecDepth 100000
set_option maxHeartbeats 4000000
/-! any object, held against texts -/
namespace PySem.SeqAt
open AutoSeq1 (wpAny_loadPart')
open MeetsSeq MeetsSeq2 MeetsSeq3 SeqRoads2
theorem k2_dict_no_str (l : Addr) (o : Obj) (hc : o.cls = .type "dict") (hd : ∃ es ep, o.data = .dict es ep) (b : Str) (u : Tok) :
    Meets (Builtin.«dict.__eq__» ⟨[.ref l, .str b u], []⟩) (fun _ R s => s.heap.get? l = some o ∧ R (.ok (.ret .notImplemented)) s) :=
  .of_wp fun prog w A R s h => by
    obtain ⟨hp, g, d, tk, os⟩ := s
    obtain ⟨hl, h⟩ := h
    obtain ⟨oc, od, dt, sl⟩ := o
    obtain ⟨es, ep, hd⟩ := hd
    simp only at hc hd; subst hc hd
    have f1 := F.sub_str_dict
    wp_walk using wpAny_loadPart' hl
    exact ⟨_, rfl, h⟩
theorem k2_str_no_dict (l : Addr) (o : Obj) (hc : o.cls = .type "dict") (hd : ∃ es ep, o.data = .dict es ep) (b : Str) (u : Tok) :
    Meets (Builtin.«str.__eq__» ⟨[.str b u, .ref l], []⟩) (fun _ R s => s.heap.get? l = some o ∧ R (.ok (.ret .notImplemented)) s) :=
  .of_wp fun prog w A R s h => by
    obtain ⟨hp, g, d, tk, os⟩ := s
    obtain ⟨hl, h⟩ := h
    obtain ⟨oc, od, dt, sl⟩ := o
    obtain ⟨es, ep, hd⟩ := hd
    simp only at hc hd; subst hc hd
    wp_walk using wpAny_loadPart' hl, wpAny_load hl
    exact ⟨_, rfl, h⟩
section
variable {A : Around} {s : Shared}
theorem k2_rc_dict_str {l : Addr} {o : Obj} (b : Str) (u : Tok) (ho : s.heap.get? l = some o) (hc : o.cls = .type "dict") (hd : ∃ es ep, o.data = .dict es ep) (hu : A.units < cLine) : RcAt A s (.ref l) (.str b u) false := fun prog w E Q h =>
  rc_eq_decline_or (k := false) ⟨_, ho, hc⟩ (typeIs_str s b u) (by decide) F.sub_str_dict F.slot_dict_eq F.slot_str_eq_refl
    (fun _ hq => call_meets F.slot_dict_eq ⟨_, ho, hc⟩ F.entry_dict_eq (F.args_dict_eq_2 _ _) (k2_dict_no_str l o hc hd b u) ⟨ho, hq⟩)
    (fun _ hq => call_meets F.slot_str_eq_refl (typeIs_str s b u) F.entry_str_eq (F.args_str_eq_2 _ _) (k2_str_no_dict l o hc hd b u) ⟨ho, hq⟩)
    (fun _ hq => wpAny_of_eq (rfl : isSame (.ref l) (.str b u) = pure false) hq) (.inr hu) h
theorem k2_rc_str_dict {l : Addr} {o : Obj} (b : Str) (u : Tok) (ho : s.heap.get? l = some o) (hc : o.cls = .type "dict") (hd : ∃ es ep, o.data = .dict es ep) (hu : A.units < cLine) : RcAt A s (.str b u) (.ref l) false := fun prog w E Q h =>
  rc_eq_decline_or (k := false) (typeIs_str s b u) ⟨_, ho, hc⟩ (by decide) F.sub_dict_str F.slot_str_eq F.slot_dict_eq_refl
    (fun _ hq => call_meets F.slot_str_eq (typeIs_str s b u) F.entry_str_eq (F.args_str_eq_2 _ _) (k2_str_no_dict l o hc hd b u) ⟨ho, hq⟩)
    (fun _ hq => call_meets F.slot_dict_eq_refl ⟨_, ho, hc⟩ F.entry_dict_eq (F.args_dict_eq_2 _ _) (k2_dict_no_str l o hc hd b u) ⟨ho, hq⟩)
    (fun _ hq => wpAny_of_eq (rfl : isSame (.str b u) (.ref l) = pure false) hq) (.inr hu) h
theorem k2_eq_str_dict {l : Addr} {o : Obj} (b : Str) (u : Tok) (ho : s.heap.get? l = some o) (hc : o.cls = .type "dict") (hd : ∃ es ep, o.data = .dict es ep) (hu : A.units < cLine) : EqAt A s (.str b u) (.ref l) false := fun prog w E Q h => by
  unfold eqBool
  refine wpAny_holding (wpAny_ite_split (fun hab => absurd (eq_of_beq hab) nofun) (fun _ => ?_))
  exact wpAny_bind (k2_rc_str_dict b u ho hc hd hu prog w E _ (wpAny_truthy_bool h))
end
end PySem.SeqAt
namespace K8
open PySem PySem.Spec PyProof.Rows L2 M8
def isS (d : Dat) (z : Str) : Bool := match d with | .str s => decide (s = z) | _ => false
def noFn : Dat → Bool | .fn _ => false | _ => true
section
variable {X : Cx} {pins : List (Addr × Obj)} {σ : L2.St} {H : Hp} {s : Shared}
theorem see_dict_obj (I : Inv X pins σ H s) {a : Addr} {kvs : List (Key × V)} (h : H a = some (.dK kvs)) : ∃ o, s.heap.get? a = some o ∧ o.cls = .type "dict" ∧ ∃ es ep, o.data = .dict es ep := by
  obtain ⟨_, _, vs, _, o, es, ep, h1, h2, h3, _⟩ := (show ObjOk X.prog X.w H s.heap a (.dK kvs) from I.hok a _ h)
  exact ⟨o, h1, h2.1, es, ep, h3⟩
/-- a text held against any object -/
theorem eqAt_head {A : Around} (I : Inv X pins σ H s) {x : V} {u : Value} {d : Dat} (rx : RelV x u) (h : SeeF X.K H x d) (hn : noFn d = true) (hu : A.units < cLine) (z : Str) (t : Tok) : SeqAt.EqAt A s (.str z t) u (isS d z) := by
  cases h with
  | non => cases rx; exact SeqAt.EqAt.str_none z t
  | bl b => cases rx; exact SeqAt.EqAt.str_bool z t b
  | int i => obtain ⟨t', rfl⟩ := rx; exact SeqAt.EqAt.str_int z t i t'
  | str y =>
    obtain ⟨t', rfl⟩ := rx
    have := SeqAt.EqAt.str_str (A := A) (s := s) z t y t'
    have e : isS (.str y) z = (z == y) := by
      show decide (y = z) = (z == y)
      by_cases e : y = z
      · subst e; rw [decide_eq_true rfl]; exact (beq_self_eq_true y).symm
      · rw [decide_eq_false e]; exact (beq_eq_false_iff_ne.mpr fun k => e k.symm).symm
    rw [e]; exact this
  | lst ha _ =>
    cases rx
    obtain ⟨its, r, pl, hz⟩ := I.list (SqL.of ha)
    exact SeqAt.EqAt.str_list z t pl.isList hu
  | tup ha _ =>
    cases rx
    obtain ⟨its, r, pl, hz⟩ := I.tuple (SqT.of ha)
    exact SeqAt.EqAt.str_tuple z t pl hu
  | dct ha _ =>
    cases rx
    obtain ⟨o, h1, h2, h3⟩ := see_dict_obj I ha
    exact SeqAt.k2_eq_str_dict z t h1 h2 h3 hu
  | fn _ => cases hn
/-- any object held against a text -/
theorem rcAt_head {A : Around} (I : Inv X pins σ H s) {x : V} {u : Value} {d : Dat} (rx : RelV x u) (h : SeeF X.K H x d) (hn : noFn d = true) (hs : ∀ z, d ≠ .str z) (hu : A.units < cLine) (z : Str) (t : Tok) : SeqAt.RcAt A s u (.str z t) false := by
  cases h with
  | non => cases rx; exact SeqAt.RcAt.none_str z t
  | bl b => cases rx; exact SeqAt.RcAt.bool_str b z t
  | int i => obtain ⟨t', rfl⟩ := rx; exact SeqAt.RcAt.int_str i t' z t
  | str y => exact absurd rfl (hs y)
  | lst ha _ =>
    cases rx
    obtain ⟨its, r, pl, hz⟩ := I.list (SqL.of ha)
    exact SeqAt.RcAt.list_str z t pl.isList hu
  | tup ha _ =>
    cases rx
    obtain ⟨its, r, pl, hz⟩ := I.tuple (SqT.of ha)
    exact SeqAt.RcAt.tuple_str z t pl hu
  | dct ha _ =>
    cases rx
    obtain ⟨o, h1, h2, h3⟩ := see_dict_obj I ha
    exact SeqAt.k2_rc_dict_str z t h1 h2 h3 hu
  | fn _ => cases hn
end
/-- x == "word" -/
def rEqH (K : PySem.W.Frag) : R2 := fun x y H Q => ∃ d z, SeeF K H x d ∧ noFn d = true ∧ y = .str z ∧ Q (.bl (isS d z)) H
theorem op_eqH {X : Cx} (hu : X.A.units + 65 < cLine) : OpR X (compareOp .Eq) (rEqH X.K) := by
  intro pins s σ H x y v u Q I rx ry h
  obtain ⟨d, z, hs, hn, rfl, q⟩ := h
  by_cases hz : ∃ y, d = .str y
  · obtain ⟨y, rfl⟩ := hz
    cases hs
    refine op_eq pins s σ H _ _ v u Q I rx ry ⟨rfl, ?_⟩
    rw [show decide (V.str y = V.str z) = isS (.str y) z from decide_eq_decide.mpr ⟨fun h => V.str.inj h, fun h => by rw [h]⟩]
    exact q
  · obtain ⟨t, rfl⟩ := ry
    have e : isS d z = false := by cases d <;> first | rfl | exact absurd ⟨_, rfl⟩ hz
    rw [e] at q
    exact rcAt_head I rx hs hn (fun y e => hz ⟨y, e⟩) (by omega) z t X.prog X.w _ _ ⟨.bl false, H, I, rfl, q⟩
/-- x in ("word", ..), not in -/
def rInH (K : PySem.W.Frag) (neg : Bool) : R2 := fun x y H Q => ∃ (d : Dat) (tp : Addr) (zs : List Str), SeeF K H x d ∧ noFn d = true ∧ y = .ref tp ∧ SqQ K H tp (zs.map V.str) ∧ ∃ r, zs.any (isS d) = r ∧ Q (.bl (bif neg then !r else r)) H
def eqS (d : Dat) : Value → Bool | .str z _ => isS d z | _ => false
theorem any_eqS {d : Dat} : ∀ {zs : List Str} {us : List Value}, Vals (zs.map V.str) us → us.any (eqS d) = zs.any (isS d)
  | [], _, .nil => rfl
  | z :: zs, u :: us, .cons r t => by
    obtain ⟨tk, rfl⟩ := r
    rw [List.any_cons, List.any_cons, any_eqS t]; rfl
theorem mem_eqS {d : Dat} {A : Around} {s : Shared} {v : Value} (h : ∀ z t, SeqAt.EqAt A s (.str z t) v (isS d z)) : ∀ {zs : List Str} {us : List Value}, Vals (zs.map V.str) us → ∀ u ∈ us, SeqAt.EqAt A s u v (eqS d u)
  | [], _, .nil => fun u hu => by cases hu
  | z :: zs, u :: us, .cons r t => fun u' hu => by
    rcases List.mem_cons.mp hu with rfl | hu
    · obtain ⟨tk, rfl⟩ := r; exact h z tk
    · exact mem_eqS h t u' hu
theorem op_inH {X : Cx} (hu : X.A.units + 65 < cLine) : OpR X (compareOp .In) (rInH X.K false) := by
  intro pins s σ H x y v u Q I rx ry h
  obtain ⟨d, tp, zs, hs, hn, rfl, hq, _, rfl, q⟩ := h
  cases ry
  rcases hq with hq | hq
  · obtain ⟨its, r, pl, hz⟩ := I.list hq
    refine SeqAt.in_listAt (eqS d) pl.isList (fun w hw => mem_eqS (fun z t => eqAt_head I rx hs hn (by show X.A.in1.units < _; simp [Around.in1]; omega) z t) r w (by simpa using hw)) ⟨.bl _, H, I, rfl, ?_⟩
    rw [show its.toArray.any (eqS d) = its.any (eqS d) by simp, any_eqS r]
    exact q
  · obtain ⟨its, r, pl, hz⟩ := I.tuple hq
    refine SeqAt.in_tupleAt (eqS d) pl (fun w hw => mem_eqS (fun z t => eqAt_head I rx hs hn (by show X.A.in1.units < _; simp [Around.in1]; omega) z t) r w (by simpa using hw)) ⟨.bl _, H, I, rfl, ?_⟩
    rw [show its.toArray.any (eqS d) = its.any (eqS d) by simp, any_eqS r]
    exact q
theorem op_ninH {X : Cx} (hu : X.A.units + 65 < cLine) : OpR X (compareOp .NotIn) (rInH X.K true) := by
  intro pins s σ H x y v u Q I rx ry h
  obtain ⟨d, tp, zs, hs, hn, rfl, hq, _, rfl, q⟩ := h
  cases ry
  rcases hq with hq | hq
  · obtain ⟨its, r, pl, hz⟩ := I.list hq
    refine SeqAt.notIn_listAt (eqS d) pl.isList (fun w hw => mem_eqS (fun z t => eqAt_head I rx hs hn (by show X.A.in1.units < _; simp [Around.in1]; omega) z t) r w (by simpa using hw)) ⟨.bl _, H, I, rfl, ?_⟩
    rw [show its.toArray.any (eqS d) = its.any (eqS d) by simp, any_eqS r]
    exact q
  · obtain ⟨its, r, pl, hz⟩ := I.tuple hq
    refine SeqAt.notIn_tupleAt (eqS d) pl (fun w hw => mem_eqS (fun z t => eqAt_head I rx hs hn (by show X.A.in1.units < _; simp [Around.in1]; omega) z t) r w (by simpa using hw)) ⟨.bl _, H, I, rfl, ?_⟩
    rw [show its.toArray.any (eqS d) = its.any (eqS d) by simp, any_eqS r]
    exact q
theorem op_eqH' {X : Cx} {K : PySem.W.Frag} (hu : X.A.units + 65 < cLine) (hK : X.K = K) : OpR X (compareOp .Eq) (rEqH K) := hK ▸ op_eqH hu
theorem op_inH' {X : Cx} {K : PySem.W.Frag} (hu : X.A.units + 65 < cLine) (hK : X.K = K) : OpR X (compareOp .In) (rInH K false) := hK ▸ op_inH hu
theorem op_ninH' {X : Cx} {K : PySem.W.Frag} (hu : X.A.units + 65 < cLine) (hK : X.K = K) : OpR X (compareOp .NotIn) (rInH K true) := hK ▸ op_ninH hu
end K8

set_option Elab.async false
set_option linter.all false
set_option maxRecDepth 100000
set_option maxHeartbeats 4000000
namespace K8
open PySem PySem.Spec PyProof.Rows L2 M8
/-! tests of any object -/
def headRS (d : Dat) : Bool := isS d "row" || isS d "same"
def headBy (d : Dat) : Bool := isS d "by"
def isTest (d : Dat) : Bool := isSq d && (match items d with | [h, t] => headRS h && isTerm t | [h, m, t] => headBy h && (isFrom1 m && isTerm t) | _ => false)
def testOk (d : Dat) : Prop := match items d with | [h, t] => noFn h = true ∧ termOk t | [h, _, t] => noFn h = true ∧ termOk t | _ => True
def spTest (K : PySem.W.Frag) : Sp := fun vs H Q _ => ∃ v d, vs = [v] ∧ SeeF K H v d ∧ testOk d ∧ ∀ H', Ex H H' → Q (.bl (isTest d)) H'
section
variable {P : Program} {w : World} {K : PySem.W.Frag} {mg : Str → Option Value} {base : Heap}
theorem len_dec {xs : List V} {n : Nat} {m : Int} (hm : m = (n : Int)) : decide (V.int ((xs.length : Nat) : Int) = V.int m) = decide (xs.length = n) := by rw [hm]; exact dec_len
theorem any2 (d : Dat) (x y : Str) : [x, y].any (isS d) = (isS d x || isS d y) := by simp
abbrev s_is_test : Stmt := top 25
theorem sc_is_test : FnScope ["thing"] ["thing"] (defScope s_is_test) := ⟨rfl, rfl, rfl, by decide +kernel, rfl, by decide +kernel, by decide +kernel⟩
theorem ok_is_test (T : Txt K mg) (a : At K mg "is_test" s_is_test ["thing"]) (Ois_list : Ok P w K mg base CX0 1 "is_list" ["thing"] (spIsList K)) (Ois_from_one : Ok P w K mg base CX0 2 "is_from_one" ["thing"] (spFrom1 K)) (Ois_term : Ok P w K mg base CX0 4 "is_term" ["thing"] (spTerm K)) : Ok P w K mg base CX0 5 "is_test" ["thing"] (spTest K) := a.ok fun f fd F => by
  refine F.ok sc_is_test (fun vs H Q E h => ?_) (fun cdv A outer s H vs Q E hr h => ?_)
  · obtain ⟨v, d, rfl, _⟩ := h; rfl
  · obtain ⟨v, d, rfl, hs, hok, q⟩ := h
    refine ⟨_, (pss_cons (ps_if (pt_not (pt_val (pe_callO Ois_list (hr.mono (by first | decide | omega)) rfl (pa_cons (pv 0) pa_nil)))) (pss_one (ps_ret pe_bl)) pss_nil)
      (pss_cons (ps_if (pt_cmpR op_eq (pe_callB (len_qK (K := K) rfl) rfl T.n_len rfl (pa_cons (pv 0) pa_nil)) pe_int (nomark _)) (pss_one (ps_ret (pe_and (pe_cmpR (op_inH' (hu65 hr) rfl) (pe_ix (ix_qK (K := K) rfl) (pv 0) pe_int (fun _ _ => rfl)) (pe_tup (pa_cons pe_str (pa_cons pe_str pa_nil))) rfl) (pe_one (pe_callO Ois_term (hr.mono (by first | decide | omega)) rfl (pa_cons (pe_ix (ix_qK (K := K) rfl) (pv 0) pe_int (fun _ _ => rfl)) pa_nil)))))) pss_nil)
      (pss_one (ps_ret (pe_and (pe_cmpR op_eq (pe_callB (len_qK (K := K) rfl) rfl T.n_len rfl (pa_cons (pv 0) pa_nil)) pe_int (nomark _)) (pe_and (pe_cmpR (op_eqH' (hu65 hr) rfl) (pe_ix (ix_qK (K := K) rfl) (pv 0) pe_int (fun _ _ => rfl)) pe_str (nomark _)) (pe_and (pe_callO Ois_from_one (hr.mono (by first | decide | omega)) rfl (pa_cons (pe_ix (ix_qK (K := K) rfl) (pv 0) pe_int (fun _ _ => rfl)) pa_nil)) (pe_one (pe_callO Ois_term (hr.mono (by first | decide | omega)) rfl (pa_cons (pe_ix (ix_qK (K := K) rfl) (pv 0) pe_int (fun _ _ => rfl)) pa_nil)))))))))), ?_⟩
    refine ⟨_, rfl, v, d, rfl, hs, fun H1 e1 => ⟨_, rfl, ?_⟩⟩
    have q1 := q H1 e1
    unfold isTest at q q1
    cases e : isSq d with
    | false => rw [e] at q1; exact iteT q1
    | true =>
      rw [e] at q q1
      refine iteF ?_
      obtain ⟨p, xs, rfl, hp, hx⟩ := see_sq (hs.mono e1) e
      have hlen := hx.len
      refine ⟨_, rfl, p, xs, rfl, SqQ.or hp, rfl, _, rfl, ?_⟩
      rw [len_dec (n := 2) (m := 2) rfl]
      by_cases h2 : xs.length = 2
      · rw [decide_eq_true h2]
        refine iteT ?_
        match hi : items d, hx, hlen with
        | [x, k], .cons (v := vx) h1 (.cons h3 .nil), _ =>
          have hok' : noFn x = true ∧ termOk k := by have z := hok; unfold testOk at z; rw [hi] at z; exact z
          rw [hi] at q q1
          refine ⟨_, rfl, p, _, 0, _, rfl, rfl, SqQ.or hp, at0, by show 2 ≤ sizeLine; decide, fun tp htp => ?_⟩
          have e2 : Ex H1 (upd H1 tp (.tup [.str "row", .str "same"])) := Ex.new htp
          refine ⟨x, tp, ["row", "same"], h1.mono e2, hok'.1, rfl, SqQ.t upd_same, headRS x, any2 x _ _, _, rfl, ?_⟩
          change ∀ H', Ex H H' → Q (.bl (headRS x && isTerm k)) H' at q
          change (if headRS x = true then _ else _)
          cases hb : headRS x with
          | false => rw [hb] at q; exact iteF (q _ (e1.trans e2))
          | true =>
            rw [hb] at q
            exact iteT ⟨_, rfl, p, _, 1, _, rfl, rfl, SqQ.or (hp.imp (e2 _ _) (e2 _ _)), at1, _, k, rfl, h3.mono e2, hok'.2, fun H3 e3 => q _ ((e1.trans e2).trans e3)⟩
        | [], _, hl => rw [hl] at h2; cases h2
        | [_], _, hl => rw [hl] at h2; cases h2
        | _ :: _ :: _ :: _, _, hl => rw [hl] at h2; simp at h2
      · rw [decide_eq_false h2]
        refine iteF ?_
        refine ⟨_, rfl, p, xs, rfl, SqQ.or hp, rfl, _, rfl, ?_⟩
        rw [len_dec (n := 3) (m := 3) rfl]
        by_cases h3 : xs.length = 3
        · rw [decide_eq_true h3]
          refine iteT ?_
          match hi : items d, hx, hlen with
          | [x, m, k], .cons (v := vx) h1 (.cons hm (.cons h4 .nil)), _ =>
            have hok' : noFn x = true ∧ termOk k := by have z := hok; unfold testOk at z; rw [hi] at z; exact z
            rw [hi] at q q1
            change Q (.bl (headBy x && (isFrom1 m && isTerm k))) H1 at q1
            change ∀ H', Ex H H' → Q (.bl (headBy x && (isFrom1 m && isTerm k))) H' at q
            refine ⟨_, rfl, p, _, 0, _, rfl, rfl, SqQ.or hp, at0, x, "by", h1, hok'.1, rfl, _, rfl, ?_⟩
            change (if headBy x = true then _ else _)
            cases eb : headBy x with
            | false => rw [eb] at q1; exact iteF q1
            | true =>
              rw [eb] at q q1
              refine iteT ?_
              refine ⟨_, rfl, p, _, 1, _, rfl, rfl, SqQ.or hp, at1, _, m, rfl, hm, _, rfl, ?_⟩
              cases em : isFrom1 m with
              | false => rw [em] at q1; exact iteF q1
              | true =>
                rw [em] at q
                exact iteT ⟨_, rfl, p, _, 2, _, rfl, rfl, SqQ.or hp, at2, _, k, rfl, h4, hok'.2, fun H3 e3 => q _ (e1.trans e3)⟩
          | [], _, hl => rw [hl] at h3; cases h3
          | [_], _, hl => rw [hl] at h3; cases h3
          | [_, _], _, hl => rw [hl] at h3; cases h3
          | _ :: _ :: _ :: _ :: _, _, hl => rw [hl] at h3; simp at h3
        · rw [decide_eq_false h3]
          refine iteF ?_
          have : (match items d with | [h, t] => headRS h && isTerm t | [h, m, t] => headBy h && (isFrom1 m && isTerm t) | _ => false) = false := by
            match hi : items d, hlen with
            | [], _ => rfl
            | [_], _ => rfl
            | [_, _], hl => exact absurd hl h2
            | [_, _, _], hl => exact absurd hl h3
            | _ :: _ :: _ :: _ :: _, _ => rfl
          rw [this] at q1
          exact q1
end
end K8

set_option Elab.async false
set_option linter.all false
set_option maxRecDepth 100000
set_option maxHeartbeats 4000000
namespace K8
open PySem PySem.Spec PyProof.Rows L2 M8
/-! the error's class -/
abbrev s_initNu : Stmt := inClass (top 3) 0
theorem sc_initNu : FnScope ["self", "numbers"] ["self", "numbers"] (defScope s_initNu) := ⟨rfl, rfl, rfl, by decide +kernel, rfl, by decide +kernel, by decide +kernel⟩
abbrev s_initCa : Stmt := inClass (top 4) 0
theorem sc_initCa : FnScope ["self", "index"] ["self", "index"] (defScope s_initCa) := ⟨rfl, rfl, rfl, by decide +kernel, rfl, by decide +kernel, by decide +kernel⟩
abbrev s_initNa : Stmt := inClass (top 5) 0
theorem sc_initNa : FnScope ["self", "name"] ["self", "name"] (defScope s_initNa) := ⟨rfl, rfl, rfl, by decide +kernel, rfl, by decide +kernel, by decide +kernel⟩
/-- an error of the text: its class, the name of what it keeps, its making -/
structure BadX (K : PySem.W.Frag) (mg : Str → Option Value) (x f q : Str) (st : Stmt) (C : Addr) : Prop where
  gC : mg x = some (.ref C)
  ox : OexC K C
  xf : XfC K C
  no : PySem.W.findIn K (.ref C) f = some none
  te : PySem.W.exmOne K (.ref C) (.ref C) = some true
  ini : ∃ fI fd, PySem.W.findIn K (.ref C) "__init__" = some (some (.ref fI)) ∧ PySem.W.typeIn K (.ref fI) = some (.type "function") ∧ Fun K "__init__" q st fI fd ∧ Binds K fd ["self", f] []
abbrev BadNu (K : PySem.W.Frag) (mg : Str → Option Value) (C : Addr) : Prop := BadX K mg "BadNumbers" "numbers" "BadNumbers.__init__" s_initNu C
abbrev BadCa (K : PySem.W.Frag) (mg : Str → Option Value) (C : Addr) : Prop := BadX K mg "BadCase" "index" "BadCase.__init__" s_initCa C
abbrev BadNa (K : PySem.W.Frag) (mg : Str → Option Value) (C : Addr) : Prop := BadX K mg "BadName" "name" "BadName.__init__" s_initNa C
section
variable {P : Program} {w : World} {K : PySem.W.Frag} {mg : Str → Option Value} {base : Heap} {C : Addr}
def spInit (x : Str) (C : Addr) : Sp := fun vs H Q _ => ∃ a v, vs = [.ref a, v] ∧ H a = some (exo a C none) ∧ ∀ dx, H dx = none → dx ≠ a → Q .non (upd (upd H dx (exd dx [(x, v)])) a (exo a C (some dx)))
theorem ok_initNu (B : BadNu K mg C) {f : Addr} {fd : FuncData} (F : Fun K "__init__" "BadNumbers.__init__" s_initNu f fd) : FnOk P w K mg base CX0 1 f fd ["self", "numbers"] (spInit "numbers" C) := by
  refine F.ok sc_initNu (fun vs H Q E h => ?_) (fun cdv A outer s H vs Q E hr h => ?_)
  · obtain ⟨a, v, rfl, _⟩ := h; rfl
  · obtain ⟨a, v, rfl, ha, q⟩ := h
    refine ⟨_, pss_one (ps_ost (pv 0) (pv 1)), ?_⟩
    exact ⟨_, rfl, _, rfl, a, C, rfl, B.ox, B.no, .inl ⟨ha, fun dx hd hn => q dx hd hn⟩⟩
theorem ok_initCa (B : BadCa K mg C) {f : Addr} {fd : FuncData} (F : Fun K "__init__" "BadCase.__init__" s_initCa f fd) : FnOk P w K mg base CX0 1 f fd ["self", "index"] (spInit "index" C) := by
  refine F.ok sc_initCa (fun vs H Q E h => ?_) (fun cdv A outer s H vs Q E hr h => ?_)
  · obtain ⟨a, v, rfl, _⟩ := h; rfl
  · obtain ⟨a, v, rfl, ha, q⟩ := h
    refine ⟨_, pss_one (ps_ost (pv 0) (pv 1)), ?_⟩
    exact ⟨_, rfl, _, rfl, a, C, rfl, B.ox, B.no, .inl ⟨ha, fun dx hd hn => q dx hd hn⟩⟩
theorem ok_initNa (B : BadNa K mg C) {f : Addr} {fd : FuncData} (F : Fun K "__init__" "BadName.__init__" s_initNa f fd) : FnOk P w K mg base CX0 1 f fd ["self", "name"] (spInit "name" C) := by
  refine F.ok sc_initNa (fun vs H Q E h => ?_) (fun cdv A outer s H vs Q E hr h => ?_)
  · obtain ⟨a, v, rfl, _⟩ := h; rfl
  · obtain ⟨a, v, rfl, ha, q⟩ := h
    refine ⟨_, pss_one (ps_ost (pv 0) (pv 1)), ?_⟩
    exact ⟨_, rfl, _, rfl, a, C, rfl, B.ox, B.no, .inl ⟨ha, fun dx hd hn => q dx hd hn⟩⟩
/-! a test in whatever lists and tuples -/
def IsTerm (d : Dat) (c : Coef) (k : Int) : Prop := isSq d = true ∧ items d = [.dct (cD c), .int k]
def IsTst (d : Dat) : Tst → Prop
  | .row c k => isSq d = true ∧ ∃ t, items d = [.str "row", t] ∧ IsTerm t c k
  | .same c k => isSq d = true ∧ ∃ t, items d = [.str "same", t] ∧ IsTerm t c k
  | .div m c k => isSq d = true ∧ ∃ t, items d = [.str "by", .int m, t] ∧ IsTerm t c k
theorem see_term {H : Hp} {v : V} {d : Dat} {c : Coef} {k : Int} (h : SeeF K H v d) (t : IsTerm d c k) : TermAt H v c k := by
  obtain ⟨a, xs, rfl, hp, hx⟩ := see_sq h t.1
  rw [t.2] at hx
  cases hx with
  | cons h1 hx =>
    cases h1 with
    | dct hd hk =>
      cases hx with
      | cons h2 hx =>
        cases h2; cases hx
        exact ⟨a, _, rfl, hp, by rw [← cK_of hk]; exact hd⟩
/-- names of the program's kind -/
structure Good (c : Coef) : Prop where
  few : Few c
  lim : Lim c
  nm : ∀ n ∈ keys c, isNameS n = true ∧ n.cps.size ≤ 1000000
theorem isTerm_of {d : Dat} {c : Coef} {k : Int} (t : IsTerm d c k) (g : Good c) : isTerm d = true ∧ termOk d := by
  refine ⟨?_, ?_⟩
  · unfold isTerm
    rw [t.1, t.2]
    show (isNumbers (.dct (cD c)) && isWhole (.int k)) = true
    have : isNumbers (.dct (cD c)) = true := by
      show ((cD c).all fun p => isName (keyD p.1) && isWhole p.2) = true
      rw [List.all_eq_true]
      intro p hp
      obtain ⟨q, hq, rfl⟩ := List.mem_map.mp hp
      show (isNameS q.1 && true) = true
      rw [(g.nm q.1 (List.mem_map.mpr ⟨q, hq, rfl⟩)).1]; rfl
    rw [this]; rfl
  · intro x hx
    rw [t.2] at hx
    rcases List.mem_cons.mp hx with rfl | hx
    · refine ⟨by unfold cD; rw [List.length_map]; have := g.few.len; omega, fun p hp => ?_, ?_⟩
      · obtain ⟨q, hq, rfl⟩ := List.mem_map.mp hp
        exact ⟨rfl, (g.nm q.1 (List.mem_map.mpr ⟨q, hq, rfl⟩)).2⟩
      · have e : (cD c).map (·.1) = (keys c).map Sum.inr := by unfold cD keys; rw [List.map_map, List.map_map]; rfl
        rw [e]
        exact List.Pairwise.map _ (fun a b h => fun z => h (Sum.inr.inj z)) g.few.nd
    · rcases List.mem_cons.mp hx with rfl | hx
      · trivial
      · cases hx
theorem isTst_of {d : Dat} {t : Tst} (h : IsTst d t) (g : Good (coef t)) (hm : mOk t) : isTest d = true ∧ testOk d := by
  cases t with
  | row c k =>
    obtain ⟨h1, t, h2, h3⟩ := h
    obtain ⟨i1, i2⟩ := isTerm_of h3 g
    unfold isTest testOk
    rw [h1, h2]
    refine ⟨?_, rfl, i2⟩
    show (headRS (.str "row") && isTerm t) = true
    rw [i1]; rfl
  | same c k =>
    obtain ⟨h1, t, h2, h3⟩ := h
    obtain ⟨i1, i2⟩ := isTerm_of h3 g
    unfold isTest testOk
    rw [h1, h2]
    refine ⟨?_, rfl, i2⟩
    show (headRS (.str "same") && isTerm t) = true
    rw [i1]; rfl
  | div m c k =>
    obtain ⟨h1, t, h2, h3⟩ := h
    obtain ⟨i1, i2⟩ := isTerm_of h3 g
    unfold isTest testOk
    rw [h1, h2]
    refine ⟨?_, rfl, i2⟩
    show (headBy (.str "by") && (isFrom1 (.int m) && isTerm t)) = true
    have : isFrom1 (.int m) = true := by
      show (true && decide (1 ≤ m)) = true
      have := hm.1; simp; omega
    rw [i1, this]; rfl
theorem NewTst.ex {H H1 H2 : Hp} {u : V} {t : Tst} (e : Ex H H1) (n : NewTst H1 H2 u t) : NewTst H H2 u t := by
  cases t with
  | row c k => obtain ⟨q, t, d, h, h1, h2, h3, h4, h5, h6, h7⟩ := n; exact ⟨q, t, d, h, e.free h1, e.free h2, e.free h3, h4, h5, h6, e.trans h7⟩
  | same c k => obtain ⟨q, t, d, h, h1, h2, h3, h4, h5, h6, h7⟩ := n; exact ⟨q, t, d, h, e.free h1, e.free h2, e.free h3, h4, h5, h6, e.trans h7⟩
  | div m c k => obtain ⟨q, t, d, h, h1, h2, h3, h4, h5, h6, h7⟩ := n; exact ⟨q, t, d, h, e.free h1, e.free h2, e.free h3, h4, h5, h6, e.trans h7⟩
theorem NewR.ex {H H1 H2 : Hp} {u : V} {r : Res} (e : Ex H H1) (n : NewR H1 H2 u r) : NewR H H2 u r := by
  cases r with
  | inl b => exact ⟨n.1, e.trans n.2⟩
  | inr t => exact NewTst.ex e n
end
end K8


set_option Elab.async false
set_option linter.all false
set_option maxRecDepth 100000
set_option maxHeartbeats 4000000
namespace K8
open PySem PySem.Spec PyProof.Rows L2 M8
def rEqF (K : PySem.W.Frag) : R2 := fun x y H Q => ∃ a, x = .ref a ∧ y = .ref a ∧ (FKK K).p H a ∧ Q (.bl true) H
theorem op_eqF {X : Cx} {K : PySem.W.Frag} (hu : X.A.units + 1 < cLine) (hK : X.K = K) : OpR X (compareOp .Eq) (rEqF K) := by
  subst hK
  intro pins s σ H x y v u Q I rx ry h
  obtain ⟨a, rfl, rfl, hf, q⟩ := h
  cases (show v = Value.ref a from rx)
  cases (show u = Value.ref a from ry)
  rcases hf with hf | ⟨C, dx, fs, X1, h1, h2⟩
  · exact hf.1 _ _ _ _ _ _ hu I.kIn fun tk => ⟨.bl true, H, I.tok tk, rfl, q⟩
  · obtain ⟨t1, g1⟩ := exo_at I.hok h1
    exact X1.eq _ _ _ _ _ _ a dx t1 g1 hu I.kIn fun tk => ⟨.bl true, H, I.tok tk, rfl, q⟩
theorem op_eq_z {X : Cx} {K : PySem.W.Frag} (hu : X.A.units + 1 < cLine) (hK : X.K = K) : OpR X (compareOp .Eq) (fun x y H Q => rEq x y H Q ∨ rEqF K x y H Q) := OpR.or op_eq (op_eqF hu hK)
theorem walk_zipT {K : PySem.W.Frag} {a b : Addr} {xs ys : List V} {n : Nat} (hn : n = min xs.length ys.length) : Walk (RZ.ItzT K a b) n (fun H => SqT K H a xs ∧ SqT K H b ys) (YPair (fun i => xs[i]?) (fun i => ys[i]?)) := by
  subst hn
  constructor
  · intro i H hi q
    exact ⟨xs, ys, xs[i]'(by omega), ys[i]'(by omega), q.1, q.2, List.getElem?_eq_getElem _, List.getElem?_eq_getElem _⟩
  · intro H q
    exact ⟨xs, ys, q.1, q.2, by omega⟩
  · intro i H v H' _ q y
    obtain ⟨t, x, z, h1, h2, h3, h4, h5⟩ := y
    exact ⟨t, x, z, h1, h2, h3, h4 xs q.1, h5 ys q.2⟩
/-! the law's own look at two things -/
theorem kit_ltd (d : Dat) : kitBs d ["list", "tuple", "dict"] = some (isLst d || (isTup d || isDct d)) := by unfold kitBs; rw [kit_lst]; unfold kitBs; rw [kit_tup]; unfold kitBs; rw [kit_dct]; unfold kitBs; cases isLst d <;> cases isTup d <;> cases isDct d <;> rfl
def rows (kds : List (Key × Dat)) : Dat := .lst (kds.map fun p => .tup [keyD p.1, p.2])
def Step (G : Dat → Prop) : Dat → Prop
  | .lst ds => ds.length ≤ 1000 ∧ ∀ d ∈ ds, G d
  | .tup ds => ds.length ≤ 1000 ∧ ∀ d ∈ ds, G d
  | .dct kds => G (rows kds)
  | _ => True
def Dep : Nat → Dat → Prop
  | 0 => Step fun _ => False
  | n + 1 => Step (Dep n)
def spSameG (K : PySem.W.Frag) (G : Dat → Prop) : Sp := fun vs H Q _ => ∃ v u d, vs = [v, u] ∧ SeeF K H v d ∧ SeeF K H u d ∧ G d ∧ ∀ H', Ex H H' → Q (.bl true) H'
theorem see_rows {F : Fk} {H : Hp} : ∀ {ts : List Addr} {kvs : List (Key × V)} {kds : List (Key × Dat)}, Paired (fun (t : Addr) (q : Key × V) => H t = some (.tup [kV q.1, q.2])) ts kvs → SeeK F H kvs kds →
    SeeL F H (ts.map V.ref) (kds.map fun p => .tup [keyD p.1, p.2])
  | _, _, _, .nil, .nil => .nil
  | _, _, _, .cons h t, .cons s k => .cons (.tup h (.cons (see_key _) (.cons s .nil))) (see_rows t k)
section
variable {P : Program} {w : World} {K : PySem.W.Frag} {mg : Str → Option Value} {base : Heap}
abbrev s__law_same : Stmt := top 46
theorem sc__law_same : FnScope ["found", "wanted", "mine", "theirs"] ["found", "wanted"] (defScope s__law_same) := ⟨rfl, rfl, rfl, by decide +kernel, rfl, by decide +kernel, by decide +kernel⟩
theorem zip_all {K : PySem.W.Frag} {G : Dat → Prop} {sub : Sp} (hsub : ∀ (v u : V) (d : Dat) (H : Hp) (Q : VK) (E : XK), SeeF K H v d → SeeF K H u d → G d → (∀ H', Ex H H' → Q (.bl true) H') → sub [v, u] H Q E)
    {J : It} {n : Nat} {Gd : Hp → Prop} {xs ys : List V} {ds : List Dat} {σ : L2.St} {H : Hp} {Q : VK} (wk : Walk J n Gd (YPair (fun i => xs[i]?) (fun i => ys[i]?))) (hG : ∀ H', Ex H H' → Gd H') (hn : n = ds.length) (h1 : n ≤ 1000) (hx : SeeL (FKK K) H xs ds) (hy : SeeL (FKK K) H ys ds) (hg : ∀ d ∈ ds, G d)
    (hw : ∀ x y, wipe (((wipe σ [2, 3]).set 2 (some x)).set 3 (some y)) [2, 3] = wipe σ [2, 3]) (h2 : ∀ x y, (((wipe σ [2, 3]).set 2 (some x)).set 3 (some y))[2]? = some (some x)) (h3 : ∀ x y, (((wipe σ [2, 3]).set 2 (some x)).set 3 (some y))[3]? = some (some y))
    (q : ∀ D H', H D = none → Ex H H' → H' D = some (.lst ((List.replicate n true).map V.bl)) → Q (.ref D) H') :
    LcB (gTup K 2 (gCons (gName 2) (gCons (gName 3) gNil))) tYes (tC0 sub (tCons (tVar 2) (tCons (tVar 3) tNil))) [2, 3] σ Q J H := by
  refine lc_val wk (fun i => (List.replicate i true).map V.bl) (by omega) rfl hG ?_ ?_
  · rintro i x H1 H2 R R' hi e ⟨t, y1, y2, rfl, ht, rfl, e1, e2⟩ k _
    obtain ⟨d, hd, s1⟩ := hx.getV e1
    obtain ⟨d', hd', s2⟩ := hy.getV e2
    have : d' = d := by rw [hd] at hd'; exact (Option.some.inj hd').symm
    subst this
    refine ⟨t, _, rfl, SqT.of upd_same, rfl, _, _, rfl, _, _, rfl, rfl, hw _ _, yesT ?_⟩
    have e3 : Ex H (upd H1 t (.tup [y1, y2])) := e.mut (e.free ht)
    refine ⟨_, h2 _ _, _, h3 _ _, hsub _ _ _ _ _ _ (s1.mono e3) (s2.mono e3) (hg _ (List.mem_of_getElem? hd)) fun H3 e4 => k _ _ ((Ex.new ht).trans e4) ?_⟩
    rw [List.replicate_succ', List.map_append]; rfl
  · intro D H1 hD e hDH
    exact q D H1 hD e hDH
theorem ok_same_step (T : Txt K mg) (a : At K mg "_law_same" s__law_same ["found", "wanted"]) {k : Nat} {sub : Sp} {G : Dat → Prop} (O_law_same : Ok P w K mg base CX0 k "_law_same" ["found", "wanted"] sub)
    (hsub : ∀ (v u : V) (d : Dat) (H : Hp) (Q : VK) (E : XK), SeeF K H v d → SeeF K H u d → G d → (∀ H', Ex H H' → Q (.bl true) H') → sub [v, u] H Q E) : Ok P w K mg base CX0 (k + 1) "_law_same" ["found", "wanted"] (spSameG K (Step G)) := a.ok fun f fd F => by
  refine F.ok sc__law_same (fun vs H Q E h => ?_) (fun cdv A outer s H vs Q E hr h => ?_)
  · obtain ⟨v, u, d, rfl, _⟩ := h; rfl
  · obtain ⟨v, u, d, rfl, hv, hu', hg, q⟩ := h
    refine ⟨_, (pss_cons (ps_if (pt_val (pe_callB call_isiDT rfl T.n_isinstance rfl (pa_cons (pv 1) (pa_cons (pe_tup (pa_cons (pe_tyN (n := "list") rfl T.n_list rfl) (pa_cons (pe_tyN (n := "tuple") rfl T.n_tuple rfl) pa_nil))) pa_nil)))) (pss_cons (ps_if (PW.pt (pw_or (pt_cmpR op_ne (pe_callB call_isiD rfl T.n_isinstance rfl (pa_cons (pv 0) (pa_cons (pe_tyN (n := "list") rfl T.n_list rfl) pa_nil))) (pe_callB call_isiD rfl T.n_isinstance rfl (pa_cons (pv 1) (pa_cons (pe_tyN (n := "list") rfl T.n_list rfl) pa_nil))) (nomark _)) (pw_or1 (pt_cmpR op_ne (pe_callB call_isiD rfl T.n_isinstance rfl (pa_cons (pv 0) (pa_cons (pe_tyN (n := "tuple") rfl T.n_tuple rfl) pa_nil))) (pe_callB call_isiD rfl T.n_isinstance rfl (pa_cons (pv 1) (pa_cons (pe_tyN (n := "tuple") rfl T.n_tuple rfl) pa_nil))) (nomark _))))) (pss_one (ps_ret pe_bl)) pss_nil)
      (pss_one (ps_ret (pe_and (pe_cmpR op_eq (pe_callB (len_qK (K := K) rfl) rfl T.n_len rfl (pa_cons (pv 0) pa_nil)) (pe_callB (len_qK (K := K) rfl) rfl T.n_len rfl (pa_cons (pv 1) pa_nil)) (nomark _)) (pe_one (pe_callB (cr_all rfl) rfl T.n_all rfl (pa_cons (pe_lc (own := [("mine", 2), ("theirs", 3)]) (g := gTup K 2 (gCons (gName 2) (gCons (gName 3) gNil))) (tt := tYes) rfl sc__law_same.nd (RZ.pi_zipA rfl T.n_zip (pa_cons (pv 0) (pa_cons (pv 1) pa_nil))) (blkOk_by (N := ["found", "wanted", "mine", "theirs"]) (sc := defScope s__law_same) (by decide +kernel)) (fun _ _ _ _ _ => (pg_tup rfl (pgs_cons (pg_name (i := 2) sc__law_same.nd rfl (Or.inl rfl)) (pgs_cons (pg_name (i := 3) sc__law_same.nd rfl (Or.inl rfl)) pgs_nil)))) (fun _ _ _ _ _ => pts_nil) (fun _ _ _ _ _ => (pe_callO O_law_same hr rfl (pa_cons (pv 2) (pa_cons (pv 3) pa_nil))))) pa_nil))))))) pss_nil)
      (pss_cons (ps_if (pt_val (pe_callB call_isiD rfl T.n_isinstance rfl (pa_cons (pv 1) (pa_cons (pe_tyN (n := "dict") rfl T.n_dict rfl) pa_nil)))) (pss_one (ps_ret (pe_and (pe_callB call_isiD rfl T.n_isinstance rfl (pa_cons (pv 0) (pa_cons (pe_tyN (n := "dict") rfl T.n_dict rfl) pa_nil))) (pe_one (pe_callO O_law_same hr rfl (pa_cons (LiI.pe_listItems rfl (pv 0) rfl T.n_list rfl) (pa_cons (LiI.pe_listItems rfl (pv 1) rfl T.n_list rfl) pa_nil))))))) pss_nil)
      (pss_cons (ps_if (PW.pt (pw_or (pt_val (pe_callB call_isiD rfl T.n_isinstance rfl (pa_cons (pv 1) (pa_cons (pe_tyN (n := "bool") rfl T.n_bool rfl) pa_nil)))) (pw_or1 (pt_val (pe_callB call_isiD rfl T.n_isinstance rfl (pa_cons (pv 0) (pa_cons (pe_tyN (n := "bool") rfl T.n_bool rfl) pa_nil))))))) (pss_one (ps_ret (pe_and (pe_callB call_isiD rfl T.n_isinstance rfl (pa_cons (pv 1) (pa_cons (pe_tyN (n := "bool") rfl T.n_bool rfl) pa_nil))) (pe_and (pe_callB call_isiD rfl T.n_isinstance rfl (pa_cons (pv 0) (pa_cons (pe_tyN (n := "bool") rfl T.n_bool rfl) pa_nil))) (pe_one (pe_cmpR (op_eq_z (hu_of hr) (K := K) rfl) (pv 0) (pv 1) (nomark _))))))) pss_nil)
      (pss_one (ps_ret (pe_and (pe_not (pe_callB call_isiDT rfl T.n_isinstance rfl (pa_cons (pv 0) (pa_cons (pe_tup (pa_cons (pe_tyN (n := "list") rfl T.n_list rfl) (pa_cons (pe_tyN (n := "tuple") rfl T.n_tuple rfl) (pa_cons (pe_tyN (n := "dict") rfl T.n_dict rfl) pa_nil)))) pa_nil)))) (pe_one (pe_cmpR (op_eq_z (hu_of hr) (K := K) rfl) (pv 0) (pv 1) (nomark _))))))))), ?_⟩
    have sq : ∀ (H0 : Hp) (ds : List Dat) (xs ys : List V), Ex H H0 → SeeL (FKK K) H0 xs ds → SeeL (FKK K) H0 ys ds → ds.length ≤ 1000 → (∀ d ∈ ds, G d) → ∀ b1 b2 : Addr, v = .ref b1 → u = .ref b2 → ((SqL K H0 b1 xs ∧ SqL K H0 b2 ys ∧ (∀ H', Ex H0 H' → SqL K H' b1 xs ∧ SqL K H' b2 ys)) ∨ (SqT K H0 b1 xs ∧ SqT K H0 b2 ys ∧ (∀ H', Ex H0 H' → SqT K H' b1 xs ∧ SqT K H' b2 ys))) →
        tAndV (tOp rEq (tCB (rLenQ K) (tCons (tVar 0) tNil)) (tCB (rLenQ K) (tCons (tVar 1) tNil))) (tCB (rAll K) (tCons (tLc (RZ.iZipA K (tCons (tVar 0) (tCons (tVar 1) tNil))) (gTup K 2 (gCons (gName 2) (gCons (gName 3) gNil))) tYes (tC0 sub (tCons (tVar 2) (tCons (tVar 3) tNil))) [2, 3]) tNil)) [some v, some u, none, none] H0 Q := by
      rintro H0 ds xs ys e0 hx hy hl hgd b1 b2 rfl rfl hsq
      have l1 := hx.len
      have l2 := hy.len
      have q1 : SqQ K H0 b1 xs := hsq.elim (fun z => .inl z.1) (fun z => .inr z.1)
      have q2 : SqQ K H0 b2 ys := hsq.elim (fun z => .inl z.2.1) (fun z => .inr z.2.1)
      refine ⟨_, rfl, b1, xs, rfl, q1, _, rfl, b2, ys, rfl, q2, rfl, _, rfl, ?_⟩
      have e1 : decide (V.int ((xs.length : Nat) : Int) = V.int ((ys.length : Nat) : Int)) = true := decide_eq_true (by rw [l1, l2])
      rw [e1]
      refine iteT ?_
      dsimp only [tCB, tCons, tNil]
      refine tLc_of ?_
      have fin : ∀ D H', H0 D = none → Ex H0 H' → H' D = some (.lst ((List.replicate ds.length true).map V.bl)) → rAll K [.ref D] H' Q := by
        intro D H' hD e hDH
        refine ⟨D, _, rfl, SqL.of hDH, ?_⟩
        have : (List.replicate ds.length true).all id = true := by rw [List.all_eq_true]; intro x hx; exact (List.mem_replicate.mp hx).2
        rw [this]
        exact q H' (e0.trans e)
      have hn : ds.length = min xs.length ys.length := by omega
      refine ⟨_, rfl, _, rfl, b1, b2, xs, ys, rfl, ?_⟩
      rcases hsq with ⟨z1, z2, z3⟩ | ⟨z1, z2, z3⟩
      · exact .inl ⟨z1, z2, zip_all hsub (walk_zip hn) z3 rfl hl hx hy hgd (fun _ _ => rfl) (fun _ _ => rfl) (fun _ _ => rfl) fin⟩
      · exact .inr ⟨z1, z2, zip_all hsub (walk_zipT hn) z3 rfl hl hx hy hgd (fun _ _ => rfl) (fun _ _ => rfl) (fun _ _ => rfl) fin⟩
    cases hu' with
    | @lst b2 ys ds h2 k2 =>
      cases hv with
      | @lst b1 xs _ h1 k1 =>
        refine ⟨_, rfl, by show 2 ≤ sizeLine; decide, fun tp htp => ⟨_, tp, ["list", "tuple"], _, _, rfl, upd_same, .lst ((Ex.new htp) _ _ h2) (SeeL.mono (Ex.new htp) k2), kit_lt (.lst ds), _, rfl, iteT ?_⟩⟩
        have e0 : Ex H (upd H tp (.tup (["list", "tuple"].map V.ty))) := Ex.new htp
        have v1 := See.lst (F := FKK K) (e0 _ _ h1) (SeeL.mono e0 k1)
        have v2 := See.lst (F := FKK K) (e0 _ _ h2) (SeeL.mono e0 k2)
        refine ⟨_, rfl, _, "list", _, _, rfl, v1, kit_lst _, _, rfl, _, "list", _, _, rfl, v2, kit_lst _, rfl, _, rfl, iteF ?_⟩
        refine ⟨_, rfl, _, "tuple", _, _, rfl, v1, kit_tup _, _, rfl, _, "tuple", _, _, rfl, v2, kit_tup _, rfl, _, rfl, iteF ?_⟩
        exact sq _ ds xs ys e0 (SeeL.mono e0 k1) (SeeL.mono e0 k2) hg.1 hg.2 b1 b2 rfl rfl (.inl ⟨SqL.of (e0 _ _ h1), SqL.of (e0 _ _ h2), fun H' e => ⟨SqL.of (e _ _ (e0 _ _ h1)), SqL.of (e _ _ (e0 _ _ h2))⟩⟩)
    | @tup b2 ys ds h2 k2 =>
      cases hv with
      | @tup b1 xs _ h1 k1 =>
        refine ⟨_, rfl, by show 2 ≤ sizeLine; decide, fun tp htp => ⟨_, tp, ["list", "tuple"], _, _, rfl, upd_same, .tup ((Ex.new htp) _ _ h2) (SeeL.mono (Ex.new htp) k2), kit_lt (.tup ds), _, rfl, iteT ?_⟩⟩
        have e0 : Ex H (upd H tp (.tup (["list", "tuple"].map V.ty))) := Ex.new htp
        have v1 := See.tup (F := FKK K) (e0 _ _ h1) (SeeL.mono e0 k1)
        have v2 := See.tup (F := FKK K) (e0 _ _ h2) (SeeL.mono e0 k2)
        refine ⟨_, rfl, _, "list", _, _, rfl, v1, kit_lst _, _, rfl, _, "list", _, _, rfl, v2, kit_lst _, rfl, _, rfl, iteF ?_⟩
        refine ⟨_, rfl, _, "tuple", _, _, rfl, v1, kit_tup _, _, rfl, _, "tuple", _, _, rfl, v2, kit_tup _, rfl, _, rfl, iteF ?_⟩
        exact sq _ ds xs ys e0 (SeeL.mono e0 k1) (SeeL.mono e0 k2) hg.1 hg.2 b1 b2 rfl rfl (.inr ⟨SqT.of (e0 _ _ h1), SqT.of (e0 _ _ h2), fun H' e => ⟨SqT.of (e _ _ (e0 _ _ h1)), SqT.of (e _ _ (e0 _ _ h2))⟩⟩)
    | @dct b2 kvs2 kds h2 k2 =>
      cases hv with
      | @dct b1 kvs1 _ h1 k1 =>
        refine ⟨_, rfl, by show 2 ≤ sizeLine; decide, fun tp htp => ⟨_, tp, ["list", "tuple"], _, _, rfl, upd_same, .dct ((Ex.new htp) _ _ h2) (SeeK.mono (Ex.new htp) k2), kit_lt (.dct kds), _, rfl, iteF ?_⟩⟩
        have e0 : Ex H (upd H tp (.tup (["list", "tuple"].map V.ty))) := Ex.new htp
        have h1 := e0 _ _ h1
        have h2 := e0 _ _ h2
        have k1 := SeeK.mono e0 k1
        have k2 := SeeK.mono e0 k2
        refine ⟨_, rfl, _, "dict", .dct kds, _, rfl, .dct h2 k2, kit_dct _, _, rfl, iteT ?_⟩
        refine ⟨_, rfl, _, "dict", .dct kds, _, rfl, .dct h1 k1, kit_dct _, _, rfl, iteT ?_⟩
        refine ⟨_, rfl, b1, kvs1, rfl, h1, fun H1 p1 ts1 e1 n1 _ _ hp1 hr1 => ?_⟩
        refine ⟨_, rfl, b2, kvs2, rfl, e1 _ _ h2, fun H2 p2 ts2 e2 n2 _ _ hp2 hr2 => ?_⟩
        have s1 : SeeF K H1 (.ref p1) (rows kds) := .lst hp1 (see_rows hr1 (SeeK.mono e1 k1))
        have s2 : SeeF K H2 (.ref p2) (rows kds) := .lst hp2 (see_rows hr2 (SeeK.mono (Ex.trans e1 e2) k2))
        exact hsub _ _ _ _ _ _ (s1.mono e2) s2 hg fun H3 e3 => q _ (Ex.trans e0 (Ex.trans (Ex.trans e1 e2) e3))
    | non => cases hv with
      | non =>
        refine ⟨_, rfl, by show 2 ≤ sizeLine; decide, fun tp htp => ⟨_, tp, ["list", "tuple"], _, _, rfl, upd_same, .non, kit_lt .non, _, rfl, iteF ?_⟩⟩
        refine ⟨_, rfl, _, "dict", .non, _, rfl, .non, kit_dct .non, _, rfl, iteF ?_⟩
        refine ⟨_, rfl, _, "bool", .non, _, rfl, .non, kit_bool .non, _, rfl, iteF ?_⟩
        refine ⟨_, rfl, _, "bool", .non, _, rfl, .non, kit_bool .non, _, rfl, iteF ?_⟩
        refine ⟨_, rfl, by show 3 ≤ sizeLine; decide, fun t2 h2 => ⟨_, t2, ["list", "tuple", "dict"], .non, _, rfl, upd_same, .non, kit_ltd .non, _, rfl, _, rfl, iteT ?_⟩⟩
        exact ⟨_, rfl, _, rfl, .inl ⟨rfl, by rw [decide_eq_true rfl]; exact q _ (Ex.trans (Ex.new htp) (Ex.new h2))⟩⟩
    | int i => cases hv with
      | int _ =>
        refine ⟨_, rfl, by show 2 ≤ sizeLine; decide, fun tp htp => ⟨_, tp, ["list", "tuple"], _, _, rfl, upd_same, (.int i), kit_lt (.int i), _, rfl, iteF ?_⟩⟩
        refine ⟨_, rfl, _, "dict", (.int i), _, rfl, (.int i), kit_dct (.int i), _, rfl, iteF ?_⟩
        refine ⟨_, rfl, _, "bool", (.int i), _, rfl, (.int i), kit_bool (.int i), _, rfl, iteF ?_⟩
        refine ⟨_, rfl, _, "bool", (.int i), _, rfl, (.int i), kit_bool (.int i), _, rfl, iteF ?_⟩
        refine ⟨_, rfl, by show 3 ≤ sizeLine; decide, fun t2 h2 => ⟨_, t2, ["list", "tuple", "dict"], (.int i), _, rfl, upd_same, (.int i), kit_ltd (.int i), _, rfl, _, rfl, iteT ?_⟩⟩
        exact ⟨_, rfl, _, rfl, .inl ⟨rfl, by rw [decide_eq_true rfl]; exact q _ (Ex.trans (Ex.new htp) (Ex.new h2))⟩⟩
    | str z => cases hv with
      | str _ =>
        refine ⟨_, rfl, by show 2 ≤ sizeLine; decide, fun tp htp => ⟨_, tp, ["list", "tuple"], _, _, rfl, upd_same, (.str z), kit_lt (.str z), _, rfl, iteF ?_⟩⟩
        refine ⟨_, rfl, _, "dict", (.str z), _, rfl, (.str z), kit_dct (.str z), _, rfl, iteF ?_⟩
        refine ⟨_, rfl, _, "bool", (.str z), _, rfl, (.str z), kit_bool (.str z), _, rfl, iteF ?_⟩
        refine ⟨_, rfl, _, "bool", (.str z), _, rfl, (.str z), kit_bool (.str z), _, rfl, iteF ?_⟩
        refine ⟨_, rfl, by show 3 ≤ sizeLine; decide, fun t2 h2 => ⟨_, t2, ["list", "tuple", "dict"], (.str z), _, rfl, upd_same, (.str z), kit_ltd (.str z), _, rfl, _, rfl, iteT ?_⟩⟩
        exact ⟨_, rfl, _, rfl, .inl ⟨rfl, by rw [decide_eq_true rfl]; exact q _ (Ex.trans (Ex.new htp) (Ex.new h2))⟩⟩
    | bl b => cases hv with
      | bl _ =>
        refine ⟨_, rfl, by show 2 ≤ sizeLine; decide, fun tp htp => ⟨_, tp, ["list", "tuple"], _, _, rfl, upd_same, (.bl b), kit_lt (.bl b), _, rfl, iteF ?_⟩⟩
        refine ⟨_, rfl, _, "dict", (.bl b), _, rfl, (.bl b), kit_dct (.bl b), _, rfl, iteF ?_⟩
        refine ⟨_, rfl, _, "bool", (.bl b), _, rfl, (.bl b), kit_bool (.bl b), _, rfl, iteT ?_⟩
        refine ⟨_, rfl, _, "bool", (.bl b), _, rfl, (.bl b), kit_bool (.bl b), _, rfl, iteT ?_⟩
        refine ⟨_, rfl, _, "bool", (.bl b), _, rfl, (.bl b), kit_bool (.bl b), _, rfl, iteT ?_⟩
        exact ⟨_, rfl, _, rfl, .inl ⟨rfl, by rw [decide_eq_true rfl]; exact q _ (Ex.new htp)⟩⟩
    | fn hf => cases hv with
      | fn _ =>
        refine ⟨_, rfl, by show 2 ≤ sizeLine; decide, fun tp htp => ⟨_, tp, ["list", "tuple"], _, _, rfl, upd_same, (.fn ((FKK K).mono (fun b o _ hb => (Ex.new htp) b o hb) hf)), kit_lt (.fn _), _, rfl, iteF ?_⟩⟩
        refine ⟨_, rfl, _, "dict", (.fn _), _, rfl, (.fn ((FKK K).mono (fun b o _ hb => (Ex.new htp) b o hb) hf)), kit_dct (.fn _), _, rfl, iteF ?_⟩
        refine ⟨_, rfl, _, "bool", (.fn _), _, rfl, (.fn ((FKK K).mono (fun b o _ hb => (Ex.new htp) b o hb) hf)), kit_bool (.fn _), _, rfl, iteF ?_⟩
        refine ⟨_, rfl, _, "bool", (.fn _), _, rfl, (.fn ((FKK K).mono (fun b o _ hb => (Ex.new htp) b o hb) hf)), kit_bool (.fn _), _, rfl, iteF ?_⟩
        refine ⟨_, rfl, by show 3 ≤ sizeLine; decide, fun t2 h2 => ⟨_, t2, ["list", "tuple", "dict"], (.fn _), _, rfl, upd_same, (.fn ((FKK K).mono (fun b o _ hb => (Ex.trans (Ex.new htp) (Ex.new h2)) b o hb) hf)), kit_ltd (.fn _), _, rfl, _, rfl, iteT ?_⟩⟩
        exact ⟨_, rfl, _, rfl, .inr ⟨_, rfl, rfl, (FKK K).mono (fun b o _ hb => (Ex.trans (Ex.new htp) (Ex.new h2)) b o hb) hf, q _ (Ex.trans (Ex.new htp) (Ex.new h2))⟩⟩
theorem Step.imp {G G' : Dat → Prop} (h : ∀ d, G d → G' d) : ∀ d, Step G d → Step G' d
  | .lst _, x => ⟨x.1, fun d m => h d (x.2 d m)⟩
  | .tup _, x => ⟨x.1, fun d m => h d (x.2 d m)⟩
  | .dct _, x => h _ x
  | .non, _ => trivial
  | .bl _, _ => trivial
  | .int _, _ => trivial
  | .str _, _ => trivial
  | .fn _, _ => trivial
theorem ok_same (T : Txt K mg) (a : At K mg "_law_same" s__law_same ["found", "wanted"]) : ∀ n, Ok P w K mg base CX0 (n + 2) "_law_same" ["found", "wanted"] (spSameG K (Dep n))
  | 0 => ok_same_step T a (sub := fun _ _ _ _ => False) (a.ok fun f fd F => F.ok sc__law_same (fun vs H Q E h => h.elim) (fun cdv A outer s H vs Q E hr h => h.elim)) (fun _ _ _ _ _ _ _ _ h _ => h.elim)
  | n + 1 => ok_same_step T a (ok_same T a n) (fun v u d H Q E h1 h2 h3 h4 => ⟨v, u, d, rfl, h1, h2, h3, h4⟩)
end
end K8

set_option Elab.async false
set_option linter.all false
set_option maxRecDepth 100000
set_option maxHeartbeats 4000000
namespace K8
open PySem PySem.Spec PyProof.Rows L2 M8
/-! a heap without the spring -/
def sans (a : Addr) (H : Hp) : Hp := fun b => if b = a then none else H b
theorem sans_ne {a b : Addr} {H : Hp} (h : b ≠ a) : sans a H b = H b := if_neg h
theorem sans_ex (a : Addr) (H : Hp) : Ex (sans a H) H := fun b o h => by
  unfold sans at h
  split at h
  · cases h
  · exact h
theorem Exo.sans {a : Addr} {H H' : Hp} (e : Exo [a] H H') : Ex (sans a H) (sans a H') := fun b o h => by
  unfold K8.sans at h
  split at h
  · cases h
  · rename_i n
    rw [sans_ne n]; exact e b o (by simpa using n) h
theorem Ex.sans {a : Addr} {H H' : Hp} (e : Ex H H') : Ex (sans a H) (sans a H') := (e.exo [a]).sans
theorem Exo.at1 {a : Addr} {H H' : Hp} {b : Addr} {o : HO} (e : Exo [a] H H') (n : b ≠ a) (h : H b = some o) : H' b = some o := e b o (by simpa using n) h
theorem Exo.free {S : List Addr} {H H' : Hp} {p : Addr} (e : Exo S H H') (n : p ∉ S) (h : H' p = none) : H p = none := by
  cases q : H p with
  | none => rfl
  | some o => rw [e p o n q] at h; cases h
/-! pairs made into a dict -/
theorem putK_new {kvs : List (Key × V)} {k : Key} {v : V} (h : k ∉ kvs.map (·.1)) : putK kvs k v = kvs ++ [(k, v)] := by
  unfold putK
  rw [if_neg]
  rw [Bool.not_eq_true, List.any_eq_false]
  intro kv hkv z
  exact h (List.mem_map.mpr ⟨kv, hkv, by simpa using z⟩)
theorem mergeK_app : ∀ (more kvs : List (Key × V)), ((kvs ++ more).map (·.1)).Nodup → mergeK kvs more = kvs ++ more
  | [], kvs, _ => by simp [mergeK]
  | kv :: more, kvs, h => by
    unfold mergeK
    rw [List.foldl_cons]
    have h1 : kv.1 ∉ kvs.map (·.1) := by
      intro z
      rw [List.map_append, List.map_cons, List.nodup_append] at h
      exact h.2.2 _ z _ (by simp) rfl
    rw [putK_new h1]
    have := mergeK_app more (kvs ++ [(kv.1, kv.2)]) (by simpa using h)
    unfold mergeK at this
    rw [this]; simp
theorem mergeK_nil {kvs : List (Key × V)} (h : (kvs.map (·.1)).Nodup) : mergeK [] kvs = kvs := mergeK_app kvs [] (by simpa using h)
def rDictC (K : PySem.W.Frag) : List V → Hp → VK → Prop := fun xs H Q => ∃ (a : Addr) (ps : List Addr) (kvs : List (Key × V)), xs = [.ref a] ∧ H a = some (.lst (ps.map V.ref)) ∧ Paired (fun p kv => H p = some (.tup [kV kv.1, kv.2])) ps kvs ∧ (kvs.map (·.1)).Nodup ∧
    ∀ p, H p = none → Q (.ref p) (upd H p (.dK kvs))
theorem Paired.imp {α β : Type} {R R' : α → β → Prop} (h : ∀ a b, R a b → R' a b) : ∀ {as : List α} {bs : List β}, Paired R as bs → Paired R' as bs
  | _, _, .nil => .nil
  | _, _, .cons x t => .cons (h _ _ x) (Paired.imp h t)
theorem Paired.app {α β : Type} {R : α → β → Prop} : ∀ {as cs : List α} {bs ds : List β}, Paired R as bs → Paired R cs ds → Paired R (as ++ cs) (bs ++ ds)
  | _, _, _, _, .nil, h => h
  | _, _, _, _, .cons x t, h => .cons x (Paired.app t h)
theorem call_dictC {X : Cx} {K : PySem.W.Frag} (hK : X.K = K) (hc : X.calm = true) : CallR X (.type "dict") (rDictC K) := by
  subst hK
  intro pins s σ H xs us Q I r q
  obtain ⟨a, ps, kvs, ex, ha, hp, hn, q⟩ := q
  refine call_dictP hc pins s σ H xs us Q I r ⟨a, ps, kvs, ex, SqL.of ha, Paired.imp (fun _ _ h => SqT.of h) hp, ?_⟩
  rw [mergeK_nil hn]; exact q
theorem cK_nodup {c : Coef} (h : (keys c).Nodup) : ((cK c).map (·.1)).Nodup := by
  rw [keys_cK]
  exact List.Pairwise.map _ (fun a b h => fun z => h (Sum.inr.inj z)) h
theorem keys_app (c d : Coef) : keys (c ++ d) = keys c ++ keys d := by unfold keys; rw [List.map_append]
theorem cK_app (c d : Coef) : cK (c ++ d) = cK c ++ cK d := by unfold cK; rw [List.map_append]
/-! a comprehension of pairs of a name and a number -/
def PairAt (H : Hp) (p : Addr) (kv : Str × Int) : Prop := H p = some (.tup [.str kv.1, .int kv.2])
theorem pairs_cK {H : Hp} : ∀ {ps : List Addr} {c : Coef}, Paired (PairAt H) ps c → Paired (fun p kv => H p = some (.tup [kV kv.1, kv.2])) ps (cK c)
  | _, _, .nil => .nil
  | _, _, .cons h t => .cons h (pairs_cK t)
theorem Paired.exo {S : List Addr} {H H' : Hp} (e : Exo S H H') : ∀ {ps : List Addr} {c : Coef}, (∀ p ∈ ps, p ∉ S) → Paired (PairAt H) ps c → Paired (PairAt H') ps c
  | _, _, _, .nil => .nil
  | _, _, n, .cons h t => .cons (e _ _ (n _ (by simp)) h) (Paired.exo e (fun p hp => n p (by simp [hp])) t)
theorem lc_pairs {J : It} {n : Nat} {G : Hp → Prop} {Y : Nat → Hp → V → Hp → Prop} (w : Walk J n G Y) {g : TG} {tt : TT} {te : TE} {vs : List Nat} {σ : L2.St} {H1 : Hp} {Q : VK} (S : List Addr) (M : Nat → Hp → Prop) (Iv : Nat → Coef → Prop) (hn : n ≤ 1000000)
    (hG : ∀ H, Exo S H1 H → G H) (hM : ∀ i H H', (∀ b ∈ S, H' b = H b) → M i H → M i H') (hMS : ∀ i H, M i H → ∀ b ∈ S, H b ≠ none) (m0 : M 0 H1) (i0 : Iv 0 [])
    (hs : ∀ i x H H' c (R : V → Hp → Prop) (R' : Hp → Prop), i < n → Exo S H1 H → M i H → Iv i c → Y i H x H' →
      (∀ p nm z H4, H p = none → Exo S H H4 → M (i + 1) H4 → Iv (i + 1) (c ++ [(nm, z)]) → H4 p = some (.tup [.str nm, .int z]) → R (.ref p) H4) → (∀ H4, Exo S H H4 → M (i + 1) H4 → Iv (i + 1) c → R' H4) →
      g x (wipe σ vs) H' fun σ2 H2 => wipe σ2 vs = wipe σ vs ∧ tt σ2 H2 fun b H3 => if b = true then te σ2 H3 R else R' H3)
    (hd : ∀ D ps c H, H1 D = none → Exo S H1 H → M n H → Iv n c → H D = some (.lst (ps.map V.ref)) → Paired (PairAt H) ps c → Q (.ref D) H) :
    LcB g tt te vs σ Q J H1 := by
  refine lc_gen w S M (fun i acc H => ∃ ps c, acc = ps.map V.ref ∧ Paired (PairAt H) ps c ∧ Iv i c ∧ ∀ p ∈ ps, p ∉ S) hn (hMS 0 _ m0) hG hM ?_ m0 ?_ ?_ ?_
  · rintro i acc H D l0 l hD hN ⟨ps, c, e1, e2, e3, e4⟩
    refine ⟨ps, c, e1, ?_, e3, e4⟩
    have : ∀ {ps : List Addr} {c : Coef}, Paired (PairAt H) ps c → Paired (PairAt (upd H D (.lst l))) ps c := by
      intro ps c h
      refine Paired.imp (fun p kv h => ?_) h
      show upd H D (.lst l) p = _
      rw [upd_ne fun z => by rw [z] at h; rw [show H D = _ from h] at hD; cases hD]
      exact h
    exact this e2
  · intro D hD
    exact ⟨[], [], rfl, .nil, i0, by simp⟩
  · rintro i x H H' acc R R' hi e m ⟨ps, c, rfl, e2, e3, e4⟩ hl y k k'
    refine hs i x H H' c R R' hi e m e3 y (fun p nm z H4 hp e' m' i' h4 => ?_) (fun H4 e' m' i' => k' H4 e' m' ⟨ps, c, rfl, Paired.exo e' e4 e2, i', e4⟩)
    refine k _ _ e' m' ⟨ps ++ [p], c ++ [(nm, z)], by simp, Paired.app (Paired.exo e' e4 e2) (.cons h4 .nil), i', fun q hq => ?_⟩
    rcases List.mem_append.mp hq with hq | hq
    · exact e4 q hq
    · have : q = p := by simpa using hq
      rw [this]
      exact fun z => hMS i H m p z hp
  · rintro D acc H hD e m ⟨ps, c, rfl, e2, e3, e4⟩ hDH hl
    exact hd D ps c H hD e m e3 hDH e2
/-! literals -/
def tLit (K : PySem.W.Frag) (Γ : List (Nat × Dat)) (d : Dat) : TE := fun σ H Q => (∀ p ∈ Γ, ∃ v, σ[p.1]? = some (some v) ∧ SeeF K H v p.2) ∧ ∀ v H', Ex H H' → SeeF K H' v d → Q v H'
def tLits (K : PySem.W.Frag) (Γ : List (Nat × Dat)) (ds : List Dat) : TA := fun σ H Q => (∀ p ∈ Γ, ∃ v, σ[p.1]? = some (some v) ∧ SeeF K H v p.2) ∧ ∀ vs H', Ex H H' → SeeL (FKK K) H' vs ds → Q vs H'
section
variable {X : Cx} {K : PySem.W.Frag} {Γ : List (Nat × Dat)}
theorem PE.lit {e : Expr} {v : V} {d : Dat} (h : PE X e (tC v)) (hs : ∀ H, SeeF K H v d) : PE X e (tLit K Γ d) := ⟨fun pins s σ H Q I q => h.run pins s σ H Q I (q.2 _ _ (Ex.refl _) (hs H))⟩
theorem PE.litV {e : Expr} {i : Nat} {d : Dat} (h : PE X e (tVar i)) (hi : (i, d) ∈ Γ) : PE X e (tLit K Γ d) := ⟨fun pins s σ H Q I q => h.run pins s σ H Q I (by
  obtain ⟨v, h1, h2⟩ := q.1 _ hi
  exact ⟨v, h1, q.2 _ _ (Ex.refl _) h2⟩)⟩
theorem ls_nil : PA X [] (tLits K Γ []) := ⟨fun pos pins s σ H Q I q => pa_nil.run pos pins s σ H Q I (q.2 _ _ (Ex.refl _) .nil)⟩
theorem ls_cons {e : Expr} {es : List Expr} {d : Dat} {ds : List Dat} (h : PE X e (tLit K Γ d)) (hr : PA X es (tLits K Γ ds)) (hs : starEach (e :: es) X.env = (false, eval e X.env) :: starEach es X.env := by rfl) : PA X (e :: es) (tLits K Γ (d :: ds)) :=
  ⟨fun pos pins s σ H Q I q => (pa_cons h hr hs).run pos pins s σ H Q I ⟨q.1, fun v H1 e1 s1 => ⟨fun p hp => by
    obtain ⟨v, h1, h2⟩ := q.1 p hp
    exact ⟨v, h1, h2.mono e1⟩, fun vs H2 e2 s2 => q.2 _ _ (e1.trans e2) (.cons (s1.mono e2) s2)⟩⟩⟩
theorem big15 (n : Nat) (h : n ≤ 1000000) : n ≤ sizeLine := by rw [sizeLine_eq]; omega
theorem lt_tup {es : List Expr} {ds : List Dat} {x1} {pos : Pos} (h : PA X es (tLits K Γ ds)) (hn : ds.length ≤ 1000000 := by decide) : PE X (.Tuple es x1 pos) (tLit K Γ (.tup ds)) :=
  ⟨fun pins s σ H Q I q => (pe_tup h).run pins s σ H Q I ⟨q.1, fun vs H1 e1 s1 => ⟨by rw [s1.len]; exact big15 _ hn, fun p hp => q.2 _ _ (e1.mut (e1.free hp)) (.tup upd_same (SeeL.mono (Ex.new hp) s1))⟩⟩⟩
theorem lt_lst {es : List Expr} {ds : List Dat} {pos : Pos} (h : PA X es (tLits K Γ ds)) (hn : ds.length ≤ 1000000 := by decide) : PE X (.List es pos) (tLit K Γ (.lst ds)) :=
  ⟨fun pins s σ H Q I q => (pe_lst h).run pins s σ H Q I ⟨q.1, fun vs H1 e1 s1 => ⟨by rw [s1.len]; exact big15 _ hn, fun p hp => q.2 _ _ (e1.mut (e1.free hp)) (.lst upd_same (SeeL.mono (Ex.new hp) s1))⟩⟩⟩
theorem lt_dnil {pos : Pos} : PE X (.Dict [] [] pos) (tLit K Γ (.dct [])) := ⟨fun pins s σ H Q I q => pe_dnewK.run pins s σ H Q I (fun p hp => q.2 _ _ (Ex.new hp) (.dct upd_same .nil))⟩
/-- a dict written with one key -/
theorem lt_d1 {pos : Pos} {k e : Expr} {key : Key} {v : V} {d : Dat} (hk : PE X k (tC (kV key))) (hv : PE X e (tC v)) (hs : ∀ H, SeeF K H v d) : PE X (.Dict [some k] [e] pos) (tLit K Γ (.dct [(key, d)])) := by
  refine ⟨fun pins s σ H Q I q => (pe_disp (pps_cons hk hv pps_nil) rfl rfl (by simp) (by simp)).run pins s σ H Q I ?_⟩
  intro p hp
  refine ⟨upd_same, [(key, v)], rfl, by simp, q.2 _ _ ((Ex.new hp).mut hp) (.dct upd_same (.cons (hs _) .nil))⟩
end
end K8

set_option Elab.async false
set_option linter.all false
set_option maxRecDepth 100000
set_option maxHeartbeats 4000000
namespace K8
open PySem PySem.Spec PyProof.Rows L2 M8
/-! what a term comes to, whether a test is so -/
def worth (c : Coef) (k : Int) (cn : Coef) : Int := k + ((c.filter fun p => decide (p.2 ≠ 0)).map fun p => p.2 * co cn p.1).sum
def so (cn : Coef) : Tst → Bool
  | .row c k => decide (0 ≤ worth c k cn)
  | .same c k => decide (worth c k cn = 0)
  | .div m c k => decide (worth c k cn % m = 0)
def PairT (H : Hp) (t d : Addr) (c : Coef) (k : Int) : Prop := H t = some (.tup [.ref d, .int k]) ∧ H d = some (.dK (cK c))
def TAt (H : Hp) (q t d : Addr) : Tst → Prop
  | .row c k => H q = some (.tup [.str "row", .ref t]) ∧ PairT H t d c k
  | .same c k => H q = some (.tup [.str "same", .ref t]) ∧ PairT H t d c k
  | .div m c k => H q = some (.tup [.str "by", .int m, .ref t]) ∧ PairT H t d c k
section
variable {P : Program} {w : World} {K : PySem.W.Frag} {mg : Str → Option Value} {base : Heap}
def spWorth : Sp := fun vs H Q _ => ∃ p d nd c k cn, vs = [.ref p, .ref nd] ∧ PairT H p d c k ∧ H nd = some (.dK (cK cn)) ∧ nd ≠ d ∧ Few c ∧ Lim c ∧ (keys cn).Nodup ∧ (∀ p ∈ c, p.2 ≠ 0 → p.1 ∈ keys cn) ∧ ∀ H', Ex H H' → Q (.int (worth c k cn)) H'
def spIsSo : Sp := fun vs H Q _ => ∃ q t d nd ts cn, vs = [.ref q, .ref nd] ∧ TAt H q t d ts ∧ H nd = some (.dK (cK cn)) ∧ nd ≠ d ∧ Few (coef ts) ∧ Lim (coef ts) ∧ mOk ts ∧ (keys cn).Nodup ∧ (∀ p ∈ coef ts, p.2 ≠ 0 → p.1 ∈ keys cn) ∧ ∀ H', Ex H H' → Q (.bl (so cn ts)) H'
end
end K8

set_option Elab.async false
set_option linter.all false
set_option maxRecDepth 100000
set_option maxHeartbeats 4000000
namespace K8
open PySem PySem.Spec PyProof.Rows L2 M8
def NewP (H H' : Hp) (t d : Addr) (c : Coef) (k : Int) : Prop := H t = none ∧ H d = none ∧ PairT H' t d c k
def spToldL : Sp := fun vs H Q _ => ∃ v c k, vs = [v] ∧ TermAt H v c k ∧ Few c ∧ ∀ t d H', Ex H H' → NewP H H' t d (canon c) k → Q (.ref t) H'
section
variable {P : Program} {w : World} {K : PySem.W.Frag} {mg : Str → Option Value} {base : Heap}
noncomputable def canonT : Tst → Tst | .row c k => .row (canon c) k | .same c k => .same (canon c) k | .div m c k => .div m (canon c) k
def NewA (H H' : Hp) (q t d : Addr) (ts : Tst) : Prop := H q = none ∧ H t = none ∧ H d = none ∧ TAt H' q t d ts
def spBodyTold : Sp := fun vs H Q _ => ∃ q t d ts, vs = [.ref q] ∧ TAt H q t d ts ∧ Few (coef ts) ∧ ∀ q' t' d' H', Ex H H' → NewA H H' q' t' d' (canonT ts) → Q (.ref q') H'
end
end K8

set_option Elab.async false
set_option linter.all false
set_option maxRecDepth 100000
set_option maxHeartbeats 4000000
namespace K8
open PySem PySem.Spec PyProof.Rows L2 M8
/-! list(d.values()) -/
def tListVals (te : TE) : TE := fun σ H Q => te σ H fun x H1 => ∃ (d : Addr) (kvs : List (Key × V)), x = .ref d ∧ H1 d = some (.dK kvs) ∧ ∀ p, H1 p = none → Q (.ref p) (upd H1 p (.lst (kvs.map (·.2))))
section
variable {X : Cx} {e : Expr} {te : TE} {p apos cpos pos : Pos}
theorem vals_snd : ∀ {kvs : List (Key × V)} {vs : List (Key × Value)}, KV kvs vs → Vals (kvs.map (·.2)) (vs.map (·.2)) := by
  intro kvs vs r
  unfold KV at r
  induction r with
  | nil => exact .nil
  | cons h t ih => exact .cons h.2 ih
theorem pe_listValues (hc : X.calm = true) (he : PE X e te) (hg : Gl X "list") (hm : X.mg "list" = none) (hv : bootBuiltins "list" = some (.type "list")) (hbase : attributeBase e "values" X.env (eval e X.env) = eval e X.env := by rfl) (hline : (apos.endLine == cpos.line) = true := by rfl)
    (hs : starEach [.Call (.Attribute e "values" apos) [] [] cpos] X.env = (false, eval (.Call (.Attribute e "values" apos) [] [] cpos) X.env) :: starEach [] X.env := by rfl) :
    PE X (.Call (.Name "list" p) [.Call (.Attribute e "values" apos) [] [] cpos] [] pos) (tListVals te) := by
  refine ⟨fun pins s σ H Q I hq => ?_⟩
  refine wpAny_Call_Name_kw (ld_blt I hg hm hv ?_)
  refine PyProof.Rows.callWith_type1 ?_ hs rfl
  rw [hs]
  show wpAny _ _ (spliced ((false, eval (.Call (.Attribute e "values" apos) [] [] cpos) X.env) :: backTo pos (starEach [] X.env))) _ _ s
  refine Calls.spliced_cons ?_
  refine wpAny_Call_method (T := "dict") (id := "dict.values") hbase rfl hline F.plainAttrs_dict F.slot_dict_values F.type_dict_values (thn (he.run pins s σ H _ I hq) fun u s1 ⟨x, H1, I1, rx, d, kvs, ex, hd, q⟩ => ?_)
  subst ex
  obtain rfl : u = Value.ref d := rx
  obtain ⟨hz, hs0, vs, kv, hdo⟩ := I1.hok d _ hd
  obtain ⟨ep, hat⟩ := hdo.dictAt
  have lk : kvs.length = vs.length := Paired.length kv
  have I2 : Inv X pins σ H1 { s1 with heap := s1.heap.push { cls := .type "dict_values", data := .fields #[.ref d] } } := I1.kept (t' := s1.toks) fun b ob q => Heap.get?_push_of_some _ q
  refine ⟨hdo.typeIs, hdo.mapOf.noDict, ?_⟩
  show wpAny _ _ (callWith cpos (.builtin "dict.values") [.ref d] [] []) _ X.xe s1
  refine method_meetsIn F.slot_dict_values F.entry_dict_values rfl (PySem.evalArgs_none ⟨rfl, hdo.typeIs, F.args_dict_values_1 _, _, meets_dict_values (mixKind X.prog X.w) d hs0, ⟨vs, hdo⟩, ?_⟩)
  refine Calls.spliced_nil ?_
  refine PySem.W.kdl_call (PySem.W.kdl_values (knd := mixKind X.prog X.w) (kvs := vs) (ep := ep)) (I1.ok.hd hc) ⟨⟨_, Heap.get?_push_size _ rfl, rfl, rfl⟩, hat.push _⟩ (by omega) fun h' tk acc c' hk hD hacc => ?_
  have hva : acc.toList = vs.map (·.2) := PySem.W.kdl_vals_eq _ (by rw [Array.length_toList]; exact hacc.1) fun j v e => hacc.2 j v (by rw [← Array.getElem?_toList]; exact e)
  refine ⟨.ref _, _, I2.laid (t' := tk) (o := .lst (kvs.map (·.2))) hk (Nat.le_refl _) (show ObjOk X.prog X.w _ _ _ (.lst (kvs.map (·.2))) from ⟨by rw [List.length_map]; exact hz, acc.toList, c', by rw [hva]; exact vals_snd kv, by rw [Array.toArray_toList]; exact hD⟩), rfl, q _ (I2.hok.fresh (Nat.le_refl _))⟩
/-- d == {} -/
def rEq0 : R2 := fun x y H Q => ∃ a b ks, x = .ref a ∧ y = .ref b ∧ H a = some (.dK ks) ∧ H b = some (.dK []) ∧ Q (.bl ks.isEmpty) H
theorem op_eq0 (hu : X.A.units + 1 < cLine) : OpR X (compareOp .Eq) rEq0 := by
  intro pins s σ H x y v u Q I rx ry h
  obtain ⟨a, b, ks, rfl, rfl, ea, eb, q⟩ := h
  obtain rfl : v = Value.ref a := rx
  obtain rfl : u = Value.ref b := ry
  obtain ⟨_, ya, va, ra, da⟩ := (show ObjOk X.prog X.w H s.heap a (.dK ks) from I.hok a _ ea)
  obtain ⟨_, yb, vb, rb, db⟩ := (show ObjOk X.prog X.w H s.heap b (.dK []) from I.hok b _ eb)
  have hla : ks.length = va.length := ra.length
  have hlb : 0 = vb.length := rb.length
  refine PySem.W.keq_eq (knd := mixKind X.prog X.w) (r := true) ya yb da db (by omega) (fun hl => ?_) (fin_bl I q ?_)
  · have hk : ks = [] := List.eq_nil_of_length_eq_zero (by omega)
    subst hk
    exact hits_all rb ra (by simp)
  · cases ks with
    | nil => simp at hla; simp [← hla, ← hlb]
    | cons p t =>
      have : va.length ≠ vb.length := by simp at hla; omega
      simp [this]
end
/-! pairs of a dict's own names, made into a dict -/
theorem lp_lock {H : Hp} {d : Addr} {c : Coef} {td te : TE} {tt : TT} {j : Nat} {vs : List Nat} {σ : L2.St} {Q : VK} (f : Str × Int → Int) (kp : Str × Int → Bool) (hd : H d = some (.dK (cK c))) (few : Few c)
    (htd : ∀ (H2 : Hp) (R : V → Hp → Prop), (∀ b o, b ≠ d → H b = some o → H2 b = some o) → R (.ref d) H2 → td σ H2 R) (hj : (wipe σ vs)[j]? ≠ none) (hw : ∀ x, wipe ((wipe σ vs).set j (some x)) vs = wipe σ vs)
    (hv : ∀ (n : Str) (z : Int) (H2 : Hp) (od : Obj) (R : V → Hp → Prop) (R' : Hp → Prop), (n, z) ∈ c → H2 d = some (.frz od (.dK (cK c))) → (∀ b o, b ≠ d → H b = some o → H2 b = some o) →
      (kp (n, z) = true → ∀ p H4, H2 p = none → Ex H2 H4 → H4 p = some (.tup [.str n, .int (f (n, z))]) → R (.ref p) H4) → (kp (n, z) = false → ∀ H4, Ex H2 H4 → R' H4) →
      tt ((wipe σ vs).set j (some (.str n))) H2 fun b H3 => if b = true then te ((wipe σ vs).set j (some (.str n))) H3 R else R' H3)
    (hq : ∀ D ps H', H D = none → Ex H H' → H' D = some (.lst (ps.map V.ref)) → Paired (PairAt H') ps ((c.filter kp).map fun p => (p.1, f p)) → Q (.ref D) H') :
    tLockE (tLc (iKeys td) (gName j) tt te vs) σ H Q := by
  refine ⟨d, _, hd, trivial, fun od => ?_⟩
  refine tLc_of ?_
  have out : ∀ H2 : Hp, Ex (upd H d (.frz od (.dK (cK c)))) H2 → ∀ b o, b ≠ d → H b = some o → H2 b = some o := fun H2 e b o hb h => e b o (by rw [upd_ne hb]; exact h)
  refine htd _ _ (fun b o hb h => by rw [upd_ne hb]; exact h) ⟨d, od, rfl, .inl ⟨_, upd_same, ?_⟩⟩
  have hl : (cK c).length = c.length := cK_len c
  refine lc_pairs walk_keys [] (fun _ _ => True) (fun i c' => c' = ((c.take i).filter kp).map fun p => (p.1, f p)) (by have := few.len; omega) (fun H1 e => e.ex _ _ upd_same) (fun _ _ _ _ _ => trivial) (fun _ _ _ b hb => by simp at hb) trivial rfl ?_ ?_
  · rintro i x H1 H2 c' R R' hi e _ rfl ⟨rfl, k', z, hkz, rfl⟩ k1 k2
    have hci : i < c.length := by omega
    obtain ⟨⟨n, y⟩, hcy⟩ : ∃ p : Str × Int, c[i]? = some p := ⟨c[i], List.getElem?_eq_getElem hci⟩
    rw [get_cK hcy] at hkz
    cases hkz
    have ht : c.take (i + 1) = c.take i ++ [(n, y)] := by rw [List.take_add_one, hcy]; rfl
    have hjl : j < (wipe σ vs).length := Decidable.byContradiction fun q => hj (List.getElem?_eq_none (by omega))
    refine ⟨hw _, hv n y H2 od R R' (List.mem_of_getElem? hcy) (e.ex _ _ upd_same) (out _ e.ex) (fun hk p H4 hp e4 h4 => ?_) (fun hk H4 e4 => ?_)⟩
    · refine k1 p n (f (n, y)) H4 hp (e4.exo _) trivial ?_ h4
      rw [ht, List.filter_append, List.map_append, List.filter_cons, if_pos hk]; rfl
    · refine k2 H4 (e4.exo _) trivial ?_
      rw [ht, List.filter_append, List.filter_cons, if_neg (by rw [hk]; simp)]; simp
  · rintro D ps c' H1 hD e _ rfl hDH hp
    have hx := e.ex _ _ upd_same
    have hDd : D ≠ d := fun z => by rw [z, upd_same] at hD; cases hD
    have ht : c.take (cK c).length = c := List.take_of_length_le (by omega)
    rw [ht] at hp
    refine ⟨hx, hq D ps _ (by rw [upd_ne hDd] at hD; exact hD) (e.ex.unlock hd) (by rw [upd_ne hDd]; exact hDH) (Paired.imp (fun p kv h => ?_) hp)⟩
    show upd H1 d _ p = _
    rw [upd_ne fun z => by rw [z] at h; rw [show H1 d = _ from h] at hx; cases hx]
    exact h
theorem keys_fm {c : Coef} {f : Str × Int → Int} {kp : Str × Int → Bool} (h : (keys c).Nodup) : (keys ((c.filter kp).map fun p => (p.1, f p))).Nodup := by
  unfold keys
  rw [List.map_map]
  exact h.sublist (List.filter_sublist.map _)
theorem dp_lock {K : PySem.W.Frag} {H : Hp} {d : Addr} {c : Coef} {td te : TE} {tt : TT} {j : Nat} {vs : List Nat} {σ : L2.St} {Q : VK} (f : Str × Int → Int) (kp : Str × Int → Bool) (hd : H d = some (.dK (cK c))) (few : Few c)
    (htd : ∀ (H2 : Hp) (R : V → Hp → Prop), (∀ b o, b ≠ d → H b = some o → H2 b = some o) → R (.ref d) H2 → td σ H2 R) (hj : (wipe σ vs)[j]? ≠ none) (hw : ∀ x, wipe ((wipe σ vs).set j (some x)) vs = wipe σ vs)
    (hv : ∀ (n : Str) (z : Int) (H2 : Hp) (od : Obj) (R : V → Hp → Prop) (R' : Hp → Prop), (n, z) ∈ c → H2 d = some (.frz od (.dK (cK c))) → (∀ b o, b ≠ d → H b = some o → H2 b = some o) →
      (kp (n, z) = true → ∀ p H4, H2 p = none → Ex H2 H4 → H4 p = some (.tup [.str n, .int (f (n, z))]) → R (.ref p) H4) → (kp (n, z) = false → ∀ H4, Ex H2 H4 → R' H4) →
      tt ((wipe σ vs).set j (some (.str n))) H2 fun b H3 => if b = true then te ((wipe σ vs).set j (some (.str n))) H3 R else R' H3)
    (hq : ∀ p H', H p = none → Ex H H' → H' p = some (.dK (cK ((c.filter kp).map fun p => (p.1, f p)))) → Q (.ref p) H') :
    tCB (rDictC K) (tCons (tLockE (tLc (iKeys td) (gName j) tt te vs)) tNil) σ H Q := by
  refine lp_lock f kp hd few htd hj hw hv fun D ps H' hD e hDH hp => ?_
  refine ⟨D, ps, _, rfl, hDH, pairs_cK hp, cK_nodup (keys_fm few.nd), fun r hr => hq r _ (e.free hr) (e.mut (e.free hr)) upd_same⟩
/-- the whole dict's pairs -/
theorem yesK {σ : L2.St} {H : Hp} {A : Hp → Prop} {B : Hp → Prop} (h : A H) : tYes σ H (fun b H3 => if b = true then A H3 else B H3) := yesT h
theorem filt_all (c : Coef) (f : Str × Int → Int) : ((c.filter fun _ => true).map fun p => (p.1, f p)) = c.map fun p => (p.1, f p) := by rw [List.filter_eq_self.mpr (by simp)]
end K8

set_option Elab.async false
set_option linter.all false
set_option maxRecDepth 100000
set_option maxHeartbeats 4000000
namespace K8
open PySem PySem.Spec PyProof.Rows L2 M8
/-! the law hands a thing over: other lists, other order, one more coefficient 0 -/
def Hnd0 (d d' : Dat) : Prop := match d with
  | .dct _ => ∃ c c', d = .dct (cD c) ∧ d' = .dct (cD c') ∧ (c'.Perm c ∨ c'.Perm (c ++ [(("zero0" : Str), (0 : Int))]))
  | _ => d' = d
inductive Pair2 {α : Type} (R : α → α → Prop) : List α → List α → Prop
  | nil : Pair2 R [] []
  | cons {x y : α} {xs ys : List α} : R x y → Pair2 R xs ys → Pair2 R (x :: xs) (y :: ys)
theorem Pair2.snoc {α : Type} {R : α → α → Prop} : ∀ {xs ys : List α} {x y : α}, Pair2 R xs ys → R x y → Pair2 R (xs ++ [x]) (ys ++ [y])
  | _, _, _, _, .nil, h => .cons h .nil
  | _, _, _, _, .cons a t, h => .cons a (Pair2.snoc t h)
/-- one level more -/
def HndS (R : Dat → Dat → Prop) (d d' : Dat) : Prop := match d with
  | .lst ds => isSq d' = true ∧ Pair2 R ds (items d')
  | .tup ds => isSq d' = true ∧ Pair2 R ds (items d')
  | d => Hnd0 d d'
def Pre0 : Dat → Prop
  | .dct kds => ∃ c, kds = cD c ∧ c.length ≤ 4 ∧ (keys c).Nodup ∧ ("zero0" : Str) ∉ keys c
  | .lst _ => False | .tup _ => False | .fn _ => False
  | _ => True
def PreS (G : Dat → Prop) : Dat → Prop
  | .lst ds => ds.length ≤ 4 ∧ ∀ d ∈ ds, G d
  | .tup ds => ds.length ≤ 4 ∧ ∀ d ∈ ds, G d
  | d => Pre0 d
def sansL (N : List Addr) (H : Hp) : Hp := fun b => if b ∈ N then none else H b
theorem sansL_ex (N : List Addr) (H : Hp) : Ex (sansL N H) H := fun b o h => by
  unfold sansL at h
  split at h
  · cases h
  · exact h
theorem sansL_at {N : List Addr} {H : Hp} {b : Addr} {o : HO} (n : b ∉ N) (h : H b = some o) : sansL N H b = some o := by
  unfold sansL; rw [if_neg n]; exact h
theorem sansL_mono {N N' : List Addr} {H H' : Hp} (e : ∀ b o, b ∉ N → H b = some o → b ∉ N' ∧ H' b = some o) : Ex (sansL N H) (sansL N' H') := fun b o h => by
  unfold sansL at h
  split at h
  · cases h
  · rename_i n
    exact sansL_at (e b o n h).1 (e b o n h).2
theorem pi_lt {X : Cx} {tg e : Expr} {t : TE} (h : PE X e t) : PI X tg e (fun σ H R => iList X.K t σ H R ∨ iTup X.K t σ H R) :=
  ⟨fun pins s σ H R I q => q.elim (fun q => (pi_list h).run pins s σ H R I q) (fun q => (pi_tup h).run pins s σ H R I q)⟩
theorem lc_genD {J : It} {n : Nat} {G : Hp → Prop} {Y : Nat → Hp → V → Hp → Prop} (w : Walk J n G Y) {g : TG} {tt : TT} {te : TE} {vs : List Nat} {σ : L2.St} {H1 : Hp} {Q : VK} (S : List Addr) (M : Nat → Hp → Prop) (A : Addr → Nat → List V → Hp → Prop) (hn : n ≤ 1000000) (hS : ∀ b ∈ S, H1 b ≠ none)
    (hG : ∀ H, Exo S H1 H → G H) (hM : ∀ i H H', (∀ b ∈ S, H' b = H b) → M i H → M i H')
    (hA : ∀ i acc H D l0 l, H D = some (.lst l0) → H1 D = none → A D i acc H → A D i acc (upd H D (.lst l))) (m0 : M 0 H1) (a0 : ∀ D, H1 D = none → A D 0 [] (upd H1 D (.lst [])))
    (hs : ∀ i x H H' D acc (R : V → Hp → Prop) (R' : Hp → Prop), i < n → Exo S H1 H → M i H → H1 D = none → H D = some (.lst acc) → A D i acc H → acc.length ≤ i → Y i H x H' →
      (∀ y H4, Exo S H H4 → M (i + 1) H4 → A D (i + 1) (acc ++ [y]) H4 → R y H4) → (∀ H4, Exo S H H4 → M (i + 1) H4 → A D (i + 1) acc H4 → R' H4) →
      g x (wipe σ vs) H' fun σ2 H2 => wipe σ2 vs = wipe σ vs ∧ tt σ2 H2 fun b H3 => if b = true then te σ2 H3 R else R' H3)
    (hd : ∀ D acc H, H1 D = none → Exo S H1 H → M n H → A D n acc H → H D = some (.lst acc) → acc.length ≤ n → Q (.ref D) H) :
    LcB g tt te vs σ Q J H1 := by
  intro D hD
  have nS : D ∉ S := fun z => hS D z hD
  have sl : (1000000 : Nat) < sizeLine := by rw [sizeLine_eq]; decide
  refine lc_it w (fun i H => Exo S H1 H ∧ M i H ∧ ∃ acc, H D = some (.lst acc) ∧ acc.length ≤ i ∧ A D i acc H) ⟨(Exo.refl S H1).mut hD, hM 0 _ _ (fun b hb => upd_ne fun z => nS (z ▸ hb)) m0, [], upd_same, Nat.le_refl _, a0 D hD⟩ (fun i H _ p => hG H p.1) ?_ ?_
  · rintro i x H H' hi ⟨e, m, acc, hDH, hl, a⟩ y
    refine hs i x H H' D acc _ _ hi e m hD hDH a hl y (fun z H4 e4 m4 a4 => ?_) (fun H4 e4 m4 a4 => ?_)
    · have h4 := e4 D _ nS hDH
      refine ⟨acc, h4, by omega, (e.trans e4).mut hD, hM _ _ _ (fun b hb => upd_ne fun q => nS (q ▸ hb)) m4, _, upd_same, by rw [List.length_append]; simp; omega, hA _ _ _ _ _ _ h4 hD a4⟩
    · exact ⟨e.trans e4, m4, acc, e4 D _ nS hDH, by omega, a4⟩
  · rintro H ⟨e, m, acc, hDH, hl, a⟩
    exact hd D acc H hD e m a hDH hl
theorem paired_perm {α β : Type} {R : α → β → Prop} {us ts : List α} (p : us.Perm ts) : ∀ {cs : List β}, Paired R ts cs → ∃ cs', cs'.Perm cs ∧ Paired R us cs' := by
  induction p with
  | nil => intro cs h; exact ⟨cs, .refl _, h⟩
  | cons x p ih =>
    intro cs h
    cases h with
    | cons h t =>
      obtain ⟨cs', p', h'⟩ := ih t
      exact ⟨_, p'.cons _, .cons h h'⟩
  | swap x y l =>
    intro cs h
    cases h with
    | cons h t =>
      cases t with
      | cons h2 t => exact ⟨_, .swap _ _ _, .cons h2 (.cons h t)⟩
  | trans p1 p2 ih1 ih2 =>
    intro cs h
    obtain ⟨c1, q1, h1⟩ := ih2 h
    obtain ⟨c2, q2, h2⟩ := ih1 h1
    exact ⟨c2, q2.trans q1, h2⟩
def unR : V → Addr | .ref a => a | _ => 0
theorem perm_refs {ys : List V} {ts : List Addr} (h : ys.Perm (ts.map V.ref)) : ∃ us : List Addr, ys = us.map V.ref ∧ us.Perm ts := by
  refine ⟨ys.map unR, ?_, ?_⟩
  · rw [List.map_map]
    have : ∀ y ∈ ys, (V.ref ∘ unR) y = y := fun y hy => by
      obtain ⟨n, _, rfl⟩ := List.mem_map.mp (h.mem_iff.mp hy); rfl
    rw [List.map_congr_left this, List.map_id']
  · have := h.map unR
    rwa [List.map_map, show (unR ∘ V.ref) = id from rfl, List.map_id] at this
theorem keys_perm {c c' : Coef} (h : c'.Perm c) : (keys c').Perm (keys c) := h.map _
theorem cK_perm {kvs : List (Key × V)} {c : Coef} (h : kvs.Perm (cK c)) : ∃ c', kvs = cK c' ∧ c'.Perm c := by
  let un : Key × V → Str × Int := fun p => (match p.1 with | .inr s => s | .inl _ => "", match p.2 with | .int i => i | _ => 0)
  have hu : ∀ d : Coef, (cK d).map un = d := fun d => by
    unfold cK; rw [List.map_map]
    exact List.map_id'' (fun _ => rfl) d
  refine ⟨kvs.map un, ?_, ?_⟩
  · unfold cK; rw [List.map_map]
    have : ∀ y ∈ kvs, ((fun p : Str × Int => ((Sum.inr p.1, V.int p.2) : Key × V)) ∘ un) y = y := fun y hy => by
      have := h.mem_iff.mp hy
      unfold cK at this
      obtain ⟨n, _, rfl⟩ := List.mem_map.mp this; rfl
    rw [List.map_congr_left this, List.map_id']
  · have := h.map un
    rwa [hu] at this
end K8

set_option Elab.async false
set_option linter.all false
set_option maxRecDepth 100000
set_option maxHeartbeats 4000000
namespace K8
open PySem PySem.Spec PyProof.Rows L2 M8
/-! sums do not mind the order -/
theorem sum_perm {l m : List Int} (h : l.Perm m) : l.sum = m.sum := by
  induction h with
  | nil => rfl
  | cons x _ ih => rw [List.sum_cons, List.sum_cons, ih]
  | swap x y l => rw [List.sum_cons, List.sum_cons, List.sum_cons, List.sum_cons]; omega
  | trans _ _ a b => rw [a, b]
def lin (c : Coef) (cn : Coef) : Int := (c.map fun p => p.2 * co cn p.1).sum
theorem worth_lin (c : Coef) (k : Int) (cn : Coef) : worth c k cn = k + lin c cn := by
  unfold worth lin
  congr 1
  induction c with
  | nil => rfl
  | cons p c ih =>
    by_cases h : p.2 = 0
    · rw [List.filter_cons, if_neg (by simpa using h), List.map_cons, List.sum_cons, ih, h]; simp
    · rw [List.filter_cons, if_pos (by simpa using h), List.map_cons, List.map_cons, List.sum_cons, List.sum_cons, ih]
theorem canon_perm {c : Coef} (h : (keys c).Nodup) : (canon c).Perm (c.filter fun p => decide (p.2 ≠ 0)) := by
  have e : (c.filter fun p => decide (p.2 ≠ 0)) = ((c.filter fun p => decide (p.2 ≠ 0)).map (·.1)).map fun n => (n, co c n) := by
    rw [List.map_map]
    conv => lhs; rw [← List.map_id (c.filter fun p => decide (p.2 ≠ 0))]
    refine List.map_congr_left fun p hp => ?_
    have hm := (List.mem_filter.mp hp).1
    show p = (p.1, co c p.1)
    rw [co_of_mem (n := p.1) (i := p.2) h hm]
  rw [e]
  unfold canon nz
  exact (srt_perm _).map _
theorem lin_canon {c : Coef} (h : (keys c).Nodup) (cn : Coef) : lin (canon c) cn = lin c cn := by
  have h1 : lin (canon c) cn = ((c.filter fun p => decide (p.2 ≠ 0)).map fun p => p.2 * co cn p.1).sum := sum_perm ((canon_perm h).map _)
  rw [h1]
  have := worth_lin c 0 cn
  unfold worth at this
  omega
theorem so_canon {ts : Tst} (h : (keys (coef ts)).Nodup) (cn : Coef) : so cn (canonT ts) = so cn ts := by
  cases ts with
  | row c k => show decide (0 ≤ worth (canon c) k cn) = decide (0 ≤ worth c k cn); rw [worth_lin, worth_lin, lin_canon (c := c) h]
  | same c k => show decide (worth (canon c) k cn = 0) = decide (worth c k cn = 0); rw [worth_lin, worth_lin, lin_canon (c := c) h]
  | div m c k => show decide (worth (canon c) k cn % m = 0) = decide (worth c k cn % m = 0); rw [worth_lin, worth_lin, lin_canon (c := c) h]
theorem lin_mul (g : Int) (c cn : Coef) : lin (mapc (fun i => g * i) c) cn = g * lin c cn := by
  unfold lin mapc
  induction c with
  | nil => simp
  | cons p c ih =>
    simp only [List.map_cons, List.sum_cons] at ih ⊢
    rw [ih, Int.mul_add, Int.mul_assoc]

/-! ### bodies -/
inductive Bd where
  | t (ts : Tst) | neg (b : Bd) | grp (w : Bool) (bs : List Bd)
def kw (w : Bool) : Str := if w = true then "all" else "any"
/-- what a test comes to without its "not": told coefficients -/
noncomputable def rowN (c : Coef) (k : Int) : Bd := .t (.row (mapc (fun i => 0 - i) (canon c)) (0 - k - 1))
noncomputable def denT : Tst → Bd
  | .row c k => rowN c k
  | .same c k => .grp false [.t (.row (canon c) (k - 1)), rowN c k]
  | .div m c k => .grp false ((List.range (m - 1).toNat).map fun (r : Nat) => .t (.div m (canon c) (k - ((r : Int) + 1))))
mutual
noncomputable def plainB (w : Bool) : Bd → Bd
  | .t ts => if w = true then .t (canonT ts) else denT ts
  | .neg b => plainB (!w) b
  | .grp k bs => .grp (k == w) (plainL w bs)
noncomputable def plainL (w : Bool) : List Bd → List Bd
  | [] => []
  | b :: bs => plainB w b :: plainL w bs
end
theorem plainL_map (w : Bool) : ∀ bs : List Bd, plainL w bs = bs.map (plainB w)
  | [] => by rw [plainL]; rfl
  | b :: bs => by rw [plainL, plainL_map w bs]; rfl
mutual
def soB (cn : Coef) : Bd → Bool
  | .t ts => so cn ts
  | .neg b => !soB cn b
  | .grp true bs => soAll cn bs
  | .grp false bs => soAny cn bs
def soAll (cn : Coef) : List Bd → Bool
  | [] => true
  | b :: bs => soB cn b && soAll cn bs
def soAny (cn : Coef) : List Bd → Bool
  | [] => false
  | b :: bs => soB cn b || soAny cn bs
end
theorem soAll_map (cn : Coef) : ∀ bs : List Bd, soAll cn bs = bs.all (soB cn)
  | [] => by rw [soAll]; rfl
  | b :: bs => by rw [soAll, soAll_map cn bs]; rfl
theorem soAny_map (cn : Coef) : ∀ bs : List Bd, soAny cn bs = bs.any (soB cn)
  | [] => by rw [soAny]; rfl
  | b :: bs => by rw [soAny, soAny_map cn bs]; rfl
/-- a body at most n deep, all of whose tests are as p says -/
def AllT (p : Tst → Prop) : Nat → Bd → Prop
  | 0, b => match b with | .t ts => p ts | _ => False
  | n + 1, b => match b with | .t ts => p ts | .neg b => AllT p n b | .grp _ bs => bs.length ≤ 60 ∧ ∀ b ∈ bs, AllT p n b
theorem AllT.tst {p : Tst → Prop} {n : Nat} {ts : Tst} : AllT p n (.t ts) ↔ p ts := by cases n <;> exact Iff.rfl
theorem AllT.imp {p q : Tst → Prop} (h : ∀ ts, p ts → q ts) : ∀ {n : Nat} {b : Bd}, AllT p n b → AllT q n b
  | 0, .t _, x => h _ x
  | 0, .neg _, x => x.elim
  | 0, .grp _ _, x => x.elim
  | _ + 1, .t _, x => h _ x
  | n + 1, .neg b, x => AllT.imp h (n := n) (b := b) x
  | n + 1, .grp _ bs, x => ⟨x.1, fun b hb => AllT.imp h (n := n) (x.2 b hb)⟩
theorem AllT.up {p : Tst → Prop} : ∀ {n m : Nat} {b : Bd}, n ≤ m → AllT p n b → AllT p m b
  | n, m, .t _, _, x => AllT.tst.mpr (AllT.tst.mp x)
  | 0, _, .neg _, _, x => x.elim
  | 0, _, .grp _ _, _, x => x.elim
  | n + 1, 0, .neg _, l, _ => absurd l (by omega)
  | n + 1, 0, .grp _ _, l, _ => absurd l (by omega)
  | n + 1, m + 1, .neg b, l, x => AllT.up (n := n) (m := m) (b := b) (by omega) x
  | n + 1, m + 1, .grp _ bs, l, x => ⟨x.1, fun b hb => AllT.up (n := n) (m := m) (by omega) (x.2 b hb)⟩
/-! just one of a body and its denied one is so -/
theorem lin_neg (c cn : Coef) : lin (mapc (fun i => 0 - i) c) cn = 0 - lin c cn := by
  have := lin_mul (-1) c cn
  have e : mapc (fun i => -1 * i) c = mapc (fun i => 0 - i) c := mapc_congr fun p _ => by omega
  rw [e] at this; omega
theorem so_rowN {c : Coef} (h : (keys c).Nodup) (k : Int) (cn : Coef) : soB cn (rowN c k) = !so cn (.row c k) := by
  show decide (0 ≤ worth (mapc (fun i => 0 - i) (canon c)) (0 - k - 1) cn) = !decide (0 ≤ worth c k cn)
  rw [worth_lin, worth_lin, lin_neg, lin_canon h, ← decide_not]
  exact decide_eq_decide.mpr (by omega)
theorem any_div {m x : Int} (hm : 0 < m) : ((List.range (m - 1).toNat).any fun r => decide ((x - ((r : Int) + 1)) % m = 0)) = !decide (x % m = 0) := by
  rw [← decide_not]
  have h0 := Int.emod_nonneg x (Int.ne_of_gt hm)
  have h1 := Int.emod_lt_of_pos x hm
  by_cases h : x % m = 0
  · rw [decide_eq_false (fun z => z h), List.any_eq_false]
    intro r hr
    have hr' := List.mem_range.mp hr
    simp only [decide_eq_true_eq]
    intro z
    have d1 := Int.dvd_of_emod_eq_zero h
    have d2 := Int.dvd_of_emod_eq_zero z
    have d3 : m ∣ ((r : Int) + 1) := by
      have := Int.dvd_sub d1 d2
      have e : x - (x - ((r : Int) + 1)) = (r : Int) + 1 := by omega
      rwa [e] at this
    have := Int.le_of_dvd (by omega) d3
    omega
  · rw [decide_eq_true h, List.any_eq_true]
    refine ⟨(x % m - 1).toNat, List.mem_range.mpr (by omega), ?_⟩
    have e : (((x % m - 1).toNat : Nat) : Int) + 1 = x % m := by omega
    rw [e, decide_eq_true_eq]
    have := Int.emod_emod_of_dvd x (Int.dvd_refl m)
    rw [Int.sub_emod, this, Int.sub_self, Int.zero_emod]
theorem so_denT {ts : Tst} (h : (keys (coef ts)).Nodup) (hm : mOk ts) (cn : Coef) : soB cn (denT ts) = !so cn ts := by
  cases ts with
  | row c k => exact so_rowN h k cn
  | same c k =>
    show soAny cn [.t (.row (canon c) (k - 1)), rowN c k] = !decide (worth c k cn = 0)
    rw [soAny_map]
    show (decide (0 ≤ worth (canon c) (k - 1) cn) || (soB cn (rowN c k) || false)) = _
    rw [so_rowN (c := c) h]
    show (decide (0 ≤ worth (canon c) (k - 1) cn) || (!decide (0 ≤ worth c k cn) || false)) = _
    rw [worth_lin, worth_lin, lin_canon (c := c) h, Bool.or_false, ← decide_not, ← decide_not, ← Bool.decide_or]
    exact decide_eq_decide.mpr (by omega)
  | div m c k =>
    show soAny cn ((List.range (m - 1).toNat).map fun (r : Nat) => .t (.div m (canon c) (k - ((r : Int) + 1)))) = !decide (worth c k cn % m = 0)
    rw [soAny_map, List.any_map, ← any_div (x := worth c k cn) hm.1]
    congr 1
    funext r
    show decide (worth (canon c) (k - ((r : Int) + 1)) cn % m = 0) = _
    rw [worth_lin, worth_lin, lin_canon (c := c) h]
    congr 1
    rw [show k - ((r : Int) + 1) + lin c cn = k + lin c cn - ((r : Int) + 1) by omega]
theorem so_plain (cn : Coef) : ∀ {n : Nat} {b : Bd} (w : Bool), AllT (fun ts => (keys (coef ts)).Nodup ∧ mOk ts) n b → soB cn (plainB w b) = (soB cn b == w) := by
  have tst : ∀ (ts : Tst) (w : Bool), (keys (coef ts)).Nodup ∧ mOk ts → soB cn (plainB w (.t ts)) = (soB cn (.t ts) == w) := by
    intro ts w h
    rw [plainB]
    cases w with
    | true =>
      rw [if_pos rfl]
      show so cn (canonT ts) = (so cn ts == true)
      rw [so_canon h.1]
      cases so cn ts <;> rfl
    | false =>
      rw [if_neg (by simp), so_denT h.1 h.2]
      show (!so cn ts) = (so cn ts == false)
      cases so cn ts <;> rfl
  intro n
  induction n with
  | zero =>
    intro b w h
    match b, h with
    | .t ts, h => exact tst ts w h
  | succ n ih =>
    intro b w h
    match b, h with
    | .t ts, h => exact tst ts w h
    | .neg b, h =>
      rw [plainB, ih (!w) h]
      show _ = ((!soB cn b) == w)
      cases soB cn b <;> cases w <;> rfl
    | .grp k bs, h =>
      rw [plainB, plainL_map]
      have e : ∀ b ∈ bs, soB cn (plainB w b) = (soB cn b == w) := fun b hb => ih w (h.2 b hb)
      have all : ∀ (l : List Bd), (∀ b ∈ l, soB cn (plainB w b) = (soB cn b == w)) → (w = true → (l.map (plainB w)).all (soB cn) = l.all (soB cn) ∧ (l.map (plainB w)).any (soB cn) = l.any (soB cn)) ∧ (w = false → (l.map (plainB w)).all (soB cn) = !l.any (soB cn) ∧ (l.map (plainB w)).any (soB cn) = !l.all (soB cn)) := by
        intro l
        induction l with
        | nil => intro _; exact ⟨fun _ => ⟨rfl, rfl⟩, fun _ => ⟨rfl, rfl⟩⟩
        | cons b l il =>
          intro hl
          obtain ⟨i1, i2⟩ := il fun b hb => hl b (List.mem_cons_of_mem _ hb)
          have hb := hl b List.mem_cons_self
          refine ⟨fun hw => ?_, fun hw => ?_⟩
          · obtain ⟨j1, j2⟩ := i1 hw
            rw [List.map_cons, List.all_cons, List.any_cons, List.all_cons, List.any_cons, j1, j2, hb, hw]
            cases soB cn b <;> exact ⟨rfl, rfl⟩
          · obtain ⟨j1, j2⟩ := i2 hw
            rw [List.map_cons, List.all_cons, List.any_cons, List.all_cons, List.any_cons, j1, j2, hb, hw]
            cases soB cn b <;> simp
      obtain ⟨a1, a2⟩ := all bs e
      cases w with
      | true =>
        obtain ⟨j1, j2⟩ := a1 rfl
        cases k with
        | true => show soAll cn _ = (soAll cn bs == true); rw [soAll_map, soAll_map, j1]; cases bs.all (soB cn) <;> rfl
        | false => show soAny cn _ = (soAny cn bs == true); rw [soAny_map, soAny_map, j2]; cases bs.any (soB cn) <;> rfl
      | false =>
        obtain ⟨j1, j2⟩ := a2 rfl
        cases k with
        | true => show soAny cn _ = (soAll cn bs == false); rw [soAll_map, soAny_map, j2]; cases bs.all (soB cn) <;> rfl
        | false => show soAll cn _ = (soAny cn bs == false); rw [soAll_map, soAny_map, j1]; cases bs.any (soB cn) <;> rfl
end K8

set_option Elab.async false
set_option linter.all false
set_option maxRecDepth 100000
set_option maxHeartbeats 4000000
namespace K8
open PySem PySem.Spec PyProof.Rows L2 M8
/-! what a term, a test comes to, by the program -/
theorem good_numbers {cn : Coef} (g : Good cn) : isNumbers (.dct (cD cn)) = true ∧ dctOk (.dct (cD cn)) := by
  constructor
  · show ((cD cn).all fun p => isName (keyD p.1) && isWhole p.2) = true
    rw [List.all_eq_true]
    intro p hp
    obtain ⟨q, hq, rfl⟩ := List.mem_map.mp hp
    show (isNameS q.1 && true) = true
    rw [(g.nm q.1 (List.mem_map.mpr ⟨q, hq, rfl⟩)).1]; rfl
  · have t : IsTerm (.tup [.dct (cD cn), .int 0]) cn 0 := ⟨rfl, rfl⟩
    exact (isTerm_of t g).2 _ (by simp [items])
section
variable {P : Program} {w : World} {K : PySem.W.Frag} {mg : Str → Option Value} {base : Heap}
/-- a name that a dict has -/
def hasK (d : Dat) (y : Str) : Bool := match d with | .dct kds => kds.any fun p => decide (p.1 = .inr y) | _ => false
theorem valV_some (k : Key) : ∀ kvs : List (Key × V), (valV kvs k).isSome = (kvs.map (·.1)).any fun j => decide (j = k)
  | [] => rfl
  | p :: kvs => by
    rw [List.map_cons, List.any_cons]
    by_cases e : p.1 = k
    · rw [valV_pos e, decide_eq_true e]; rfl
    · rw [valV_neg e, valV_some k kvs, decide_eq_false e]; rfl
theorem hasK_val {F : Fk} {H : Hp} {kvs : List (Key × V)} {kds : List (Key × Dat)} (h : SeeK F H kvs kds) (y : Str) : (valV kvs (.inr y)).isSome = hasK (.dct kds) y := by
  rw [valV_some, h.keys, List.any_map]; rfl
def spNumsWith (K : PySem.W.Frag) : Sp := fun vs H Q _ => ∃ (v : V) (d : Dat) (l : Addr) (ys : List Str), vs = [v, .ref l] ∧ SeeF K H v d ∧ dctOk d ∧ H l = some (.lst (ys.map V.str)) ∧ ys.length ≤ 1000000 ∧ ∀ H', Ex H H' → Q (.bl (isNumbers d && ys.all (hasK d))) H'
abbrev s_is_numbers_with : Stmt := top 17
theorem sc_is_numbers_with : FnScope ["thing", "names", "name"] ["thing", "names"] (defScope s_is_numbers_with) := ⟨rfl, rfl, rfl, by decide +kernel, rfl, by decide +kernel, by decide +kernel⟩
theorem ok_is_numbers_with (T : Txt K mg) (a : At K mg "is_numbers_with" s_is_numbers_with ["thing", "names"]) (Ois_numbers : Ok P w K mg base CX0 3 "is_numbers" ["thing"] (spNumbers K)) : Ok P w K mg base CX0 4 "is_numbers_with" ["thing", "names"] (spNumsWith K) := a.ok fun f fd F => by
  refine F.ok sc_is_numbers_with (fun vs H Q E h => ?_) (fun cdv A outer s H vs Q E hr h => ?_)
  · obtain ⟨v, d, l, ys, rfl, _⟩ := h; rfl
  · obtain ⟨v, d, l, ys, rfl, hn, g, hl, len, q⟩ := h
    refine ⟨_, (pss_one (ps_ret (pe_and (pe_callO Ois_numbers (hr.mono (by first | decide | omega)) rfl (pa_cons (pv 0) pa_nil)) (pe_one (pe_callB (cr_all rfl) rfl T.n_all rfl (pa_cons (pe_lc (own := [("name", 2)]) (g := gName 2) (tt := tYes) rfl sc_is_numbers_with.nd (pi_list (pv 1)) (blkOk_by (N := ["thing", "names", "name"]) (sc := defScope s_is_numbers_with) (by decide +kernel)) (fun _ _ _ _ _ => (pg_name (i := 2) sc_is_numbers_with.nd rfl (Or.inl rfl))) (fun _ _ _ _ _ => pts_nil) (fun _ _ _ _ _ => (pe_cmp (pc_din (hu_of hr) (pv 2) (pv 0))))) pa_nil)))))), ?_⟩
    refine ⟨_, rfl, _, _, rfl, hn, g, fun H1 e1 => ⟨_, rfl, ?_⟩⟩
    have q1 := q H1 e1
    cases g1 : isNumbers d with
    | false => rw [g1] at q1; exact iteF q1
    | true =>
    rw [g1] at q
    cases hn with
    | @dct nd kvs kds hnd hk =>
    refine iteT ?_
    dsimp only [tCB, tCons, tNil]
    refine tLc_of ⟨_, rfl, l, rfl, ⟨_, SqL.of (e1 _ _ hl)⟩, ?_⟩
    refine lc_val (walk_list (xs := ys.map V.str)) (fun i => ((ys.take i).map (hasK (.dct kds))).map V.bl) (by rw [List.length_map]; exact len) rfl (fun H2 e2 => SqL.of (e2 _ _ (e1 _ _ hl))) ?_ ?_
    · rintro i x H1' H2 R R' hi e ⟨rfl, hx⟩ kk _
      rw [List.getElem?_map] at hx
      cases hy : ys[i]? with
      | none => rw [hy] at hx; cases hx
      | some y =>
        rw [hy] at hx
        cases hx
        refine ⟨rfl, yesT ⟨_, rfl, _, rfl, nd, _, rfl, DGet.k (k := Sum.inr y) (e _ _ (e1 _ _ hnd)), kk _ _ (Ex.refl _) ?_⟩⟩
        rw [hasK_val hk, List.take_add_one, hy, List.map_append, List.map_append]
        rfl
    · intro D H2 hD e hDH
      rw [List.length_map, List.take_length] at hDH
      refine ⟨D, _, rfl, SqL.of hDH, ?_⟩
      have : (ys.map (hasK (.dct kds))).all id = ys.all (hasK (.dct kds)) := by rw [List.all_map]; rfl
      rw [this]
      exact q H2 (e1.trans e)
    | _ => cases g1
/-- numbers for all names with a coefficient -/
structure Has (c cn : Coef) : Prop where
  nd : (keys cn).Nodup
  mem : ∀ p ∈ c, p.2 ≠ 0 → p.1 ∈ keys cn
def spAlong : Sp := fun vs H Q _ => ∃ v c k nd cn, vs = [v, .ref nd] ∧ TermAt H v c k ∧ H nd = some (.dK (cK cn)) ∧ Few c ∧ Lim c ∧ Has c cn ∧ ∀ H', Ex H H' → Q (.int (lin c cn)) H'
abbrev s_change_along : Stmt := top 22
theorem sc_change_along : FnScope ["term", "ray", "name"] ["term", "ray"] (defScope s_change_along) := ⟨rfl, rfl, rfl, by decide +kernel, rfl, by decide +kernel, by decide +kernel⟩
theorem ok_change_along (T : Txt K mg) (a : At K mg "change_along" s_change_along ["term", "ray"]) (Onames_of : Ok P w K mg base CX0 1 "names_of" ["term"] spNamesOf) : Ok P w K mg base CX0 2 "change_along" ["term", "ray"] spAlong := a.ok fun f fd F => by
  refine F.ok sc_change_along (fun vs H Q E h => ?_) (fun cdv A outer s H vs Q E hr h => ?_)
  · obtain ⟨v, c, k, nd, cn, rfl, _⟩ := h; rfl
  · obtain ⟨v, c, k, nd, cn, rfl, ht, hn, few, lim, has, q⟩ := h
    obtain ⟨p, d, rfl, hp, hd⟩ := id ht
    refine ⟨_, (pss_one (ps_ret (pe_callB (cr_sum rfl) rfl T.n_sum rfl (pa_cons (pe_lc (own := [("name", 2)]) (g := gName 2) (tt := tYes) rfl sc_change_along.nd (pi_list (pe_callO Onames_of (hr.mono (by first | decide | omega)) rfl (pa_cons (pv 0) pa_nil))) (blkOk_by (N := ["term", "ray", "name"]) (sc := defScope s_change_along) (by decide +kernel)) (fun _ _ _ _ _ => (pg_name (i := 2) sc_change_along.nd rfl (Or.inl rfl))) (fun _ _ _ _ _ => pts_nil) (fun _ _ _ _ _ => (pe_op op_mul (pe_dget (hu_of hr) (pe_ix (ix_qK (K := K) rfl) (pv 0) pe_int (fun _ _ => rfl)) (pv 2) (fun _ _ => rfl)) (pe_dget (hu_of hr) (pv 1) (pv 2) (fun _ _ => rfl))))) pa_nil)))), ?_⟩
    dsimp only [tRet, tCB, tCons, tNil]
    refine tLc_of ⟨_, rfl, _, c, k, rfl, ht, few, fun l H1 hl e1 hl1 => ⟨l, rfl, ⟨_, SqL.of hl1⟩, ?_⟩⟩
    have hnz : ∀ n ∈ nz c, n ∈ keys c := fun n hm => by
      have h0 := (mem_nz few.nd).mp hm
      exact List.mem_map.mpr ⟨_, co_mem h0, rfl⟩
    refine lc_val (walk_list (xs := (nz c).map V.str)) (fun i => ((nz c).take i).map fun n => V.int (co c n * co cn n)) ?_ rfl (fun H2 e2 => SqL.of (e2 _ _ hl1)) ?_ ?_
    · rw [List.length_map]
      have h1 := few.canon.len
      unfold M8.canon at h1
      rw [List.length_map] at h1
      omega
    · rintro i x H1' H2 R R' hi e ⟨rfl, hx⟩ kk _
      rw [List.getElem?_map] at hx
      cases hy : (nz c)[i]? with
      | none => rw [hy] at hx; cases hx
      | some n =>
        rw [hy] at hx
        cases hx
        have hm := List.mem_of_getElem? hy
        have hk := hnz n hm
        have h0 := (mem_nz few.nd).mp hm
        have e2 := e1.trans e
        refine ⟨rfl, yesT ⟨_, rfl, p, _, 0, _, rfl, rfl, SqQ.or (hp.imp (e2 _ _) (e2 _ _)), at0, _, rfl, d, _, rfl, .inl ⟨cK c, .inr n, .inl (e2 _ _ hd), rfl, (valV_co hk few.nd).symm⟩, ?_⟩⟩
        refine ⟨_, rfl, _, rfl, nd, _, rfl, .inl ⟨cK cn, .inr n, .inl (e2 _ _ hn), rfl, (valV_co (has.mem _ (co_mem h0) h0) has.nd).symm⟩, _, _, rfl, rfl, .inl ?_, kk _ _ (Ex.refl _) ?_⟩
        · have := lim _ (co_mem h0); simp only at this; constructor <;> omega
        · rw [List.take_add_one, hy, List.map_append]; rfl
    · intro D H2 hD e hDH
      have hl2 : (nz c).take ((nz c).map V.str).length = nz c := List.take_of_length_le (by rw [List.length_map]; exact Nat.le_refl _)
      rw [hl2] at hDH
      refine ⟨D, (nz c).map fun n => co c n * co cn n, rfl, SqL.of (by rw [hDH, List.map_map]; rfl), ?_⟩
      have : ((nz c).map fun n => co c n * co cn n).sum = lin c cn := by
        rw [← lin_canon few.nd]
        unfold lin M8.canon
        rw [List.map_map]; rfl
      rw [this]
      exact q _ (e1.trans e)
def spValue : Sp := fun vs H Q _ => ∃ v c k nd cn, vs = [v, .ref nd] ∧ TermAt H v c k ∧ H nd = some (.dK (cK cn)) ∧ Few c ∧ Lim c ∧ Has c cn ∧ ∀ H', Ex H H' → Q (.int (worth c k cn)) H'
abbrev s_value_of : Stmt := top 23
theorem sc_value_of : FnScope ["term", "numbers"] ["term", "numbers"] (defScope s_value_of) := ⟨rfl, rfl, rfl, by decide +kernel, rfl, by decide +kernel, by decide +kernel⟩
theorem ok_value_of (T : Txt K mg) (a : At K mg "value_of" s_value_of ["term", "numbers"]) (Ochange_along : Ok P w K mg base CX0 2 "change_along" ["term", "ray"] spAlong) : Ok P w K mg base CX0 3 "value_of" ["term", "numbers"] spValue := a.ok fun f fd F => by
  refine F.ok sc_value_of (fun vs H Q E h => ?_) (fun cdv A outer s H vs Q E hr h => ?_)
  · obtain ⟨v, c, k, nd, cn, rfl, _⟩ := h; rfl
  · obtain ⟨v, c, k, nd, cn, rfl, ht, hn, few, lim, has, q⟩ := h
    obtain ⟨p, d, rfl, hp, hd⟩ := id ht
    refine ⟨_, (pss_one (ps_ret (pe_op op_add (pe_ix (ix_qK (K := K) rfl) (pv 0) pe_int (fun _ _ => rfl)) (pe_callO Ochange_along (hr.mono (by first | decide | omega)) rfl (pa_cons (pv 0) (pa_cons (pv 1) pa_nil)))))), ?_⟩
    refine ⟨_, rfl, p, _, 1, _, rfl, rfl, SqQ.or hp, at1, _, rfl, _, rfl, _, c, k, nd, cn, rfl, ht, hn, few, lim, has, fun H1 e1 => ⟨_, _, rfl, rfl, ?_⟩⟩
    show Q (.int (k + lin c cn)) H1
    rw [← worth_lin]
    exact q _ e1
end
end K8

set_option Elab.async false
set_option linter.all false
set_option maxRecDepth 100000
set_option maxHeartbeats 4000000
namespace K8
open PySem PySem.Spec PyProof.Rows L2 M8
/-! tests told, their term, whether they are so; bodies of any object -/
def isNot (d : Dat) : Bool := isS d "not"
def isGrp (d : Dat) : Bool := isS d "all" || isS d "any"
def pairB (B : Dat → Bool) : List Dat → Bool
  | [h, e] => if isNot h = true then B e else isGrp h && (isSq e && (items e).all B)
  | _ => false
def okP (G : Dat → Prop) : List Dat → Prop
  | [h, e] => noFn h = true ∧ (isNot h = true → G e) ∧ (isNot h = false → isGrp h = true → isSq e = true → (items e).length ≤ 1000 ∧ ∀ x ∈ items e, G x)
  | _ => True
def isBodyS (B : Dat → Bool) (d : Dat) : Bool := isTest d || (isSq d && pairB B (items d))
def okS (G : Dat → Prop) (d : Dat) : Prop := testOk d ∧ (isTest d = false → okP G (items d))
theorem pairB_no (B : Dat → Bool) {ds : List Dat} (h : ds.length ≠ 2) : pairB B ds = false := by
  match ds, h with
  | [], _ => rfl
  | [_], _ => rfl
  | [_, _], h => exact absurd rfl h
  | _ :: _ :: _ :: _, _ => rfl
theorem two_of {F : Fk} {H : Hp} {xs : List V} {ds : List Dat} (h : SeeL F H xs ds) (l : xs.length = 2) : ∃ a b x t, xs = [a, b] ∧ ds = [x, t] ∧ See F H a x ∧ See F H b t := by
  cases h with
  | nil => cases l
  | cons h1 h =>
    cases h with
    | nil => cases l
    | cons h2 h =>
      cases h with
      | nil => exact ⟨_, _, _, _, rfl, rfl, h1, h2⟩
      | cons _ _ => simp at l
section
variable {P : Program} {w : World} {K : PySem.W.Frag} {mg : Str → Option Value} {base : Heap}
def spToldT (K : PySem.W.Frag) : Sp := fun vs H Q _ => ∃ v d ts, vs = [v] ∧ SeeF K H v d ∧ IsTst d ts ∧ Few (coef ts) ∧ ∀ u H', NewTst H H' u (canonT ts) → Q u H'
abbrev s_told_test : Stmt := top 26
theorem sc_told_test : FnScope ["test"] ["test"] (defScope s_told_test) := ⟨rfl, rfl, rfl, by decide +kernel, rfl, by decide +kernel, by decide +kernel⟩
theorem ok_told_test (T : Txt K mg) (a : At K mg "told_test" s_told_test ["test"]) (Otold_term : Ok P w K mg base CX0 2 "told_term" ["term"] spTold) : Ok P w K mg base CX0 3 "told_test" ["test"] (spToldT K) := a.ok fun f fd F => by
  refine F.ok sc_told_test (fun vs H Q E h => ?_) (fun cdv A outer s H vs Q E hr h => ?_)
  · obtain ⟨v, d, ts, rfl, _⟩ := h; rfl
  · obtain ⟨v, d, ts, rfl, hs, ht, few, q⟩ := h
    refine ⟨_, (pss_cons (ps_if (pt_cmpR op_eq (pe_ix (ix_qK (K := K) rfl) (pv 0) pe_int (fun _ _ => rfl)) pe_str (nomark _)) (pss_one (ps_ret (pe_tup (pa_cons pe_str (pa_cons (pe_ix (ix_qK (K := K) rfl) (pv 0) pe_int (fun _ _ => rfl)) (pa_cons (pe_callO Otold_term (hr.mono (by first | decide | omega)) rfl (pa_cons (pe_ix (ix_qK (K := K) rfl) (pv 0) pe_int (fun _ _ => rfl)) pa_nil)) pa_nil)))))) pss_nil)
      (pss_one (ps_ret (pe_tup (pa_cons (pe_ix (ix_qK (K := K) rfl) (pv 0) pe_int (fun _ _ => rfl)) (pa_cons (pe_callO Otold_term (hr.mono (by first | decide | omega)) rfl (pa_cons (pe_ix (ix_qK (K := K) rfl) (pv 0) pe_int (fun _ _ => rfl)) pa_nil)) pa_nil)))))), ?_⟩
    cases ts with
    | row c k =>
      obtain ⟨h1, td, h2, h3⟩ := ht
      obtain ⟨p, xs, rfl, hp, hx⟩ := see_sq hs h1
      rw [h2] at hx
      cases hx with
      | cons y1 hx =>
        cases y1
        cases hx with
        | cons y2 hx =>
          cases hx
          refine ⟨_, rfl, p, _, 0, _, rfl, rfl, SqQ.or hp, at0, rfl, _, rfl, iteF ?_⟩
          refine ⟨_, rfl, p, _, 0, _, rfl, rfl, SqQ.or hp, at0, _, rfl, p, _, 1, _, rfl, rfl, SqQ.or hp, at1, _, c, k, rfl, see_term y2 h3, few, fun u H2 n => ⟨by show 2 ≤ sizeLine; decide, fun q1 hq1 => ?_⟩⟩
          obtain ⟨t, dd, rfl, n1, n2, n3, g1, g2, g3, e⟩ := n.pair hq1 [.str "row"]
          exact q _ _ ⟨q1, t, dd, rfl, n1, n2, n3, g1, g2, g3, e⟩
    | same c k =>
      obtain ⟨h1, td, h2, h3⟩ := ht
      obtain ⟨p, xs, rfl, hp, hx⟩ := see_sq hs h1
      rw [h2] at hx
      cases hx with
      | cons y1 hx =>
        cases y1
        cases hx with
        | cons y2 hx =>
          cases hx
          refine ⟨_, rfl, p, _, 0, _, rfl, rfl, SqQ.or hp, at0, rfl, _, rfl, iteF ?_⟩
          refine ⟨_, rfl, p, _, 0, _, rfl, rfl, SqQ.or hp, at0, _, rfl, p, _, 1, _, rfl, rfl, SqQ.or hp, at1, _, c, k, rfl, see_term y2 h3, few, fun u H2 n => ⟨by show 2 ≤ sizeLine; decide, fun q1 hq1 => ?_⟩⟩
          obtain ⟨t, dd, rfl, n1, n2, n3, g1, g2, g3, e⟩ := n.pair hq1 [.str "same"]
          exact q _ _ ⟨q1, t, dd, rfl, n1, n2, n3, g1, g2, g3, e⟩
    | div m c k =>
      obtain ⟨h1, td, h2, h3⟩ := ht
      obtain ⟨p, xs, rfl, hp, hx⟩ := see_sq hs h1
      rw [h2] at hx
      cases hx with
      | cons y1 hx =>
        cases y1
        cases hx with
        | cons y2 hx =>
          cases y2
          cases hx with
          | cons y3 hx =>
            cases hx
            refine ⟨_, rfl, p, _, 0, _, rfl, rfl, SqQ.or hp, at0, rfl, _, rfl, iteT ?_⟩
            refine ⟨_, rfl, p, _, 1, _, rfl, rfl, SqQ.or hp, at1, _, rfl, p, _, 2, _, rfl, rfl, SqQ.or hp, at2, _, c, k, rfl, see_term y3 h3, few, fun u H2 n => ⟨by show 3 ≤ sizeLine; decide, fun q1 hq1 => ?_⟩⟩
            obtain ⟨t, dd, rfl, n1, n2, n3, g1, g2, g3, e⟩ := n.pair hq1 [.str "by", .int m]
            exact q _ _ ⟨q1, t, dd, rfl, n1, n2, n3, g1, g2, g3, e⟩
def kst : Tst → Int | .row _ k => k | .same _ k => k | .div _ _ k => k
/-- a test's term -/
def spTermOf (K : PySem.W.Frag) : Sp := fun vs H Q _ => ∃ v d ts, vs = [v] ∧ SeeF K H v d ∧ IsTst d ts ∧ ∀ u, TermAt H u (coef ts) (kst ts) → Q u H
abbrev s_term_of : Stmt := top 27
theorem sc_term_of : FnScope ["test"] ["test"] (defScope s_term_of) := ⟨rfl, rfl, rfl, by decide +kernel, rfl, by decide +kernel, by decide +kernel⟩
theorem ok_term_of (T : Txt K mg) (a : At K mg "term_of" s_term_of ["test"]) : Ok P w K mg base CX0 1 "term_of" ["test"] (spTermOf K) := a.ok fun f fd F => by
  refine F.ok sc_term_of (fun vs H Q E h => ?_) (fun cdv A outer s H vs Q E hr h => ?_)
  · obtain ⟨v, d, ts, rfl, _⟩ := h; rfl
  · obtain ⟨v, d, ts, rfl, hs, ht, q⟩ := h
    refine ⟨_, (pss_one (ps_ret (pe_ix (ix_qK (K := K) rfl) (pv 0) (pe_un un_neg pe_int) (fun _ _ => rfl)))), ?_⟩
    cases ts with
    | row c k =>
      obtain ⟨h1, td, h2, h3⟩ := ht
      obtain ⟨p, xs, rfl, hp, hx⟩ := see_sq hs h1
      rw [h2] at hx
      cases hx with
      | cons y1 hx =>
        cases hx with
        | cons y2 hx =>
          cases hx
          exact ⟨_, rfl, _, rfl, p, _, _, _, rfl, rfl, SqQ.or hp, atLast (xs := [_]), q _ (see_term y2 h3)⟩
    | same c k =>
      obtain ⟨h1, td, h2, h3⟩ := ht
      obtain ⟨p, xs, rfl, hp, hx⟩ := see_sq hs h1
      rw [h2] at hx
      cases hx with
      | cons y1 hx =>
        cases hx with
        | cons y2 hx =>
          cases hx
          exact ⟨_, rfl, _, rfl, p, _, _, _, rfl, rfl, SqQ.or hp, atLast (xs := [_]), q _ (see_term y2 h3)⟩
    | div m c k =>
      obtain ⟨h1, td, h2, h3⟩ := ht
      obtain ⟨p, xs, rfl, hp, hx⟩ := see_sq hs h1
      rw [h2] at hx
      cases hx with
      | cons y1 hx =>
        cases hx with
        | cons y2 hx =>
          cases hx with
          | cons y3 hx =>
            cases hx
            exact ⟨_, rfl, _, rfl, p, _, _, _, rfl, rfl, SqQ.or hp, atLast (xs := [_, _]), q _ (see_term y3 h3)⟩
def spTstSo (K : PySem.W.Frag) : Sp := fun vs H Q _ => ∃ v d ts nd cn, vs = [v, .ref nd] ∧ SeeF K H v d ∧ IsTst d ts ∧ H nd = some (.dK (cK cn)) ∧ Few (coef ts) ∧ Lim (coef ts) ∧ mOk ts ∧ Has (coef ts) cn ∧ ∀ H', Ex H H' → Q (.bl (so cn ts)) H'
end
end K8

set_option Elab.async false
set_option linter.all false
set_option maxRecDepth 100000
set_option maxHeartbeats 4000000
namespace K8
open PySem PySem.Spec PyProof.Rows L2 M8
section
variable {P : Program} {w : World} {K : PySem.W.Frag} {mg : Str → Option Value} {base : Heap}
def spBodyG (K : PySem.W.Frag) (G : Dat → Prop) (B : Dat → Bool) : Sp := fun vs H Q _ => ∃ v d, vs = [v] ∧ SeeF K H v d ∧ G d ∧ ∀ H', Ex H H' → Q (.bl (B d)) H'
end
end K8

set_option Elab.async false
set_option linter.all false
set_option maxRecDepth 100000
set_option maxHeartbeats 4000000
namespace K8
open PySem PySem.Spec PyProof.Rows L2 M8
/-! a body in whatever lists and tuples, at most n deep -/
inductive All2 {α β : Type} (R : α → β → Prop) : List α → List β → Prop
  | nil : All2 R [] []
  | cons {x : α} {y : β} {xs : List α} {ys : List β} : R x y → All2 R xs ys → All2 R (x :: xs) (y :: ys)
theorem All2.len {α β : Type} {R : α → β → Prop} : ∀ {xs : List α} {ys : List β}, All2 R xs ys → xs.length = ys.length
  | _, _, .nil => rfl
  | _, _, .cons _ t => by rw [List.length_cons, List.length_cons, t.len]
theorem All2.get {α β : Type} {R : α → β → Prop} : ∀ {xs : List α} {ys : List β}, All2 R xs ys → ∀ {i : Nat} {x : α}, xs[i]? = some x → ∃ y, ys[i]? = some y ∧ R x y
  | _, _, .nil, i, x, e => by simp at e
  | _, _, .cons h _, 0, x, e => by simp at e; subst e; exact ⟨_, rfl, h⟩
  | _, _, .cons _ t, i + 1, x, e => by simpa using t.get (i := i) (x := x) (by simpa using e)
theorem All2.mem {α β : Type} {R : α → β → Prop} {xs : List α} {ys : List β} (h : All2 R xs ys) {x : α} (hx : x ∈ xs) : ∃ y ∈ ys, R x y := by
  obtain ⟨i, hi⟩ := List.mem_iff_getElem?.mp hx
  obtain ⟨y, hy, r⟩ := h.get hi
  exact ⟨y, List.mem_of_getElem? hy, r⟩
theorem All2.imp {α β : Type} {R R' : α → β → Prop} (f : ∀ x y, R x y → R' x y) : ∀ {xs : List α} {ys : List β}, All2 R xs ys → All2 R' xs ys
  | _, _, .nil => .nil
  | _, _, .cons h t => .cons (f _ _ h) (t.imp f)
def IsB : Nat → Dat → Bd → Prop
  | 0, d, b => match b with | .t ts => IsTst d ts | _ => False
  | n + 1, d, b => match b with
    | .t ts => IsTst d ts
    | .neg b => isSq d = true ∧ ∃ e, items d = [.str "not", e] ∧ IsB n e b
    | .grp w bs => isSq d = true ∧ ∃ e, items d = [.str (kw w), e] ∧ isSq e = true ∧ All2 (IsB n) (items e) bs
theorem IsB.tst {n : Nat} {d : Dat} {ts : Tst} : IsB n d (.t ts) ↔ IsTst d ts := by cases n <;> exact Iff.rfl
def GoodT (ts : Tst) : Prop := Good (coef ts) ∧ mOk ts
def isBodyN : Nat → Dat → Bool
  | 0 => isBodyS fun _ => false
  | n + 1 => isBodyS (isBodyN n)
def okN : Nat → Dat → Prop
  | 0 => okS fun _ => False
  | n + 1 => okS (okN n)
theorem kw_grp (w : Bool) : isGrp (.str (kw w)) = true ∧ isNot (.str (kw w)) = false := by cases w <;> decide +kernel
theorem kw_ok (w : Bool) (e : Dat) : headRS (.str (kw w)) = false := by cases w <;> decide +kernel
theorem notest_pair {d : Dat} {z : Str} {e : Dat} (hi : items d = [.str z, e]) (h : headRS (.str z) = false) : isTest d = false := by
  unfold isTest
  rw [hi]
  show (isSq d && (headRS (.str z) && isTerm e)) = false
  rw [h]; simp
theorem dctOk_sq {x : Dat} (h : isSq x = true) : dctOk x := by
  cases x <;> first | trivial | cases h
theorem sq_of_isB {n : Nat} {d : Dat} {b : Bd} (h : IsB n d b) : isSq d = true := by
  cases n with
  | zero =>
    match b, h with
    | .t (.row _ _), h => exact h.1
    | .t (.same _ _), h => exact h.1
    | .t (.div _ _ _), h => exact h.1
  | succ n =>
    match b, h with
    | .t (.row _ _), h => exact h.1
    | .t (.same _ _), h => exact h.1
    | .t (.div _ _ _), h => exact h.1
    | .neg _, h => exact h.1
    | .grp _ _, h => exact h.1
theorem dctOk_str (z : Str) : dctOk (.str z) := trivial
theorem dctOk_int (i : Int) : dctOk (.int i) := trivial
/-- the second thing of a "not" is asked as a term, too: nothing of it is a dict -/
theorem termOk_isB {n : Nat} {e : Dat} {b : Bd} (h : IsB n e b) (g : AllT GoodT n b) : termOk e := by
  intro x hx
  have tst : ∀ ts : Tst, IsTst e ts → dctOk x := by
    intro ts ht
    cases ts with
    | row c k =>
      obtain ⟨_, t, h2, h3⟩ := ht
      rw [h2] at hx
      simp only [List.mem_cons, List.not_mem_nil, or_false] at hx
      rcases hx with rfl | rfl
      · trivial
      · exact dctOk_sq h3.1
    | same c k =>
      obtain ⟨_, t, h2, h3⟩ := ht
      rw [h2] at hx
      simp only [List.mem_cons, List.not_mem_nil, or_false] at hx
      rcases hx with rfl | rfl
      · trivial
      · exact dctOk_sq h3.1
    | div m c k =>
      obtain ⟨_, t, h2, h3⟩ := ht
      rw [h2] at hx
      simp only [List.mem_cons, List.not_mem_nil, or_false] at hx
      rcases hx with rfl | rfl | rfl
      · trivial
      · trivial
      · exact dctOk_sq h3.1
  cases n with
  | zero =>
    match b, h with
    | .t ts, h => exact tst ts h
  | succ n =>
    match b, h with
    | .t ts, h => exact tst ts h
    | .neg b, ⟨_, e', h2, h3⟩ =>
      rw [h2] at hx
      simp only [List.mem_cons, List.not_mem_nil, or_false] at hx
      rcases hx with rfl | rfl
      · trivial
      · exact dctOk_sq (sq_of_isB h3)
    | .grp w bs, ⟨_, e', h2, h3, _⟩ =>
      rw [h2] at hx
      simp only [List.mem_cons, List.not_mem_nil, or_false] at hx
      rcases hx with rfl | rfl
      · trivial
      · exact dctOk_sq h3
theorem isB_body : ∀ {n : Nat} {d : Dat} {b : Bd}, IsB n d b → AllT GoodT n b → isBodyN n d = true ∧ okN n d := by
  have tst : ∀ {d : Dat} {ts : Tst} (B : Dat → Bool) (G : Dat → Prop), IsTst d ts → GoodT ts → isBodyS B d = true ∧ okS G d := by
    intro d ts B G h g
    obtain ⟨i1, i2⟩ := isTst_of h g.1 g.2
    refine ⟨by unfold isBodyS; rw [i1]; rfl, i2, fun z => by rw [i1] at z; cases z⟩
  intro n
  induction n with
  | zero =>
    intro d b h g
    match b, h, g with
    | .t ts, h, g => exact tst _ _ h g
  | succ n ih =>
    intro d b h g
    match b, h, g with
    | .t ts, h, g => exact tst _ _ h g
    | .neg b, ⟨h1, e, h2, h3⟩, g =>
      obtain ⟨j1, j2⟩ := ih h3 g
      refine ⟨?_, ?_, fun _ => ?_⟩
      · show isBodyS (isBodyN n) d = true
        unfold isBodyS
        rw [h1, h2]
        show (isTest d || (true && isBodyN n e)) = true
        rw [j1]; simp
      · unfold testOk
        rw [h2]
        exact ⟨rfl, termOk_isB h3 g⟩
      · rw [h2]
        exact ⟨rfl, fun _ => j2, fun z => absurd z (by decide +kernel)⟩
    | .grp w bs, ⟨h1, e, h2, h3, h4⟩, g =>
      have hin : ∀ x ∈ items e, isBodyN n x = true ∧ okN n x := fun x hx => by
        obtain ⟨y, hy, r⟩ := h4.mem hx
        exact ih r (g.2 y hy)
      refine ⟨?_, ?_, fun _ => ?_⟩
      · show isBodyS (isBodyN n) d = true
        unfold isBodyS
        rw [h1, h2]
        show (isTest d || (true && (if isNot (.str (kw w)) = true then isBodyN n e else isGrp (.str (kw w)) && (isSq e && (items e).all (isBodyN n))))) = true
        rw [(kw_grp w).2, (kw_grp w).1, h3]
        have : (items e).all (isBodyN n) = true := List.all_eq_true.mpr fun x hx => (hin x hx).1
        rw [this]; simp
      · unfold testOk
        rw [h2]
        refine ⟨rfl, fun x hx => ?_⟩
        obtain ⟨y, _, r⟩ := h4.mem hx
        exact dctOk_sq (sq_of_isB r)
      · rw [h2]
        refine ⟨rfl, fun z => ?_, fun _ _ _ => ⟨?_, fun x hx => (hin x hx).2⟩⟩
        · rw [(kw_grp w).2] at z; cases z
        · have := h4.len; have := g.1; omega
/-- how many tests -/
def cnt : Bd → Nat
  | .t _ => 1
  | .neg b => cnt b
  | .grp _ bs => cntL bs
where cntL : List Bd → Nat
  | [] => 0
  | b :: bs => cnt b + cntL bs
section
variable {P : Program} {w : World} {K : PySem.W.Frag} {mg : Str → Option Value} {base : Heap}
end
end K8

set_option Elab.async false
set_option linter.all false
set_option maxRecDepth 100000
set_option maxHeartbeats 4000000
namespace K8
open PySem PySem.Spec PyProof.Rows L2 M8
/-! [y for x in xs for y in f(x)] -/
def Lc2B (g : TG) (tt : TT) (wi1 : TI) (g1 : TG) (tt1 : TT) (te : TE) (vs vs1 : List Nat) (σ : L2.St) (Q : VK) (J : It) (H1 : Hp) : Prop := ∀ D, H1 D = none → ∃ W : Nat → Nat → Hp → Prop, (∃ m, W 0 m (upd H1 D (.lst []))) ∧ ∀ i m H, W i m H →
  (J.stop i H ∧ Q (.ref D) H) ∨ (J.go i H ∧ ∃ Nx : Hp → Prop, (∀ H', Nx H' → ∃ m', m' < m ∧ W (i + 1) m' H') ∧ ∀ x H', J.yld i H x H' → g x (wipe σ vs) H' fun σ2 H2 => wipe σ2 vs = wipe σ vs ∧ tt σ2 H2 fun b H3 =>
    if b = true then wi1 σ2 H3 fun J1 H4 => ∃ W1 : Nat → Nat → Hp → Prop, (∃ m, W1 0 m H4) ∧ ∀ j k H, W1 j k H →
      (J1.stop j H ∧ Nx H) ∨ (J1.go j H ∧ ∃ Nx1 : Hp → Prop, (∀ H', Nx1 H' → ∃ k', k' < k ∧ W1 (j + 1) k' H') ∧ ∀ x H', J1.yld j H x H' → g1 x (wipe σ2 vs1) H' fun σ3 H5 => wipe σ3 vs1 = wipe σ2 vs1 ∧ tt1 σ3 H5 fun b H6 =>
        if b = true then te σ3 H6 fun y H7 => ∃ acc, H7 D = some (.lst acc) ∧ acc.length < sizeLine ∧ Nx1 (upd H7 D (.lst (acc ++ [y]))) else Nx1 H6)
    else Nx H3)
theorem tLc2_of {wi : TI} {g : TG} {tt : TT} {wi1 : TI} {g1 : TG} {tt1 : TT} {te : TE} {vs vs1 : List Nat} {σ : L2.St} {H : Hp} {Q : VK} (h : wi σ H (Lc2B g tt wi1 g1 tt1 te vs vs1 σ Q)) : tLc2 wi g tt wi1 g1 tt1 te vs vs1 σ H Q := h
/-- the first i lists, one behind another -/
def catN {τ : Type} (T : Nat → List τ) : Nat → List τ | 0 => [] | i + 1 => catN T i ++ T i
theorem All2.app {α β : Type} {R : α → β → Prop} : ∀ {xs xs' : List α} {ys ys' : List β}, All2 R xs ys → All2 R xs' ys' → All2 R (xs ++ xs') (ys ++ ys')
  | _, _, _, _, .nil, h => h
  | _, _, _, _, .cons a t, h => .cons a (t.app h)
theorem lc2_cat {K : PySem.W.Frag} {J : It} {n : Nat} {Gd : Hp → Prop} {xs : List V} (wk : Walk J n Gd (YAt xs)) {wi1 : TI} {j1 j2 : Nat} {vs vs1 : List Nat} {σ : L2.St} {H1 : Hp} {Q : VK} {τ : Type} (R : V → τ → Prop) (T : Nat → List τ) (hsz : (catN T n).length < 1000000) (hG : ∀ H', Ex H1 H' → Gd H')
    (hw : ∀ x, wipe ((wipe σ vs).set j1 (some x)) vs = wipe σ vs) (hj1 : j1 < (wipe σ vs).length) (hw1 : ∀ x y, wipe ((wipe ((wipe σ vs).set j1 (some x)) vs1).set j2 (some y)) vs1 = wipe ((wipe σ vs).set j1 (some x)) vs1) (hj2 : ∀ x y, ((wipe ((wipe σ vs).set j1 (some x)) vs1).set j2 (some y))[j2]? = some (some y))
    (step : ∀ i x H (Rr : It → Hp → Prop), i < n → xs[i]? = some x → Ex H1 H → (∀ l zs H', H l = none → Ex H H' → H' l = some (.lst zs) → All2 R zs (T i) → Rr (Itl K l) H') → wi1 ((wipe σ vs).set j1 (some x)) H Rr)
    (hd : ∀ D acc H, H1 D = none → Ex H1 H → H D = some (.lst acc) → All2 R acc (catN T n) → Q (.ref D) H) : Lc2B (gName j1) tYes wi1 (gName j2) tYes (tVar j2) vs vs1 σ Q J H1 := by
  intro D hD
  have big : (1000000 : Nat) < sizeLine := by rw [sizeLine_eq]; decide
  have mono : ∀ m k, (catN T k).length ≤ (catN T (k + m)).length := by
    intro m k
    induction m with
    | zero => exact Nat.le_refl _
    | succ m ih => exact Nat.le_trans ih (by show _ ≤ (catN T (k + m) ++ T (k + m)).length; rw [List.length_append]; omega)
  have le : ∀ k, k ≤ n → (catN T k).length ≤ (catN T n).length := fun k hk => by
    have := mono (n - k) k
    rwa [show k + (n - k) = n by omega] at this
  refine ⟨fun i m H => m = n - i ∧ i ≤ n ∧ Ex H1 H ∧ ∃ acc, H D = some (.lst acc) ∧ All2 R acc (catN T i), ⟨n, by simp, Nat.zero_le _, Ex.new hD, [], upd_same, .nil⟩, ?_⟩
  rintro i m H ⟨rfl, hi, e, acc, hDH, hS⟩
  have g := hG H e
  by_cases hlt : i < n
  · refine .inr ⟨wk.goes i H hlt g, fun H' => Ex H1 H' ∧ ∃ acc, H' D = some (.lst acc) ∧ All2 R acc (catN T (i + 1)), fun H' p => ⟨n - (i + 1), by omega, rfl, hlt, p⟩, fun x H' y => ?_⟩
    obtain ⟨rfl, hx⟩ := wk.yields i H x H' hlt g y
    refine ⟨hw x, ?_⟩
    refine yesT (step i x _ _ hlt hx e fun l zs H4 hln e4 hl4 hz => ?_)
    have nlD : l ≠ D := fun z => by rw [z, hDH] at hln; cases hln
    have hub : (catN T i).length + (T i).length ≤ (catN T n).length := by
      have := le (i + 1) hlt
      rwa [show catN T (i + 1) = catN T i ++ T i from rfl, List.length_append] at this
    have hzl := hz.len
    refine ⟨fun j k H' => k = zs.length - j ∧ j ≤ zs.length ∧ Ex H1 H' ∧ H' l = some (.lst zs) ∧ ∃ acc', H' D = some (.lst acc') ∧ All2 R acc' (catN T i ++ (T i).take j), ⟨zs.length, by simp, Nat.zero_le _, e.trans e4, hl4, acc, e4 _ _ hDH, by rw [List.take_zero, List.append_nil]; exact hS⟩, ?_⟩
    rintro j k H5 ⟨rfl, hj, e5, hl5, acc5, hD5, hS5⟩
    by_cases hjl : j < zs.length
    · obtain ⟨z, hzj⟩ : ∃ z, zs[j]? = some z := ⟨zs[j], List.getElem?_eq_getElem hjl⟩
      refine .inr ⟨⟨zs, z, SqL.of hl5, hzj⟩, fun H' => Ex H1 H' ∧ H' l = some (.lst zs) ∧ ∃ acc', H' D = some (.lst acc') ∧ All2 R acc' (catN T i ++ (T i).take (j + 1)), fun H' p => ⟨zs.length - (j + 1), by omega, rfl, hjl, p⟩, fun y H6 hy => ?_⟩
      obtain ⟨rfl, hy⟩ := hy
      have hy := hy zs (SqL.of hl5)
      obtain ⟨ts, hts, ry⟩ := hz.get hy
      have hlen := hS5.len
      rw [List.length_append, List.length_take] at hlen
      refine ⟨hw1 x y, yesT ⟨y, hj2 x y, acc5, hD5, by omega, e5.mut hD, by rw [upd_ne nlD]; exact hl5, _, upd_same, ?_⟩⟩
      rw [List.take_add_one, hts, ← List.append_assoc]
      exact hS5.app (.cons ry .nil)
    · have : j = zs.length := by omega
      subst this
      rw [List.take_of_length_le (by omega)] at hS5
      exact .inl ⟨⟨zs, SqL.of hl5, Nat.le_refl _⟩, e5, acc5, hD5, hS5⟩
  · have : i = n := by omega
    subst this
    exact .inl ⟨wk.stops H g, hd D acc H hD e hDH hS⟩
/-- the tests of a body, in order -/
def tl : Bd → List Tst
  | .t ts => [ts]
  | .neg b => tl b
  | .grp _ bs => tlL bs
where tlL : List Bd → List Tst
  | [] => []
  | b :: bs => tl b ++ tlL bs
theorem tlL_app : ∀ (l r : List Bd), tl.tlL (l ++ r) = tl.tlL l ++ tl.tlL r
  | [], r => by rw [List.nil_append, tl.tlL, List.nil_append]
  | b :: l, r => by rw [List.cons_append, tl.tlL, tl.tlL, tlL_app l r, List.append_assoc]
theorem mem_tlL {ts : Tst} : ∀ {bs : List Bd}, ts ∈ tl.tlL bs ↔ ∃ b ∈ bs, ts ∈ tl b
  | [] => by rw [tl.tlL]; simp
  | b :: bs => by rw [tl.tlL, List.mem_append, mem_tlL (bs := bs)]; simp
theorem tlL_cat (bs : List Bd) : tl.tlL bs = catN (fun i => (bs[i]?.map tl).getD []) bs.length := by
  have step : ∀ i, i ≤ bs.length → tl.tlL (bs.take i) = catN (fun i => (bs[i]?.map tl).getD []) i := by
    intro i
    induction i with
    | zero => intro _; rw [List.take_zero, tl.tlL]; rfl
    | succ i ih =>
      intro h
      have hi : i < bs.length := by omega
      rw [List.take_add_one, tlL_app, ih (by omega), List.getElem?_eq_getElem hi]
      show _ ++ tl.tlL [bs[i]] = catN _ i ++ _
      rw [tl.tlL, tl.tlL, List.append_nil]; dsimp only; rw [List.getElem?_eq_getElem hi]; rfl
  have := step bs.length (Nat.le_refl _)
  rwa [List.take_length] at this
theorem AllT.tl {p : Tst → Prop} : ∀ {n : Nat} {b : Bd}, AllT p n b → ∀ ts ∈ tl b, p ts
  | 0, .t _, h, ts, m => by rw [K8.tl] at m; rw [show ts = _ by simpa using m]; exact h
  | 0, .neg _, h, _, _ => h.elim
  | 0, .grp _ _, h, _, _ => h.elim
  | _ + 1, .t _, h, ts, m => by rw [K8.tl] at m; rw [show ts = _ by simpa using m]; exact h
  | n + 1, .neg b, h, ts, m => by rw [K8.tl] at m; exact AllT.tl (n := n) (b := b) h ts m
  | n + 1, .grp _ bs, h, ts, m => by
    rw [K8.tl, mem_tlL] at m
    obtain ⟨b, hb, hts⟩ := m
    exact AllT.tl (n := n) (h.2 b hb) ts hts
theorem tlL_mem_len {b : Bd} : ∀ {bs : List Bd}, b ∈ bs → (tl b).length ≤ (tl.tlL bs).length
  | c :: l, h => by
    rw [tl.tlL, List.length_append]
    rcases List.mem_cons.mp h with rfl | h
    · omega
    · have := tlL_mem_len h; omega
/-- a test in whatever lists -/
def TSee (K : PySem.W.Frag) (H : Hp) (z : V) (ts : Tst) : Prop := ∃ d, SeeF K H z d ∧ IsTst d ts
section
variable {P : Program} {w : World} {K : PySem.W.Frag} {mg : Str → Option Value} {base : Heap}
def spTests (K : PySem.W.Frag) (n : Nat) : Sp := fun vs H Q _ => ∃ v d b H0, vs = [v] ∧ Ex H0 H ∧ SeeF K H0 v d ∧ IsB n d b ∧ (tl b).length ≤ 1000 ∧ ∀ l zs H', H l = none → Ex H H' → H' l = some (.lst zs) → All2 (TSee K H0) zs (tl b) → Q (.ref l) H'
abbrev s_tests_of : Stmt := top 28
theorem sc_tests_of : FnScope ["body", "inner", "test"] ["body"] (defScope s_tests_of) := ⟨rfl, rfl, rfl, by decide +kernel, rfl, by decide +kernel, by decide +kernel⟩
theorem head_isB {n : Nat} {d : Dat} {b : Bd} (h : IsB n d b) : ∃ z r, items d = .str z :: r := by
  have tst : ∀ ts, IsTst d ts → ∃ z r, items d = .str z :: r := by
    intro ts h
    cases ts with
    | row c k => obtain ⟨_, t, h2, _⟩ := h; exact ⟨_, _, h2⟩
    | same c k => obtain ⟨_, t, h2, _⟩ := h; exact ⟨_, _, h2⟩
    | div m c k => obtain ⟨_, t, h2, _⟩ := h; exact ⟨_, _, h2⟩
  cases n with
  | zero =>
    match b, h with
    | .t ts, h => exact tst ts h
  | succ n =>
    match b, h with
    | .t ts, h => exact tst ts h
    | .neg b, ⟨_, e, h2, _⟩ => exact ⟨_, _, h2⟩
    | .grp w bs, ⟨_, e, h2, _⟩ => exact ⟨_, _, h2⟩
/-- what stands ahead of a test -/
theorem head_tst {d : Dat} {ts : Tst} (h : IsTst d ts) : ∃ z r, items d = .str z :: r ∧ z ≠ ("not" : Str) ∧ inV (.str z) [.str "all", .str "any"] = false := by
  cases ts with
  | row c k => obtain ⟨_, t, h2, _⟩ := h; exact ⟨_, _, h2, by decide +kernel, by decide +kernel⟩
  | same c k => obtain ⟨_, t, h2, _⟩ := h; exact ⟨_, _, h2, by decide +kernel, by decide +kernel⟩
  | div m c k => obtain ⟨_, t, h2, _⟩ := h; exact ⟨_, _, h2, by decide +kernel, by decide +kernel⟩
theorem sq_tst {d : Dat} {ts : Tst} (h : IsTst d ts) : isSq d = true := by cases ts <;> exact h.1
/-- a pair of a word and the rest -/
theorem pair_see {H : Hp} {v : V} {d : Dat} {z : Str} {e : Dat} (s : SeeF K H v d) (h1 : isSq d = true) (h2 : items d = [.str z, e]) : ∃ p ve, v = .ref p ∧ (H p = some (.lst [.str z, ve]) ∨ H p = some (.tup [.str z, ve])) ∧ SeeF K H ve e := by
  obtain ⟨p, xs, rfl, hp, hx⟩ := see_sq s h1
  rw [h2] at hx
  cases hx with
  | cons y1 hx =>
    cases y1
    cases hx with
    | cons y2 hx =>
      cases hx
      exact ⟨p, _, rfl, hp, y2⟩
theorem ok_tests_step (T : Txt K mg) (a : At K mg "tests_of" s_tests_of ["body"]) {k n : Nat} {sub : Sp} (hsub : ∀ m, n = m + 1 → ∀ vs H Q E, spTests K m vs H Q E → sub vs H Q E) (Otests_of : Ok P w K mg base CX0 k "tests_of" ["body"] sub) : Ok P w K mg base CX0 (k+1) "tests_of" ["body"] (spTests K n) := a.ok fun f fd F => by
  refine F.ok sc_tests_of (fun vs H Q E h => ?_) (fun cdv A outer s H vs Q E hr h => ?_)
  · obtain ⟨v, d, b, H0, rfl, _⟩ := h; rfl
  · obtain ⟨v, d, b, H0, rfl, e0, hs, hb, hc, q⟩ := h
    refine ⟨_, (pss_cons (ps_if (pt_cmpR op_eq (pe_ix (ix_qK (K := K) rfl) (pv 0) pe_int (fun _ _ => rfl)) pe_str (nomark _)) (pss_one (ps_ret (pe_callO Otests_of hr rfl (pa_cons (pe_ix (ix_qK (K := K) rfl) (pv 0) pe_int (fun _ _ => rfl)) pa_nil)))) pss_nil)
      (pss_cons (ps_if (pt_cmpR op_in_seq (pe_ix (ix_qK (K := K) rfl) (pv 0) pe_int (fun _ _ => rfl)) (pe_tup (pa_cons pe_str (pa_cons pe_str pa_nil))) rfl) (pss_one (ps_ret (pe_lc2 (own := [("inner", 1), ("test", 2)]) (vs1 := [2]) (g := gName 1) (tt := tYes) (g1 := gName 2) (tt1 := tYes) (wi1 := iList K (tC0 sub (tCons (tVar 1) tNil))) rfl sc_tests_of.nd (pi_lt (pe_ix (ix_qK (K := K) rfl) (pv 0) pe_int (fun _ _ => rfl))) (blkOk_by (N := ["body", "inner", "test"]) (sc := defScope s_tests_of) (by decide +kernel)) (by decide) (fun _ _ _ _ _ => (pg_name (i := 1) sc_tests_of.nd rfl (Or.inl rfl))) (fun _ _ _ _ _ => pts_nil) (fun _ _ _ _ _ => pi_list (pe_callO Otests_of hr rfl (pa_cons (pv 1) pa_nil))) (fun _ _ _ _ _ => (pg_name (i := 2) sc_tests_of.nd rfl (Or.inl rfl))) (fun _ _ _ _ _ => pts_nil) (fun _ _ _ _ _ => (pv 2))))) pss_nil)
      (pss_one (ps_ret (pe_lst (pa_cons (pv 0) pa_nil)))))), ?_⟩
    have inAA : ∀ {z : Str} {r : List V} {a : Addr} {H1 : Hp} {Q1 : VK}, (H1 a = some (.lst (.str z :: r)) ∨ H1 a = some (.tup (.str z :: r))) → True := fun _ => trivial
    -- what the body is
    match n, b, hb with
    | n, .t ts, hb =>
      have hb := IsB.tst.mp hb
      obtain ⟨z, r, hi, h1, h2⟩ := head_tst hb
      obtain ⟨a1, xs, rfl, hq, hx⟩ := see_sq hs (sq_tst hb)
      rw [hi] at hx
      cases hx with
      | cons y1 hx =>
        cases y1
        have hq0 := hq.imp (e0 _ _) (e0 _ _)
        refine ⟨_, rfl, a1, _, 0, _, rfl, rfl, SqQ.or hq0, at0, rfl, _, rfl, ?_⟩
        rw [decide_eq_false fun z => h1 (V.str.inj z)]
        refine iteF ⟨_, rfl, a1, _, 0, _, rfl, rfl, SqQ.or hq0, at0, by show 2 ≤ sizeLine; decide, fun tp htp => ?_⟩
        have e1 : Ex H (upd H tp (.tup [.str "all", .str "any"])) := Ex.new htp
        refine ⟨tp, _, rfl, .inr (SqT.of upd_same), rfl, rfl, _, rfl, ?_⟩
        rw [h2]
        refine iteF ⟨_, rfl, by show 1 ≤ sizeLine; decide, fun l hl => ?_⟩
        exact q l _ _ (e1.free hl) (e1.mut (e1.free hl)) upd_same (by rw [tl]; exact .cons ⟨d, hs, hb⟩ .nil)
    | n + 1, .neg b, ⟨h1, e, h2, h3⟩ =>
      obtain ⟨a1, ve, rfl, hq, hv⟩ := pair_see hs h1 h2
      have hq0 := hq.imp (e0 _ _) (e0 _ _)
      refine ⟨_, rfl, a1, _, 0, _, rfl, rfl, SqQ.or hq0, at0, rfl, _, rfl, iteT ?_⟩
      refine ⟨_, rfl, a1, _, 1, _, rfl, rfl, SqQ.or hq0, at1, hsub n rfl _ _ _ _ ⟨_, e, b, H0, rfl, e0, hv, h3, by rw [tl] at hc; exact hc, by rw [tl] at q; exact q⟩⟩
    | n + 1, .grp w bs, ⟨h1, e, h2, h3, h4⟩ =>
      obtain ⟨a1, ve, rfl, hq, hv⟩ := pair_see hs h1 h2
      have hq0 := hq.imp (e0 _ _) (e0 _ _)
      refine ⟨_, rfl, a1, _, 0, _, rfl, rfl, SqQ.or hq0, at0, rfl, _, rfl, ?_⟩
      rw [show decide (V.str (kw w) = V.str "not") = false by cases w <;> decide +kernel]
      refine iteF ⟨_, rfl, a1, _, 0, _, rfl, rfl, SqQ.or hq0, at0, by show 2 ≤ sizeLine; decide, fun tp htp => ?_⟩
      have e1 : Ex H (upd H tp (.tup [.str "all", .str "any"])) := Ex.new htp
      refine ⟨tp, _, rfl, .inr (SqT.of upd_same), rfl, rfl, _, rfl, ?_⟩
      rw [show inV (V.str (kw w)) [.str "all", .str "any"] = true by cases w <;> decide +kernel]
      refine iteT ?_
      have hq1 := hq0.imp (e1 _ _) (e1 _ _)
      have e01 := e0.trans e1
      obtain ⟨p2, ys, rfl, hp2, hy⟩ := see_sq hv h3
      have hp3 := hp2.imp (e01 _ _) (e01 _ _)
      dsimp only [tRet]
      refine tLc2_of ?_
      have hlen := hy.len
      have h4l := h4.len
      have tail : ∀ {J : It} {Gd : Hp → Prop}, Walk J ys.length Gd (YAt ys) → (∀ H', Ex (upd H tp (.tup [.str "all", .str "any"])) H' → Gd H') →
          Lc2B (gName 1) tYes (iList K (tC0 sub (tCons (tVar 1) tNil))) (gName 2) tYes (tVar 2) [1, 2] [2] [some (.ref a1), none, none] Q J (upd H tp (.tup [.str "all", .str "any"])) := by
        intro J Gd wk hG
        have etl : tl (.grp w bs) = catN (fun i => (bs[i]?.map tl).getD []) ys.length := by rw [tl, tlL_cat, show ys.length = bs.length by omega]
        refine lc2_cat (K := K) wk (TSee K H0) (fun i => (bs[i]?.map tl).getD []) (by rw [← etl]; omega) hG (fun _ => rfl) (by show 1 < 3; decide) (fun _ _ => rfl) (fun _ _ => rfl) ?_ ?_
        · intro i x H2 R hi hx e2 k2
          obtain ⟨dd, hd, sd⟩ := hy.getV hx
          obtain ⟨bb, hbb, ib⟩ := h4.get hd
          have hm := List.mem_of_getElem? hbb
          have cle : (tl bb).length ≤ (tl (.grp w bs)).length := by
            rw [tl]
            exact tlL_mem_len hm
          refine ⟨_, rfl, hsub n rfl _ _ _ _ ⟨x, dd, bb, H0, rfl, e01.trans e2, sd, ib, by omega, fun l zs H3 h1 h2 h3 h4 => ⟨l, rfl, ⟨zs, SqL.of h3⟩, k2 l zs H3 h1 h2 h3 (by rw [hbb]; exact h4)⟩⟩⟩
        · intro D acc H2 hD e2 hDH hS
          exact q D acc H2 (e1.free hD) (e1.trans e2) hDH (by rw [etl]; exact hS)
      rcases hp3 with hp3 | hp3
      · exact .inl ⟨_, rfl, a1, _, 1, _, rfl, rfl, SqQ.or hq1, at1, p2, rfl, ⟨ys, SqL.of hp3⟩, tail walk_list fun H' e => SqL.of (e _ _ hp3)⟩
      · exact .inr ⟨_, rfl, a1, _, 1, _, rfl, rfl, SqQ.or hq1, at1, p2, rfl, ⟨ys, SqT.of hp3⟩, tail walk_tup fun H' e => SqT.of (e _ _ hp3)⟩
theorem ok_tests_of (T : Txt K mg) (a : At K mg "tests_of" s_tests_of ["body"]) : ∀ n, Ok P w K mg base CX0 (n+2) "tests_of" ["body"] (spTests K n)
  | 0 => ok_tests_step T a (k := 1) (sub := fun _ _ _ _ => False) (fun m h => by omega) (a.ok fun f fd F => F.ok sc_tests_of (fun vs H Q E h => h.elim) (fun cdv A outer s H vs Q E hr h => h.elim))
  | n + 1 => ok_tests_step T a (sub := spTests K n) (fun m h vs H Q E x => (show n = m from by omega) ▸ x) (ok_tests_of T a n)
end
end K8

set_option Elab.async false
set_option linter.all false
set_option maxRecDepth 100000
set_option maxHeartbeats 4000000
namespace TxS
open PySem PySem.Spec PyProof.Rows L2
/-! sets of keys that can be walked: add keeps their tables in order -/
/-- what a walk asks of the table -/
structure Wk (w : World) (t : SetTable) : Prop where
  ris : Ris t.place.toList
  led : w.params.followText "set-order" = true ∨ t.led = true
theorem Wk.of {w : World} {t t' : SetTable} (k : Wk w t) (r : Ris t'.place.toList) (e : t'.led = t.led) : Wk w t' := ⟨r, k.led.imp id fun z => e.trans z⟩
section
variable {P : Program} {w : World} {T : Type} [DecidableEq T] {kd : KeyKind P w T}
/-- members, how many entries, and the table in order -/
def SetW (kd : KeyKind P w T) (h : Heap) (a : Addr) (S : T → Bool) (n : Nat) : Prop :=
  ∃ o l ep t, h.get? a = some o ∧ o.ExactSet ∧ o.data = .set l ep t ∧ (ElemsOf kd l.toList ∧ (∀ k, S k = true ↔ ∃ e ∈ l.toList, kd.is k e.2 = true)) ∧ (l.size < scanBound ∧ t.fits l.size = true ∧ l.size = n) ∧ Wk w t
theorem SetW.setOf {h : Heap} {a : Addr} {S : T → Bool} {n : Nat} (R : SetW kd h a S n) : h.SetOf kd a S n := by
  obtain ⟨o, l, ep, t, h1, h2, h3, ⟨h4, h5⟩, ⟨h6, h7, h8⟩, _⟩ := R
  exact ⟨o, l, ep, t, h1, h2, h3, h4, h5, h6, h7, h8⟩
theorem SetW.at {h h' : Heap} {a : Addr} {S : T → Bool} {n : Nat} (R : SetW kd h a S n) (k : ∀ o, h.get? a = some o → h'.get? a = some o) : SetW kd h' a S n := by
  obtain ⟨o, l, ep, t, h1, r⟩ := R
  exact ⟨o, l, ep, t, k o h1, r⟩
/-- the object behind a store -/
theorem put_at {h : Heap} {a : Addr} {o : Obj} {l m : Array (Int × Value)} {ep : Nat} {t u : SetTable} (ho : h.get? a = some o) (hd : o.data = .set l ep t) : (h.update a (Obj.putSet m u)).get? a = some { o with data := .set m (ep + 1) u } := by
  have e := putSet_of m u hd
  rw [Heap.get?_update_self (Obj.putSet m u) ho (by rw [e]; rfl), e]
variable {A : Around} {E : Value → Shared → Prop} {s : Shared} {a : Addr} {S : T → Bool} {n : Nat} {k : T} {x : Value}
/-- the entry is laid, and the table made anew where it is too full -/
theorem add_end {f : Bool → Sem Unit} (hf : ∀ b s1 (Q1 : Unit → Shared → Prop), Q1 () s1 → wpAny (model P w) A (f b) Q1 E s1) {o : Obj} {l m : Array (Int × Value)} {ep : Nat} {t u : SetTable} {S1 : T → Bool} {dm : Bool} {Q : Option Bool → Shared → Prop}
    (ho : s.heap.get? a = some o) (hx : o.ExactSet) (hd : o.data = .set l ep t) (he : ElemsOf kd m.toList ∧ ∀ k, S1 k = true ↔ ∃ e ∈ m.toList, kd.is k e.2 = true) (hb : m.size < scanBound) (ht : u.fits m.size = true) (hw : Wk w u)
    (q : ∀ h', Heap.SameBut a s.heap h' → SetW kd h' a S1 m.size → Q (some true) { s with heap := h' }) :
    wpAny (model P w) A (do
        storeSet a m u
        if (!dm && u.tooFull) = true then
          do f (relayAll u m (SetTable.grown m.size)).2.2; storeSet a (relayAll u m (SetTable.grown m.size)).1 (relayAll u m (SetTable.grown m.size)).2.1; pure (some true)
        else pure (some true)) Q E s := by
  have o1 := put_at (m := m) (u := u) ho hd
  have b1 := Heap.SameBut.update s.heap a (Obj.putSet m u)
  refine wpAny_bind (wpAny_storeSet_of ho hd ?_ (fits_of_scanBound hb))
  by_cases full : (!dm && u.tooFull) = true
  · rw [if_pos full]
    have hw3 : Wk w (relayAll u m (SetTable.grown m.size)).2.1 := hw.of (relayAll_ris u m _) (relayAll_led u m _)
    have pm : (relayAll u m (SetTable.grown m.size)).1.toList.Perm m.toList := relayAll_perm u m _
    have ht3 := relayAll_fits u m (SetTable.grown m.size)
    have sz : (relayAll u m (SetTable.grown m.size)).1.size = m.size := by
      have := pm.length_eq
      rwa [Array.length_toList, Array.length_toList] at this
    refine wpAny_bind (hf _ _ _ (wpAny_bind (wpAny_storeSet_of o1 rfl ?_ (fits_of_scanBound (by rw [sz]; exact hb)))))
    refine wpAny_pure (q _ (b1.trans (Heap.SameBut.update _ a _)) ⟨_, _, _, _, put_at o1 rfl, hx, rfl, ⟨he.1.perm pm, fun j => (he.2 j).trans ⟨fun ⟨e, h1, h2⟩ => ⟨e, pm.mem_iff.mpr h1, h2⟩, fun ⟨e, h1, h2⟩ => ⟨e, pm.mem_iff.mp h1, h2⟩⟩⟩, ⟨by rw [sz]; exact hb, ht3, sz⟩, hw3⟩)
  · rw [if_neg full]
    exact wpAny_pure (q _ b1 ⟨_, _, _, _, o1, hx, rfl, he, ⟨hb, ht, rfl⟩, hw⟩)
theorem add_in {Q : Bool → Shared → Prop} (hk : kd.is k x = true) (hx : x.scannable = true) (R : SetW kd s.heap a S n) (room : n + 1 < scanBound)
    (q : ∀ b h' m, Heap.SameBut a s.heap h' → m = (if S k = true then n else n + 1) → SetW kd h' a (fun j => S j || decide (j = k)) m → Q b { s with heap := h' }) : wpAny (model P w) A (setAddHashed a x (kd.hash k)) Q E s := by
  obtain ⟨o, l, ep, t, ho, hex, hd, ⟨hel, hm⟩, ⟨hb, hft, rfl⟩, hw⟩ := R
  have quiet : ∀ (b : Bool) (s1 : Shared) (Q1 : Unit → Shared → Prop), Q1 () s1 → wpAny (model P w) A (match b with | true => rule "set.scan.the-table-gave-way" | false => pure ()) Q1 E s1 := fun b s1 Q1 h => by
    cases b
    · exact wpAny_pure h
    · exact wpAny_rule h
  unfold setAddHashed setAddHashedIn
  refine wpAny_holding (wpAny_bind (wpAny_setState_of ho hd hft ?_))
  dsimp only
  rw [byScan_of hx hb hel, if_pos rfl]
  unfold setAddByScan
  refine wpAny_bind (wpAny_bind (wpAny_rule (wpAny_bind (wpAny_setScan_of hk ho hd hft hel ?_))))
  cases there : List.findIdx? (fun e => kd.is k e.2) l.toList with
  | some j =>
    obtain ⟨hj, pj, _⟩ := List.findIdx?_eq_some_iff_getElem.mp there
    have inS : S k = true := (hm k).mpr ⟨_, List.getElem_mem hj, pj⟩
    have same : (fun j => S j || decide (j = k)) = S := by
      funext j
      by_cases e : j = k
      · rw [e, inS]; rfl
      · rw [decide_eq_false e, Bool.or_false]
    refine wpAny_pure (wpAny_pure (q false s.heap l.size (Heap.SameBut.refl a s.heap) (by rw [if_pos inS]) ?_))
    rw [same]
    exact ⟨o, l, ep, t, ho, hex, hd, ⟨hel, hm⟩, ⟨hb, hft, rfl⟩, hw⟩
  | none =>
    have nin : ¬ S k = true := fun z => by
      obtain ⟨e, h1, h2⟩ := (hm k).mp z
      have := List.findIdx?_eq_none_iff.mp there e h1
      rw [h2] at this; cases this
    dsimp only
    have pm := layNew_perm t l (kd.hash k) x
    have w1 : Wk w (layNew t l (kd.hash k) x).2.1 := hw.of (layNew_ris t l _ x hw.ris) (layNew_led t l _ x)
    have f1 := layNew_fits t l (kd.hash k) x
    generalize layNew t l (kd.hash k) x = Z at pm w1 f1 ⊢
    obtain ⟨m, u, dm, gv⟩ := Z
    dsimp only at pm w1 f1 ⊢
    rw [Array.toList_push] at pm
    have sz : m.size = l.size + 1 := by
      have := pm.length_eq
      rwa [List.length_append, Array.length_toList, Array.length_toList] at this
    have fin : ∀ h', Heap.SameBut a s.heap h' → SetW kd h' a (fun j => S j || decide (j = k)) m.size → Q true { s with heap := h' } := fun h' sb r => q true h' m.size sb (by rw [if_neg nin, sz]) r
    have he : ElemsOf kd m.toList ∧ ∀ j, (S j || decide (j = k)) = true ↔ ∃ e ∈ m.toList, kd.is j e.2 = true := ⟨(hel.push hk hx).perm pm, mem_push_iff hk hm pm⟩
    have hb1 : m.size < scanBound := by rw [sz]; exact room
    refine wpAny_bind (quiet _ _ _ ?_)
    split
    · refine wpAny_bind ?_
      rw [hashByValue_scannable 8 hx]
      refine wpAny_pure (add_end quiet ho hex hd he hb1 ?_ ?_ fun h' sb r => wpAny_pure (fin h' sb r))
      · split
        · exact f1
        · exact SetTable.fits_plain_off f1
      · split
        · exact w1
        · exact ⟨w1.ris, w1.led⟩
    · refine wpAny_bind (wpAny_pure ?_)
      rw [if_pos rfl]
      exact add_end quiet ho hex hd he hb1 f1 w1 fun h' sb r => wpAny_pure (fin h' sb r)
end
end TxS

set_option Elab.async false
set_option linter.all false
set_option maxRecDepth 100000
set_option maxHeartbeats 4000000
namespace TxS
open PySem PySem.Spec PyProof.Rows L2
section
variable {P : Program} {w : World} {T : Type} [DecidableEq T] {kd : KeyKind P w T} {A : Around} {E : Value → Shared → Prop} {s : Shared} {a : Addr} {S : T → Bool} {n : Nat} {k : T} {x : Value}
theorem call_addW {Q : Value → Shared → Prop} (hk : kd.is k x = true) (hx : x.scannable = true) (R : SetW kd s.heap a S n) (room : n + 1 < scanBound)
    (q : ∀ h' m, Heap.SameBut a s.heap h' → m = (if S k = true then n else n + 1) → SetW kd h' a (fun j => S j || decide (j = k)) m → Q .none { s with heap := h', toks := s.toks + 1 }) : wpAny (model P w) A (call (.builtin "set.add") [.ref a, x]) Q E s := by
  refine wpAny_call_entry F.slot_set_add R.setOf.typeIs F.entry_set_add ?_ (F.args_set_add_2 _ _)
  unfold Builtin.«set.add» Builtin.Frozenset.oneOther Builtin.Frozenset.addrOf setAdd
  simp only [List.isEmpty_nil, bind_assoc]
  refine wpAny_bind (wpAny_pure ?_); try dsimp only
  refine wpAny_bind (wpAny_pure ?_); try dsimp only
  refine wpAny_bind (wpAny_holding (wpAny_bind (kd.pyHash hk (add_in (s := { s with toks := s.toks + 1 }) hk hx R room fun b h' m sb hm r => ?_))))
  exact wpAny_pure ⟨_, rfl, q h' m sb hm r⟩
theorem newW {h : Heap} (led : Bool) (hl : w.params.followText "set-order" = true ∨ led = true) : SetW kd (h.push { cls := .type "set", dict := none, data := .set #[] 0 (.fresh 0 0 led) }) h.objs.size (fun _ => false) 0 :=
  ⟨_, #[], 0, _, Heap.get?_push_size _ rfl, ⟨rfl, rfl, rfl⟩, rfl, ⟨fun e he => by simp at he, fun k => by simp⟩, ⟨by decide, by rfl, rfl⟩, ⟨by
    show Ris (#[] : Array Nat).toList
    exact List.Pairwise.nil, hl⟩⟩
end
/-- all keys are texts of which p is true -/
def Txt1 (S : Key → Bool) (p : Str → Prop) : Prop := ∀ k, S k = true → ∃ z, k = .inr z ∧ p z
section
variable {P : Program} {w : World} {A : Around} {E : Value → Shared → Prop} {s : Shared} {a : Addr} {S : Key → Bool} {n : Nat}
theorem vals_txt {p : Str → Prop} {l : List (Int × Value)} (he : ElemsOf (mixKind P w) l) (hm : ∀ k, S k = true ↔ ∃ e ∈ l, (mixKind P w).is k e.2 = true) (ht : Txt1 S p) : ∀ v ∈ l.map (·.2), ∃ z t, v = Value.str z t ∧ p z := by
  intro v hv
  obtain ⟨e, h1, rfl⟩ := List.mem_map.mp hv
  obtain ⟨⟨k, h2, _⟩, _⟩ := he e h1
  obtain ⟨z, rfl, hz⟩ := ht k ((hm k).mpr ⟨e, h1, h2⟩)
  rcases keyIs_shape (show keyIs (.inr z) e.2 = true from h2) with ⟨i, t, h3, _⟩ | ⟨y, t, h3, h4⟩
  · cases h3
  · cases h3
    exact ⟨z, t, h4, hz⟩
theorem sorted_txt {p : Str → Prop} {Q : Value → Shared → Prop} (R : SetW (mixKind P w) s.heap a S n) (ht : Txt1 S p) (hh : A.handled = none)
    (q : ∀ s' b (out : Array Value) (c : Nat) (ys : List Str), (∀ d o, s.heap.get? d = some o → s'.heap.get? d = some o) → s'.gens = s.gens → s'.os = s.os → s.heap.objs.size ≤ b → s'.heap.get? b = some (seqObj "list" out c) → StrsAre out.toList ys → (∀ y ∈ ys, p y) → ys.length = n → sortedS ys = true → (∀ y, S (.inr y) = true → y ∈ ys) → Q (.ref b) s') :
    wpAny (model P w) A (call (.builtin "sorted") [.ref a]) Q E s := by
  obtain ⟨o, l, ep, t, ho, hx, hd, ⟨he, hm⟩, ⟨hb, hf, hn⟩, hw⟩ := R
  have big := fits_of_scanBound hb
  have vt := vals_txt he hm ht
  refine Calls.call_function_entry kind_sorted plain_sorted entry_sorted (args_sorted1 _) ?_
  unfold Builtin.«sorted»
  refine wpAny_bind (m := checkCount "sorted" 1 1 _) (wpAny_pure (wpAny_bind ?_))
  refine collect_set (A := A.in1) hh ⟨o, ho, hx.1, hd⟩ hf hb hw.ris hw.led fun s1 vs k1 hz g1 o1 pm => ?_
  have len : vs.length = n := by rw [pm.length_eq, List.length_map, Array.length_toList, hn]
  have all : StrsAre vs (vs.map strOf) := strsAre_map vs fun v hv => by
    obtain ⟨z, t, h, _⟩ := vt v (pm.mem_iff.mp hv)
    exact ⟨z, t, h⟩
  have ok : ∀ y ∈ vs.map strOf, p y := fun y hy => by
    obtain ⟨v, hv, rfl⟩ := List.mem_map.mp hy
    obtain ⟨z, t, rfl, hp⟩ := vt v (pm.mem_iff.mp hv)
    exact hp
  have mem : ∀ y, S (.inr y) = true → y ∈ vs.map strOf := fun y hy => by
    obtain ⟨e, h1, h2⟩ := (hm _).mp hy
    have hv : e.2 ∈ vs := pm.mem_iff.mpr (List.mem_map.mpr ⟨e, h1, rfl⟩)
    rcases keyIs_shape (show keyIs (.inr y) e.2 = true from h2) with ⟨i, t, h3, h4⟩ | ⟨z, t, h3, h4⟩
    · cases h3
    · cases h3; exact List.mem_map.mpr ⟨e.2, hv, by rw [h4]; rfl⟩
  have hs : vs.length ≤ sizeLine := by rw [len, ← hn]; exact big
  refine wpAny_bind (wpAny_newList ?_ hs)
  have hL : (s1.heap.push (seqObj "list" vs.toArray 0)).get? s1.heap.objs.size = some (seqObj "list" vs.toArray 0) := Heap.get?_push_size _ rfl
  refine wpAny_bind (wpAny_holding (wpAny_call_entry slot_list_sort ⟨_, hL, rfl⟩ entry_list_sort (list_sort_treeKAny strKind_oneLt hL all.keysOf (fun v₁ v₂ rest e => keyKind_strs (by rw [← e]; exact all)) hs fun st' hp hso => ⟨_, rfl, ?_⟩) (args_list_sort _)))
  obtain ⟨ys, y1, y2, y3⟩ := sorted_out_str all hp hso
  obtain ⟨c, hc⟩ := sortedHeap_at (vs := vs) (out := (arrOf st').map (·.2)) hL
  refine wpAny_pure ⟨_, rfl, q _ s1.heap.objs.size _ c ys (fun d u e => ?_) g1 o1 hz hc y1 (fun y hy => ok y (y2.mem_iff.mp hy)) (by rw [y2.length_eq, List.length_map, len]) y3 (fun y hy => y2.mem_iff.mpr (mem y hy))⟩
  have e1 := k1 d u e
  have lt := Heap.lt_size e1
  show (sortedHeap (s1.heap.push (seqObj "list" vs.toArray 0)) s1.heap.objs.size vs _).get? d = some u
  rw [sortedHeap_old (Nat.ne_of_lt lt) (by rw [size_push']; exact Nat.lt_succ_of_lt lt)]
  exact Heap.get?_push_of_some _ e1
end
/-- the set at a, in the tracked heap -/
def SetX (P : Program) (w : World) (a : Addr) (S : Key → Bool) (n : Nat) : HO := .ext fun h => SetW (mixKind P w) h a S n
section
variable {P : Program} {w : World} {H : Hp} {h : Heap} {a : Addr} {S : Key → Bool} {n : Nat}
theorem setX_new (R : SetW (mixKind P w) h a S n) : ObjOk P w H h a (SetX P w a S n) := by
  refine ⟨R, ?_, fun h1 h2 p k => SetW.at p k⟩
  obtain ⟨o, _, _, _, ho, _⟩ := R
  exact ⟨o, ho⟩
end
section
variable {X : Cx} {pins : List (Addr × Obj)} {σ : L2.St} {H : Hp} {s : Shared} {a : Addr} {S : Key → Bool} {n : Nat}
theorem setX_get (I : Inv X pins σ H s) (h : H a = some (SetX X.prog X.w a S n)) : SetW (mixKind X.prog X.w) s.heap a S n := (I.hok a _ h).1
theorem addX_ok {E : Value → Shared → Prop} {y : Str} {v : Value} {Q : Value → Shared → Prop} (I : Inv X pins σ H s) (hD : H a = some (SetX X.prog X.w a S n)) (hv : RelV (.str y) v) (room : n + 1 < scanBound)
    (q : ∀ s' m, m = (if S (.inr y) = true then n else n + 1) → Inv X pins σ (upd H a (SetX X.prog X.w a (fun j => S j || decide (j = .inr y)) m)) s' → Q .none s') : wpAny (model X.prog X.w) X.A (call (.builtin "set.add") [.ref a, v]) Q E s := by
  have hv2 : RelV (kV (.inr y)) v := hv
  refine call_addW (kV_is hv2) (key_scan hv2) (setX_get I hD) room fun h' m sb hm r => q _ m hm ?_
  have there : ∃ u, h'.get? a = some u := by
    obtain ⟨o, _, _, _, ho, _⟩ := r
    exact ⟨o, ho⟩
  exact I.write (e := a) (t' := s.toks + 1) (by rw [hD]; trivial) (.inl rfl) (fun b u hb hu => (sb.2 b hb).trans hu) there (setX_new r)
/-- sorted of a set of texts: a new list of its members -/
def rSortX (P : Program) (w : World) : List V → Hp → VK → Prop := fun vs H Q => ∃ (a : Addr) (S : Key → Bool) (n : Nat) (p : Str → Prop), vs = [.ref a] ∧ H a = some (SetX P w a S n) ∧ n < scanBound ∧ Txt1 S p ∧
  ∀ (ys : List Str) (b : Addr), (∀ y ∈ ys, p y) → ys.length = n → sortedS ys = true → (∀ y, S (.inr y) = true → y ∈ ys) → H b = none → Q (.ref b) (upd H b (.lst (ys.map V.str)))
theorem cr_sortX (hc : X.calm = true) : CallR X (.builtin "sorted") (rSortX X.prog X.w) := by
  intro pins s σ H vs us Q I r h
  obtain ⟨a, S, n, p, rfl, ha, hn, ht, q⟩ := h
  rw [Vals.ref1 r]
  refine sorted_txt (setX_get I ha) ht (I.ok.hd hc) fun s' b out c ys k g o hb hg hi hy hl hso hme => ?_
  have fresh : H b = none := I.hok.fresh hb
  have small : (ys.map V.str).length ≤ sizeLine := by rw [List.length_map, hl]; exact fits_of_scanBound hn
  have J : Inv X pins σ (upd H b (.lst (ys.map V.str))) { s with heap := s'.heap, gens := s'.gens, drawn := s'.drawn, toks := s'.toks } :=
    I.call (ch := []) (Un.laid k hb fresh) (I.hok.laid k hb ⟨small, out.toList, c, vals_of_strs hi, hg⟩) (by rw [g]; exact I.bare) (fun _ z => nomatch z)
  have e : s' = { s with heap := s'.heap, gens := s'.gens, drawn := s'.drawn, toks := s'.toks } := by cases s'; cases s; cases o; rfl
  rw [e]
  exact ⟨.ref b, _, J, rfl, q ys b hy hl hso hme fresh⟩
end
end TxS

set_option Elab.async false
set_option linter.all false
set_option maxRecDepth 100000
set_option maxHeartbeats 4000000
namespace TxS
open PySem PySem.Spec PyProof.Rows L2 PpSet
/-! a set comprehension of texts, of any number of clauses: what a turn does behind its tests is an act, a deeper clause's start or the set's add -/
inductive Act where
  | start (c : Comprehension) (g : Nat)
  | emit
section
variable {prog : Program} {w : World} {A : Around} {R : Result → Shared → Prop} {s : Shared} {e elt : Expr} {it acc : Value} {env : Env} {c : Comprehension} {g : Nat}
def No : Value → Shared → Prop := fun _ _ => False
/-- the act is done, and comes to Z -/
def actW (M : Model) (A : Around) (e elt : Expr) (acc : Value) (env : Env) : Act → (Shared → Prop) → Shared → Prop
  | .start c g, Z, s => wpAny M A (eval c.iter env) (fun x s1 => wpAny M A (pyIter x) (fun j s2 => codeAny M A (.compStart e g j acc env) (fun r s3 => match r with | .ok _ => Z s3 | .error _ => False) s2) No s1) No s
  | .emit, Z, s => wpAny M A (eval elt env) (fun x s1 => wpAny M A (call (.builtin "set.add") [acc, x]) (fun _ s2 => Z s2) No s1) No s
/-- a turn as the model has it, up to its act -/
def turnS (e elt : Expr) (c : Comprehension) (g : Nat) (it acc : Value) (env : Env) : Act → Sem Fin
  | .start c1 g1 => do
    standAt c.iter.pos
    match ← pyNext it with
    | none => pure (.done .next)
    | some v =>
      letOwnedTupleGo c.target it v
      assign c.target env v
      let mut ok := true
      for t in c.ifs do
        if ok then ok ← isTrue t env (eval t env)
      if ok then
        let x ← eval c1.iter env
        standAt c1.iter.pos
        let x ← foldedSetIterable c1.iter env x
        let _ ← runOwn (.compStart e g1 (← holding [x] (pyIter x)) acc env) env
      again (.compLoop e g it acc env)
  | .emit => do
    standAt c.iter.pos
    match ← pyNext it with
    | none => pure (.done .next)
    | some v =>
      letOwnedTupleGo c.target it v
      assign c.target env v
      let mut ok := true
      for t in c.ifs do
        if ok then ok ← isTrue t env (eval t env)
      if ok then
        (do let v ← eval elt env; standAt elt.pos; let _ ← call (.builtin "set.add") [acc, v])
      again (.compLoop e g it acc env)
/-- an act's own sources are no written sets -/
def Act.plain : Act → Env → Prop
  | .start c _, env => ∀ x, foldedSetIterable c.iter env x = pure x
  | .emit, _ => True
def turnW (M : Model) (A : Around) (e elt : Expr) (c : Comprehension) (a : Act) (it acc : Value) (env : Env) (I : Nat → Shared → Prop) (End : Shared → Prop) (n : Nat) (s : Shared) : Prop :=
  wpAny M A (pyNext it) (fun r s1 => match r with
    | none => End s1
    | some v => wpAny M A (letOwnedTupleGo c.target it v) (fun _ s2 => wpAny M A (assign c.target env v) (fun _ s3 =>
        wpAny M A (forIn c.ifs true fun t r => if r = true then do let ok ← isTrue t env (eval t env); pure (ForInStep.yield ok) else pure (ForInStep.yield r)) (fun ok s4 =>
          if ok = true then actW M A e elt acc env a (fun s5 => ∃ m, m < n ∧ I m s5) s4 else ∃ m, m < n ∧ I m s4) No s3) No s2) No s1) No s
theorem no_mono {α : Type} {t : Sem α} {Q Q' : α → Shared → Prop} {M : Model} {E : Value → Shared → Prop} (h : wpAny M A t Q No s) (k : ∀ x s', Q x s' → Q' x s') : wpAny M A t Q' E s := wpAny_mono h k fun _ _ z => False.elim z
theorem loopA {a : Act} {gens : List Comprehension} {scope : Scope} {pos : Pos} (he : e = .SetComp elt gens scope pos) (hp : a.plain env) (ht : compTurn e g it acc env = turnS e elt c g it acc env a) (I : Nat → Shared → Prop) (turn : ∀ n s, I n s → turnW (model prog w) A e elt c a it acc env I (fun s' => R (.ok .next) s') n s) (n : Nat) (h : I n s) :
    codeAny (model prog w) A (.compLoop e g it acc env) R s := by
  subst he
  refine codeAny_loop rfl I (fun n s hI => ?_) n h
  show wpAny _ A ((compTurn (.SetComp elt gens scope pos) g it acc env).onRaise (fun x => do noteFrame x env; theTreesLotGoes x)) _ _ s
  apply wpAny_noted
  rw [ht]
  cases a with
  | emit =>
    refine wpAny_bind (wpAny_standAt (wpAny_bind (no_mono (turn n s hI) fun r s1 h1 => ?_)))
    cases r with
    | none => exact wpAny_pure h1
    | some v =>
      refine wpAny_bind (no_mono h1 fun _ s2 h2 => wpAny_bind (no_mono h2 fun _ s3 h3 => wpAny_bind (no_mono h3 fun ok s4 h4 => ?_)))
      cases ok with
      | false => exact wpAny_pure ⟨rfl, h4⟩
      | true => exact wpAny_bind (wpAny_bind (no_mono h4 fun x s5 h5 => wpAny_bind (wpAny_standAt (wpAny_bind (no_mono h5 fun _ s6 h6 => wpAny_pure (wpAny_pure ⟨rfl, h6⟩))))))
  | start c1 g1 =>
    refine wpAny_bind (wpAny_standAt (wpAny_bind (no_mono (turn n s hI) fun r s1 h1 => ?_)))
    cases r with
    | none => exact wpAny_pure h1
    | some v =>
      refine wpAny_bind (no_mono h1 fun _ s2 h2 => wpAny_bind (no_mono h2 fun _ s3 h3 => wpAny_bind (no_mono h3 fun ok s4 h4 => ?_)))
      cases ok with
      | false => exact wpAny_pure ⟨rfl, h4⟩
      | true =>
        refine wpAny_bind (no_mono h4 fun x s5 h5 => wpAny_bind (wpAny_standAt (wpAny_bind (wpAny_of_eq (hp x) (wpAny_bind (wpAny_holding (no_mono h5 fun j s6 h6 => ?_)))))))
        refine wpAny_bind (wpAny_runOwn ?_)
        rw [Around.mark_none]
        refine codeAny_mono h6 fun r s7 h7 => ?_
        match r, h7 with
        | .ok f, h7 =>
          first
            | exact wpAny_pure ⟨rfl, h7⟩
            | exact wpAny_bind (wpAny_pure (wpAny_pure ⟨rfl, h7⟩))
        | .error _, h7 => exact h7.elim
theorem startA {gens : List Comprehension} {scope : Scope} {pos : Pos} (he : e = .SetComp elt gens scope pos) (hc : (clausesOf e)[g]? = some c) (ha : (c.is_async != 0) = false) (h0 : codeAny (model prog w) A (.compLoop e g it acc env) R s)
    (h : wpAny (model prog w) A (pyIter it) (fun j s' => codeAny (model prog w) A (.compLoop e g j acc env) R s') (notedBy (model prog w) A env fun x s' => R (.error x) s') s) : codeAny (model prog w) A (.compStart e g it acc env) R s := by
  subst he
  apply codeAny_of_tree
  show wpAny _ _ ((compStart (.SetComp elt gens scope pos) g it acc env).onRaise (fun x => do noteFrame x env; standAt theWindowsPlace)) _ _ s
  apply wpAny_notedAt
  unfold compStart
  rw [hc]
  simp only [Option.elim, ha, Bool.false_eq_true, if_false]
  refine wpAny_bind (wpAny_askSetting (wpAny_ite ?_))
  split
  · first
      | exact wpAny_bind (wpAny_pure (wpAny_pure (And.intro rfl h0)))
      | exact wpAny_pure (And.intro rfl h0)
  · refine wpAny_bind (wpAny_rule ?_)
    first
      | exact wpAny_bind (wpAny_standAt (wpAny_bind (wpAny_mono h (fun j s' h' => wpAny_pure (And.intro rfl h')) fun _ _ x => x)))
      | exact wpAny_bind (wpAny_bind (wpAny_standAt (wpAny_mono h (fun j s' h' => wpAny_pure (And.intro rfl h')) fun _ _ x => x)))
end
end TxS

set_option Elab.async false
set_option linter.all false
set_option maxRecDepth 100000
set_option maxHeartbeats 4000000
namespace TxS
open PySem PySem.Spec PyProof.Rows L2 PpSet
/-- what is known of the slots outside vs is known still -/
structure Weak (vs : List Nat) (σ σ' : L2.St) : Prop where
  len : σ'.length = σ.length
  kn : ∀ (j : Nat) (v : V), (wipe σ vs)[j]? = some (some v) → σ'[j]? = some (some v)
theorem Weak.refl (vs : List Nat) (σ : L2.St) : Weak vs σ σ := ⟨rfl, fun j v e => (wipe_some e).1⟩
theorem Weak.wiped (vs : List Nat) (σ : L2.St) : Weak vs σ (wipe σ vs) := ⟨wipe_length _ _, fun _ _ e => e⟩
/-- a turn that began with vs wiped, then something weaker inside vs -/
theorem Weak.turn {vs vs1 : List Nat} {τ σ2 σ3 : L2.St} (e : wipe σ2 vs = τ) (h : Weak vs1 σ2 σ3) (sub : ∀ i ∈ vs1, i ∈ vs) : τ.length = σ3.length ∧ ∀ (j : Nat) (v : V), τ[j]? = some (some v) → σ3[j]? = some (some v) := by
  constructor
  · rw [h.len, ← e, wipe_length]
  · intro j v q
    rw [← e] at q
    obtain ⟨q1, q2⟩ := wipe_some q
    exact h.kn j v (by rw [wipe_out fun z => q2 (sub j z)]; exact q1)
abbrev Tr := L2.St → Hp → (Hp → Prop) → Prop
def ActOk (Y : Cx) (e elt : Expr) (acc : Value) (a : Act) (vs : List Nat) (tr : Tr) : Prop := ∀ pins σ H s (Z : Hp → Prop), Inv Y pins σ H s → tr σ H Z →
  actW (model Y.prog Y.w) Y.A e elt acc Y.env a (fun s' => ∃ σ' H', Inv Y pins σ' H' s' ∧ Weak vs σ σ' ∧ Z H') s
/-- the element goes into the set at D -/
def trE (P : Program) (w : World) (D : Addr) (te : TE) : Tr := fun σ H Z => te σ H fun y H1 => ∃ (z : Str) (S : Key → Bool) (n : Nat), y = .str z ∧ H1 D = some (SetX P w D S n) ∧ n + 1 < scanBound ∧ ∀ m, m = (if S (.inr z) = true then n else n + 1) → Z (upd H1 D (SetX P w D (fun j => S j || decide (j = .inr z)) m))
/-- a clause: W by the turn and a measure, N what a turn is to reach -/
def trC (wi : TI) (g : TG) (tt : TT) (vs : List Nat) (inner : Tr) : Tr := fun σ H Z => wi σ H fun J H1 => ∃ W : Nat → Nat → Hp → Prop, (∃ m, W 0 m H1) ∧ ∀ i m H, W i m H →
  (J.stop i H ∧ Z H) ∨ (J.go i H ∧ ∃ N : Hp → Prop, (∀ H', N H' → ∃ m', m' < m ∧ W (i + 1) m' H') ∧ ∀ x H', J.yld i H x H' → g x (wipe σ vs) H' fun σ2 H2 => wipe σ2 vs = wipe σ vs ∧ tt σ2 H2 fun b H3 => if b = true then inner σ2 H3 N else N H3)
section
variable {Y : Cx} {e elt : Expr} {acc : Value}
theorem emit_ok {D : Addr} {te : TE} (hx : Y.xe = No) (he : PE Y elt te) : ActOk Y e elt (.ref D) .emit [] (trE Y.prog Y.w D te) := by
  intro pins σ H s Z I h
  have r := he.run pins s σ H _ I h
  rw [hx] at r
  refine no_mono r fun v s1 ⟨y, H1, I1, rv, z, S, n, ey, hD, room, q⟩ => ?_
  subst ey
  exact addX_ok I1 hD rv room fun s2 m hm I2 => ⟨σ, _, I2, Weak.refl _ _, q m hm⟩
/-- the loop of a clause whose iterator stands; τ: what is known of the slots at each turn's start -/
theorem loop_ok {c : Comprehension} {gn : Nat} {a : Act} {vs vs1 : List Nat} {g : TG} {tt : TT} {tr : Tr} {gens : List Comprehension} {scope : Scope} {pos : Pos} (hE : e = .SetComp elt gens scope pos) (hgn : (clausesOf e)[gn]? = some c) (hna : (c.is_async != 0) = false)
    (ht : ∀ it, compTurn e gn it acc Y.env = turnS e elt c gn it acc Y.env a) (hp : a.plain Y.env) (hc : Y.calm = true) (hx : Y.xe = No) (hg : PG Y c.target g) (hts : PTs Y c.ifs tt) (sub : ∀ i ∈ vs1, i ∈ vs) (hin : ActOk Y e elt acc a vs1 tr)
    {pins : List (Addr × Obj)} {τ : L2.St} {s2 : Shared} {H2 : Hp} {it : Addr} {fp : List Addr} {tn : Nat → Heap → Prop} {J : It} {W : Nat → Nat → Hp → Prop} {m0 : Nat} {Z : Hp → Prop} (I2 : Inv Y pins τ H2 s2) (T : Turn Y.prog Y.w Y.K c.target J fp it tn) (t0 : tn 0 s2.heap) (f2 : ∀ b ∈ fp, FpOk Y pins H2 b) (w0 : W 0 m0 H2)
    (step : ∀ i m H, W i m H → (J.stop i H ∧ Z H) ∨ (J.go i H ∧ ∃ N : Hp → Prop, (∀ H', N H' → ∃ m', m' < m ∧ W (i + 1) m' H') ∧ ∀ x H', J.yld i H x H' → g x τ H' fun σ2 H2 => wipe σ2 vs = τ ∧ tt σ2 H2 fun b H3 => if b = true then tr σ2 H3 N else N H3)) :
    codeAny (model Y.prog Y.w) Y.A (.compStart e gn (.ref it) acc Y.env) (fun r s' => match r with
      | .ok _ => ∃ H', Inv Y pins τ H' s' ∧ Z H'
      | .error _ => False) s2 := by
  have fpk : ∀ {σ' : L2.St} {H' : Hp} {s' : Shared}, Inv Y pins σ' H' s' → (∀ b ∈ fp, H' b = none) → ∀ b ∈ fp, FpOk Y pins H' b := fun _ hn b hb => ⟨hn b hb, (f2 b hb).2⟩
  let RR : Result → Shared → Prop := fun r s' => match r with
    | .ok _ => ∃ H', Inv Y pins τ H' s' ∧ Z H'
    | .error _ => False
  have loop : codeAny (model Y.prog Y.w) Y.A (.compLoop e gn (.ref it) acc Y.env) RR s2 := by
    refine loopA hE hp (ht _) (fun n s' => ∃ i H', Inv Y pins τ H' s' ∧ tn i s'.heap ∧ (∀ b ∈ fp, H' b = none) ∧ W i n H') ?_ m0 ⟨0, H2, I2, t0, fun b hb => (f2 b hb).1, w0⟩
    rintro n s3 ⟨i, H3, I3, t3, n3, w3⟩
    rcases step i n H3 w3 with ⟨stop, z⟩ | ⟨go, N, hN, body⟩
    · refine no_mono (T.done Y rfl rfl rfl hc i pins s3 _ H3 No I3 (fpk I3 n3) t3 stop) fun r s4 ⟨hr, I4⟩ => ?_
      subst hr
      exact ⟨_, I4, z⟩
    · refine no_mono (T.item Y rfl rfl rfl hc i pins s3 _ H3 No I3 (fpk I3 n3) t3 go) fun r s4 ⟨u, hr, h4⟩ => ?_
      subst hr
      refine no_mono h4 fun _ s5 ⟨x1, H5, I5, rx, y5, t5, n5⟩ => ?_
      have I5' := I5.pinned (fpk I5 n5) (T.obj _ _ t5)
      have done : ∀ {σ' : L2.St} {H' : Hp} {s' : Shared}, Inv Y (pins ++ pinsAt fp s5.heap) σ' H' s' → τ.length = σ'.length → (∀ (j : Nat) (v : V), τ[j]? = some (some v) → σ'[j]? = some (some v)) → N H' →
          ∃ m, m < n ∧ ∃ i H', Inv Y pins τ H' s' ∧ tn i s'.heap ∧ (∀ b ∈ fp, H' b = none) ∧ W i m H' := by
        intro σ' H' s' I' hl hk nx
        obtain ⟨m', hm, w'⟩ := hN H' nx
        have pin : ∀ b ∈ fp, ∀ o, s5.heap.get? b = some o → s'.heap.get? b = some o ∧ H' b = none := fun b hb o q =>
          let z := I'.pin (b, o) (List.mem_append_right _ (List.mem_append_right _ (mem_pinsAt hb q)))
          ⟨z.1, z.2.1⟩
        refine ⟨m', hm, i + 1, H', I'.unpinned.weak hl hk, T.keep _ _ _ t5 fun b hb o q => (pin b hb o q).1, fun b hb => ?_, w'⟩
        obtain ⟨o, q, _⟩ := T.obj _ _ t5 b hb
        exact (pin b hb o q).2
      have rg := hg.run _ s5 _ H5 x1 u _ I5' rx (body x1 H5 y5)
      rw [hx] at rg
      refine no_mono rg fun _ s6 ⟨σ6, H6, I6, e6, q6⟩ => ?_
      have rt := hts.run _ s6 σ6 H6 _ I6 q6
      rw [hx] at rt
      refine no_mono rt fun b s7 ⟨H7, I7, q7⟩ => ?_
      cases b with
      | false =>
        obtain ⟨k1, k2⟩ := Weak.turn e6 (Weak.refl vs1 σ6) sub
        exact done I7 k1 k2 q7
      | true =>
        have act := hin _ σ6 H7 s7 N I7 q7
        have fin : ∀ s', (∃ σ' H', Inv Y (pins ++ pinsAt fp s5.heap) σ' H' s' ∧ Weak vs1 σ6 σ' ∧ N H') → ∃ m, m < n ∧ ∃ i H', Inv Y pins τ H' s' ∧ tn i s'.heap ∧ (∀ b ∈ fp, H' b = none) ∧ W i m H' := by
          rintro s' ⟨σ', H', I', wk, nx⟩
          obtain ⟨k1, k2⟩ := Weak.turn e6 wk sub
          exact done I' k1 k2 nx
        simp only [if_true]
        cases a with
        | emit => exact no_mono act fun x s8 h8 => no_mono h8 fun _ s9 h9 => fin s9 h9
        | start c1 g1 =>
          refine no_mono act fun x s8 h8 => no_mono h8 fun j s9 h9 => codeAny_mono h9 fun r s10 h10 => ?_
          match r, h10 with
          | .ok _, h10 => exact fin s10 h10
          | .error _, h10 => exact h10
  exact startA hE hgn hna loop (T.self Y.A 0 _ _ _ t0 loop)
theorem clause_ok {c : Comprehension} {gn : Nat} {a : Act} {vs vs1 : List Nat} {wi : TI} {g : TG} {tt : TT} {tr : Tr} {gens : List Comprehension} {scope : Scope} {pos : Pos} (hE : e = .SetComp elt gens scope pos) (hgn : (clausesOf e)[gn]? = some c) (hna : (c.is_async != 0) = false)
    (ht : ∀ it, compTurn e gn it acc Y.env = turnS e elt c gn it acc Y.env a) (hp : a.plain Y.env) (hc : Y.calm = true) (hx : Y.xe = No) (hi : PI Y c.target c.iter wi) (hg : PG Y c.target g) (hts : PTs Y c.ifs tt) (sub : ∀ i ∈ vs1, i ∈ vs)
    (hin : ActOk Y e elt acc a vs1 tr) : ActOk Y e elt acc (.start c gn) vs (trC wi g tt vs tr) := by
  intro pins σ H s Z I h
  have r0 := hi.run pins s σ H _ I h
  rw [hx] at r0
  refine no_mono r0 fun x s1 h1 => no_mono h1 fun j s2 h2 => ?_
  obtain ⟨it, fp, tn, J, H2, rfl, I2, T, t0, f2, W, ⟨m0, w0⟩, step⟩ := h2
  refine codeAny_mono (loop_ok hE hgn hna ht hp hc hx hg hts sub hin (I2.weak (wipe_length _ _) fun j v q => (wipe_some q).1) T t0 f2 w0 step) fun r s' h' => ?_
  match r, h' with
  | .ok _, ⟨H', I', z⟩ => exact ⟨_, H', I', Weak.wiped _ _, z⟩
  | .error _, h' => exact h'
end
/-- a set comprehension as a value: the first clause, whose source is the def's own -/
def tScX (P : Program) (w : World) (wi : TI) (g : TG) (tt : TT) (vs : List Nat) (inner : Addr → Tr) : TE := fun σ H Q => wi σ H fun J H1 => ∀ D, H1 D = none → ∃ W : Nat → Nat → Hp → Prop, (∃ m, W 0 m (upd H1 D (SetX P w D (fun _ => false) 0))) ∧ ∀ i m H, W i m H →
  (J.stop i H ∧ Q (.ref D) H) ∨ (J.go i H ∧ ∃ N : Hp → Prop, (∀ H', N H' → ∃ m', m' < m ∧ W (i + 1) m' H') ∧ ∀ x H', J.yld i H x H' → g x (wipe σ vs) H' fun σ2 H2 => wipe σ2 vs = wipe σ vs ∧ tt σ2 H2 fun b H3 => if b = true then inner D σ2 H3 N else N H3)
section
variable {X : Cx}
theorem pe_scX {elt : Expr} {c : Comprehension} {rest : List Comprehension} {a : Act} {scope : Scope} {own : List (Str × Nat)} {vs1 : List Nat} {pos : Pos} {wi : TI} {g : TG} {tt : TT} {inner : Addr → Tr} (hc : X.calm = true) (hN : X.N.Nodup) (hi : PI X c.target c.iter wi) (ok : BlkOk X.N X.env.scope scope own)
    (hna : (c.is_async != 0) = false) (hfa : firstAsync (c :: rest) = false) (hfi : firstIter (c :: rest) X.env = eval c.iter X.env) (hs : ∀ x, foldedSetIterable c.iter X.env x = pure x) (sub : ∀ i ∈ vs1, i ∈ own.map (·.2))
    (ht : ∀ it acc env, compTurn (.SetComp elt (c :: rest) scope pos) 0 it acc env = turnS (.SetComp elt (c :: rest) scope pos) elt c 0 it acc env a) (hp : ∀ env, a.plain env)
    (hg : ∀ (s : Shared) (H : Hp) (C : Addr) (cl : List (Str × Addr)) (fp : List Addr), PG (X.blk s H scope (compEnvC scope cl C X.env) fp) c.target g) (hts : ∀ (s : Shared) (H : Hp) (C : Addr) (cl : List (Str × Addr)) (fp : List Addr), PTs (X.blk s H scope (compEnvC scope cl C X.env) fp) c.ifs tt)
    (hin : ∀ (s : Shared) (H : Hp) (C : Addr) (cl : List (Str × Addr)) (fp : List Addr) (D : Addr), ActOk (X.blk s H scope (compEnvC scope cl C X.env) fp) (.SetComp elt (c :: rest) scope pos) elt (.ref D) a vs1 (inner D)) :
    PE X (.SetComp elt (c :: rest) scope pos) (tScX X.prog X.w wi g tt (own.map (·.2)) inner) := by
  constructor
  intro pins s σ H Q I h
  rw [eval_SetComp, hfa, hfi]
  have hfree : ∀ y ∈ scope.names, y.2 = .free → ∃ k, X.env.cells.lookup y.1 = some k := fun y hy e => (ok.free y hy e).elim (fun k => I.ok.has _ (.inl k)) fun k => I.ok.has _ (.inr k)
  refine wpAny_comprehension_free rfl hs (closure_ok hfree) ok.kind (fun y hy e => by rw [ok.uniq y hy, e]) (thn (hi.run pins s σ H _ I h) fun xv s1 hx => thn hx fun itv s2 h2 => ?_)
  obtain ⟨it, fp, tn, J, H2, rfl, I2, T, st2, f2, q⟩ := h2
  refine newSet_ok (newEnv_comp ?_)
  generalize hD : s2.heap.objs.size = D
  have hDn : H2 D = none := I2.hok.fresh (Nat.le_of_eq hD)
  obtain ⟨W, ⟨m0, w0⟩, turn⟩ := q D hDn
  generalize hs3 : ({ s2 with heap := s2.heap.push { cls := .type "set", dict := none, data := .set #[] 0 (.fresh 0 0 (!X.w.params.followText "set-order")) } } : Shared) = s3
  have h3 : s3.heap = s2.heap.push { cls := .type "set", dict := none, data := .set #[] 0 (.fresh 0 0 (!X.w.params.followText "set-order")) } := by rw [← hs3]
  have led : X.w.params.followText "set-order" = true ∨ (!X.w.params.followText "set-order") = true := by cases X.w.params.followText "set-order" <;> simp
  have I3 : Inv X pins σ (upd H2 D (SetX X.prog X.w D (fun _ => false) 0)) s3 := by
    rw [← hs3]
    refine I2.laid (t' := s2.toks) (fun b o e => Heap.get?_push_of_some _ e) (Nat.le_of_eq hD) ?_
    rw [← hD]
    exact setX_new (newW _ led)
  have sz : ∀ b ∈ fp, b < s2.heap.objs.size := fun b hb => by
    obtain ⟨o, e, _⟩ := T.obj _ _ st2 b hb
    exact Heap.lt_size e
  have f3 : ∀ b ∈ fp, FpOk X pins (upd H2 D (SetX X.prog X.w D (fun _ => false) 0)) b ∧ b < s3.heap.objs.size := fun b hb => by
    have lt := sz b hb
    have ne : b ≠ D := by rw [← hD]; exact Nat.ne_of_lt lt
    exact ⟨⟨by rw [upd_ne ne]; exact (f2 b hb).1, (f2 b hb).2⟩, by rw [h3, Heap.size_push]; exact Nat.lt_succ_of_lt lt⟩
  have st3 : tn 0 s3.heap := T.keep _ _ _ st2 fun b _ o e => by rw [h3]; exact Heap.get?_push_of_some _ e
  have I4 := block_start I3 ok hN f3
  generalize hcl : cellsFrom (s3.heap.objs.size + 1) scope.names (cloFrom X.env.cells scope.names []) = cl at I4
  have pg := hg s3 (upd H2 D (SetX X.prog X.w D (fun _ => false) 0)) s3.heap.objs.size cl fp
  have pt := hts s3 (upd H2 D (SetX X.prog X.w D (fun _ => false) 0)) s3.heap.objs.size cl fp
  have pa := hin s3 (upd H2 D (SetX X.prog X.w D (fun _ => false) 0)) s3.heap.objs.size cl fp D
  generalize hH3 : upd H2 D (SetX X.prog X.w D (fun _ => false) 0) = H3 at I3 I4 pg pt pa w0 f3
  have cL : (compEnvC scope cl s3.heap.objs.size X.env).locals = s3.heap.objs.size := rfl
  generalize hs4 : ({ s3 with heap := pushCells (s3.heap.push { cls := .type "dict", data := .dict #[] }) scope.names } : Shared) = s4 at I4
  have st4 : tn 0 s4.heap := T.keep _ _ _ st3 fun b _ o e => by rw [← hs4]; exact pushCells_keeps _ _ _ _ (Heap.get?_push_of_some _ e)
  have f4 : ∀ b ∈ fp, FpOk (X.blk s3 H3 scope (compEnvC scope cl s3.heap.objs.size X.env) fp) [] H3 b := fun b hb => ⟨(f3 b hb).1.1, (I4.ok.exf b hb).1, I4.ok.exfs b hb, .inl hb, fun x k e => (I4.ok.exf b hb).2 x k e, fun p hp => absurd (show p ∈ ([] : List (Addr × Obj)) ++ [] from hp) (by simp)⟩
  have run := loop_ok (Y := X.blk s3 H3 scope (compEnvC scope cl s3.heap.objs.size X.env) fp) (acc := .ref D) rfl rfl hna (fun it => ht it _ _) (hp _) hc rfl pg pt sub pa I4 T st4 f4 w0 (Z := fun H' => Q (.ref D) H') turn
  refine codeAny_mono run fun r s' h' => ?_
  match r, h' with
  | .error _, h' => exact h'.elim
  | .ok _, ⟨H', I', z⟩ =>
    have I7 : Inv X pins σ H' s' := I3.call' (ch := fp) I'.os I'.base I'.hok I'.bare fun b hb => ⟨(f3 b hb).1.2.2.2.1, (f3 b hb).1.2.1, (f3 b hb).1.2.2.2.2.1, (f3 b hb).1.2.2.2.2.2⟩
    have nC : H' s3.heap.objs.size = none := I'.free
    obtain ⟨m, hn, _⟩ := I'.loc
    obtain ⟨p0, p1, p2, p3, p4, p5⟩ := I3.fpOk (Nat.le_refl _) nC
    exact ⟨m, hn, fun h'' sb => ⟨.ref D, H', I7.turned (t' := s'.toks) (fun b o hb e => (sb.2 b hb).trans e) p0 p1 p3 p4 p5, rfl, z⟩⟩
end
end TxS

set_option Elab.async false
set_option linter.all false
set_option maxRecDepth 100000
set_option maxHeartbeats 4000000
namespace K8
open PySem PySem.Spec PyProof.Rows L2 M8
theorem _root_.List.subset_of_nodup_length {α : Type} [DecidableEq α] : ∀ {l m : List α}, l.Nodup → (∀ x ∈ l, x ∈ m) → l.length ≤ m.length
  | [], _, _, _ => Nat.zero_le _
  | x :: l, m, h, hs => by
    have hx : x ∈ m := hs x (by simp)
    have h1 : l.length ≤ (m.erase x).length := List.subset_of_nodup_length (List.nodup_cons.mp h).2 fun y hy => by
      have hne : y ≠ x := fun z => (List.nodup_cons.mp h).1 (z ▸ hy)
      exact (List.mem_erase_of_ne hne).mpr (hs y (by simp [hy]))
    rw [List.length_erase_of_mem hx] at h1
    have := List.length_pos_of_mem hx
    simp; omega
theorem perm_nd : ∀ {l m : List Str}, l.Nodup → (∀ x ∈ l, x ∈ m) → m.length ≤ l.length → l.Perm m
  | [], m, _, _, h => by
    have : m = [] := List.eq_nil_of_length_eq_zero (by simpa using h)
    rw [this]
  | x :: l, m, hn, hs, hl => by
    have hx : x ∈ m := hs x (by simp)
    have hn' := List.nodup_cons.mp hn
    have h1 := List.length_erase_of_mem hx
    have h2 := List.length_pos_of_mem hx
    have := perm_nd (l := l) (m := m.erase x) hn'.2 (fun y hy => (List.mem_erase_of_ne fun (z : y = x) => hn'.1 (by rw [← z]; exact hy)).mpr (hs y (by simp [hy]))) (by simp at hl; omega)
    exact (this.cons x).trans (List.perm_cons_erase hx).symm
/-- a name of some test -/
def inB (y : Str) (b : Bd) : Prop := ∃ ts ∈ tl b, y ∈ nz (coef ts)
/-- the names of a body, ascending -/
structure NamesB (b : Bd) (ys : List Str) : Prop where
  pw : ys.Pairwise leS
  nd : ys.Nodup
  mem : ∀ y, y ∈ ys ↔ inB y b
theorem NamesB.uniq {b : Bd} {xs ys : List Str} (h : NamesB b xs) (h' : NamesB b ys) : xs = ys :=
  List.Perm.eq_of_pairwise (fun a b _ _ => leS_antisymm) h.pw h'.pw ((List.perm_ext_iff_of_nodup h.nd h'.nd).mpr fun y => (h.mem y).trans (h'.mem y).symm)
/-- texts in a set -/
structure SetS (S : Key → Bool) (ms : List Str) (p : Str → Prop) : Prop where
  nd : ms.Nodup
  tab : ∀ k, S k = true ↔ ∃ y ∈ ms, k = .inr y
  mem : ∀ y, y ∈ ms ↔ p y
theorem SetS.add {S : Key → Bool} {ms : List Str} {p : Str → Prop} (h : SetS S ms p) (y : Str) : ∃ ms', SetS (fun j => S j || decide (j = .inr y)) ms' (fun z => p z ∨ z = y) ∧ ms'.length = (if S (.inr y) = true then ms.length else ms.length + 1) := by
  by_cases hy : S (.inr y) = true
  · obtain ⟨y', hy', e⟩ := (h.tab _).mp hy
    obtain rfl : y = y' := Sum.inr.inj e
    refine ⟨ms, ⟨h.nd, fun k => ?_, fun z => ?_⟩, by rw [if_pos hy]⟩
    · rw [Bool.or_eq_true, h.tab]
      constructor
      · rintro (z | z)
        · exact z
        · exact ⟨y, hy', of_decide_eq_true z⟩
      · exact fun z => .inl z
    · rw [h.mem]
      constructor
      · exact fun z => .inl z
      · rintro (z | rfl)
        · exact z
        · exact (h.mem _).mp hy'
  · have hn : y ∉ ms := fun z => hy ((h.tab _).mpr ⟨y, z, rfl⟩)
    refine ⟨ms ++ [y], ⟨List.nodup_append.mpr ⟨h.nd, by simp, fun a ha b hb e => hn (by rw [← show b = y by simpa using hb, ← e]; exact ha)⟩, fun k => ?_, fun z => ?_⟩, by rw [if_neg hy, List.length_append]; rfl⟩
    · rw [Bool.or_eq_true, h.tab]
      constructor
      · rintro (⟨z, hz, rfl⟩ | z)
        · exact ⟨z, by simp [hz], rfl⟩
        · exact ⟨y, by simp, of_decide_eq_true z⟩
      · rintro ⟨z, hz, rfl⟩
        rcases List.mem_append.mp hz with hz | hz
        · exact .inl ⟨z, hz, rfl⟩
        · right; rw [show z = y by simpa using hz]; exact decide_eq_true rfl
    · rw [List.mem_append, h.mem]; simp
theorem SetS.imp {S : Key → Bool} {ms : List Str} {p q : Str → Prop} (h : SetS S ms p) (e : ∀ y, p y ↔ q y) : SetS S ms q := ⟨h.nd, h.tab, fun y => (h.mem y).trans (e y)⟩
section
variable {P : Program} {w : World} {K : PySem.W.Frag} {mg : Str → Option Value} {base : Heap}
def spNamesOfB (K : PySem.W.Frag) (n : Nat) : Sp := fun vs H Q _ => ∃ (l : Addr) (v : V) (d : Dat) (b : Bd) (H0 : Hp) (ns : List Str), vs = [.ref l] ∧ H l = some (.lst [v]) ∧ Ex H0 H ∧ SeeF K H0 v d ∧ IsB n d b ∧ (tl b).length ≤ 1000 ∧ (∀ ts ∈ tl b, Few (coef ts) ∧ ∀ y ∈ nz (coef ts), y ∈ ns) ∧ ns.length ≤ 1000 ∧
  ∀ (L : Addr) (ys : List Str) (H' : Hp), NamesB b ys → H L = none → Ex H H' → H' L = some (.lst (ys.map V.str)) → Q (.ref L) H'
abbrev s_names_of_bodies : Stmt := top 29
theorem sc_names_of_bodies : FnScope ["bodies", "body", "test", "name"] ["bodies"] (defScope s_names_of_bodies) := ⟨rfl, rfl, rfl, by decide +kernel, rfl, by decide +kernel, by decide +kernel⟩
theorem ok_names_of_bodies (T : Txt K mg) (a : At K mg "names_of_bodies" s_names_of_bodies ["bodies"]) {n k : Nat} (hk : n + 2 ≤ k) (Otests_of : Ok P w K mg base CX0 (n+2) "tests_of" ["body"] (spTests K n)) (Oterm_of : Ok P w K mg base CX0 1 "term_of" ["test"] (spTermOf K)) (Onames_of : Ok P w K mg base CX0 1 "names_of" ["term"] spNamesOf) : Ok P w K mg base CX0 (k+1) "names_of_bodies" ["bodies"] (spNamesOfB K n) := a.ok fun f fd F => by
  refine F.ok sc_names_of_bodies (fun vs H Q E h => ?_) (fun cdv A outer s H vs Q E hr h => ?_)
  · obtain ⟨l, v, d, b, H0, ns, rfl, _⟩ := h; rfl
  · obtain ⟨l, v, d, b, H0, ns, rfl, hl, e0, hs, hb, hc, hnm, hns, q⟩ := h
    refine ⟨_, (pss_one (ps_ret (pe_callB (TxS.cr_sortX rfl) rfl T.n_sorted rfl (pa_cons (TxS.pe_scX (own := [("body", 1), ("test", 2), ("name", 3)]) (vs1 := [2, 3]) (g := gName 1) (tt := tYes) (inner := fun D => TxS.trC (iList K (tC0 (spTests K n) (tCons (tVar 1) tNil))) (gName 2) tYes [2, 3] (TxS.trC (iList K (tC0 spNamesOf (tCons (tC0 (spTermOf K) (tCons (tVar 2) tNil)) tNil))) (gName 3) tYes [3] (TxS.trE P w D (tVar 3)))) (a := .start ⟨_, _, _, _⟩ 1) rfl sc_names_of_bodies.nd (pi_list (pv 0)) (blkOk_by (N := ["bodies", "body", "test", "name"]) (sc := defScope s_names_of_bodies) (by decide +kernel)) rfl rfl rfl (by intro _; rfl) (by decide) (fun _ _ _ => rfl) (fun _ _ => rfl) (fun _ _ _ _ _ => (pg_name (i := 1) sc_names_of_bodies.nd rfl (Or.inl rfl))) (fun _ _ _ _ _ => pts_nil) (fun _ _ _ _ _ D => TxS.clause_ok (a := .start ⟨_, _, _, _⟩ 2) (vs1 := [3]) rfl rfl rfl (fun _ => rfl) (fun _ => rfl) rfl rfl (pi_list (pe_callO Otests_of (hr.mono (by first | decide | omega)) rfl (pa_cons (pv 1) pa_nil))) (pg_name (i := 2) sc_names_of_bodies.nd rfl (Or.inl rfl)) pts_nil (by decide) (TxS.clause_ok (a := .emit) (vs1 := []) rfl rfl rfl (fun _ => rfl) trivial rfl rfl (pi_list (pe_callO Onames_of (hr.mono (by first | decide | omega)) rfl (pa_cons (pe_callO Oterm_of (hr.mono (by first | decide | omega)) rfl (pa_cons (pv 2) pa_nil)) pa_nil))) (pg_name (i := 3) sc_names_of_bodies.nd rfl (Or.inl rfl)) pts_nil (by decide) (TxS.emit_ok rfl (pv 3))))) pa_nil)))), ?_⟩
    dsimp only [tRet, tCB, tCons, tNil]
    refine ⟨_, rfl, l, rfl, ⟨_, SqL.of hl⟩, fun D hD => ?_⟩
    have bound : 4096 = scanBound := rfl
    let St : (Str → Prop) → Hp → Prop := fun p H' => Ex H H' ∧ ∃ S ms, H' D = some (TxS.SetX P w D S ms.length) ∧ SetS S ms p ∧ ∀ y, p y → y ∈ ns
    have s0 : St (fun _ => False) (upd H D (TxS.SetX P w D (fun _ => false) 0)) := ⟨Ex.new hD, fun _ => false, [], upd_same, ⟨by simp, fun k => by simp, fun y => by simp⟩, fun y h => h.elim⟩
    have few : ∀ {p : Str → Prop} {S : Key → Bool} {ms : List Str}, SetS S ms p → (∀ y, p y → y ∈ ns) → ms.length ≤ 1000 := fun h hp => by
      have := List.subset_of_nodup_length h.nd (m := ns) fun y hy => hp y ((h.mem y).mp hy)
      omega
    refine ⟨fun i m H' => m = 1 - i ∧ i ≤ 1 ∧ St (fun y => i = 1 ∧ inB y b) H', ⟨1, rfl, by decide, s0.1, by
      obtain ⟨S, ms, h1, h2, h3⟩ := s0.2
      exact ⟨S, ms, h1, h2.imp fun y => by simp, fun y h => by simp at h⟩⟩, ?_⟩
    rintro i m H1 ⟨rfl, hi, st⟩
    have hl1 := st.1 _ _ hl
    by_cases h0 : i = 1
    · subst h0
      obtain ⟨e1, S, ms, hDS, hS, hp⟩ := st
      have := few hS hp
      refine .inl ⟨⟨[v], SqL.of hl1, by simp⟩, D, S, ms.length, fun _ => True, rfl, hDS, by omega, fun k hk => by obtain ⟨y, _, rfl⟩ := (hS.tab k).mp hk; exact ⟨y, rfl, trivial⟩, fun ys L h1 h2 h3 h4 h5 => ?_⟩
      have hsub : ∀ y ∈ ms, y ∈ ys := fun y hy => h4 y ((hS.tab _).mpr ⟨y, hy, rfl⟩)
      have pm : ms.Perm ys := perm_nd hS.nd hsub (by omega)
      refine q L ys _ ⟨sorted_pw h3, pm.nodup_iff.mp hS.nd, fun y => ?_⟩ (e1.free h5) (e1.mut (e1.free h5)) upd_same
      rw [← pm.mem_iff, hS.mem]; simp
    · have h0 : i = 0 := by omega
      subst h0
      refine .inr ⟨⟨[v], v, SqL.of hl1, rfl⟩, St (fun y => inB y b), fun H' p => ⟨0, by decide, rfl, by decide, p.1, by
        obtain ⟨S, ms, h1, h2, h3⟩ := p.2
        exact ⟨S, ms, h1, h2.imp fun y => by simp, fun y h => h3 y h.2⟩⟩, fun x H2 y => ?_⟩
      obtain ⟨rfl, hx⟩ := y
      have hx := hx [v] (SqL.of hl1)
      cases hx
      refine ⟨rfl, yesT ?_⟩
      refine ⟨_, rfl, v, d, b, H0, rfl, e0.trans st.1, hs, hb, hc, fun l2 zs H3 hl2n e3 hl2 hz => ⟨l2, rfl, ⟨zs, SqL.of hl2⟩, ?_⟩⟩
      have hzl := hz.len
      have n2D : l2 ≠ D := fun z => by
        obtain ⟨_, S, n', hDS, _⟩ := st
        rw [z, hDS] at hl2n; cases hl2n
      have st3 : St (fun y => ∃ ts ∈ (tl b).take 0, y ∈ nz (coef ts)) H3 := by
        obtain ⟨e1, S, ms, hDS, hS, hp⟩ := st
        exact ⟨e1.trans e3, S, ms, e3 _ _ hDS, hS.imp fun y => by simp, fun y h => by simp at h⟩
      refine ⟨fun j k H' => k = zs.length - j ∧ j ≤ zs.length ∧ St (fun y => ∃ ts ∈ (tl b).take j, y ∈ nz (coef ts)) H' ∧ H' l2 = some (.lst zs), ⟨zs.length, by simp, Nat.zero_le _, st3, hl2⟩, ?_⟩
      rintro j k H4 ⟨rfl, hj, st4, hl24⟩
      by_cases hjl : j < zs.length
      · obtain ⟨z, hzj⟩ : ∃ z, zs[j]? = some z := ⟨zs[j], List.getElem?_eq_getElem hjl⟩
        refine .inr ⟨⟨zs, z, SqL.of hl24, hzj⟩, fun H' => St (fun y => ∃ ts ∈ (tl b).take (j + 1), y ∈ nz (coef ts)) H' ∧ H' l2 = some (.lst zs), fun H' p => ⟨zs.length - (j + 1), by omega, rfl, hjl, p⟩, fun x H5 y => ?_⟩
        obtain ⟨rfl, hx⟩ := y
        have hx := hx zs (SqL.of hl24)
        obtain rfl : z = x := by rw [hzj] at hx; exact Option.some.inj hx
        obtain ⟨ts, htsj, dz, sz, it⟩ := hz.get hzj
        have htm := List.mem_of_getElem? htsj
        obtain ⟨fw, sub⟩ := hnm ts htm
        refine ⟨rfl, yesT ?_⟩
        have e04 := e0.trans st4.1
        refine ⟨_, rfl, z, dz, ts, rfl, sz.mono e04, it, fun u hu => ⟨_, _, _, rfl, hu, fw, fun l3 H6 hl3n e6 hl3 => ⟨l3, rfl, ⟨_, SqL.of hl3⟩, ?_⟩⟩⟩
        have n3D : l3 ≠ D := fun z => by
          obtain ⟨_, S, n', hDS, _⟩ := st4
          rw [z, hDS] at hl3n; cases hl3n
        have st6 : St (fun y => (∃ ts ∈ (tl b).take j, y ∈ nz (coef ts)) ∨ y ∈ (nz (coef ts)).take 0) H6 := by
          obtain ⟨e1, S, ms, hDS, hS, hp⟩ := st4
          exact ⟨e1.trans e6, S, ms, e6 _ _ hDS, hS.imp fun y => by simp, fun y h => hp y (by simpa using h)⟩
        refine ⟨fun j2 k2 H' => k2 = (nz (coef ts)).length - j2 ∧ j2 ≤ (nz (coef ts)).length ∧ St (fun y => (∃ ts ∈ (tl b).take j, y ∈ nz (coef ts)) ∨ y ∈ (nz (coef ts)).take j2) H' ∧ H' l2 = some (.lst zs) ∧ H' l3 = some (.lst ((nz (coef ts)).map V.str)), ⟨(nz (coef ts)).length, by simp, Nat.zero_le _, st6, e6 _ _ hl24, hl3⟩, ?_⟩
        rintro j2 k2 H7 ⟨rfl, hj2, st7, hl27, hl37⟩
        by_cases hj2l : j2 < (nz (coef ts)).length
        · obtain ⟨nm, hnm⟩ : ∃ nm, (nz (coef ts))[j2]? = some nm := ⟨(nz (coef ts))[j2], List.getElem?_eq_getElem hj2l⟩
          have hmv : ((nz (coef ts)).map V.str)[j2]? = some (.str nm) := by rw [List.getElem?_map, hnm]; rfl
          refine .inr ⟨⟨_, _, SqL.of hl37, hmv⟩, fun H' => St (fun y => (∃ ts ∈ (tl b).take j, y ∈ nz (coef ts)) ∨ y ∈ (nz (coef ts)).take (j2 + 1)) H' ∧ H' l2 = some (.lst zs) ∧ H' l3 = some (.lst ((nz (coef ts)).map V.str)), fun H' p => ⟨(nz (coef ts)).length - (j2 + 1), by omega, rfl, hj2l, p⟩, fun x H8 y => ?_⟩
          obtain ⟨rfl, hx⟩ := y
          have hx := hx _ (SqL.of hl37)
          rw [hmv] at hx
          cases hx
          obtain ⟨e7, S, ms, hDS, hS, hp⟩ := st7
          have hfw := few hS hp
          refine ⟨rfl, yesT ⟨_, rfl, nm, S, ms.length, rfl, hDS, by omega, fun m hm => ⟨?_, by rw [upd_ne n2D]; exact hl27, by rw [upd_ne n3D]; exact hl37⟩⟩⟩
          obtain ⟨ms', hS', hl'⟩ := hS.add nm
          refine ⟨e7.mut hD, _, ms', by rw [hl', ← hm]; exact upd_same, hS'.imp fun y => ?_, fun y h => ?_⟩
          · rw [List.take_add_one, hnm, List.mem_append]
            constructor
            · rintro ((h | h) | rfl)
              · exact .inl h
              · exact .inr (.inl h)
              · exact .inr (.inr (by simp))
            · rintro (h | (h | h))
              · exact .inl (.inl h)
              · exact .inl (.inr h)
              · exact .inr (by simpa using h)
          · rcases h with h | h
            · exact hp y (.inl h)
            · rw [List.take_add_one, hnm, List.mem_append] at h
              rcases h with h | h
              · exact hp y (.inr h)
              · rw [show y = nm by simpa using h]; exact sub nm (List.mem_of_getElem? hnm)
        · have : j2 = (nz (coef ts)).length := by omega
          subst this
          refine .inl ⟨⟨_, SqL.of hl37, by rw [List.length_map]; exact Nat.le_refl _⟩, ?_, hl27⟩
          obtain ⟨e7, S, ms, hDS, hS, hp⟩ := st7
          rw [List.take_length] at hS hp
          refine ⟨e7, S, ms, hDS, hS.imp fun y => ?_, fun y h => hp y ?_⟩
          · rw [List.take_add_one, htsj]
            simp only [Option.toList, List.mem_append, List.mem_singleton]
            constructor
            · rintro (⟨t, h, h'⟩ | h)
              · exact ⟨t, .inl h, h'⟩
              · exact ⟨ts, .inr rfl, h⟩
            · rintro ⟨t, h | rfl, h'⟩
              · exact .inl ⟨t, h, h'⟩
              · exact .inr h'
          · rw [List.take_add_one, htsj] at h
            simp only [Option.toList, List.mem_append, List.mem_singleton] at h
            obtain ⟨t, h | rfl, h'⟩ := h
            · exact .inl ⟨t, h, h'⟩
            · exact .inr h'
      · have : j = zs.length := by omega
        subst this
        refine .inl ⟨⟨zs, SqL.of hl24, Nat.le_refl _⟩, ?_⟩
        obtain ⟨e7, S, ms, hDS, hS, hp⟩ := st4
        rw [List.take_of_length_le (by omega)] at hS hp
        exact ⟨e7, S, ms, hDS, hS, hp⟩
end
end K8

set_option Elab.async false
set_option linter.all false
set_option maxRecDepth 100000
set_option maxHeartbeats 4000000
namespace K8
open PySem PySem.Spec PyProof.Rows L2 M8
theorem ps_never {X : Cx} {st : Stmt} : PS X st (fun _ _ _ => False) := ⟨fun pins s σ H D I h => h.elim⟩
/-- what the program asks to tell whether a test is so -/
structure Num (cn : Coef) (ts : Tst) : Prop where
  few : Few (coef ts)
  lim : Lim (coef ts)
  m : mOk ts
  has : Has (coef ts) cn
section
variable {P : Program} {w : World} {K : PySem.W.Frag} {mg : Str → Option Value} {base : Heap}
def spSoB (K : PySem.W.Frag) (n : Nat) : Sp := fun vs H Q _ => ∃ v d b nd cn, vs = [v, .ref nd] ∧ SeeF K H v d ∧ IsB n d b ∧ AllT (Num cn) n b ∧ H nd = some (.dK (cK cn)) ∧ ∀ H', Ex H H' → Q (.bl (soB cn b)) H'
/-- what is raised: the error keeps v -/
def Rai (E : XK) (C : Addr) (f : Str) (v : V) (H : Hp) : Prop := ∀ dd H', H dd = none → Ex H H' → H' dd = some (.xd [(f, v)]) → E (.ref C) (some dd) H'
theorem Rai.ex {E : XK} {C : Addr} {f : Str} {v : V} {H H' : Hp} (r : Rai E C f v H) (e : Ex H H') : Rai E C f v H' := fun dd H2 h1 h2 h3 => r dd H2 (e.free h1) (e.trans h2) h3
theorem Rai.mk {E : XK} {C : Addr} {f : Str} {v : V} {H1 : Hp} (q : Rai E C f v H1) : [v].length ≤ 1000 ∧ ∀ a, H1 a = none → spInit f C (.ref a :: ([v] ++ [])) (upd H1 a (exo a C none))
    (fun u H2 => u = .non ∧ ∃ (d : Addr) (fs : List (Str × V)), H2 a = some (exo a C (some d)) ∧ H2 d = some (exd d fs) ∧ H1 d = none ∧ E (.ref C) (some d) (upd (del H2 a) d (.xd fs))) (fun _ _ _ => False) := by
  refine ⟨by show 1 ≤ 1000; decide, fun a ha => ⟨a, v, rfl, upd_same, fun dx hd hn => ⟨rfl, dx, _, upd_same, by rw [upd_ne hn, upd_same], by rw [upd_ne hn] at hd; exact hd, ?_⟩⟩⟩
  have hd1 : H1 dx = none := by rw [upd_ne hn] at hd; exact hd
  refine q dx _ hd1 (fun b o hb => ?_) upd_same
  have n1 : b ≠ dx := ne_of_none hb hd1
  have n2 : b ≠ a := ne_of_none hb ha
  rw [upd_ne n1, del_ne n2, upd_ne n2, upd_ne n1, upd_ne n2]
  exact hb
/-- few names, tests -/
structure FewB (b : Bd) : Prop where
  t : (tl b).length ≤ 1000
  ns : ∃ ns : List Str, ns.length ≤ 1000 ∧ ∀ ts ∈ tl b, ∀ y ∈ nz (coef ts), y ∈ ns
/-- names_in: told, or refused -/
def spNamesIn (K : PySem.W.Frag) (C : Addr) (n : Nat) : Sp := fun vs H Q E => ∃ v d, vs = [v] ∧ SeeF K H v d ∧
  ((∃ b, IsB n d b ∧ AllT GoodT n b ∧ FewB b ∧ ∀ L ys H', NamesB b ys → H L = none → Ex H H' → H' L = some (.lst (ys.map V.str)) → Q (.ref L) H') ∨ (okN n d ∧ isBodyN n d = false ∧ Rai E C "body" v H))
/-- holds: so or not, or refused -/
def spHolds (K : PySem.W.Frag) (C CN : Addr) (n : Nat) : Sp := fun vs H Q E => ∃ v d nv nd, vs = [v, nv] ∧ SeeF K H v d ∧
  ((∃ b, IsB n d b ∧ AllT GoodT n b ∧ FewB b ∧ SeeF K H nv nd ∧ dctOk nd ∧
      ((∃ c cn, nv = .ref c ∧ H c = some (.dK (cK cn)) ∧ nd = .dct (cD cn) ∧ isNumbers nd = true ∧ (∀ y, inB y b → y ∈ keys cn) ∧ AllT (Num cn) n b ∧ ∀ H', Ex H H' → Q (.bl (soB cn b)) H') ∨
        ((isNumbers nd = false ∨ ∃ y, inB y b ∧ hasK nd y = false) ∧ Rai E CN "numbers" nv H))) ∨
    (okN n d ∧ isBodyN n d = false ∧ Rai E C "body" v H))
theorem hasK_c {cn : Coef} {y : Str} : hasK (.dct (cD cn)) y = decide (y ∈ keys cn) := by
  show (cD cn).any _ = _
  unfold cD keys
  rw [List.any_map, Bool.eq_iff_iff, List.any_eq_true, decide_eq_true_iff, List.mem_map]
  constructor
  · rintro ⟨p, hp, h⟩
    exact ⟨p, hp, Sum.inr.inj (of_decide_eq_true h)⟩
  · rintro ⟨p, hp, rfl⟩
    exact ⟨p, hp, decide_eq_true rfl⟩
end
end K8

set_option Elab.async false
set_option linter.all false
set_option maxRecDepth 100000
set_option maxHeartbeats 4000000
namespace K8
open PySem PySem.Spec PyProof.Rows L2 M8
/-! the names of many bodies -/
section
variable {P : Program} {w : World} {K : PySem.W.Frag} {mg : Str → Option Value} {base : Heap}
def NamesOf (bs : List Bd) (ys : List Str) : Prop := ys.Pairwise leS ∧ ys.Nodup ∧ ∀ y, y ∈ ys ↔ ∃ b ∈ bs, inB y b
def spNamesBs (K : PySem.W.Frag) (n : Nat) : Sp := fun vs H Q _ => ∃ (l : Addr) (xs : List V) (ds : List Dat) (bs : List Bd) (H0 : Hp) (ns : List Str), vs = [.ref l] ∧ (H l = some (.lst xs) ∨ H l = some (.tup xs)) ∧ Ex H0 H ∧ SeeL (FKK K) H0 xs ds ∧ All2 (IsB n) ds bs ∧ (∀ b ∈ bs, (tl b).length ≤ 1000 ∧ ∀ ts ∈ tl b, Few (coef ts) ∧ ∀ y ∈ nz (coef ts), y ∈ ns) ∧ ns.length ≤ 1000 ∧
  ∀ (L : Addr) (ys : List Str) (H' : Hp), NamesOf bs ys → H L = none → Ex H H' → H' L = some (.lst (ys.map V.str)) → Q (.ref L) H'
theorem ok_names_of_bodiesL (T : Txt K mg) (a : At K mg "names_of_bodies" s_names_of_bodies ["bodies"]) {n k : Nat} (hk : n + 2 ≤ k) (Otests_of : Ok P w K mg base CX0 (n+2) "tests_of" ["body"] (spTests K n)) (Oterm_of : Ok P w K mg base CX0 1 "term_of" ["test"] (spTermOf K)) (Onames_of : Ok P w K mg base CX0 1 "names_of" ["term"] spNamesOf) : Ok P w K mg base CX0 (k+1) "names_of_bodies" ["bodies"] (spNamesBs K n) := a.ok fun f fd F => by
  refine F.ok sc_names_of_bodies (fun vs H Q E h => ?_) (fun cdv A outer s H vs Q E hr h => ?_)
  · obtain ⟨l, xs, ds, bs, H0, ns, rfl, _⟩ := h; rfl
  · obtain ⟨l, xs, ds, bs, H0, ns, rfl, hl, e0, hs, hb, hall, hns, q⟩ := h
    refine ⟨_, (pss_one (ps_ret (pe_callB (TxS.cr_sortX rfl) rfl T.n_sorted rfl (pa_cons (TxS.pe_scX (own := [("body", 1), ("test", 2), ("name", 3)]) (vs1 := [2, 3]) (g := gName 1) (tt := tYes) (inner := fun D => TxS.trC (iList K (tC0 (spTests K n) (tCons (tVar 1) tNil))) (gName 2) tYes [2, 3] (TxS.trC (iList K (tC0 spNamesOf (tCons (tC0 (spTermOf K) (tCons (tVar 2) tNil)) tNil))) (gName 3) tYes [3] (TxS.trE P w D (tVar 3)))) (a := .start ⟨_, _, _, _⟩ 1) rfl sc_names_of_bodies.nd (pi_lt (pv 0)) (blkOk_by (N := ["bodies", "body", "test", "name"]) (sc := defScope s_names_of_bodies) (by decide +kernel)) rfl rfl rfl (by intro _; rfl) (by decide) (fun _ _ _ => rfl) (fun _ _ => rfl) (fun _ _ _ _ _ => (pg_name (i := 1) sc_names_of_bodies.nd rfl (Or.inl rfl))) (fun _ _ _ _ _ => pts_nil) (fun _ _ _ _ _ D => TxS.clause_ok (a := .start ⟨_, _, _, _⟩ 2) (vs1 := [3]) rfl rfl rfl (fun _ => rfl) (fun _ => rfl) rfl rfl (pi_list (pe_callO Otests_of (hr.mono (by first | decide | omega)) rfl (pa_cons (pv 1) pa_nil))) (pg_name (i := 2) sc_names_of_bodies.nd rfl (Or.inl rfl)) pts_nil (by decide) (TxS.clause_ok (a := .emit) (vs1 := []) rfl rfl rfl (fun _ => rfl) trivial rfl rfl (pi_list (pe_callO Onames_of (hr.mono (by first | decide | omega)) rfl (pa_cons (pe_callO Oterm_of (hr.mono (by first | decide | omega)) rfl (pa_cons (pv 2) pa_nil)) pa_nil))) (pg_name (i := 3) sc_names_of_bodies.nd rfl (Or.inl rfl)) pts_nil (by decide) (TxS.emit_ok rfl (pv 3))))) pa_nil)))), ?_⟩
    dsimp only [tRet, tCB, tCons, tNil]
    have core : ∀ {J : It} {Gd : Hp → Prop} (D : Addr), H D = none → Walk J xs.length Gd (YAt xs) → (∀ H', Ex H H' → Gd H') →
        ∃ W : Nat → Nat → Hp → Prop, (∃ m, W 0 m (upd H D (TxS.SetX P w D (fun _ => false) 0))) ∧ ∀ i m H1, W i m H1 → (J.stop i H1 ∧ TxS.rSortX P w [.ref D] H1 Q) ∨ (J.go i H1 ∧ ∃ Nn : Hp → Prop, (∀ H', Nn H' → ∃ m', m' < m ∧ W (i + 1) m' H') ∧ ∀ x H', J.yld i H1 x H' →
          gName 1 x [some (.ref l), none, none, none] H' fun σ2 H2 => wipe σ2 [1, 2, 3] = [some (.ref l), none, none, none] ∧ tYes σ2 H2 fun b H3 => if b = true then TxS.trC (iList K (tC0 (spTests K n) (tCons (tVar 1) tNil))) (gName 2) tYes [2, 3] (TxS.trC (iList K (tC0 spNamesOf (tCons (tC0 (spTermOf K) (tCons (tVar 2) tNil)) tNil))) (gName 3) tYes [3] (TxS.trE P w D (tVar 3))) σ2 H3 Nn else Nn H3) := by
      intro J Gd D hD wk hG
      have bound : 4096 = scanBound := rfl
      have hxl := hs.len
      have hdl := hb.len
      let St : (Str → Prop) → Hp → Prop := fun p H' => Ex H H' ∧ ∃ S ms, H' D = some (TxS.SetX P w D S ms.length) ∧ SetS S ms p ∧ ∀ y, p y → y ∈ ns
      have few : ∀ {p : Str → Prop} {S : Key → Bool} {ms : List Str}, SetS S ms p → (∀ y, p y → y ∈ ns) → ms.length ≤ 1000 := fun h hp => by
        have := List.subset_of_nodup_length h.nd (m := ns) fun y hy => hp y ((h.mem y).mp hy)
        omega
      refine ⟨fun i m H' => m = xs.length - i ∧ i ≤ xs.length ∧ St (fun y => ∃ b ∈ bs.take i, inB y b) H', ⟨xs.length, rfl, Nat.zero_le _, Ex.new hD, fun _ => false, [], upd_same, ⟨by simp, fun k => by simp, fun y => by simp⟩, fun y h => by simp at h⟩, ?_⟩
      rintro i m H1 ⟨rfl, hi, st⟩
      by_cases h0 : i = xs.length
      · subst h0
        obtain ⟨e1, S, ms, hDS, hS, hp⟩ := st
        have := few hS hp
        refine .inl ⟨wk.stops H1 (hG H1 e1), D, S, ms.length, fun _ => True, rfl, hDS, by omega, fun k hk => by obtain ⟨y, _, rfl⟩ := (hS.tab k).mp hk; exact ⟨y, rfl, trivial⟩, fun ys L h1 h2 h3 h4 h5 => ?_⟩
        have hsub : ∀ y ∈ ms, y ∈ ys := fun y hy => h4 y ((hS.tab _).mpr ⟨y, hy, rfl⟩)
        have pm : ms.Perm ys := perm_nd hS.nd hsub (by omega)
        refine q L ys _ ⟨sorted_pw h3, pm.nodup_iff.mp hS.nd, fun y => ?_⟩ (e1.free h5) (e1.mut (e1.free h5)) upd_same
        rw [← pm.mem_iff, hS.mem, List.take_of_length_le (by omega)]
      · have hlt : i < xs.length := by omega
        refine .inr ⟨wk.goes i H1 hlt (hG H1 st.1), St (fun y => ∃ b ∈ bs.take (i + 1), inB y b), fun H' p => ⟨xs.length - (i + 1), by omega, rfl, hlt, p⟩, fun x H2 y => ?_⟩
        obtain ⟨rfl, hx⟩ := wk.yields i H1 x H2 hlt (hG H1 st.1) y
        obtain ⟨d, hd, sd⟩ := hs.getV hx
        obtain ⟨b, hbb, ib⟩ := hb.get hd
        obtain ⟨hc, hnm⟩ := hall b (List.mem_of_getElem? hbb)
        have tk : bs.take (i + 1) = bs.take i ++ [b] := by rw [List.take_add_one, hbb]; rfl
        have endS : ∀ {H'}, St (fun y => (∃ b ∈ bs.take i, inB y b) ∨ ∃ ts ∈ tl b, y ∈ nz (coef ts)) H' → St (fun y => ∃ b ∈ bs.take (i + 1), inB y b) H' := fun {H'} st => by
          obtain ⟨e1, S, ms, hDS, hS, hp⟩ := st
          have iff : ∀ y, ((∃ b ∈ bs.take i, inB y b) ∨ ∃ ts ∈ tl b, y ∈ nz (coef ts)) ↔ ∃ b ∈ bs.take (i + 1), inB y b := fun y => by
            rw [tk]
            constructor
            · rintro (⟨c, hc, h⟩ | h)
              · exact ⟨c, by simp [hc], h⟩
              · exact ⟨b, by simp, h⟩
            · rintro ⟨c, hc, h⟩
              rcases List.mem_append.mp hc with hc | hc
              · exact .inl ⟨c, hc, h⟩
              · rw [show c = b by simpa using hc] at h; exact .inr h
          exact ⟨e1, S, ms, hDS, hS.imp iff, fun y h => hp y ((iff y).mpr h)⟩
        generalize hp0 : (fun y => ∃ b ∈ bs.take i, inB y b) = p0 at st
        have hp0' : ∀ y, p0 y ↔ ∃ b ∈ bs.take i, inB y b := fun y => by rw [← hp0]
        have endS : ∀ {H'}, St (fun y => p0 y ∨ ∃ ts ∈ tl b, y ∈ nz (coef ts)) H' → St (fun y => ∃ b ∈ bs.take (i + 1), inB y b) H' := fun {H'} st => endS (by rw [← hp0] at st; exact st)
        refine ⟨rfl, yesT ?_⟩
        refine ⟨_, rfl, x, d, b, H0, rfl, e0.trans st.1, sd, ib, hc, fun l2 zs H3 hl2n e3 hl2 hz => ⟨l2, rfl, ⟨zs, SqL.of hl2⟩, ?_⟩⟩
        have hzl := hz.len
        have n2D : l2 ≠ D := fun z => by
          obtain ⟨_, S, n', hDS, _⟩ := st
          rw [z, hDS] at hl2n; cases hl2n
        have st3 : St (fun y => p0 y ∨ ∃ ts ∈ (tl b).take 0, y ∈ nz (coef ts)) H3 := by
          obtain ⟨e1, S, ms, hDS, hS, hp⟩ := st
          exact ⟨e1.trans e3, S, ms, e3 _ _ hDS, hS.imp fun y => by simp, fun y h => hp y (by simpa using h)⟩
        refine ⟨fun j k H' => k = zs.length - j ∧ j ≤ zs.length ∧ St (fun y => p0 y ∨ ∃ ts ∈ (tl b).take j, y ∈ nz (coef ts)) H' ∧ H' l2 = some (.lst zs), ⟨zs.length, by simp, Nat.zero_le _, st3, hl2⟩, ?_⟩
        rintro j k H4 ⟨rfl, hj, st4, hl24⟩
        by_cases hjl : j < zs.length
        · obtain ⟨z, hzj⟩ : ∃ z, zs[j]? = some z := ⟨zs[j], List.getElem?_eq_getElem hjl⟩
          refine .inr ⟨⟨zs, z, SqL.of hl24, hzj⟩, fun H' => St (fun y => p0 y ∨ ∃ ts ∈ (tl b).take (j + 1), y ∈ nz (coef ts)) H' ∧ H' l2 = some (.lst zs), fun H' p => ⟨zs.length - (j + 1), by omega, rfl, hjl, p⟩, fun x H5 y => ?_⟩
          obtain ⟨rfl, hx⟩ := y
          have hx := hx zs (SqL.of hl24)
          obtain rfl : z = x := by rw [hzj] at hx; exact Option.some.inj hx
          obtain ⟨ts, htsj, dz, sz, it⟩ := hz.get hzj
          have htm := List.mem_of_getElem? htsj
          obtain ⟨fw, sub⟩ := hnm ts htm
          refine ⟨rfl, yesT ?_⟩
          have e04 := e0.trans st4.1
          refine ⟨_, rfl, z, dz, ts, rfl, sz.mono e04, it, fun u hu => ⟨_, _, _, rfl, hu, fw, fun l3 H6 hl3n e6 hl3 => ⟨l3, rfl, ⟨_, SqL.of hl3⟩, ?_⟩⟩⟩
          have n3D : l3 ≠ D := fun z => by
            obtain ⟨_, S, n', hDS, _⟩ := st4
            rw [z, hDS] at hl3n; cases hl3n
          have st6 : St (fun y => p0 y ∨ (∃ ts ∈ (tl b).take j, y ∈ nz (coef ts)) ∨ y ∈ (nz (coef ts)).take 0) H6 := by
            obtain ⟨e1, S, ms, hDS, hS, hp⟩ := st4
            exact ⟨e1.trans e6, S, ms, e6 _ _ hDS, hS.imp fun y => by simp, fun y h => hp y (by simpa using h)⟩
          refine ⟨fun j2 k2 H' => k2 = (nz (coef ts)).length - j2 ∧ j2 ≤ (nz (coef ts)).length ∧ St (fun y => p0 y ∨ (∃ ts ∈ (tl b).take j, y ∈ nz (coef ts)) ∨ y ∈ (nz (coef ts)).take j2) H' ∧ H' l2 = some (.lst zs) ∧ H' l3 = some (.lst ((nz (coef ts)).map V.str)), ⟨(nz (coef ts)).length, by simp, Nat.zero_le _, st6, e6 _ _ hl24, hl3⟩, ?_⟩
          rintro j2 k2 H7 ⟨rfl, hj2, st7, hl27, hl37⟩
          by_cases hj2l : j2 < (nz (coef ts)).length
          · obtain ⟨nm, hnm⟩ : ∃ nm, (nz (coef ts))[j2]? = some nm := ⟨(nz (coef ts))[j2], List.getElem?_eq_getElem hj2l⟩
            have hmv : ((nz (coef ts)).map V.str)[j2]? = some (.str nm) := by rw [List.getElem?_map, hnm]; rfl
            refine .inr ⟨⟨_, _, SqL.of hl37, hmv⟩, fun H' => St (fun y => p0 y ∨ (∃ ts ∈ (tl b).take j, y ∈ nz (coef ts)) ∨ y ∈ (nz (coef ts)).take (j2 + 1)) H' ∧ H' l2 = some (.lst zs) ∧ H' l3 = some (.lst ((nz (coef ts)).map V.str)), fun H' p => ⟨(nz (coef ts)).length - (j2 + 1), by omega, rfl, hj2l, p⟩, fun x H8 y => ?_⟩
            obtain ⟨rfl, hx⟩ := y
            have hx := hx _ (SqL.of hl37)
            rw [hmv] at hx
            cases hx
            obtain ⟨e7, S, ms, hDS, hS, hp⟩ := st7
            have hfw := few hS hp
            refine ⟨rfl, yesT ⟨_, rfl, nm, S, ms.length, rfl, hDS, by omega, fun m hm => ⟨?_, by rw [upd_ne n2D]; exact hl27, by rw [upd_ne n3D]; exact hl37⟩⟩⟩
            obtain ⟨ms', hS', hl'⟩ := hS.add nm
            refine ⟨e7.mut hD, _, ms', by rw [hl', ← hm]; exact upd_same, hS'.imp fun y => ?_, fun y h => ?_⟩
            · rw [List.take_add_one, hnm, List.mem_append]
              constructor
              · rintro ((h | h | h) | rfl)
                · exact .inl h
                · exact .inr (.inl h)
                · exact .inr (.inr (.inl h))
                · exact .inr (.inr (.inr (by simp)))
              · rintro (h | h | (h | h))
                · exact .inl (.inl h)
                · exact .inl (.inr (.inl h))
                · exact .inl (.inr (.inr h))
                · exact .inr (by simpa using h)
            · rcases h with h | h | h
              · exact hp y (.inl h)
              · exact hp y (.inr (.inl h))
              · rw [List.take_add_one, hnm, List.mem_append] at h
                rcases h with h | h
                · exact hp y (.inr (.inr h))
                · rw [show y = nm by simpa using h]; exact sub nm (List.mem_of_getElem? hnm)
          · have : j2 = (nz (coef ts)).length := by omega
            subst this
            refine .inl ⟨⟨_, SqL.of hl37, by rw [List.length_map]; exact Nat.le_refl _⟩, ?_, hl27⟩
            obtain ⟨e7, S, ms, hDS, hS, hp⟩ := st7
            rw [List.take_length] at hS hp
            refine ⟨e7, S, ms, hDS, hS.imp fun y => ?_, fun y h => hp y ?_⟩
            · rw [List.take_add_one, htsj]
              simp only [Option.toList, List.mem_append, List.mem_singleton]
              constructor
              · rintro (h | ⟨t, h, h'⟩ | h)
                · exact .inl h
                · exact .inr ⟨t, .inl h, h'⟩
                · exact .inr ⟨ts, .inr rfl, h⟩
              · rintro (h | ⟨t, h | rfl, h'⟩)
                · exact .inl h
                · exact .inr (.inl ⟨t, h, h'⟩)
                · exact .inr (.inr h')
            · rw [List.take_add_one, htsj] at h
              simp only [Option.toList, List.mem_append, List.mem_singleton] at h
              rcases h with h | ⟨t, h | rfl, h'⟩
              · exact .inl h
              · exact .inr (.inl ⟨t, h, h'⟩)
              · exact .inr (.inr h')
        · have : j = zs.length := by omega
          subst this
          refine .inl ⟨⟨zs, SqL.of hl24, Nat.le_refl _⟩, ?_⟩
          obtain ⟨e7, S, ms, hDS, hS, hp⟩ := st4
          rw [List.take_of_length_le (by omega)] at hS hp
          exact endS ⟨e7, S, ms, hDS, hS, hp⟩
    rcases hl with hl | hl
    · exact .inl ⟨_, rfl, l, rfl, ⟨_, SqL.of hl⟩, fun D hD => core D hD walk_list fun H' e => SqL.of (e _ _ hl)⟩
    · exact .inr ⟨_, rfl, l, rfl, ⟨_, SqT.of hl⟩, fun D hD => core D hD walk_tup fun H' e => SqT.of (e _ _ hl)⟩
end
end K8

set_option Elab.async false
set_option linter.all false
set_option maxRecDepth 100000
set_option maxHeartbeats 4000000
namespace K8
open PySem PySem.Spec PyProof.Rows L2 M8
open AutoSeq1 (wpAny_loadPart')
/-! enumerate(a tuple) -/
theorem new_enum {v : Value} {o : Obj} {J : Heap → Prop} (B : Begins v o J) : Meets (Builtin.«enumerate.__new__» ⟨[.type "enumerate", v], []⟩)
    (fun _ R s => J s.heap ∧ R (.ok (.ret (.ref (s.heap.push o).objs.size)))
      { s with heap := (s.heap.push o).push ⟨.type "enumerate", none, .fields #[.none, .bool false, .ref s.heap.objs.size, rawInt 0, .none, .none], #[]⟩ }) := by
  refine .of_wp fun prog w A R s h => ?_
  obtain ⟨hp, g, d, tk, os⟩ := s
  obtain ⟨hj, h⟩ := h
  have its := sub_enumerate
  have begins : ∀ {A1 : Around} {E1 : Value → Shared → Prop} {Q1 : Value → Shared → Prop}, Q1 (.ref hp.objs.size) ⟨hp.push o, g, d, tk, os⟩ → wpAny (model prog w) A1 (pyIter v) Q1 E1 ⟨hp, g, d, tk, os⟩ := fun {A1 E1 Q1} q1 => B.iter prog w A1 E1 ⟨hp, g, d, tk, os⟩ Q1 hj q1
  wp_walk using begins
  refine wpAny_stack_any fun st => wpAny_pure ?_
  split
  · rename_i cl _ _ _ _ _
    cases (cl == Value.type "enumerate") <;> (wp_walk using begins; exact ⟨_, rfl, h⟩)
  · wp_walk using begins; exact ⟨_, rfl, h⟩
section
variable {prog : Program} {w : World} {A : Around} {E : Value → Shared → Prop} {s : Shared}
theorem call_enum1 {v : Value} {o : Obj} {J : Heap → Prop} {Q : Value → Shared → Prop} (B : Begins v o J) (hj : J s.heap)
    (h : ∀ h', IsEnum h' (s.heap.objs.size + 1) s.heap.objs.size 0 .none → h'.get? s.heap.objs.size = some o → h'.objs.size = s.heap.objs.size + 2 →
      (∀ b u, s.heap.get? b = some u → h'.get? b = some u) → Q (.ref (s.heap.objs.size + 1)) { s with heap := h' }) :
    wpAny (model prog w) A (call (.type "enumerate") [v]) Q E s := by
  have sz : (s.heap.push o).objs.size = s.heap.objs.size + 1 := Heap.size_push _ _
  have en : IsEnum ((s.heap.push o).push ⟨.type "enumerate", none, .fields #[.none, .bool false, .ref s.heap.objs.size, rawInt 0, .none, .none], #[]⟩) (s.heap.objs.size + 1) s.heap.objs.size 0 .none := by
    have z := Heap.get?_push_size (s.heap.push o) (o := (⟨.type "enumerate", none, .fields #[.none, .bool false, .ref s.heap.objs.size, rawInt 0, .none, .none], #[]⟩ : Obj)) rfl
    rw [sz] at z
    exact z
  refine callType_new F.called_enumerate (by decide) (F.typeCall_enumerate_1 _) (F.newCall_enumerate_1 _) (fun ob => F.args_object_init_2 ob _) F.entry_enumerate_new (new_enum B) ⟨hj, ?_⟩
  show _ ∧ _
  rw [sz]
  exact ⟨⟨_, en, rfl⟩, h _ en (Heap.get?_push_of_some _ (Heap.get?_push_size _ B.free)) (by rw [Heap.size_push, sz]) fun b u x => Heap.get?_push_of_some _ (Heap.get?_push_of_some _ x)⟩
end
/-- the tuple at a, each item in a new pair -/
def IteT (K : PySem.W.Frag) (a : Addr) : It :=
  ⟨fun i H => ∃ (xs : List V) (x : V), SqT K H a xs ∧ xs[i]? = some x, fun i H v H' => ∃ T x, v = .ref T ∧ H T = none ∧ H' = upd H T (.tup [.int (i : Nat), x]) ∧ ∀ xs, SqT K H a xs → xs[i]? = some x,
    fun i H => ∃ xs : List V, SqT K H a xs ∧ xs.length = i⟩
theorem turn_enumT {P : Program} {w : World} {K : PySem.W.Frag} {elts : List Expr} {kk : Nat} {tpos : Pos} (a e it : Addr) :
    Turn P w K (.Tuple elts kk tpos) (IteT K a) [e, it] e (fun i h => (∃ old, IsEnum h e it ((i : Nat) : Int) old) ∧ h.IsTupleIter it a i ∧ e ≠ it ∧ e ≠ a ∧ a ≠ it) where
  mem := by simp
  obj := fun i h st b hb => by
    obtain ⟨⟨old, he⟩, ⟨o, ho, hc, hd⟩, _⟩ := st
    rcases (show b = e ∨ b = it by simpa using hb) with z | z
    · rw [z]; exact ⟨_, he, fun v q => nomatch q⟩
    · rw [z]; exact ⟨o, ho, fun v q => by rw [hd] at q; cases q⟩
  keep := fun i h h' st k => by
    obtain ⟨⟨old, he⟩, hi, ne⟩ := st
    exact ⟨⟨old, k e (by simp) _ he⟩, hi.at fun o q => k it (by simp) o q, ne⟩
  item := by
    intro X hP hw hK hc i pins s σ H E I hf st hg
    subst hP hw hK
    obtain ⟨⟨old, he⟩, hit, n1, n2, n3⟩ := st
    obtain ⟨xs, x, hq, hx⟩ := hg
    obtain ⟨its, rv, p, hz⟩ := I.tuple hq
    obtain ⟨u, hu, ru⟩ := rv.get hx
    have hel : e < s.heap.objs.size := Heap.lt_size he
    have hil : it < s.heap.objs.size := by obtain ⟨_, q, _⟩ := hit; exact Heap.lt_size q
    have ilt : i < its.toArray.size := by
      have := (List.getElem?_eq_some_iff.mp hu).1
      simpa using this
    refine wpAny_pyNext_enum_itemD (Draws.tuple (A := X.A.in1) (I.ok.hd hc) it a n3 its.toArray) he ⟨hit, p⟩ ilt n1 (by simp [n1, n2]) fun y h' tk hy ho st' hT hsz hk => ?_
    obtain rfl : y = u := by
      have : its.toArray[i]? = some u := by simpa using hu
      rw [this] at hy
      exact (Option.some.inj hy).symm
    refine ⟨_, rfl, wpAny_letOwnedTupleGo_enum (s := { s with heap := h', toks := tk + 1 }) ho fun h'' he' sb => ?_⟩
    have hT2 : h''.get? s.heap.objs.size = some { cls := .type "tuple", data := .seq #[.int i tk, y] } := (sb.2 _ (Nat.ne_of_gt hel)).trans hT
    have new : ObjOk X.prog X.w (upd H s.heap.objs.size (.tup [.int (i : Nat), x])) h'' s.heap.objs.size (.tup [.int (i : Nat), x]) :=
      ⟨by show 2 ≤ sizeLine; decide, [.int i tk, y], .cons ⟨_, rfl⟩ (.cons ru .nil), ⟨_, hT2, rfl, _, rfl⟩⟩
    have I1 : Inv X pins σ (upd H s.heap.objs.size (.tup [.int (i : Nat), x])) { s with heap := h'', toks := tk + 1 } :=
      I.turnedNew (ch := [e, it]) (fun b ob hb q => (sb.2 b (fun z => hb (by simp [z]))).trans (hk b ob (fun z => hb (by simp [z])) (fun z => hb (by simp [z])) q)) hf (Nat.le_refl _) new
    refine ⟨.ref s.heap.objs.size, _, I1, rfl, ⟨_, x, rfl, I.hok.fresh (Nat.le_refl _), rfl, fun ys hy => by rw [I.tuple_inj hy hq]; exact hx⟩, ⟨⟨y, ?_⟩, st'.1.at fun o q => (sb.2 it (Ne.symm n1)).trans q, n1, n2, n3⟩, fun b hb => ?_⟩
    · rw [show ((i + 1 : Nat) : Int) = (i : Int) + 1 by omega]; exact he'
    · have hb' : b < s.heap.objs.size := by
        rcases (show b = e ∨ b = it by simpa using hb) with z | z
        · rw [z]; exact hel
        · rw [z]; exact hil
      rw [upd_ne (Nat.ne_of_lt hb')]
      exact (hf b hb).1
  done := by
    intro X hP hw hK hc i pins s σ H E I hf st hg
    subst hP hw hK
    obtain ⟨⟨old, he⟩, hit, n1, n2, n3⟩ := st
    obtain ⟨xs, hq, hx⟩ := hg
    obtain ⟨its, rv, p, hz⟩ := I.tuple hq
    obtain ⟨f0, f1, f2, f3, f4, f5⟩ := hf it (by simp)
    have hl := rv.length
    have hi : its.toArray.size = i := by simp; omega
    refine wpAny_pyNext_enum_endD (Draws.tuple (A := X.A.in1) (I.ok.hd hc) it a n3 its.toArray) he ⟨by rw [hi]; exact hit, p⟩ fun h' eb => ⟨rfl, I.turned (t' := s.toks) (fun b o hb q => eb b o hb q) f0 f1 f3 f4 f5⟩
  self := fun A i s Q E st h => let ⟨⟨_, he⟩, _⟩ := st; wpAny_pyIter_enum he h
def iEnumB (K : PySem.W.Frag) (ta : TA) : TI := fun σ H R => ta σ H fun vs H1 => ∃ a xs, vs = [.ref a] ∧ ((SqL K H1 a xs ∧ R (Ite K a) H1) ∨ (SqT K H1 a xs ∧ R (IteT K a) H1))
theorem pi_enumB {X : Cx} {e : Expr} {ta : TA} {p pos tpos : Pos} {elts : List Expr} {kk : Nat} (hg : Gl X "enumerate") (hm : X.mg "enumerate" = none) (ha : PA X [e] ta) (hs : starEach [e] X.env = [(false, eval e X.env)] := by rfl) :
    PI X (.Tuple elts kk tpos) (.Call (.Name "enumerate" p) [e] [] pos) (iEnumB X.K ta) := by
  constructor
  intro pins s σ H R I h
  refine Call_ (ld_blt I hg hm boot_enumerate (PyProof.Rows.callWith_type1 (thn (ha.run pos pins s σ H _ I h) fun us s1 ⟨vs, H1, I1, r1, q1⟩ => ?_) hs rfl))
  obtain ⟨a, xs, rfl, q⟩ := q1
  obtain ⟨u, rfl, r⟩ := vals1 r1
  cases (show u = Value.ref a from r)
  have cells : ∀ b ∈ [s1.heap.objs.size + 1, s1.heap.objs.size], FpOk X pins H1 b := fun b hb => by
    have hle : s1.heap.objs.size ≤ b := by
      rcases (show b = s1.heap.objs.size + 1 ∨ b = s1.heap.objs.size by simpa using hb) with z | z
      · rw [z]; exact Nat.le_add_right _ _
      · rw [z]; exact Nat.le_refl _
    exact I1.fpOk hle (I1.hok.fresh hle)
  rcases q with ⟨hq, q⟩ | ⟨hq, q⟩
  · obtain ⟨its, rv, p', hz⟩ := I1.list hq
    refine call_enumerate_list p'.isList fun h' he hit hsz hk => wpAny_pyIter_enum he ?_
    exact ⟨s1.heap.objs.size + 1, _, _, _, H1, rfl, I1.kept (t' := s1.toks) hk, turn_enum a (s1.heap.objs.size + 1) s1.heap.objs.size, ⟨⟨.none, he⟩, hit, Nat.succ_ne_self _⟩, cells, q⟩
  · obtain ⟨its, rv, p', hz⟩ := I1.tuple hq
    have hlt : a < s1.heap.objs.size := by obtain ⟨_, z, _⟩ := p'; exact Heap.lt_size z
    refine call_enum1 (begins_tuple a its.toArray) p' fun h' he hit hsz hk => wpAny_pyIter_enum he ?_
    exact ⟨s1.heap.objs.size + 1, _, _, _, H1, rfl, I1.kept (t' := s1.toks) hk, turn_enumT a (s1.heap.objs.size + 1) s1.heap.objs.size, ⟨⟨.none, he⟩, ⟨_, hit, rfl, rfl⟩, Nat.succ_ne_self _, Nat.ne_of_gt (Nat.lt_succ_of_lt hlt), Nat.ne_of_lt hlt⟩, cells, q⟩
theorem walk_enumT {K : PySem.W.Frag} {a : Addr} {xs : List V} : Walk (IteT K a) xs.length (fun H => SqT K H a xs) (YPair (fun i => some (.int (i : Nat))) (fun i => xs[i]?)) := by
  refine ⟨fun i _ hi q => ⟨xs, xs[i], q, by simp [hi]⟩, fun _ q => ⟨xs, q, rfl⟩, fun i H v H' _ q y => ?_⟩
  obtain ⟨T, x, h1, h2, h3, h4⟩ := y
  exact ⟨T, .int (i : Nat), x, h1, h2, h3, rfl, h4 xs q⟩
end K8

set_option Elab.async false
set_option linter.all false
set_option maxRecDepth 100000
set_option maxHeartbeats 4000000
namespace K8
open PySem PySem.Spec PyProof.Rows L2 M8
/-! a name that is none is refused -/
section
variable {P : Program} {w : World} {K : PySem.W.Frag} {mg : Str → Option Value} {base : Heap}
def spChkNm (K : PySem.W.Frag) (CNa : Addr) : Sp := fun vs H Q E => ∃ v d, vs = [v] ∧ SeeF K H v d ∧ strOk d ∧ ((isName d = true ∧ ∀ H', Ex H H' → Q .non H') ∨ (isName d = false ∧ Rai E CNa "name" v H))
abbrev s_check_name : Stmt := top 35
theorem sc_check_name : FnScope ["name"] ["name"] (defScope s_check_name) := ⟨rfl, rfl, rfl, by decide +kernel, rfl, by decide +kernel, by decide +kernel⟩
theorem fn_check_name (T : Txt K mg) {CNa f : Addr} {fd : FuncData} (BNa : BadNa K mg CNa) (Ois_name : Ok P w K mg base CX0 2 "is_name" ["thing"] (spName K)) (F : Fun K "check_name" "check_name" s_check_name f fd) :
    FnOk P w K mg base (L2.CX P w) 3 f fd ["name"] (spChkNm K CNa) := by
  obtain ⟨fINa, fdINa, iCNa, tINa, FINa, bINa⟩ := BNa.ini
  have GINa : FnOk P w K mg base CX0 1 fINa fdINa ["self", "name"] (spInit "name" CNa) := ok_initNa BNa FINa
  refine F.okX sc_check_name (fun vs H Q E h => ?_) (fun cdv A outer s H vs Q E hr h => ?_)
  · obtain ⟨v, d, rfl, _⟩ := h; rfl
  · obtain ⟨v, d, rfl, hs, hz, q⟩ := h
    refine ⟨_, (pss_one (ps_if (pt_not (pt_val (pe_callO Ois_name (hr.mono (by first | decide | omega)) rfl (pa_cons (pv 0) pa_nil)))) (pss_one (ps_raise rfl (takes_of rfl rfl rfl rfl) (pmk_oex BNa.ox iCNa tINa GINa (hr.mono (by omega)) bINa .nil pass0 rfl BNa.gC (pa_cons (pv 0) pa_nil)))) pss_nil)), ?_⟩
    refine ⟨_, rfl, v, d, rfl, hs, hz, fun H1 e1 => ⟨_, rfl, ?_⟩⟩
    rcases q with ⟨h, q⟩ | ⟨h, q⟩
    · rw [h]; exact iteF (q H1 e1)
    · rw [h]; exact iteT ⟨_, rfl, (q.ex e1).mk⟩
/-- the coefficient of a name in a test -/
def spCoefIn (K : PySem.W.Frag) : Sp := fun vs H Q _ => ∃ v d ts n, vs = [v, .str n] ∧ SeeF K H v d ∧ IsTst d ts ∧ (keys (coef ts)).Nodup ∧ ∀ H', Ex H H' → Q (.int (co (coef ts) n)) H'
abbrev s_coefficient_in : Stmt := top 33
theorem sc_coefficient_in : FnScope ["test", "name"] ["test", "name"] (defScope s_coefficient_in) := ⟨rfl, rfl, rfl, by decide +kernel, rfl, by decide +kernel, by decide +kernel⟩
theorem ok_coefficient_in (T : Txt K mg) (a : At K mg "coefficient_in" s_coefficient_in ["test", "name"]) (Oterm_of : Ok P w K mg base CX0 1 "term_of" ["test"] (spTermOf K)) : Ok P w K mg base CX0 2 "coefficient_in" ["test", "name"] (spCoefIn K) := a.ok fun f fd F => by
  refine F.ok sc_coefficient_in (fun vs H Q E h => ?_) (fun cdv A outer s H vs Q E hr h => ?_)
  · obtain ⟨v, d, ts, n, rfl, _⟩ := h; rfl
  · obtain ⟨v, d, ts, n, rfl, hs, it, nd, q⟩ := h
    refine ⟨_, (pss_one (ps_ret (pe_dget2 (hu_of hr) (pe_ix (ix_qK (K := K) rfl) (pe_callO Oterm_of (hr.mono (by first | decide | omega)) rfl (pa_cons (pv 0) pa_nil)) pe_int (fun _ _ => rfl)) (pv 1) pe_int ⟨rfl, rfl, rfl, rfl⟩))), ?_⟩
    refine ⟨_, rfl, v, d, ts, rfl, hs, it, fun u tu => ?_⟩
    obtain ⟨p, cd, rfl, hp, hd⟩ := tu
    refine ⟨p, _, 0, _, rfl, rfl, SqQ.or hp, at0, cd, rfl, .inl ⟨_, .inl hd⟩, _, rfl, _, DGet.k (k := .inr n) hd, ?_⟩
    have ev : ((valV (cK (coef ts)) (.inr n)).getD (.int 0)) = .int (co (coef ts) n) := by
      rw [valV_cK]; unfold co
      cases look (coef ts) n <;> rfl
    rw [ev]
    exact q H (Ex.refl H)
end
end K8

set_option Elab.async false
set_option linter.all false
set_option maxRecDepth 100000
set_option maxHeartbeats 4000000
namespace K8
open PySem PySem.Spec PyProof.Rows L2 M8
/-! a case told, refused where it is none -/
def tstD : Tst → Dat
  | .row c k => .tup [.str "row", tDat c k]
  | .same c k => .tup [.str "same", tDat c k]
  | .div m c k => .tup [.str "by", .int m, tDat c k]
theorem tstD_is (ts : Tst) : IsTst (tstD ts) ts := by cases ts <;> exact ⟨rfl, _, rfl, rfl, rfl⟩
theorem tDat_see {F : Fk} {H : Hp} {t d : Addr} {c : Coef} {k : Int} (h1 : H t = some (.tup [.ref d, .int k])) (h2 : H d = some (.dK (cK c))) : See F H (.ref t) (tDat c k) := .tup h1 (.cons (.dct h2 (seeK_c c)) (.cons (.int k) .nil))
theorem newTst_see {F : Fk} {H H' : Hp} {u : V} {ts : Tst} {N : List Addr} (hN : ∀ a ∈ N, H a ≠ none) (n : NewTst H H' u ts) : See F (sansL N H') u (tstD ts) ∧ Ex H H' := by
  have at_ : ∀ {a : Addr} {o : HO}, H a = none → H' a = some o → sansL N H' a = some o := fun h e => sansL_at (fun z => hN _ z h) e
  cases ts with
  | row c k => obtain ⟨q, t, d, rfl, n1, n2, n3, h1, h2, h3, e⟩ := n; exact ⟨.tup (at_ n1 h1) (.cons (.str _) (.cons (tDat_see (at_ n2 h2) (at_ n3 h3)) .nil)), e⟩
  | same c k => obtain ⟨q, t, d, rfl, n1, n2, n3, h1, h2, h3, e⟩ := n; exact ⟨.tup (at_ n1 h1) (.cons (.str _) (.cons (tDat_see (at_ n2 h2) (at_ n3 h3)) .nil)), e⟩
  | div m c k => obtain ⟨q, t, d, rfl, n1, n2, n3, h1, h2, h3, e⟩ := n; exact ⟨.tup (at_ n1 h1) (.cons (.str _) (.cons (.int m) (.cons (tDat_see (at_ n2 h2) (at_ n3 h3)) .nil))), e⟩
def tcBad : List Dat → Nat → Option Nat
  | [], _ => none
  | d :: r, i => if isTest d = true then tcBad r (i + 1) else some i
def caseBad (d : Dat) : Option Nat := if isSq d = true then tcBad (items d) 0 else some 0
section
variable {P : Program} {w : World} {K : PySem.W.Frag} {mg : Str → Option Value} {base : Heap}
def spTCase (K : PySem.W.Frag) (CCa : Addr) : Sp := fun vs H Q E => ∃ v d, vs = [v] ∧ SeeF K H v d ∧ (items d).length ≤ 1000 ∧ (∀ x ∈ items d, testOk x) ∧
  match caseBad d with
  | some i => Rai E CCa "index" (.int (i : Nat)) H
  | none => ∃ tss, All2 IsTst (items d) tss ∧ (∀ ts ∈ tss, Few (coef ts)) ∧ ∀ L us H', H L = none → Ex H H' → H' L = some (.lst us) → SeeL (FKK K) H' us (tss.map fun ts => tstD (canonT ts)) → Q (.ref L) H'
theorem lc_toldT {J : It} {Gd : Hp → Prop} {ys : List V} {ds : List Dat} {tss : List Tst} {H1 : Hp} {j : Nat} {vs : List Nat} {σ : L2.St} {Q : VK} (wk : Walk J ys.length Gd (YAt ys)) (hG : ∀ H', Ex H1 H' → Gd H') (hl : ys.length ≤ 1000000)
    (hy : SeeL (FKK K) H1 ys ds) (ib : All2 IsTst ds tss) (few : ∀ ts ∈ tss, Few (coef ts)) (hj : (wipe σ vs)[j]? ≠ none) (hw : ∀ x, wipe ((wipe σ vs).set j (some x)) vs = wipe σ vs)
    (hd : ∀ D acc H5, H1 D = none → Ex H1 H5 → H5 D = some (.lst acc) → SeeL (FKK K) H5 acc (tss.map fun ts => tstD (canonT ts)) → Q (.ref D) H5) :
    LcB (gName j) tYes (tC0 (spToldT K) (tCons (tVar j) tNil)) vs σ Q J H1 := by
  have hjl : j < (wipe σ vs).length := Decidable.byContradiction fun q => hj (List.getElem?_eq_none (by omega))
  refine lc_genD wk [] (fun _ _ => True) (fun D i acc H' => SeeL (FKK K) (sansL [D] H') acc ((tss.take i).map fun ts => tstD (canonT ts))) hl (fun b hb => by cases hb) (fun H' e => hG H' fun b o h => e b o (by simp) h) (fun _ _ _ _ _ => trivial) ?_ trivial ?_ ?_ ?_
  · rintro i acc H5 D l0 lx hD hN5 h2
    refine SeeL.mono (fun b o h => ?_) h2
    unfold sansL at h ⊢
    split at h
    · cases h
    · rename_i nb
      rw [if_neg nb, upd_ne fun z => nb (by simp [z])]; exact h
  · intro D hD
    exact .nil
  · rintro i x H5' H5 D acc R R' hi e5 m5 hD hDH h2 hacc ⟨rfl, hx⟩ kk _
    have e5' : Ex H1 H5 := fun b o h => e5 b o (by simp) h
    obtain ⟨dd, hdd, sd⟩ := hy.getV hx
    obtain ⟨ts, hts, it⟩ := ib.get hdd
    have hm := List.mem_of_getElem? hts
    refine ⟨hw _, yesT ⟨x, List.getElem?_set_self hjl, x, dd, ts, rfl, sd.mono e5', it, few ts hm, fun u H7 n7 => ?_⟩⟩
    obtain ⟨s7, e7⟩ := newTst_see (F := FKK K) (N := [D]) (fun a ha => by rw [List.mem_singleton.mp ha, hDH]; simp) n7
    refine kk _ _ (e7.exo _) trivial ?_
    rw [List.take_add_one, hts, List.map_append]
    refine SeeL.append (SeeL.mono (fun b o h => ?_) h2) (.cons s7 .nil)
    unfold sansL at h ⊢
    split at h
    · cases h
    · rename_i nb
      rw [if_neg nb]; exact e7 b o h
  · rintro D acc H5 hD e5 _ h2 hDH hacc
    have e5' : Ex H1 H5 := fun b o h => e5 b o (by simp) h
    have l1 := hy.len
    have l2 := ib.len
    rw [List.take_of_length_le (by omega)] at h2
    exact hd D acc H5 hD e5' hDH (SeeL.mono (sansL_ex _ _) h2)
abbrev s_told_case : Stmt := top 31
theorem sc_told_case : FnScope ["case", "index", "test"] ["case"] (defScope s_told_case) := ⟨rfl, rfl, rfl, by decide +kernel, rfl, by decide +kernel, by decide +kernel⟩
theorem fn_told_case (T : Txt K mg) {CCa f : Addr} {fd : FuncData} (BCa : BadCa K mg CCa) (Ois_list : Ok P w K mg base CX0 1 "is_list" ["thing"] (spIsList K)) (Ois_test : Ok P w K mg base CX0 5 "is_test" ["thing"] (spTest K)) (Otold_test : Ok P w K mg base CX0 3 "told_test" ["test"] (spToldT K)) (F : Fun K "told_case" "told_case" s_told_case f fd) :
    FnOk P w K mg base (L2.CX P w) 6 f fd ["case"] (spTCase K CCa) := by
  obtain ⟨fICa, fdICa, iCCa, tICa, FICa, bICa⟩ := BCa.ini
  have GICa : FnOk P w K mg base CX0 1 fICa fdICa ["self", "index"] (spInit "index" CCa) := ok_initCa BCa FICa
  refine F.okX sc_told_case (fun vs H Q E h => ?_) (fun cdv A outer s H vs Q E hr h => ?_)
  · obtain ⟨v, d, rfl, _⟩ := h; rfl
  · obtain ⟨v, d, rfl, hs, hl, hok, q⟩ := h
    refine ⟨_, (pss_cons (ps_if (pt_not (pt_val (pe_callO Ois_list (hr.mono (by first | decide | omega)) rfl (pa_cons (pv 0) pa_nil)))) (pss_one (ps_raise rfl (takes_of rfl rfl rfl rfl) (pmk_oex BCa.ox iCCa tICa GICa (hr.mono (by omega)) bICa .nil pass0 rfl BCa.gC (pa_cons pe_int pa_nil)))) pss_nil)
      (pss_cons (ps_for (passes_of rfl) rfl (pi_enumB rfl T.n_enumerate (pa_cons (pv 0) pa_nil)) (pg_tup rfl (pgs_cons (pg_name (i := 1) sc_told_case.nd rfl (Or.inl rfl)) (pgs_cons (pg_name (i := 2) sc_told_case.nd rfl (Or.inl rfl)) pgs_nil))) (pss_one (ps_if (pt_not (pt_val (pe_callO Ois_test (hr.mono (by first | decide | omega)) rfl (pa_cons (pv 2) pa_nil)))) (pss_one (ps_raise rfl (takes_of rfl rfl rfl rfl) (pmk_oex BCa.ox iCCa tICa GICa (hr.mono (by omega)) bICa .nil pass0 rfl BCa.gC (pa_cons (pv 1) pa_nil)))) pss_nil)))
      (pss_one (ps_ret (pe_lc (own := [("test", 2)]) (g := gName 2) (tt := tYes) rfl sc_told_case.nd (pi_lt (pv 0)) (blkOk_by (N := ["case", "index", "test"]) (sc := defScope s_told_case) (by decide +kernel)) (fun _ _ _ _ _ => (pg_name (i := 2) sc_told_case.nd rfl (Or.inl rfl))) (fun _ _ _ _ _ => pts_nil) (fun _ _ _ _ _ => (pe_callO Otold_test (hr.mono (by first | decide | omega)) rfl (pa_cons (pv 2) pa_nil)))))))), ?_⟩
    refine ⟨_, rfl, v, d, rfl, hs, fun H1 e1 => ⟨_, rfl, ?_⟩⟩
    unfold caseBad at q
    cases hq : isSq d with
    | false => rw [hq] at q; exact iteT (q.ex e1).mk
    | true =>
    rw [hq, if_pos rfl] at q
    refine iteF ?_
    obtain ⟨p1, xs, rfl, hp1, hx⟩ := see_sq (hs.mono e1) hq
    have hxl := hx.len
    have tail : ∀ {σ : L2.St} {H2 : Hp}, (∃ x1 x2, σ = [some (.ref p1), x1, x2]) → Ex H1 H2 → tcBad (items d) 0 = none → tRet (tLc (fun σ H R => iList K (tVar 0) σ H R ∨ iTup K (tVar 0) σ H R) (gName 2) tYes (tC0 (spToldT K) (tCons (tVar 2) tNil)) [2]) { nx := fun _ H' => Q .non H', rt := Q } σ H2 := by
      rintro σ H2 ⟨x1, x2, rfl⟩ e2 hn
      rw [hn] at q
      obtain ⟨tss, all, few, q⟩ := q
      dsimp only [tRet]
      refine tLc_of ?_
      have fin : ∀ D acc H5, H2 D = none → Ex H2 H5 → H5 D = some (.lst acc) → SeeL (FKK K) H5 acc (tss.map fun ts => tstD (canonT ts)) → Q (.ref D) H5 := fun D acc H5 h1 h2 h3 h4 => q D acc H5 ((e1.trans e2).free h1) ((e1.trans e2).trans h2) h3 h4
      rcases hp1 with hp1 | hp1
      · refine .inl ⟨_, rfl, p1, rfl, ⟨xs, SqL.of (e2 _ _ hp1)⟩, ?_⟩
        exact lc_toldT walk_list (fun H' e => SqL.of (e _ _ (e2 _ _ hp1))) (by omega) (SeeL.mono e2 hx) all few (by simp [wipe]) (fun _ => rfl) fin
      · refine .inr ⟨_, rfl, p1, rfl, ⟨xs, SqT.of (e2 _ _ hp1)⟩, ?_⟩
        exact lc_toldT walk_tup (fun H' e => SqT.of (e _ _ (e2 _ _ hp1))) (by omega) (SeeL.mono e2 hx) all few (by simp [wipe]) (fun _ => rfl) fin
    have loop : ∀ {J : It} {Gd : Hp → Prop} {En : Ends}, Walk J xs.length Gd (YPair (fun i => some (.int (i : Nat))) (fun i => xs[i]?)) → (∀ H', Ex H1 H' → Gd H') → (∀ σ H', (∃ x1 x2, σ = [some (.ref p1), x1, x2]) → Ex H1 H' → tcBad (items d) 0 = none → En.nx σ H') →
        ForB (gTup K 2 (gCons (gName 1) (gCons (gName 2) gNil))) (tIfS (tNot (tB (tC0 (spTest K) (tCons (tVar 2) tNil)))) (fun _ σ H => tMkO CCa (spInit "index" CCa) [] (tCons (tVar 1) tNil) σ H fun cls d H' => E cls d H') tNext) En [some (.ref p1), none, none] J H1 := by
      intro J Gd En wk hG fin
      refine for_itB wk (fun i σ H' => ∃ x1 x2, σ = [some (.ref p1), x1, x2] ∧ Ex H1 H' ∧ tcBad (items d) 0 = tcBad ((items d).drop i) i) ⟨none, none, rfl, Ex.refl _, rfl⟩ (fun i σ H' _ ⟨_, _, _, e, _⟩ => hG H' e) ?_ ?_
      · rintro i x σ H3 H4 hi ⟨x1, x2, rfl, e3, hn⟩ ⟨tp, y1, y2, rfl, htp, rfl, ey1, ey2⟩
        cases ey1
        obtain ⟨dx, hdx, sx⟩ := hx.getV ey2
        have x34 : Ex H3 (upd H3 tp (.tup [.int (i : Nat), y2])) := Ex.new htp
        have hil : i < (items d).length := (List.getElem?_eq_some_iff.mp hdx).1
        have hsp : (items d).drop i = dx :: (items d).drop (i + 1) := by
          rw [List.drop_eq_getElem_cons hil]
          congr 1
          exact (List.getElem?_eq_some_iff.mp hdx).2
        rw [hsp] at hn
        have e4 := e3.trans x34
        refine ⟨tp, _, rfl, SqT.of upd_same, rfl, _, _, rfl, _, _, rfl, rfl, _, rfl, y2, dx, rfl, sx.mono e4, hok dx (List.mem_of_getElem? hdx), fun H5 e5 => ⟨_, rfl, ?_⟩⟩
        cases hb : isTest dx with
        | false =>
          rw [hn, tcBad, if_neg (by rw [hb]; simp)] at q
          exact iteT ⟨_, rfl, (Rai.ex q (e1.trans (e4.trans e5))).mk⟩
        | true => exact iteF ⟨_, _, rfl, e4.trans e5, by rw [hn, tcBad, if_pos hb]⟩
      · rintro σ H3 ⟨x1, x2, rfl, e3, hn⟩
        refine fin _ _ ⟨_, _, rfl⟩ e3 ?_
        rw [hn, List.drop_of_length_le (by omega)]
        rfl
    dsimp only [tNext, tSeq]
    refine tFor_of ?_
    rcases hp1 with hp1 | hp1
    · exact ⟨_, rfl, p1, xs, rfl, .inl ⟨SqL.of hp1, loop walk_enum (fun H' e => SqL.of (e _ _ hp1)) (fun σ H' hσ e hn => tail hσ e hn)⟩⟩
    · exact ⟨_, rfl, p1, xs, rfl, .inr ⟨SqT.of hp1, loop walk_enumT (fun H' e => SqT.of (e _ _ hp1)) (fun σ H' hσ e hn => tail hσ e hn)⟩⟩
end
end K8

set_option Elab.async false
set_option linter.all false
set_option maxRecDepth 100000
set_option maxHeartbeats 4000000
namespace K8
open PySem PySem.Spec PyProof.Rows L2 M8
/-! a dict of some of a dict's names -/
section
variable {J : It} {G : Hp → Prop} {Y : Nat → Hp → V → Hp → Prop}
theorem dc_namesF {ns : List Str} (f : Str → Int) (kp : Str → Bool) (w : Walk J ns.length G Y) {j : Nat} {tt : TT} {tv : TE} {vs : List Nat} {σ : L2.St} {H1 : Hp} {Q : VK} (hn : ns.length ≤ 1000000) (hd : ns.Nodup) (hG : ∀ H, Ex H1 H → G H)
    (hY : ∀ (i : Nat) (x : V) (H H' : Hp), i < ns.length → Ex H1 H → Y i H x H' → H' = H ∧ ∃ nm, ns[i]? = some nm ∧ x = .str nm) (hj : (wipe σ vs)[j]? ≠ none) (hw : ∀ x, wipe ((wipe σ vs).set j (some x)) vs = wipe σ vs)
    (hs : ∀ (i : Nat) (nm : Str) (H : Hp) (R : V → V → Hp → Prop) (R' : Hp → Prop), ns[i]? = some nm → Ex H1 H → (kp nm = true → ∀ H4, Ex H H4 → R (.str nm) (.int (f nm)) H4) → (kp nm = false → ∀ H4, Ex H H4 → R' H4) →
      tt ((wipe σ vs).set j (some (.str nm))) H fun b H3 => if b = true then tVar j ((wipe σ vs).set j (some (.str nm))) H3 fun y H4 => tv ((wipe σ vs).set j (some (.str nm))) H4 fun z H5 => R y z H5 else R' H3)
    (hq : ∀ D H, H1 D = none → Ex H1 H → H D = some (.dK (cK ((ns.filter kp).map fun n => (n, f n)))) → Q (.ref D) H) :
    DcB (gName j) tt (tVar j) tv vs σ Q J H1 := by
  intro D hD
  have sl : (1000000 : Nat) < sizeLine := by rw [sizeLine_eq]; decide
  let P : Nat → Hp → Prop := fun i H => Ex H1 H ∧ H D = some (.dK (cK (((ns.take i).filter kp).map fun n => (n, f n))))
  refine ⟨fun i m H => m = ns.length - i ∧ i ≤ ns.length ∧ P i H, ⟨ns.length, by simp, Nat.zero_le _, Ex.new hD, upd_same⟩, ?_⟩
  rintro i m H ⟨rfl, hi, e, hDH⟩
  by_cases hlt : i < ns.length
  · refine .inr ⟨w.goes i H hlt (hG H e), P (i + 1), fun H' p' => ⟨ns.length - (i + 1), by omega, rfl, hlt, p'⟩, fun x H' y => ?_⟩
    obtain ⟨rfl, nm, hnm, rfl⟩ := hY i x H H' hlt e (w.yields i H x H' hlt (hG H e) y)
    refine ⟨hw _, ?_⟩
    have ht : ns.take (i + 1) = ns.take i ++ [nm] := by
      rw [List.take_add_one, hnm]; rfl
    refine hs i nm H' _ _ hnm e (fun hk H4 e4 => ?_) (fun hk H4 e4 => ?_)
    · refine ⟨_, .inr nm, rfl, e4 D _ hDH, ?_, (e.trans e4).mut hD, ?_⟩
      · rw [cK_len, List.length_map]
        have : ((ns.take i).filter kp).length ≤ (ns.take i).length := List.length_filter_le _ _
        rw [List.length_take] at this
        omega
      · rw [upd_same]
        have hno : nm ∉ (ns.take i).filter kp := by
          intro q
          have q := (List.mem_filter.mp q).1
          have h2 : (ns.take i ++ [nm]).Nodup := by rw [← ht]; exact hd.sublist (List.take_sublist _ _)
          rw [List.nodup_append] at h2
          exact h2.2.2 nm q nm (by simp) rfl
        have hany : ((cK (((ns.take i).filter kp).map fun n => (n, f n))).any fun kv => decide (kv.1 = Sum.inr nm)) = false := by
          rw [List.any_eq_false]
          intro kv hkv
          unfold cK at hkv
          rw [List.map_map] at hkv
          obtain ⟨m, hm, rfl⟩ := List.mem_map.mp hkv
          simp
          intro q
          exact hno (q ▸ hm)
        unfold putK
        rw [hany, if_neg (by simp), ht, List.filter_append, List.map_append, show [nm].filter kp = [nm] by rw [List.filter_cons, if_pos hk]; rfl]
        unfold cK
        rw [List.map_append]; rfl
    · refine ⟨e.trans e4, ?_⟩
      rw [e4 D _ hDH, ht, List.filter_append, show [nm].filter kp = [] by rw [List.filter_cons, if_neg (by rw [hk]; simp)]; rfl, List.append_nil]
  · have ei : i = ns.length := by omega
    subst ei
    refine .inl ⟨w.stops H (hG H e), hq D H hD e ?_⟩
    rw [hDH, List.take_length]
end
theorem filt_keys {c : Coef} (few : Few c) (kp : Str → Bool) : ((keys c).filter kp).map (fun n => (n, co c n)) = c.filter fun p => kp p.1 := by
  unfold keys
  rw [List.filter_map, List.map_map]
  conv => rhs; rw [← List.map_id (c.filter fun p => kp p.1)]
  refine List.map_congr_left fun p hp => ?_
  have hm := (List.mem_filter.mp hp).1
  show (p.1, co c p.1) = p
  rw [co_of_mem (n := p.1) (i := p.2) few.nd hm]
theorem dcf_lock {H : Hp} {d : Addr} {c : Coef} {td tv : TE} {tt : TT} {j : Nat} {vs : List Nat} {σ : L2.St} {Q : VK} (kp : Str → Bool) (hd : H d = some (.dK (cK c))) (few : Few c)
    (htd : ∀ (H2 : Hp) (R : V → Hp → Prop), (∀ b o, b ≠ d → H b = some o → H2 b = some o) → R (.ref d) H2 → td σ H2 R) (hj : (wipe σ vs)[j]? ≠ none) (hw : ∀ x, wipe ((wipe σ vs).set j (some x)) vs = wipe σ vs)
    (hv : ∀ (nm : Str) (H2 : Hp) (od : Obj) (R : V → V → Hp → Prop) (R' : Hp → Prop), nm ∈ keys c → H2 d = some (.frz od (.dK (cK c))) → (∀ b o, b ≠ d → H b = some o → H2 b = some o) → (kp nm = true → ∀ H4, Ex H2 H4 → R (.str nm) (.int (co c nm)) H4) → (kp nm = false → ∀ H4, Ex H2 H4 → R' H4) →
      tt ((wipe σ vs).set j (some (.str nm))) H2 fun b H3 => if b = true then tVar j ((wipe σ vs).set j (some (.str nm))) H3 fun y H4 => tv ((wipe σ vs).set j (some (.str nm))) H4 fun z H5 => R y z H5 else R' H3)
    (hq : ∀ p H', H p = none → Ex H H' → H' p = some (.dK (cK (c.filter fun p => kp p.1))) → Q (.ref p) H') : tLockE (tDc (iKeys td) (gName j) tt (tVar j) tv vs) σ H Q := by
  refine ⟨d, _, hd, trivial, fun od => ?_⟩
  refine tDc_of ?_
  have out : ∀ H2 : Hp, Ex (upd H d (.frz od (.dK (cK c)))) H2 → ∀ b o, b ≠ d → H b = some o → H2 b = some o := fun H2 e b o hb h => e b o (by rw [upd_ne hb]; exact h)
  refine htd _ _ (fun b o hb h => by rw [upd_ne hb]; exact h) ⟨d, od, rfl, .inl ⟨_, upd_same, ?_⟩⟩
  have hl : (cK c).length = (keys c).length := by rw [cK_len]; unfold keys; rw [List.length_map]
  have w := walk_keys (d := d) (o := od) (kvs := cK c)
  rw [hl] at w
  refine dc_namesF (ns := keys c) (fun n => co c n) kp w (by have := few.len; rw [← hl, cK_len]; omega) few.nd (fun H1 e => e _ _ upd_same) ?_ hj hw ?_ ?_
  · rintro i x H1 H2 hi e ⟨rfl, k', z, hkz, rfl⟩
    obtain ⟨⟨n, y⟩, hcy⟩ : ∃ p : Str × Int, c[i]? = some p := ⟨c[i]'(by rw [← hl, cK_len] at hi; exact hi), List.getElem?_eq_getElem _⟩
    rw [get_cK hcy] at hkz
    cases hkz
    exact ⟨rfl, n, by unfold keys; rw [List.getElem?_map, hcy]; rfl, rfl⟩
  · intro i nm H1 R R' hnm e k k'
    exact hv nm H1 od R R' (List.mem_of_getElem? hnm) (e _ _ upd_same) (out H1 e) k k'
  · intro p H1 hp e hp1
    have hx := e _ _ upd_same
    have hpd : p ≠ d := fun z => by rw [z, upd_same] at hp; cases hp
    rw [filt_keys few] at hp1
    exact ⟨hx, hq p _ (by rw [upd_ne hpd] at hp; exact hp) (e.unlock hd) (by rw [upd_ne hpd]; exact hp1)⟩
theorem dec_strs {a b : Str} : (!decide (V.str a = V.str b)) = decide (a ≠ b) := by
  rw [← decide_not]
  exact decide_eq_decide.mpr ⟨fun h z => h (by rw [z]), fun h z => h (V.str.inj z)⟩
/-- coefficients without a name -/
def drop1 (n : Str) (c : Coef) : Coef := c.filter fun p => decide (p.1 ≠ n)
section
variable {P : Program} {w : World} {K : PySem.W.Frag} {mg : Str → Option Value} {base : Heap}
def NamesT (tss : List Tst) (ys : List Str) : Prop := NamesOf (tss.map Bd.t) ys
def spOthers (K : PySem.W.Frag) : Sp := fun vs H Q _ => ∃ (l : Addr) (us : List V) (tss : List Tst) (n : Str) (ns : List Str), vs = [.ref l, .str n] ∧ H l = some (.lst us) ∧ SeeL (FKK K) H us (tss.map tstD) ∧ (∀ ts ∈ tss, Few (coef ts) ∧ ∀ y ∈ nz (coef ts), y ∈ ns) ∧ ns.length ≤ 1000 ∧
  ∀ L ys H', NamesT tss ys → H L = none → Ex H H' → H' L = some (.lst ((ys.filter fun y => decide (y ≠ n)).map V.str)) → Q (.ref L) H'
theorem all2_tstD (n : Nat) : ∀ tss : List Tst, All2 (IsB n) (tss.map tstD) (tss.map Bd.t)
  | [] => .nil
  | ts :: tss => .cons (IsB.tst.mpr (tstD_is ts)) (all2_tstD n tss)
abbrev s_others_in : Stmt := top 36
theorem sc_others_in : FnScope ["case", "name", "other"] ["case", "name"] (defScope s_others_in) := ⟨rfl, rfl, rfl, by decide +kernel, rfl, by decide +kernel, by decide +kernel⟩
theorem ok_others_in (T : Txt K mg) (a : At K mg "others_in" s_others_in ["case", "name"]) {k : Nat} (Onames_of_bodies : Ok P w K mg base CX0 k "names_of_bodies" ["bodies"] (spNamesBs K 0)) : Ok P w K mg base CX0 (k+1) "others_in" ["case", "name"] (spOthers K) := a.ok fun f fd F => by
  refine F.ok sc_others_in (fun vs H Q E h => ?_) (fun cdv A outer s H vs Q E hr h => ?_)
  · obtain ⟨l, us, tss, n, ns, rfl, _⟩ := h; rfl
  · obtain ⟨l, us, tss, n, ns, rfl, hl, hu, hall, hns, q⟩ := h
    refine ⟨_, (pss_one (ps_ret (pe_lc (own := [("other", 2)]) (g := gName 2) (tt := _) rfl sc_others_in.nd (pi_list (pe_callO Onames_of_bodies (hr.mono (by first | decide | omega)) rfl (pa_cons (pv 0) pa_nil))) (blkOk_by (N := ["case", "name", "other"]) (sc := defScope s_others_in) (by decide +kernel)) (fun _ _ _ _ _ => (pg_name (i := 2) sc_others_in.nd rfl (Or.inl rfl))) (fun _ _ _ _ _ => (pts_one (pt_cmpR op_ne (pv 2) (pv 1) (nomark _)))) (fun _ _ _ _ _ => (pv 2))))), ?_⟩
    dsimp only [tRet]
    refine tLc_of ⟨_, rfl, l, us, _, _, H, ns, rfl, .inl hl, Ex.refl _, hu, all2_tstD 0 tss, ?_, hns, fun L ys H1 hys hL e1 hL1 => ⟨L, rfl, ⟨_, SqL.of hL1⟩, ?_⟩⟩
    · intro b hb
      obtain ⟨ts, hts, rfl⟩ := List.mem_map.mp hb
      have e : tl (.t ts) = [ts] := by simp [tl]
      rw [e]
      exact ⟨by simp, fun t ht => by rw [List.mem_singleton.mp ht]; exact hall ts hts⟩
    · have hyl : ys.length ≤ ns.length := List.subset_of_nodup_length hys.2.1 fun y hy => by
        obtain ⟨b, hb, ts, hts, hy'⟩ := (hys.2.2 y).mp hy
        obtain ⟨ts', hts', rfl⟩ := List.mem_map.mp hb
        have e : tl (.t ts') = [ts'] := by simp [tl]
        rw [e, List.mem_singleton] at hts
        subst hts
        exact (hall _ hts').2 y hy'
      refine lc_val (walk_list (xs := ys.map V.str)) (fun i => ((ys.take i).filter fun y => decide (y ≠ n)).map V.str) (by rw [List.length_map]; omega) rfl (fun H2 e2 => SqL.of (e2 _ _ hL1)) ?_ ?_
      · rintro i x H1' H2 R R' hi e ⟨rfl, hx⟩ k1 k2
        rw [List.getElem?_map] at hx
        cases hy : ys[i]? with
        | none => rw [hy] at hx; cases hx
        | some y =>
          rw [hy] at hx
          cases hx
          refine ⟨rfl, _, rfl, _, rfl, rfl, _, rfl, ?_⟩
          rw [dec_strs]
          have ht : ys.take (i + 1) = ys.take i ++ [y] := by rw [List.take_add_one, hy]; rfl
          cases hd : decide (y ≠ n) with
          | true => exact iteT ⟨_, rfl, k1 _ _ (Ex.refl _) (by rw [ht, List.filter_append, List.filter_cons, if_pos hd, List.map_append]; rfl)⟩
          | false => exact iteF (k2 _ (Ex.refl _) (by rw [ht, List.filter_append, List.filter_cons, if_neg (by rw [hd]; simp)]; simp))
      · intro D H2 hD e hDH
        rw [List.length_map, List.take_length] at hDH
        exact q D ys H2 hys (e1.free hD) (e1.trans e) hDH
/-- what the other names come to -/
def spRestAt (K : PySem.W.Frag) : Sp := fun vs H Q _ => ∃ v d ts n nd cn, vs = [v, .str n, .ref nd] ∧ SeeF K H v d ∧ IsTst d ts ∧ Few (coef ts) ∧ Lim (coef ts) ∧ H nd = some (.dK (cK cn)) ∧ Has (drop1 n (coef ts)) cn ∧ ∀ H', Ex H H' → Q (.int (worth (drop1 n (coef ts)) (kst ts) cn)) H'
theorem Few.drop1 {c : Coef} (h : Few c) (n : Str) : Few (drop1 n c) := by
  refine ⟨?_, ?_⟩
  · exact h.nd.sublist (List.filter_sublist.map _)
  · exact Nat.le_trans (List.length_filter_le _ _) h.len
abbrev s_rest_at : Stmt := top 37
theorem sc_rest_at : FnScope ["test", "name", "numbers", "term", "other"] ["test", "name", "numbers"] (defScope s_rest_at) := ⟨rfl, rfl, rfl, by decide +kernel, rfl, by decide +kernel, by decide +kernel⟩
theorem ok_rest_at (T : Txt K mg) (a : At K mg "rest_at" s_rest_at ["test", "name", "numbers"]) (Oterm_of : Ok P w K mg base CX0 1 "term_of" ["test"] (spTermOf K)) (Ovalue_of : Ok P w K mg base CX0 3 "value_of" ["term", "numbers"] spValue) : Ok P w K mg base CX0 4 "rest_at" ["test", "name", "numbers"] (spRestAt K) := a.ok fun f fd F => by
  refine F.ok sc_rest_at (fun vs H Q E h => ?_) (fun cdv A outer s H vs Q E hr h => ?_)
  · obtain ⟨v, d, ts, n, nd, cn, rfl, _⟩ := h; rfl
  · obtain ⟨v, d, ts, n, nd, cn, rfl, hs, it, few, lim, hn, has, q⟩ := h
    refine ⟨_, (pss_cons (ps_set (i := 3) sc_rest_at.nd rfl (Or.inr rfl) (pe_callO Oterm_of (hr.mono (by first | decide | omega)) rfl (pa_cons (pv 0) pa_nil)))
      (pss_one (ps_ret (pe_callO Ovalue_of (hr.mono (by first | decide | omega)) rfl (pa_cons (pe_tup (pa_cons (pe_lock (pe_dc (own := [("other", 4)]) (g := gName 4) (tt := _) rfl sc_rest_at.nd (pi_keys (pe_ix (ix_qK (K := K) rfl) (pv 3) pe_int (fun _ _ => rfl))) (blkOk_by (N := ["test", "name", "numbers", "term", "other"]) (sc := defScope s_rest_at) (by decide +kernel)) (fun _ _ _ _ _ => (pg_name (i := 4) sc_rest_at.nd rfl (Or.inl rfl))) (fun _ _ _ _ _ => (pts_one (pt_cmpR op_ne (pv 4) (pv 1) (nomark _)))) (fun _ _ _ _ _ => (pv 4)) (fun _ _ _ _ _ => (pe_dget (hu_of hr) (pe_ix (ix_qK (K := K) rfl) (pv 3) pe_int (fun _ _ => rfl)) (pv 4) (fun _ _ => rfl))))) (pa_cons (pe_ix (ix_qK (K := K) rfl) (pv 3) pe_int (fun _ _ => rfl)) pa_nil))) (pa_cons (pv 2) pa_nil)))))), ?_⟩
    refine ⟨_, rfl, v, d, ts, rfl, hs, it, fun u tu => ?_⟩
    obtain ⟨p, cd, rfl, hp, hd⟩ := tu
    dsimp only [gName, tRet, tC0, tCons, tTup, tNil]
    have hpi : ∀ {H2 : Hp}, (∀ b o, b ≠ cd → H b = some o → H2 b = some o) → (H2 p = some (.lst [.ref cd, .int (kst ts)]) ∨ H2 p = some (.tup [.ref cd, .int (kst ts)])) := fun e => hp.imp (fun h => e _ _ (fun z => by rw [z, hd] at h; cases h) h) (fun h => e _ _ (fun z => by rw [z, hd] at h; cases h) h)
    refine dcf_lock (fun y => decide (y ≠ n)) hd few (fun H2 R e k => ⟨_, rfl, p, _, 0, _, rfl, rfl, SqQ.or (hpi e), at0, k⟩) (by simp [wipe, L2.start]) (fun _ => rfl) ?_ ?_
    · intro nm H2 od R R' hm hf e k k'
      refine ⟨_, rfl, _, rfl, rfl, _, rfl, ?_⟩
      rw [dec_strs]
      have hv : valV (cK (coef ts)) (.inr nm) = some (.int (co (coef ts) nm)) := valV_co hm few.nd
      cases hk : decide (nm ≠ n) with
      | false => exact iteF (k' hk H2 (Ex.refl _))
      | true => exact iteT ⟨_, rfl, _, rfl, p, _, 0, _, rfl, rfl, SqQ.or (hpi e), at0, _, rfl, cd, _, rfl, .inl ⟨cK (coef ts), .inr nm, .inr ⟨od, hf⟩, rfl, hv.symm⟩, k hk H2 (Ex.refl _)⟩
    · intro D H2 hD e hDH
      refine ⟨_, rfl, p, _, 1, _, rfl, rfl, SqQ.or (hp.imp (e _ _) (e _ _)), at1, by show 2 ≤ sizeLine; decide, fun t ht => ?_⟩
      have e3 : Ex H2 (upd H2 t (.tup [.ref D, .int (kst ts)])) := Ex.new ht
      refine ⟨_, rfl, _, drop1 n (coef ts), kst ts, nd, cn, rfl, ⟨t, D, rfl, .inr upd_same, e3 _ _ hDH⟩, e3 _ _ (e _ _ hn), few.drop1 n, fun q hq => lim q (List.mem_filter.mp hq).1, has, fun H4 e4 => q H4 ((e.trans e3).trans e4)⟩
end
end K8

set_option linter.all false
set_option autoImplicit false
namespace M8
/-! all values of a name: tests along one name, and what is told of them -/
inductive Al where
  | row (a b : Int) | same (a b : Int) | by_ (m a b : Int)
def Al.ok (x : Int) : Al → Prop
  | .row a b => 0 ≤ a * x + b
  | .same a b => a * x + b = 0
  | .by_ m a b => m ∣ a * x + b
abbrev Ans := Option (Option Int × Option Int × Int × Int)
def within (lo hi : Option Int) (x : Int) : Prop := (∀ l, lo = some l → l ≤ x) ∧ (∀ h, hi = some h → x ≤ h)
structure Rng (S : Int → Prop) (lo hi : Option Int) (p r : Int) : Prop where
  pp : 0 < p
  r0 : 0 ≤ r
  r1 : r < p
  iff : ∀ x, S x ↔ within lo hi x ∧ x % p = r
def Right (S : Int → Prop) : Ans → Prop
  | none => ∀ x, ¬ S x
  | some (lo, hi, p, r) => (∃ x, lo = some x ∧ hi = some x ∧ p = 1 ∧ r = 0 ∧ ∀ y, S y ↔ y = x) ∨
      (Rng S lo hi p r ∧ (∀ l, lo = some l → S l) ∧ (∀ h, hi = some h → S h) ∧ ∀ l h, lo = some l → hi = some h → l < h)
def up (l r p : Int) : Int := l + (r - l) % p
def dn (h r p : Int) : Int := h - (h - r) % p
def fin (lo hi : Option Int) (p r : Int) : Ans :=
  match lo.map (up · r p), hi.map (dn · r p) with
  | some l, some h => if h < l then none else if l = h then some (some l, some h, 1, 0) else some (some l, some h, p, r)
  | l, h => some (l, h, p, r)
theorem emod_eq_of {p r a : Int} (r0 : 0 ≤ r) (r1 : r < p) (h : p ∣ a - r) : a % p = r := by
  have h1 : a % p = r % p := (Int.emod_emod_of_dvd a (Int.dvd_refl p)).symm.trans (by
    have := Int.emod_emod_of_dvd a (Int.dvd_refl p)
    rw [this]
    exact (Int.emod_eq_emod_iff_emod_sub_eq_zero).mpr (Int.emod_eq_zero_of_dvd h))
  rw [h1, Int.emod_eq_of_lt r0 r1]
theorem dvd_of_emod {p r a : Int} (h : a % p = r) : p ∣ a - r := by
  have := Int.mul_ediv_add_emod a p
  exact ⟨a / p, by omega⟩
theorem up_spec {l r p : Int} (pp : 0 < p) (r0 : 0 ≤ r) (r1 : r < p) : l ≤ up l r p ∧ up l r p % p = r ∧ ∀ x, l ≤ x → x % p = r → up l r p ≤ x := by
  have h0 := Int.emod_nonneg (r - l) (Int.ne_of_gt pp)
  have h1 := Int.emod_lt_of_pos (r - l) pp
  have e : p ∣ up l r p - r := by
    have := Int.mul_ediv_add_emod (r - l) p
    refine ⟨-((r - l) / p), ?_⟩
    unfold up; rw [Int.mul_neg]; omega
  refine ⟨by unfold up; omega, emod_eq_of r0 r1 e, fun x hx hr => ?_⟩
  have d := Int.dvd_sub e (dvd_of_emod hr)
  have e2 : up l r p - r - (x - r) = up l r p - x := by omega
  rw [e2] at d
  refine Decidable.byContradiction fun z => ?_
  have := Int.le_of_dvd (by omega) d
  unfold up at this z
  omega
theorem dn_spec {h r p : Int} (pp : 0 < p) (r0 : 0 ≤ r) (r1 : r < p) : dn h r p ≤ h ∧ dn h r p % p = r ∧ ∀ x, x ≤ h → x % p = r → x ≤ dn h r p := by
  have h0 := Int.emod_nonneg (h - r) (Int.ne_of_gt pp)
  have h1 := Int.emod_lt_of_pos (h - r) pp
  have e : p ∣ dn h r p - r := by
    have := Int.mul_ediv_add_emod (h - r) p
    refine ⟨(h - r) / p, ?_⟩
    unfold dn; omega
  refine ⟨by unfold dn; omega, emod_eq_of r0 r1 e, fun x hx hr => ?_⟩
  have d := Int.dvd_sub (dvd_of_emod hr) e
  have e2 : x - r - (dn h r p - r) = x - dn h r p := by omega
  rw [e2] at d
  refine Decidable.byContradiction fun z => ?_
  have := Int.le_of_dvd (by omega) d
  unfold dn at this z
  omega
theorem fin_right {S : Int → Prop} {lo hi : Option Int} {p r : Int} (R : Rng S lo hi p r) : Right S (fin lo hi p r) := by
  have pp := R.pp
  have us : ∀ l, _ := fun l => up_spec (l := l) R.pp R.r0 R.r1
  have ds : ∀ h, _ := fun h => dn_spec (h := h) R.pp R.r0 R.r1
  cases lo with
  | none =>
    cases hi with
    | none => exact (show Right S (some (none, none, p, r)) from .inr ⟨R, fun l h => (by cases h), fun l h => (by cases h), fun l h a => (by cases a)⟩)
    | some h =>
      show Right S (some (none, some (dn h r p), p, r))
      refine .inr ⟨⟨R.pp, R.r0, R.r1, fun x => ?_⟩, fun l h => (by cases h), fun h' e => ?_, fun l h a => (by cases a)⟩
      · rw [R.iff]
        constructor
        · rintro ⟨⟨_, w⟩, e⟩
          exact ⟨⟨fun l z => (by cases z), fun z ez => by cases ez; exact (ds h).2.2 x (w h rfl) e⟩, e⟩
        · rintro ⟨⟨_, w⟩, e⟩
          exact ⟨⟨fun l z => (by cases z), fun z ez => by cases ez; exact Int.le_trans (w _ rfl) (ds h).1⟩, e⟩
      · cases e
        exact (R.iff _).mpr ⟨⟨fun l z => (by cases z), fun z ez => by cases ez; exact (ds h).1⟩, (ds h).2.1⟩
  | some l =>
    cases hi with
    | none =>
      show Right S (some (some (up l r p), none, p, r))
      refine .inr ⟨⟨R.pp, R.r0, R.r1, fun x => ?_⟩, fun h' e => ?_, fun l h => (by cases h), fun l h _ a => (by cases a)⟩
      · rw [R.iff]
        constructor
        · rintro ⟨⟨w, _⟩, e⟩
          exact ⟨⟨fun z ez => by cases ez; exact (us l).2.2 x (w l rfl) e, fun l z => (by cases z)⟩, e⟩
        · rintro ⟨⟨w, _⟩, e⟩
          exact ⟨⟨fun z ez => by cases ez; exact Int.le_trans (us l).1 (w _ rfl), fun l z => (by cases z)⟩, e⟩
      · cases e
        exact (R.iff _).mpr ⟨⟨fun z ez => by cases ez; exact (us l).1, fun l z => (by cases z)⟩, (us l).2.1⟩
    | some h =>
      have I : ∀ x, S x ↔ (up l r p ≤ x ∧ x ≤ dn h r p) ∧ x % p = r := fun x => by
        rw [R.iff]
        constructor
        · rintro ⟨⟨w1, w2⟩, e⟩
          exact ⟨⟨(us l).2.2 x (w1 l rfl) e, (ds h).2.2 x (w2 h rfl) e⟩, e⟩
        · rintro ⟨⟨w1, w2⟩, e⟩
          exact ⟨⟨fun z ez => by cases ez; exact Int.le_trans (us l).1 w1, fun z ez => by cases ez; exact Int.le_trans w2 (ds h).1⟩, e⟩
      show Right S (if dn h r p < up l r p then none else if up l r p = dn h r p then some (some (up l r p), some (dn h r p), 1, 0) else some (some (up l r p), some (dn h r p), p, r))
      by_cases c1 : dn h r p < up l r p
      · rw [if_pos c1]
        intro x hx
        have := (I x).mp hx
        omega
      · rw [if_neg c1]
        by_cases c2 : up l r p = dn h r p
        · rw [if_pos c2]
          refine .inl ⟨_, rfl, by rw [c2], rfl, rfl, fun y => ?_⟩
          rw [I]
          constructor
          · rintro ⟨⟨a, b⟩, _⟩; omega
          · rintro rfl; exact ⟨⟨Int.le_refl _, by omega⟩, (us l).2.1⟩
        · rw [if_neg c2]
          refine .inr ⟨⟨R.pp, R.r0, R.r1, fun x => ?_⟩, fun z e => ?_, fun z e => ?_, fun a b ea eb => ?_⟩
          · rw [I]
            constructor
            · rintro ⟨⟨a, b⟩, e⟩; exact ⟨⟨fun z ez => by cases ez; exact a, fun z ez => by cases ez; exact b⟩, e⟩
            · rintro ⟨⟨a, b⟩, e⟩; exact ⟨⟨a _ rfl, b _ rfl⟩, e⟩
          · cases e; exact (I _).mpr ⟨⟨Int.le_refl _, by omega⟩, (us l).2.1⟩
          · cases e; exact (I _).mpr ⟨⟨by omega, Int.le_refl _⟩, (ds h).2.1⟩
          · cases ea; cases eb; omega
/-- an element above or below any other one, by the period -/
theorem Rng.shift {S : Int → Prop} {lo hi : Option Int} {p r : Int} (R : Rng S lo hi p r) {x : Int} (h : S x) (k : Int) (w : within lo hi (x + k * p)) : S (x + k * p) := by
  refine (R.iff _).mpr ⟨w, ?_⟩
  rw [Int.add_mul_emod_self_right]
  exact ((R.iff _).mp h).2
theorem Rng.mem {S : Int → Prop} {lo hi : Option Int} {p r : Int} (R : Rng S lo hi p r) (hl : ∀ l, lo = some l → S l) (hh : ∀ h, hi = some h → S h) : ∃ x, S x := by
  cases lo with
  | some l => exact ⟨l, hl l rfl⟩
  | none =>
    cases hi with
    | some h => exact ⟨h, hh h rfl⟩
    | none => exact ⟨r, (R.iff r).mpr ⟨⟨fun l z => (by cases z), fun l z => (by cases z)⟩, Int.emod_eq_of_lt R.r0 R.r1⟩⟩
/-- two neighbours -/
theorem Rng.two {S : Int → Prop} {lo hi : Option Int} {p r : Int} (R : Rng S lo hi p r) (hl : ∀ l, lo = some l → S l) (hh : ∀ h, hi = some h → S h) (hlt : ∀ l h, lo = some l → hi = some h → l < h) : ∃ x, S x ∧ S (x + p) := by
  have pp := R.pp
  cases lo with
  | some l =>
    cases hi with
    | none => exact ⟨l, hl l rfl, by have := R.shift (hl l rfl) 1 ⟨fun z ez => by cases ez; omega, fun z ez => (by cases ez)⟩; rwa [Int.one_mul] at this⟩
    | some h =>
      have lt := hlt l h rfl rfl
      have d1 := dvd_of_emod ((R.iff _).mp (hl l rfl)).2
      have d2 := dvd_of_emod ((R.iff _).mp (hh h rfl)).2
      have d := Int.dvd_sub d2 d1
      rw [show h - r - (l - r) = h - l by omega] at d
      have := Int.le_of_dvd (by omega) d
      exact ⟨l, hl l rfl, by have := R.shift (hl l rfl) 1 ⟨fun z ez => by cases ez; omega, fun z ez => by cases ez; omega⟩; rwa [Int.one_mul] at this⟩
  | none =>
    cases hi with
    | some h =>
      refine ⟨h - p, ?_, by rw [Int.sub_add_cancel]; exact hh h rfl⟩
      have := R.shift (hh h rfl) (-1) ⟨fun z ez => (by cases ez), fun z ez => by cases ez; omega⟩
      rwa [show h + -1 * p = h - p by omega] at this
    | none =>
      have h0 : S r := (R.iff r).mpr ⟨⟨fun l z => (by cases z), fun l z => (by cases z)⟩, Int.emod_eq_of_lt R.r0 R.r1⟩
      exact ⟨r, h0, by have := R.shift h0 1 ⟨fun l z => (by cases z), fun l z => (by cases z)⟩; rwa [Int.one_mul] at this⟩
theorem Rng.gap {S : Int → Prop} {lo hi : Option Int} {p r : Int} (R : Rng S lo hi p r) {x y : Int} (hx : S x) (hy : S y) : p ∣ y - x := by
  have d := Int.dvd_sub (dvd_of_emod ((R.iff _).mp hy).2) (dvd_of_emod ((R.iff _).mp hx).2)
  rwa [show y - r - (x - r) = y - x by omega] at d
/-- where there is no least one there is one below any other -/
theorem Rng.nolow {S : Int → Prop} {hi : Option Int} {p r : Int} (R : Rng S none hi p r) {x : Int} (hx : S x) : S (x - p) := by
  have := R.shift hx (-1) ⟨fun z ez => (by cases ez), fun z ez => by have := ((R.iff _).mp hx).1.2 z ez; have := R.pp; omega⟩
  rwa [show x + -1 * p = x - p by omega] at this
theorem Rng.nohigh {S : Int → Prop} {lo : Option Int} {p r : Int} (R : Rng S lo none p r) {x : Int} (hx : S x) : S (x + p) := by
  have := R.shift hx 1 ⟨fun z ez => by have := ((R.iff _).mp hx).1.1 z ez; have := R.pp; omega, fun z ez => (by cases ez)⟩
  rwa [Int.one_mul] at this
theorem right_unique {S : Int → Prop} {a b : Ans} (ha : Right S a) (hb : Right S b) : a = b := by
  have one_two : ∀ {x lo hi p r}, (∀ y, S y ↔ y = x) → Rng S lo hi p r → (∀ l, lo = some l → S l) → (∀ h, hi = some h → S h) → (∀ l h, lo = some l → hi = some h → l < h) → False := by
    intro x lo hi p r hx R h1 h2 h3
    obtain ⟨y, y1, y2⟩ := R.two h1 h2 h3
    have := (hx _).mp y1
    have := (hx _).mp y2
    have := R.pp
    omega
  match a, b, ha, hb with
  | none, none, _, _ => rfl
  | none, some (lo, hi, p, r), ha, hb =>
    rcases hb with ⟨x, _, _, _, _, hx⟩ | ⟨R, h1, h2, _⟩
    · exact absurd ((hx x).mpr rfl) (ha x)
    · obtain ⟨x, hx⟩ := R.mem h1 h2; exact absurd hx (ha x)
  | some (lo, hi, p, r), none, hb, ha =>
    rcases hb with ⟨x, _, _, _, _, hx⟩ | ⟨R, h1, h2, _⟩
    · exact absurd ((hx x).mpr rfl) (ha x)
    · obtain ⟨x, hx⟩ := R.mem h1 h2; exact absurd hx (ha x)
  | some (lo, hi, p, r), some (lo', hi', p', r'), ha, hb =>
    rcases ha with ⟨x, e1, e2, e3, e4, hx⟩ | ⟨R, h1, h2, h3⟩
    · rcases hb with ⟨y, f1, f2, f3, f4, hy⟩ | ⟨R', g1, g2, g3⟩
      · have : y = x := (hx y).mp ((hy y).mpr rfl)
        subst this
        rw [e1, e2, e3, e4, f1, f2, f3, f4]
      · exact (one_two hx R' g1 g2 g3).elim
    · rcases hb with ⟨y, f1, f2, f3, f4, hy⟩ | ⟨R', g1, g2, g3⟩
      · exact (one_two hy R h1 h2 h3).elim
      · obtain ⟨x, x1, x2⟩ := R.two h1 h2 h3
        obtain ⟨y, y1, y2⟩ := R'.two g1 g2 g3
        have d1 := R'.gap x1 x2
        have d2 := R.gap y1 y2
        rw [show x + p - x = p by omega] at d1
        rw [show y + p' - y = p' by omega] at d2
        have l1 := Int.le_of_dvd R.pp d1
        have l2 := Int.le_of_dvd R'.pp d2
        have ep : p' = p := by omega
        subst ep
        have er : r' = r := by
          rw [← ((R.iff _).mp x1).2, ← ((R'.iff _).mp x1).2]
        subst er
        have pp := R.pp
        have el : lo' = lo := by
          cases lo with
          | none =>
            cases lo' with
            | none => rfl
            | some l => have := ((R'.iff _).mp (R.nolow (g1 l rfl))).1.1 l rfl; omega
          | some l =>
            cases lo' with
            | none => have := ((R.iff _).mp (R'.nolow (h1 l rfl))).1.1 l rfl; omega
            | some l' =>
              have a1 := ((R.iff _).mp (g1 l' rfl)).1.1 l rfl
              have a2 := ((R'.iff _).mp (h1 l rfl)).1.1 l' rfl
              congr 1; omega
        have eh : hi' = hi := by
          cases hi with
          | none =>
            cases hi' with
            | none => rfl
            | some l => have := ((R'.iff _).mp (R.nohigh (g2 l rfl))).1.2 l rfl; omega
          | some l =>
            cases hi' with
            | none => have := ((R.iff _).mp (R'.nohigh (h2 l rfl))).1.2 l rfl; omega
            | some l' =>
              have a1 := ((R.iff _).mp (g2 l' rfl)).1.2 l rfl
              have a2 := ((R'.iff _).mp (h2 l rfl)).1.2 l' rfl
              congr 1; omega
        rw [el, eh]
/-- whether a number is told to be one, as the law looks -/
def isOne (a : Ans) (v : Int) : Prop := match a with
  | none => False
  | some (lo, hi, p, r) => (if lo ≠ none ∧ lo = hi then lo = some v else v % p = r) ∧ within lo hi v
theorem isOne_iff {S : Int → Prop} {a : Ans} (h : Right S a) (v : Int) : isOne a v ↔ S v := by
  match a, h with
  | none, h => exact ⟨fun z => z.elim, fun z => (h v z).elim⟩
  | some (lo, hi, p, r), .inl ⟨x, e1, e2, e3, e4, hx⟩ =>
    subst e1 e2
    show ((if some x ≠ none ∧ some x = some x then some x = some v else v % p = r) ∧ within (some x) (some x) v) ↔ _
    rw [if_pos ⟨nofun, rfl⟩, hx]
    constructor
    · rintro ⟨e, _⟩; cases e; rfl
    · rintro rfl; exact ⟨rfl, fun l e => by cases e; exact Int.le_refl _, fun l e => by cases e; exact Int.le_refl _⟩
  | some (lo, hi, p, r), .inr ⟨R, h1, h2, h3⟩ =>
    show ((if lo ≠ none ∧ lo = hi then lo = some v else v % p = r) ∧ within lo hi v) ↔ _
    have : ¬ (lo ≠ none ∧ lo = hi) := by
      rintro ⟨n, e⟩
      cases lo with
      | none => exact n rfl
      | some l => have := h3 l l rfl e.symm; omega
    rw [if_neg this, R.iff]
    exact And.comm
end M8

set_option linter.all false
set_option autoImplicit false
namespace M8
/-! one test more -/
theorem fdiv_pos {b a : Int} (h : 0 < a) : b.fdiv a = b / a := Int.fdiv_eq_ediv_of_nonneg _ (Int.le_of_lt h)
/-- a * x + b is not below 0, a above 0 -/
theorem row_low {a b x : Int} (h : 0 < a) : 0 ≤ a * x + b ↔ 0 - b / a ≤ x := by
  have e := Int.mul_ediv_add_emod b a
  have m0 := Int.emod_nonneg b (Int.ne_of_gt h)
  have m1 := Int.emod_lt_of_pos b h
  constructor
  · intro g
    refine Decidable.byContradiction fun z => ?_
    have z' : x ≤ - (b / a) - 1 := by omega
    have := Int.mul_le_mul_of_nonneg_left z' (Int.le_of_lt h)
    rw [Int.mul_sub, Int.mul_neg, Int.mul_one] at this
    omega
  · intro g
    have z' : - (b / a) ≤ x := by omega
    have := Int.mul_le_mul_of_nonneg_left z' (Int.le_of_lt h)
    rw [Int.mul_neg] at this
    omega
theorem row_high {a b x : Int} (h : a < 0) : 0 ≤ a * x + b ↔ x ≤ b / (0 - a) := by
  have h' : 0 < 0 - a := by omega
  have e := Int.mul_ediv_add_emod b (0 - a)
  have m0 := Int.emod_nonneg b (Int.ne_of_gt h')
  have m1 := Int.emod_lt_of_pos b h'
  have n : a * x = - ((0 - a) * x) := by rw [Int.sub_mul]; omega
  rw [n]
  constructor
  · intro g
    refine Decidable.byContradiction fun z => ?_
    have z' : b / (0 - a) + 1 ≤ x := by omega
    have := Int.mul_le_mul_of_nonneg_left z' (Int.le_of_lt h')
    rw [Int.mul_add, Int.mul_one] at this
    omega
  · intro g
    have := Int.mul_le_mul_of_nonneg_left g (Int.le_of_lt h')
    omega
/-- a * x + b = 0 as two rows -/
theorem same_rows {a b x : Int} : a * x + b = 0 ↔ 0 ≤ a * x + b ∧ 0 ≤ (0 - a) * x + (0 - b) := by
  have : (0 - a) * x = - (a * x) := by rw [Int.sub_mul]; omega
  rw [this]; omega
/-- .. where it can be: one value -/
theorem same_one {a b x : Int} (h : a ≠ 0) (d : b.fmod a = 0) : a * x + b = 0 ↔ x = (-b).fdiv a := by
  obtain ⟨q, rfl⟩ : a ∣ b := Int.dvd_of_fmod_eq_zero d
  rw [show -(a * q) = a * (-q) by rw [Int.mul_neg], Int.mul_fdiv_cancel_left _ h]
  constructor
  · intro g
    have : a * (x + q) = 0 := by rw [Int.mul_add]; omega
    rcases Int.mul_eq_zero.mp this with z | z
    · exact absurd z h
    · omega
  · rintro rfl
    rw [Int.mul_neg]; omega
theorem same_none {a b x : Int} (d : b.fmod a ≠ 0) : a * x + b ≠ 0 := by
  intro g
  refine d ?_
  have : b = a * (-x) := by rw [Int.mul_neg]; omega
  rw [this, Int.mul_fmod_right]
/-! divisors -/
theorem dvd_mul_iff {m a k : Int} (hm : 0 < m) : m ∣ a * k ↔ m / gcdI m a ∣ k := by
  have hg : 0 < gcdI m a := by
    have h0 := gcdI_nn m a
    have h1 := gcdI_dvd_l m a
    refine Decidable.byContradiction fun z => ?_
    have : gcdI m a = 0 := by omega
    rw [this] at h1
    have := Int.zero_dvd.mp h1
    omega
  have hgn : 0 < Nat.gcd m.natAbs a.natAbs := by unfold gcdI at hg; omega
  have e1 : (m / gcdI m a).natAbs = m.natAbs / Nat.gcd m.natAbs a.natAbs := by
    rw [Int.natAbs_ediv_of_dvd (gcdI_dvd_l m a)]; rfl
  rw [← Int.natAbs_dvd_natAbs, ← Int.natAbs_dvd_natAbs, Int.natAbs_mul, e1]
  have cop : Nat.Coprime (m.natAbs / Nat.gcd m.natAbs a.natAbs) (a.natAbs / Nat.gcd m.natAbs a.natAbs) := Nat.coprime_div_gcd_div_gcd hgn
  obtain ⟨u, hu⟩ := Nat.gcd_dvd_left m.natAbs a.natAbs
  obtain ⟨v, hv⟩ := Nat.gcd_dvd_right m.natAbs a.natAbs
  generalize hG : Nat.gcd m.natAbs a.natAbs = G at *
  rw [hu, hv] at cop ⊢
  rw [Nat.mul_div_cancel_left _ hgn] at cop ⊢
  rw [Nat.mul_div_cancel_left _ hgn] at cop
  rw [Nat.mul_assoc]
  constructor
  · intro h
    exact cop.dvd_of_dvd_mul_left (Nat.dvd_of_mul_dvd_mul_left hgn h)
  · intro h
    exact Nat.mul_dvd_mul_left _ (Nat.dvd_trans h (Nat.dvd_mul_left _ _))
def lcmI (p q : Int) : Int := p * q / gcdI p q
theorem gcdI_pos {p q : Int} (hp : 0 < p) : 0 < gcdI p q := by
  have h0 := gcdI_nn p q
  have h1 := gcdI_dvd_l p q
  refine Decidable.byContradiction fun z => ?_
  have : gcdI p q = 0 := by omega
  rw [this] at h1
  have := Int.zero_dvd.mp h1
  omega
theorem lcmI_eq {p q : Int} (hp : 0 < p) (hq : 0 < q) : lcmI p q = ((Nat.lcm p.natAbs q.natAbs : Nat) : Int) := by
  have h : (lcmI p q).natAbs = Nat.lcm p.natAbs q.natAbs := by
    unfold lcmI
    rw [Int.natAbs_ediv_of_dvd (Int.dvd_trans (gcdI_dvd_l p q) (Int.dvd_mul_right p q)), Int.natAbs_mul]
    rfl
  have h2 : 0 ≤ lcmI p q := Int.ediv_nonneg (Int.mul_nonneg (by omega) (by omega)) (gcdI_nn p q)
  omega
theorem lcmI_dvd_iff {p q k : Int} (hp : 0 < p) (hq : 0 < q) : lcmI p q ∣ k ↔ p ∣ k ∧ q ∣ k := by
  rw [lcmI_eq hp hq, ← Int.natAbs_dvd_natAbs, ← Int.natAbs_dvd_natAbs, ← Int.natAbs_dvd_natAbs (a := q), Int.natAbs_natCast]
  exact Nat.lcm_dvd_iff
theorem lcmI_pos {p q : Int} (hp : 0 < p) (hq : 0 < q) : 0 < lcmI p q := by
  rw [lcmI_eq hp hq]
  have := Nat.lcm_pos (m := p.natAbs) (n := q.natAbs) (by omega) (by omega)
  omega
theorem quo_pos {m a : Int} (hm : 0 < m) : 0 < m / gcdI m a := by
  have hg := gcdI_pos (q := a) hm
  obtain ⟨u, hu⟩ := gcdI_dvd_l m a
  rw [show m / gcdI m a = u by rw [hu]; rw [← hu]; exact Int.mul_ediv_cancel_left u (Int.ne_of_gt hg) ▸ (by rw [← hu])]
  refine Decidable.byContradiction fun z => ?_
  have z' : u ≤ 0 := by omega
  have := Int.mul_le_mul_of_nonneg_left z' (Int.le_of_lt hg)
  omega
end M8

set_option linter.all false
set_option autoImplicit false
namespace M8
/-! how what is known of all values goes on, test by test -/
def raiseO (lo : Option Int) (n : Int) : Option Int := some (match lo with | none => n | some l => if n > l then n else l)
def lowerO (hi : Option Int) (n : Int) : Option Int := some (match hi with | none => n | some h => if n < h then n else h)
theorem Rng.raise {S T : Int → Prop} {lo hi : Option Int} {p r n : Int} (R : Rng S lo hi p r) (h : ∀ x, T x ↔ S x ∧ n ≤ x) : Rng T (raiseO lo n) hi p r := by
  refine ⟨R.pp, R.r0, R.r1, fun x => ?_⟩
  rw [h, R.iff]
  have : within (raiseO lo n) hi x ↔ within lo hi x ∧ n ≤ x := by
    unfold within raiseO
    cases lo with
    | none =>
      constructor
      · rintro ⟨a, b⟩; exact ⟨⟨fun l z => (by cases z), b⟩, a _ rfl⟩
      · rintro ⟨⟨_, b⟩, c⟩; exact ⟨fun l z => by cases z; exact c, b⟩
    | some l =>
      constructor
      · rintro ⟨a, b⟩
        have := a _ rfl
        simp only at this
        refine ⟨⟨fun l' z => ?_, b⟩, ?_⟩
        · cases z; split at this <;> omega
        · split at this <;> omega
      · rintro ⟨⟨a, b⟩, c⟩
        refine ⟨fun l' z => ?_, b⟩
        have := a l rfl
        cases z
        simp only
        split <;> omega
  rw [this]
  constructor
  · rintro ⟨⟨a, b⟩, c⟩; exact ⟨⟨a, c⟩, b⟩
  · rintro ⟨⟨a, b⟩, c⟩; exact ⟨⟨a, c⟩, b⟩
theorem Rng.lower {S T : Int → Prop} {lo hi : Option Int} {p r n : Int} (R : Rng S lo hi p r) (h : ∀ x, T x ↔ S x ∧ x ≤ n) : Rng T lo (lowerO hi n) p r := by
  refine ⟨R.pp, R.r0, R.r1, fun x => ?_⟩
  rw [h, R.iff]
  have : within lo (lowerO hi n) x ↔ within lo hi x ∧ x ≤ n := by
    unfold within lowerO
    cases hi with
    | none =>
      constructor
      · rintro ⟨a, b⟩; exact ⟨⟨a, fun l z => (by cases z)⟩, b _ rfl⟩
      · rintro ⟨⟨a, _⟩, c⟩; exact ⟨a, fun l z => by cases z; exact c⟩
    | some l =>
      constructor
      · rintro ⟨b, a⟩
        have := a _ rfl
        simp only at this
        refine ⟨⟨b, fun l' z => ?_⟩, ?_⟩
        · cases z; split at this <;> omega
        · split at this <;> omega
      · rintro ⟨⟨b, a⟩, c⟩
        refine ⟨b, fun l' z => ?_⟩
        have := a l rfl
        cases z
        simp only
        split <;> omega
  rw [this]
  constructor
  · rintro ⟨⟨a, b⟩, c⟩; exact ⟨⟨a, c⟩, b⟩
  · rintro ⟨⟨a, b⟩, c⟩; exact ⟨⟨a, c⟩, b⟩
theorem Rng.congr {S T : Int → Prop} {lo hi : Option Int} {p r : Int} (R : Rng S lo hi p r) (h : ∀ x, T x ↔ S x) : Rng T lo hi p r := ⟨R.pp, R.r0, R.r1, fun x => (h x).trans (R.iff x)⟩
theorem Rng.start : Rng (fun _ => True) none none 1 0 := ⟨by decide, by decide, by decide, fun x => ⟨fun _ => ⟨⟨fun l z => (by cases z), fun l z => (by cases z)⟩, Int.emod_one x⟩, fun _ => trivial⟩⟩
theorem dvd_lin {m a b x y : Int} (hx : m ∣ a * x + b) : m ∣ a * y + b ↔ m ∣ a * (y - x) := by
  have e : a * y + b = a * (y - x) + (a * x + b) := by rw [Int.mul_sub]; omega
  rw [e]
  exact ⟨fun h => (Int.dvd_iff_dvd_of_dvd_add h).mpr hx, fun h => Int.dvd_add h hx⟩
theorem Rng.take {S T : Int → Prop} {lo hi : Option Int} {p r m a b n : Int} (R : Rng S lo hi p r) (hm : 0 < m) (n0 : 0 ≤ n) (n1 : n < lcmI p (m / gcdI m a)) (hp : p ∣ n - r) (hn : m ∣ a * n + b)
    (h : ∀ x, T x ↔ S x ∧ m ∣ a * x + b) : Rng T lo hi (lcmI p (m / gcdI m a)) n := by
  have hq := quo_pos (a := a) hm
  refine ⟨lcmI_pos R.pp hq, n0, n1, fun x => ?_⟩
  rw [h, R.iff, dvd_lin hn]
  constructor
  · rintro ⟨⟨w, e⟩, d⟩
    refine ⟨w, emod_eq_of n0 n1 ((lcmI_dvd_iff R.pp hq).mpr ⟨?_, (dvd_mul_iff hm).mp d⟩)⟩
    have := Int.dvd_sub (dvd_of_emod e) hp
    rwa [show x - r - (n - r) = x - n by omega] at this
  · rintro ⟨w, e⟩
    obtain ⟨d1, d2⟩ := (lcmI_dvd_iff R.pp hq).mp (dvd_of_emod e)
    refine ⟨⟨w, emod_eq_of R.r0 R.r1 ?_⟩, (dvd_mul_iff hm).mpr d2⟩
    have := Int.dvd_add d1 hp
    rwa [show x - n + (n - r) = x - r by omega] at this
theorem Rng.untaken {S : Int → Prop} {lo hi : Option Int} {p r m a b : Int} {N : Nat} (R : Rng S lo hi p r) (hm : 0 < m) (hN : lcmI p (m / gcdI m a) = N * p) (hno : ∀ i : Nat, i < N → ¬ m ∣ a * (r + i * p) + b) : ∀ x, S x → ¬ m ∣ a * x + b := by
  intro x hx hd
  have hq := quo_pos (a := a) hm
  have hP := lcmI_pos R.pp hq
  have hpP : p ∣ lcmI p (m / gcdI m a) := ((lcmI_dvd_iff R.pp hq).mp (Int.dvd_refl _)).1
  have hqP := ((lcmI_dvd_iff R.pp hq).mp (Int.dvd_refl _)).2
  generalize lcmI p (m / gcdI m a) = P at *
  have y0 := Int.emod_nonneg x (Int.ne_of_gt hP)
  have y1 := Int.emod_lt_of_pos x hP
  have ey : P ∣ x - x % P := dvd_of_emod rfl
  generalize x % P = y at *
  have hxr := dvd_of_emod ((R.iff x).mp hx).2
  have d1 : p ∣ y - r := by
    have := Int.dvd_sub hxr (Int.dvd_trans hpP ey)
    rwa [show x - r - (x - y) = y - r by omega] at this
  obtain ⟨i, hi⟩ := d1
  have pp := R.pp
  have r1 := R.r1
  have r0 := R.r0
  have i0 : 0 ≤ i := by
    refine Decidable.byContradiction fun z => ?_
    have z' : i ≤ -1 := by omega
    have := Int.mul_le_mul_of_nonneg_left z' (Int.le_of_lt pp)
    omega
  have i1 : i < N := by
    refine Decidable.byContradiction fun z => ?_
    have z' : (N : Int) ≤ i := by omega
    have := Int.mul_le_mul_of_nonneg_left z' (Int.le_of_lt pp)
    rw [Int.mul_comm p N] at this
    omega
  have ei : ((i.toNat : Nat) : Int) = i := by omega
  refine hno i.toNat (by omega) ?_
  rw [ei, show r + i * p = y by rw [Int.mul_comm]; omega]
  refine (dvd_lin hd).mpr ((dvd_mul_iff hm).mpr ?_)
  have := Int.dvd_neg.mpr (Int.dvd_trans hqP ey)
  rwa [show -(x - y) = y - x by omega] at this
theorem by_bad {m a b : Int} (h : b % gcdI m a ≠ 0) (x : Int) : ¬ m ∣ a * x + b := by
  intro d
  refine h (Int.emod_eq_zero_of_dvd ?_)
  have d1 := Int.dvd_trans (gcdI_dvd_l m a) d
  have d2 : gcdI m a ∣ a * x := Int.dvd_trans (gcdI_dvd_r m a) (Int.dvd_mul_right a x)
  exact (Int.dvd_iff_dvd_of_dvd_add d1).mp d2
theorem range_size {p r P : Int} {N : Nat} (pp : 0 < p) (r0 : 0 ≤ r) (r1 : r < p) (hP : 0 < P) (e : P = N * p) : (P - r - 1) / p + 1 = N ∧ r < P := by
  have N1 : (1 : Int) ≤ N := by
    refine Decidable.byContradiction fun z => ?_
    have : (N : Int) = 0 := by omega
    rw [this] at e; omega
  have h1 : p ≤ P := by
    have := Int.mul_le_mul_of_nonneg_right N1 (Int.le_of_lt pp)
    omega
  refine ⟨?_, by omega⟩
  have : P - r - 1 = (p - r - 1) + ((N : Int) - 1) * p := by rw [Int.sub_mul]; omega
  rw [this, Int.add_mul_ediv_right _ _ (Int.ne_of_gt pp), Int.ediv_eq_zero_of_lt (by omega) (by omega)]
  omega
/-! the law's way -/
def inLH (low high : List Int) (x : Int) : Prop := (∀ l ∈ low, l ≤ x) ∧ ∀ h ∈ high, x ≤ h
structure PerOk (bys : List (Int × Int × Int)) (P : Int) : Prop where
  pos : 0 < P
  iff : ∀ k, P ∣ k ↔ ∀ q ∈ bys, q.1 ∣ q.2.1 * k
theorem PerOk.nil : PerOk [] 1 := ⟨by decide, fun k => ⟨fun _ q h => (by cases h), fun _ => Int.one_dvd k⟩⟩
theorem PerOk.snoc {bys : List (Int × Int × Int)} {P m a b : Int} (h : PerOk bys P) (hm : 0 < m) : PerOk (bys ++ [(m, a, b)]) (lcmI P (m / gcdI m a)) := by
  refine ⟨lcmI_pos h.pos (quo_pos hm), fun k => ?_⟩
  rw [lcmI_dvd_iff h.pos (quo_pos hm), h.iff, ← dvd_mul_iff hm]
  constructor
  · rintro ⟨h1, h2⟩ q hq
    rcases List.mem_append.mp hq with hq | hq
    · exact h1 q hq
    · rw [List.mem_singleton.mp hq]; exact h2
  · intro h'
    exact ⟨fun q hq => h' q (List.mem_append.mpr (.inl hq)), h' (m, a, b) (by simp)⟩
theorem PerOk.le {bys : List (Int × Int × Int)} {P L : Int} (h : PerOk bys P) (hL : 0 < L) (hb : ∀ q ∈ bys, q.1 ∣ L) : P ≤ L ∧ P ∣ L := by
  have : P ∣ L := (h.iff L).mpr fun q hq => Int.dvd_trans (hb q hq) (Int.dvd_mul_left q.2.1 L)
  exact ⟨Int.le_of_dvd hL this, this⟩
def byAll (bys : List (Int × Int × Int)) (x : Int) : Bool := bys.all fun q => decide ((q.2.1 * x + q.2.2) % q.1 = 0)
theorem byAll_iff {bys : List (Int × Int × Int)} {x : Int} : byAll bys x = true ↔ ∀ q ∈ bys, q.1 ∣ q.2.1 * x + q.2.2 := by
  unfold byAll
  rw [List.all_eq_true]
  constructor
  · intro h q hq
    exact Int.dvd_of_emod_eq_zero (of_decide_eq_true (h q hq))
  · intro h q hq
    exact decide_eq_true (Int.emod_eq_zero_of_dvd (h q hq))
theorem PerOk.mod {bys : List (Int × Int × Int)} {P : Int} (h : PerOk bys P) {x y : Int} (hd : P ∣ y - x) (hx : byAll bys x = true) : byAll bys y = true := by
  rw [byAll_iff] at hx ⊢
  intro q hq
  exact (dvd_lin (hx q hq)).mpr ((h.iff _).mp hd q hq)
def restsOf (bys : List (Int × Int × Int)) (P : Int) : List Int := ((List.range P.toNat).map fun i : Nat => (i : Int)).filter (byAll bys)
theorem mem_rests {bys : List (Int × Int × Int)} {P k : Int} : k ∈ restsOf bys P ↔ 0 ≤ k ∧ k < P ∧ byAll bys k = true := by
  unfold restsOf
  rw [List.mem_filter, List.mem_map]
  constructor
  · rintro ⟨⟨i, hi, rfl⟩, h⟩
    have := List.mem_range.mp hi
    exact ⟨by omega, by omega, h⟩
  · rintro ⟨h0, h1, h⟩
    exact ⟨⟨k.toNat, List.mem_range.mpr (by omega), by omega⟩, h⟩
theorem rests_one {bys : List (Int × Int × Int)} {P r : Int} (h : PerOk bys P) (e : restsOf bys P = [r]) : 0 ≤ r ∧ r < P ∧ ∀ x, byAll bys x = true ↔ x % P = r := by
  obtain ⟨r0, r1, hr⟩ := mem_rests.mp (by rw [e]; simp : r ∈ restsOf bys P)
  refine ⟨r0, r1, fun x => ⟨fun hx => ?_, fun hx => h.mod (dvd_of_emod hx) hr⟩⟩
  have y0 := Int.emod_nonneg x (Int.ne_of_gt h.pos)
  have y1 := Int.emod_lt_of_pos x h.pos
  have hy : byAll bys (x % P) = true := by
    refine h.mod ?_ hx
    have := Int.dvd_neg.mpr (dvd_of_emod (p := P) (a := x) rfl)
    rwa [show -(x - x % P) = x % P - x by omega] at this
  have := mem_rests.mpr ⟨y0, y1, hy⟩
  rw [e] at this
  exact List.mem_singleton.mp this
theorem rests_nodup (bys : List (Int × Int × Int)) (P : Int) : (restsOf bys P).Nodup := by
  unfold restsOf
  refine List.Pairwise.filter _ ?_
  exact List.Pairwise.map _ (fun a b h => by omega) (List.nodup_range (n := P.toNat))
theorem rests_none {bys : List (Int × Int × Int)} {P : Int} (h : PerOk bys P) (e : (restsOf bys P).length ≠ 1) (x : Int) : byAll bys x = false := by
  cases hx : byAll bys x with
  | false => rfl
  | true =>
    have y0 := Int.emod_nonneg x (Int.ne_of_gt h.pos)
    have y1 := Int.emod_lt_of_pos x h.pos
    have hy : byAll bys (x % P) = true := by
      refine h.mod ?_ hx
      have := Int.dvd_neg.mpr (dvd_of_emod (p := P) (a := x) rfl)
      rwa [show -(x - x % P) = x % P - x by omega] at this
    have hm := mem_rests.mpr ⟨y0, y1, hy⟩
    refine absurd ?_ e
    have nd := rests_nodup bys P
    match hl : restsOf bys P with
    | [] => rw [hl] at hm; cases hm
    | [_] => rfl
    | u :: v :: l =>
      obtain ⟨u0, u1, hu⟩ := mem_rests.mp (by rw [hl]; simp : u ∈ restsOf bys P)
      obtain ⟨v0, v1, hv⟩ := mem_rests.mp (by rw [hl]; simp : v ∈ restsOf bys P)
      rw [hl] at nd
      have ne : u ≠ v := fun z => (List.nodup_cons.mp nd).1 (by simp [z])
      have d : P ∣ u - v := (h.iff _).mpr fun q hq => (dvd_lin (byAll_iff.mp hv q hq)).mp (byAll_iff.mp hu q hq)
      exfalso
      rcases Int.lt_trichotomy u v with z | z | z
      · have := Int.le_of_dvd (by omega) (Int.dvd_neg.mpr d)
        omega
      · exact ne z
      · have := Int.le_of_dvd (by omega) d
        omega
/-- the first number from 1 on as a test says -/
theorem first_filter {f : Int → Bool} : ∀ {n : Nat} {d : Int} {s : Int}, s ≤ d → d < s + n → f d = true → (∀ k, s ≤ k → k < d → f k = false) → (((List.range n).map fun i : Nat => s + (i : Int)).filter f)[0]? = some d
  | 0, d, s, h1, h2, _, _ => by omega
  | n + 1, d, s, h1, h2, h3, h4 => by
    rw [List.range_succ_eq_map, List.map_cons, List.map_map, List.filter_cons]
    have e : ((fun i : Nat => s + (i : Int)) ∘ Nat.succ) = fun i : Nat => (s + 1) + (i : Int) := by funext i; simp; omega
    rw [e]
    by_cases hd : d = s
    · subst hd
      rw [show d + ((0 : Nat) : Int) = d by omega, h3, if_pos rfl]; rfl
    · rw [show s + ((0 : Nat) : Int) = s by omega, h4 s (Int.le_refl _) (by omega), if_neg (by simp)]
      exact first_filter (s := s + 1) (by omega) (by omega) h3 fun k a b => h4 k (by omega) b
theorem rounds_eq {m a : Int} (hm : 0 < m) : (((List.range m.toNat).map fun i : Nat => 1 + (i : Int)).filter fun k => decide ((a * k) % m = 0))[0]? = some (m / gcdI m a) := by
  have hq := quo_pos (a := a) hm
  have hle : m / gcdI m a ≤ m := Int.le_of_dvd hm ((dvd_mul_iff hm).mp (Int.dvd_mul_left a m))
  refine first_filter (by omega) (by omega) (decide_eq_true (Int.emod_eq_zero_of_dvd ((dvd_mul_iff hm).mpr (Int.dvd_refl _)))) fun k k1 k2 => decide_eq_false fun z => ?_
  have := Int.le_of_dvd (by omega) ((dvd_mul_iff hm).mp (Int.dvd_of_emod_eq_zero z))
  omega
theorem period_eq {p q : Int} (hp : 0 < p) (hq : 0 < q) (hle : lcmI p q ≤ 12) : (((List.range 12).map fun i : Nat => 1 + (i : Int)).filter fun k => decide (k % p = 0) && decide (k % q = 0))[0]? = some (lcmI p q) := by
  have hL := lcmI_pos hp hq
  obtain ⟨d1, d2⟩ := (lcmI_dvd_iff (k := lcmI p q) hp hq).mp (Int.dvd_refl _)
  refine first_filter (by omega) (by omega) (by rw [decide_eq_true (Int.emod_eq_zero_of_dvd d1), decide_eq_true (Int.emod_eq_zero_of_dvd d2)]; rfl) fun k k1 k2 => ?_
  cases h : decide (k % p = 0) && decide (k % q = 0) with
  | false => rfl
  | true =>
    rw [Bool.and_eq_true] at h
    have := Int.le_of_dvd (by omega) ((lcmI_dvd_iff hp hq).mpr ⟨Int.dvd_of_emod_eq_zero (of_decide_eq_true h.1), Int.dvd_of_emod_eq_zero (of_decide_eq_true h.2)⟩)
    omega
/-- the ends of lists -/
structure MaxO (low : List Int) (lo : Option Int) : Prop where
  nil : low = [] → lo = none
  has : low ≠ [] → ∃ m, lo = some m ∧ m ∈ low ∧ ∀ y ∈ low, y ≤ m
structure MinO (high : List Int) (hi : Option Int) : Prop where
  nil : high = [] → hi = none
  has : high ≠ [] → ∃ m, hi = some m ∧ m ∈ high ∧ ∀ y ∈ high, m ≤ y
theorem within_iff {low high : List Int} {lo hi : Option Int} (h1 : MaxO low lo) (h2 : MinO high hi) (x : Int) : within lo hi x ↔ inLH low high x := by
  unfold within inLH
  refine and_congr ?_ ?_
  · by_cases z : low = []
    · rw [h1.nil z, z]
      exact ⟨fun _ l h => (by cases h), fun _ l h => (by cases h)⟩
    · obtain ⟨m, e, hm, hy⟩ := h1.has z
      rw [e]
      exact ⟨fun h l hl => Int.le_trans (hy l hl) (h m rfl), fun h l hl => by cases hl; exact h m hm⟩
  · by_cases z : high = []
    · rw [h2.nil z, z]
      exact ⟨fun _ l h => (by cases h), fun _ l h => (by cases h)⟩
    · obtain ⟨m, e, hm, hy⟩ := h2.has z
      rw [e]
      exact ⟨fun h l hl => Int.le_trans (h m rfl) (hy l hl), fun h l hl => by cases hl; exact h m hm⟩
theorem law_rng {S : Int → Prop} {low high : List Int} {bys : List (Int × Int × Int)} {lo hi : Option Int} {P r : Int} (hS : ∀ x, S x ↔ inLH low high x ∧ byAll bys x = true) (h1 : MaxO low lo) (h2 : MinO high hi) (hP : PerOk bys P) (e : restsOf bys P = [r]) : Rng S lo hi P r := by
  obtain ⟨r0, r1, hr⟩ := rests_one hP e
  exact ⟨hP.pos, r0, r1, fun x => by rw [hS, within_iff h1 h2, hr]⟩
end M8

set_option Elab.async false
set_option linter.all false
set_option maxRecDepth 100000
set_option maxHeartbeats 4000000
namespace K8
open PySem PySem.Spec PyProof.Rows L2 M8
/-! calls that may raise; classes of the text -/
section
variable {X : Cx}
def tCE (E : XK) (sp : Sp) (t : TA) : TE := fun σ H Q => t σ H fun vs H1 => sp vs H1 Q E
theorem pe_callE {CX : CXT} {E : XK} {x : Str} {ps : List Str} {k : Nat} {sp : Sp} {e : Expr} {es : List Expr} {t : TA} {p pos : Pos} (O : Ok X.prog X.w X.K X.mg X.base CX k x ps sp) (hx : Passes CX X E) (hr : Room k X.A) (hg : Gl X x) (ha : PA X (e :: es) t)
    (hdb : (x == ("__debug__" : Str)) = false := by decide) (he : starEach (e :: es) X.env = (false, eval e X.env) :: starEach es X.env := by rfl) (hpl : (backTo pos (starEach es X.env)).any (·.1) = false := by rfl) : PE X (.Call (.Name x p) (e :: es) [] pos) (tCE E sp t) := by
  obtain ⟨f, fd, hm, hk, b, F⟩ := O.ex
  have h := pe_call (p := p) (pos := pos) F hr hg hm hk b .nil hx ha hdb he hpl
  refine ⟨fun pins s σ H Q I q => h.run pins s σ H Q I ?_⟩
  show t σ H fun vs H1 => sp (vs ++ []) H1 Q E
  have e1 : (fun (vs : List V) (H1 : Hp) => sp (vs ++ []) H1 Q E) = fun vs H1 => sp vs H1 Q E := by funext vs H1; rw [List.append_nil]
  rw [e1]
  exact q
/-- what an own class's methods promise -/
structure OkM (P : Program) (w : World) (K : PySem.W.Frag) (mg : Str → Option Value) (base : Heap) (CX : CXT) (k : Nat) (C : Addr) (m : Str) (ps : List Str) (sp : Sp) : Prop where
  ex : ∃ f fd, Cls K C ∧ Meth K C m f ∧ Binds K fd ps [] ∧ FnOk P w K mg base CX k f fd ps sp
structure OkK (P : Program) (w : World) (K : PySem.W.Frag) (mg : Str → Option Value) (base : Heap) (CX : CXT) (k : Nat) (x : Str) (C : Addr) (ps : List Str) (sp : Sp) : Prop where
  ex : ∃ f fd, mg x = some (.ref C) ∧ Mk K C f ∧ Binds K fd ps [] ∧ FnOk P w K mg base CX k f fd ps sp
def tNewE (C : Addr) (sp : Sp) (E : XK) (t : TA) : TE := fun σ H Q => t σ H fun vs H1 => ∀ x dx, H1 x = none → H1 dx = none → dx ≠ x → sp (.ref x :: vs) (upd (upd H1 dx (.own x)) x (.ins C dx [])) (fun v H2 => v = .non ∧ Q (.ref x) H2) E
theorem pe_newK {CX : CXT} {E : XK} {x : Str} {C : Addr} {ps : List Str} {k : Nat} {sp : Sp} {e : Expr} {es : List Expr} {t : TA} {p pos : Pos} (O : OkK X.prog X.w X.K X.mg X.base CX k x C ps sp) (hx : Passes CX X E) (hr : Room (k + 1) X.A) (hg : Gl X x) (ha : PA X (e :: es) t)
    (hdb : (x == ("__debug__" : Str)) = false := by decide) (he : starEach (e :: es) X.env = (false, eval e X.env) :: starEach es X.env := by rfl) (hpl : (backTo pos (starEach es X.env)).any (·.1) = false := by rfl) : PE X (.Call (.Name x p) (e :: es) [] pos) (tNewE C sp E t) := by
  obtain ⟨f, fd, hm, M, b, F⟩ := O.ex
  have h := pe_make (p := p) (pos := pos) M F hr hg hm b .nil hx ha hdb he hpl
  refine ⟨fun pins s σ H Q I q => h.run pins s σ H Q I ?_⟩
  show t σ H fun vs H1 => ∀ x dx, H1 x = none → H1 dx = none → dx ≠ x → sp (.ref x :: (vs ++ [])) (upd (upd H1 dx (.own x)) x (.ins C dx [])) (fun v H2 => v = .non ∧ Q (.ref x) H2) E
  have e1 : (fun (vs : List V) (H1 : Hp) => ∀ x dx, H1 x = none → H1 dx = none → dx ≠ x → sp (.ref x :: (vs ++ [])) (upd (upd H1 dx (.own x)) x (.ins C dx [])) (fun v H2 => v = .non ∧ Q (.ref x) H2) E) = fun vs H1 => ∀ x dx, H1 x = none → H1 dx = none → dx ≠ x → sp (.ref x :: vs) (upd (upd H1 dx (.own x)) x (.ins C dx [])) (fun v H2 => v = .non ∧ Q (.ref x) H2) E := by funext vs H1; rw [List.append_nil]
  rw [e1]
  exact q
def tMethE (C : Addr) (m : Str) (sp : Sp) (E : XK) (ta : TE) (t : TA) : TE := fun σ H Q => ta σ H fun x H1 => ∃ a dx fs, x = .ref a ∧ H1 a = some (.ins C dx fs) ∧ fs.lookup m = none ∧ t σ H1 fun vs H2 => sp (x :: vs) H2 Q E
theorem tMethE_of {C : Addr} {m : Str} {sp : Sp} {E : XK} {ta : TE} {t : TA} {σ : L2.St} {H : Hp} {Q : VK} (q : tMethE C m sp E ta t σ H Q) : tMeth C m sp [] E ta t σ H Q := by
  show ta σ H fun x H1 => ∃ a dx fs, x = .ref a ∧ H1 a = some (.ins C dx fs) ∧ fs.lookup m = none ∧ t σ H1 fun vs H2 => sp (x :: (vs ++ [])) H2 Q E
  have e1 : (fun (x : V) (H1 : Hp) => ∃ a dx fs, x = .ref a ∧ H1 a = some (.ins C dx fs) ∧ fs.lookup m = none ∧ t σ H1 fun vs H2 => sp (x :: (vs ++ [])) H2 Q E) = fun x H1 => ∃ a dx fs, x = .ref a ∧ H1 a = some (.ins C dx fs) ∧ fs.lookup m = none ∧ t σ H1 fun vs H2 => sp (x :: vs) H2 Q E := by
    funext x H1
    have e2 : (fun (vs : List V) (H2 : Hp) => sp (x :: (vs ++ [])) H2 Q E) = fun vs H2 => sp (x :: vs) H2 Q E := by funext vs H2; rw [List.append_nil]
    rw [e2]
  rw [e1]
  exact q
theorem pe_methE {CX : CXT} {E : XK} {C : Addr} {m : Str} {ps : List Str} {k : Nat} {sp : Sp} {o e : Expr} {es : List Expr} {ta : TE} {t : TA} {apos pos : Pos} {pl : Sem Bool} (O : OkM X.prog X.w X.K X.mg X.base CX k C m ps sp) (hx : Passes CX X E) (hr : Room k X.A) (ho : PE X o ta) (ha : PA X (e :: es) t)
    (hst : starEach (e :: es) X.env = (false, eval e X.env) :: starEach es X.env := by rfl) (hpl : (backTo pos (starEach es X.env)).any (·.1) = false := by rfl)
    (ht : eval (.Call (.Attribute o m apos) (e :: es) [] pos) X.env = (do
      let ov ← eval o X.env
      standAt apos.atName
      let (f, first) ← holding [ov] (getMethod ov m pl)
      callWith pos f first (backTo pos (starEach (e :: es) X.env)) (backToKw pos (keywordEach [] X.env))) := by rfl) :
    PE X (.Call (.Attribute o m apos) (e :: es) [] pos) (tMethE C m sp E ta t) := by
  obtain ⟨f, fd, c, M, b, F⟩ := O.ex
  have h := pe_meth (pos := pos) (pl := pl) ho c M F hr b .nil hx ha hst hpl ht
  exact ⟨fun pins s σ H Q I q => h.run pins s σ H Q I (tMethE_of q)⟩
theorem pe_methE0 {CX : CXT} {E : XK} {C : Addr} {m : Str} {ps : List Str} {k : Nat} {sp : Sp} {o : Expr} {ta : TE} {apos pos : Pos} {pl : Sem Bool} (O : OkM X.prog X.w X.K X.mg X.base CX k C m ps sp) (hx : Passes CX X E) (hr : Room k X.A) (ho : PE X o ta)
    (ht : eval (.Call (.Attribute o m apos) [] [] pos) X.env = (do
      let ov ← eval o X.env
      standAt apos.atName
      let (f, first) ← holding [ov] (getMethod ov m pl)
      callWith pos f first (backTo pos (starEach [] X.env)) (backToKw pos (keywordEach [] X.env))) := by rfl) :
    PE X (.Call (.Attribute o m apos) [] [] pos) (tMethE C m sp E ta tNil) := by
  obtain ⟨f, fd, c, M, b, F⟩ := O.ex
  have h := pe_meth0 (pos := pos) (pl := pl) ho c M F hr b .nil hx ht
  exact ⟨fun pins s σ H Q I q => h.run pins s σ H Q I (tMethE_of q)⟩
end

/-! a store to an attribute, among several targets -/
def gFld (K : PySem.W.Frag) (ta : TE) (f : Str) : TG := fun v σ H Q => ta σ H fun x H1 => ∃ a C dx fs, x = .ref a ∧ H1 a = some (.ins C dx fs) ∧ Cls K C ∧ NoAttr K C f ∧ fs.length < 1000 ∧ Q σ (upd H1 a (.ins C dx (putF f v fs)))
theorem pg_fld {X : Cx} {o : Expr} {f : Str} {pos : Pos} {ta : TE} (ho : PE X o ta) : PG X (.Attribute o f pos) (gFld X.K ta f) := by
  refine ⟨fun pins s σ H v u Q I r h => ?_⟩
  rw [assign_Attribute]
  refine wpAny_bind (wpAny_holding (thn (ho.run pins s σ H _ I h) fun ov s1 ⟨x, H1, I1, r1, a, C, dx, fs, ex, ea, c, n, l, q⟩ => ?_))
  subst ex
  obtain rfl : ov = Value.ref a := r1
  refine wpAny_bind (wpAny_standAt (wpAny_bind (wpAny_holding ?_)))
  exact setattr_ok I1 ea c n l r fun s3 I3 => wpAny_release ⟨σ, _, I3, q⟩
end K8

set_option Elab.async false
set_option linter.all false
set_option maxRecDepth 100000
set_option maxHeartbeats 4000000
namespace K8
open PySem PySem.Spec PyProof.Rows L2 M8
/-! all values of a name, as the program holds them -/
def optI : Option Int → V | none => .non | some i => .int i
/-- the class as the top has made it -/
structure VCls (K : PySem.W.Frag) (mg : Str → Option Value) (C : Addr) : Prop where
  gC : mg "Values" = some (.ref C)
  cl : Cls K C
  n1 : NoAttr K C "least"
  n2 : NoAttr K C "most"
  n3 : NoAttr K C "period"
  n4 : NoAttr K C "rest"
def vfs (lo hi : Option Int) (p r : Int) : List (Str × V) := [("least", optI lo), ("most", optI hi), ("period", .int p), ("rest", .int r)]
def VAt (C : Addr) (H : Hp) (a dx : Addr) (lo hi : Option Int) (p r : Int) : Prop := H a = some (.ins C dx (vfs lo hi p r))
def OnlyAt (a : Addr) (H H' : Hp) : Prop := ∀ b o, b ≠ a → H b = some o → H' b = some o
theorem OnlyAt.upd {a : Addr} {H : Hp} {o : HO} : OnlyAt a H (upd H a o) := fun b u h e => by rw [upd_ne h]; exact e
theorem OnlyAt.trans {a : Addr} {H H1 H2 : Hp} (h : OnlyAt a H H1) (g : OnlyAt a H1 H2) : OnlyAt a H H2 := fun b o n e => g b o n (h b o n e)
theorem OnlyAt.refl {a : Addr} {H : Hp} : OnlyAt a H H := fun _ _ _ e => e
theorem OnlyAt.ex {a : Addr} {H H' : Hp} (e : Ex H H') : OnlyAt a H H' := fun b o _ h => e b o h
theorem isN_opt {lo : Option Int} : decide (optI lo = .non) = lo.isNone := by cases lo <;> simp [optI]
section
variable {P : Program} {w : World} {K : PySem.W.Frag} {mg : Str → Option Value} {base : Heap} {C : Addr}
def spVInit (C : Addr) : Sp := fun vs H Q _ => ∃ a dx, vs = [.ref a] ∧ H a = some (.ins C dx []) ∧ ∀ H', OnlyAt a H H' → VAt C H' a dx none none 1 0 → Q .non H'
abbrev s_Values___init__ : Stmt := inClass (top 38) 0
theorem sc_Values___init__ : FnScope ["self"] ["self"] (defScope s_Values___init__) := ⟨rfl, rfl, rfl, by decide +kernel, rfl, by decide +kernel, by decide +kernel⟩
theorem fn_Values_init (T : Txt K mg) (VC : VCls K mg C) {f : Addr} {fd : FuncData} (F : Fun K "__init__" "Values.__init__" s_Values___init__ f fd) : FnOk P w K mg base CX0 1 f fd ["self"] (spVInit C) := by
  refine F.ok sc_Values___init__ (fun vs H Q E h => ?_) (fun cdv A outer s H vs Q E hr h => ?_)
  · obtain ⟨a, dx, rfl, _⟩ := h; rfl
  · obtain ⟨a, dx, rfl, ha, q⟩ := h
    refine ⟨_, (pss_cons (ps_fld (pv 0) pe_non rfl)
      (pss_cons (ps_fld (pv 0) pe_non rfl)
      (pss_cons (ps_fld (pv 0) pe_int rfl)
      (pss_one (ps_fld (pv 0) pe_int rfl))))), ?_⟩
    refine ⟨_, rfl, a, C, dx, [], rfl, ha, VC.cl, VC.n1, by decide, ?_⟩
    refine ⟨_, rfl, a, C, dx, _, rfl, upd_same, VC.cl, VC.n2, by decide, ?_⟩
    refine ⟨_, rfl, a, C, dx, _, rfl, upd_same, VC.cl, VC.n3, by decide, ?_⟩
    refine ⟨_, rfl, a, C, dx, _, rfl, upd_same, VC.cl, VC.n4, by decide, ?_⟩
    exact q _ (((OnlyAt.upd.trans OnlyAt.upd).trans OnlyAt.upd).trans OnlyAt.upd) upd_same
def spRaiseL (C : Addr) : Sp := fun vs H Q _ => ∃ a dx lo hi p r n, vs = [.ref a, .int n] ∧ VAt C H a dx lo hi p r ∧ ∀ H', OnlyAt a H H' → VAt C H' a dx (raiseO lo n) hi p r → Q .non H'
abbrev s_Values_raise_least : Stmt := inClass (top 38) 1
theorem sc_Values_raise_least : FnScope ["self", "number"] ["self", "number"] (defScope s_Values_raise_least) := ⟨rfl, rfl, rfl, by decide +kernel, rfl, by decide +kernel, by decide +kernel⟩
theorem fn_Values_raise (T : Txt K mg) (VC : VCls K mg C) {f : Addr} {fd : FuncData} (F : Fun K "raise_least" "Values.raise_least" s_Values_raise_least f fd) : FnOk P w K mg base CX0 1 f fd ["self", "number"] (spRaiseL C) := by
  refine F.ok sc_Values_raise_least (fun vs H Q E h => ?_) (fun cdv A outer s H vs Q E hr h => ?_)
  · obtain ⟨a, dx, lo, hi, p, r, n, rfl, _⟩ := h; rfl
  · obtain ⟨a, dx, lo, hi, p, r, n, rfl, ha, q⟩ := h
    refine ⟨_, (pss_one (ps_fld (pv 0) (pe_ifExp (pt_cmpR op_isN (pe_fld (pv 0) rfl) pe_non (nomark _)) (pv 1) (pe_callB (call_max2 rfl) rfl T.n_max rfl (pa_cons (pe_fld (pv 0) rfl) (pa_cons (pv 1) pa_nil)))) rfl)), ?_⟩
    refine ⟨_, rfl, a, C, dx, _, _, rfl, ha, VC.cl, VC.n1, rfl, rfl, _, rfl, ?_⟩
    rw [isN_opt]
    cases lo with
    | none => exact iteT ⟨_, rfl, _, rfl, a, C, dx, _, rfl, ha, VC.cl, VC.n1, by show 4 < 1000; decide, q _ OnlyAt.upd upd_same⟩
    | some l => exact iteF ⟨_, rfl, a, C, dx, _, _, rfl, ha, VC.cl, VC.n1, rfl, _, rfl, l, n, rfl, _, rfl, a, C, dx, _, rfl, ha, VC.cl, VC.n1, by show 4 < 1000; decide, q _ OnlyAt.upd upd_same⟩
def spLowerM (C : Addr) : Sp := fun vs H Q _ => ∃ a dx lo hi p r n, vs = [.ref a, .int n] ∧ VAt C H a dx lo hi p r ∧ ∀ H', OnlyAt a H H' → VAt C H' a dx lo (lowerO hi n) p r → Q .non H'
abbrev s_Values_lower_most : Stmt := inClass (top 38) 2
theorem sc_Values_lower_most : FnScope ["self", "number"] ["self", "number"] (defScope s_Values_lower_most) := ⟨rfl, rfl, rfl, by decide +kernel, rfl, by decide +kernel, by decide +kernel⟩
theorem fn_Values_lower (T : Txt K mg) (VC : VCls K mg C) {f : Addr} {fd : FuncData} (F : Fun K "lower_most" "Values.lower_most" s_Values_lower_most f fd) : FnOk P w K mg base CX0 1 f fd ["self", "number"] (spLowerM C) := by
  refine F.ok sc_Values_lower_most (fun vs H Q E h => ?_) (fun cdv A outer s H vs Q E hr h => ?_)
  · obtain ⟨a, dx, lo, hi, p, r, n, rfl, _⟩ := h; rfl
  · obtain ⟨a, dx, lo, hi, p, r, n, rfl, ha, q⟩ := h
    refine ⟨_, (pss_one (ps_fld (pv 0) (pe_ifExp (pt_cmpR op_isN (pe_fld (pv 0) rfl) pe_non (nomark _)) (pv 1) (pe_callB (call_min2 rfl) rfl T.n_min rfl (pa_cons (pe_fld (pv 0) rfl) (pa_cons (pv 1) pa_nil)))) rfl)), ?_⟩
    refine ⟨_, rfl, a, C, dx, _, _, rfl, ha, VC.cl, VC.n2, rfl, rfl, _, rfl, ?_⟩
    rw [isN_opt]
    cases hi with
    | none => exact iteT ⟨_, rfl, _, rfl, a, C, dx, _, rfl, ha, VC.cl, VC.n2, by show 4 < 1000; decide, q _ OnlyAt.upd upd_same⟩
    | some l => exact iteF ⟨_, rfl, a, C, dx, _, _, rfl, ha, VC.cl, VC.n2, rfl, _, rfl, l, n, rfl, _, rfl, a, C, dx, _, rfl, ha, VC.cl, VC.n2, by show 4 < 1000; decide, q _ OnlyAt.upd upd_same⟩
/-- what one test more does -/
def Took (C : Addr) (L : Int) (S : Int → Prop) (t : Al) (a dx : Addr) (H : Hp) (Q : VK) : Prop :=
  (∀ H' lo hi p r, OnlyAt a H H' → VAt C H' a dx lo hi p r → Rng (fun x => S x ∧ t.ok x) lo hi p r → p ∣ L → Q (.bl true) H') ∧ (∀ H' lo hi p r, OnlyAt a H H' → VAt C H' a dx lo hi p r → (∀ x, S x → ¬ t.ok x) → Q (.bl false) H')
def spTakeBy (C : Addr) : Sp := fun vs H Q _ => ∃ a dx lo hi p r m x b L S, vs = [.ref a, .int m, .int x, .int b] ∧ VAt C H a dx lo hi p r ∧ Rng S lo hi p r ∧ p ∣ L ∧ m ∣ L ∧ 0 < m ∧ 0 < L ∧ L ≤ 12 ∧ x.natAbs ≤ 1000000000 ∧ Took C L S (.by_ m x b) a dx H Q
abbrev s_Values_take_by : Stmt := inClass (top 38) 3
theorem sc_Values_take_by : FnScope ["self", "many", "part", "rest", "shared", "period", "number"] ["self", "many", "part", "rest"] (defScope s_Values_take_by) := ⟨rfl, rfl, rfl, by decide +kernel, rfl, by decide +kernel, by decide +kernel⟩
theorem fn_Values_takeby (T : Txt K mg) (VC : VCls K mg C) {f : Addr} {fd : FuncData} (F : Fun K "take_by" "Values.take_by" s_Values_take_by f fd) : FnOk P w K mg base CX0 1 f fd ["self", "many", "part", "rest"] (spTakeBy C) := by
  refine F.ok sc_Values_take_by (fun vs H Q E h => ?_) (fun cdv A outer s H vs Q E hr h => ?_)
  · obtain ⟨a, dx, lo, hi, p, r, m, x, b, L, S, rfl, _⟩ := h; rfl
  · obtain ⟨a, dx, lo, hi, p, r, m, x, b, L, S, rfl, ha, R, pL, mL, m0, L0, L12, hx, q1, q2⟩ := h
    refine ⟨_, (pss_cons (ps_set (i := 4) sc_Values_take_by.nd rfl (Or.inl rfl) (pe_callBfun cr_gcd rfl T.g_gcd (pa_cons (pv 1) (pa_cons (pv 2) pa_nil))))
      (pss_cons (ps_if (pt_cmpR op_ne (pe_op op_mod (pv 3) (pv 4)) pe_int (nomark _)) (pss_one (ps_ret pe_bl)) pss_nil)
      (pss_cons (ps_set (i := 5) sc_Values_take_by.nd rfl (Or.inl rfl) (pe_op op_fdiv (pe_op op_mul (pe_fld (pv 0) rfl) (pe_op op_fdiv (pv 1) (pv 4))) (pe_callBfun cr_gcd rfl T.g_gcd (pa_cons (pe_fld (pv 0) rfl) (pa_cons (pe_op op_fdiv (pv 1) (pv 4)) pa_nil)))))
      (pss_cons (ps_for PassesOwn.never rfl (pi_range3 rfl T.n_range (pa_cons (pe_fld (pv 0) rfl) (pa_cons (pv 5) (pa_cons (pe_fld (pv 0) rfl) pa_nil)))) (pg_name (i := 6) sc_Values_take_by.nd rfl (Or.inl rfl)) (pss_one (ps_if (pt_cmpR op_eq (pe_op op_mod (pe_op op_add (pe_op op_mul (pv 2) (pv 6)) (pv 3)) (pv 1)) pe_int (nomark _)) (pss_cons (ps_asg (pe_tup (pa_cons (pv 5) (pa_cons (pv 6) pa_nil))) (pg_tup rfl (pgs_cons (pg_fld (pv 0)) (pgs_cons (pg_fld (pv 0)) pgs_nil))))
      (pss_one (ps_ret pe_bl))) pss_nil)))
      (pss_one (ps_ret pe_bl)))))), ?_⟩
    have g0 : 0 < gcdI m x := gcdI_pos m0
    have gm : gcdI m x ≤ m := Int.le_of_dvd m0 (gcdI_dvd_l m x)
    have mL' : m ≤ L := Int.le_of_dvd L0 mL
    have pL' : p ≤ L := Int.le_of_dvd L0 pL
    have pp := R.pp
    have qp : 0 < m / gcdI m x := quo_pos m0
    have gg : 0 < gcdI p (m / gcdI m x) := gcdI_pos pp
    have ggp : gcdI p (m / gcdI m x) ≤ p := Int.le_of_dvd pp (gcdI_dvd_l _ _)
    have tl : (2 : Int) ^ 64 = 18446744073709551616 := by decide
    refine ⟨_, rfl, _, rfl, m, x, rfl, ?_⟩
    refine ⟨_, rfl, _, rfl, _, _, rfl, rfl, g0, rfl, _, rfl, ?_⟩
    show (if (!decide (V.int (b % gcdI m x) = V.int 0)) = true then _ else _)
    rw [dec_int0]
    by_cases hb : b % gcdI m x = 0
    · rw [decide_eq_true hb]
      refine iteF ?_
      refine ⟨_, rfl, a, C, dx, _, _, rfl, ha, VC.cl, VC.n3, rfl, ?_⟩
      refine ⟨_, rfl, _, rfl, _, _, rfl, rfl, ⟨g0, by show gcdI m x < 1073741824; omega⟩, ?_⟩
      refine ⟨_, _, rfl, rfl, .inl ⟨by omega, by omega⟩, ?_⟩
      refine ⟨_, rfl, a, C, dx, _, _, rfl, ha, VC.cl, VC.n3, rfl, ?_⟩
      refine ⟨_, rfl, _, rfl, _, _, rfl, rfl, ⟨g0, by show gcdI m x < 1073741824; omega⟩, ?_⟩
      refine ⟨_, _, rfl, ?_⟩
      refine ⟨_, _, rfl, rfl, ⟨gg, by show gcdI p (m / gcdI m x) < 1073741824; omega⟩, ?_⟩
      show tSeq _ _ _ _ _
      have hPd : lcmI p (m / gcdI m x) ∣ L := (lcmI_dvd_iff pp qp).mpr ⟨pL, Int.dvd_trans ⟨gcdI m x, by rw [Int.mul_comm]; exact (Int.mul_ediv_cancel' (gcdI_dvd_l m x)).symm⟩ mL⟩
      have hP0 : 0 < lcmI p (m / gcdI m x) := lcmI_pos pp qp
      have hPL : lcmI p (m / gcdI m x) ≤ L := Int.le_of_dvd L0 hPd
      obtain ⟨N, hN⟩ : ∃ N : Nat, lcmI p (m / gcdI m x) = N * p := by
        obtain ⟨c, hc⟩ := ((lcmI_dvd_iff (k := lcmI p (m / gcdI m x)) pp qp).mp (Int.dvd_refl _)).1
        have c0 : 0 < c := by
          refine Decidable.byContradiction fun z => ?_
          have := Int.mul_le_mul_of_nonneg_left (show c ≤ 0 by omega) (Int.le_of_lt pp)
          omega
        exact ⟨c.toNat, by rw [show ((c.toNat : Nat) : Int) = c by omega, Int.mul_comm]; exact hc⟩
      obtain ⟨rs, rlt⟩ := range_size pp R.r0 R.r1 hP0 hN
      have r0 := R.r0
      have r1 := R.r1
      dsimp only [tSeq]
      refine tFor_of ?_
      refine ⟨_, rfl, a, C, dx, _, _, rfl, ha, VC.cl, VC.n4, rfl, ?_⟩
      refine ⟨_, rfl, _, rfl, a, C, dx, _, _, rfl, ha, VC.cl, VC.n3, rfl, ?_⟩
      have rg : RgC r (lcmI p (m / gcdI m x)) p N := by
        refine ⟨by omega, by omega, ?_, ?_⟩
        · have hs : Builtin.Range.rangeSize r (lcmI p (m / gcdI m x)) p = N := by
            unfold Builtin.Range.rangeSize
            rw [if_pos (show p > 0 from pp), if_pos rlt]
            exact rs
          unfold Builtin.Range.small
          rw [hs]
          have h63 : (2 : Int) ^ 63 = 9223372036854775808 := by decide
          have N12 : (N : Int) ≤ 12 := by
            refine Decidable.byContradiction fun z => ?_
            have := Int.mul_le_mul_of_nonneg_left (show (1 : Int) ≤ p by omega) (show (0 : Int) ≤ (N : Int) by omega)
            omega
          have ok : ∀ i : Int, -100 ≤ i → i ≤ 100 → Builtin.Range.rangeFitsLong i = true := fun i a b => by
            unfold Builtin.Range.rangeFitsLong
            rw [decide_eq_true (by omega), decide_eq_true (by omega)]; rfl
          rw [ok r (by omega) (by omega), ok _ (show -100 ≤ lcmI p (m / gcdI m x) by omega) (by omega), ok p (by omega) (by omega), ok (N : Int) (by omega) (by omega), if_pos (show p > 0 from pp), ok _ (show -100 ≤ lcmI p (m / gcdI m x) + (p - 1) by omega) (by omega)]
          simp
        · unfold Builtin.Range.rangeSize
          rw [if_pos (show p > 0 from pp), if_pos rlt]
          exact rs
      refine ⟨r, lcmI p (m / gcdI m x), p, N, rfl, rg, ?_⟩
      refine for_rangeC (lo := r) (c := p) (n := N) (fun i σ H' => (∃ z, σ = [some (.ref a), some (.int m), some (.int x), some (.int b), some (.int (gcdI m x)), some (.int (lcmI p (m / gcdI m x))), z]) ∧ H' = H ∧ ∀ k : Nat, k < i → ¬ m ∣ x * (r + k * p) + b) ⟨⟨_, rfl⟩, rfl, fun k hk => absurd hk (by omega)⟩ ?_ ?_
      · rintro i σ H' iN ⟨⟨z, rfl⟩, rfl, hno⟩
        refine ⟨_, rfl, _, rfl, _, _, rfl, rfl, .inl ⟨by omega, by omega⟩, _, rfl, _, _, rfl, rfl, _, rfl, _, _, rfl, rfl, m0, rfl, _, rfl, ?_⟩
        rw [dec_int0]
        by_cases hd : (x * (r + i * p) + b) % m = 0
        · rw [decide_eq_true hd]
          refine iteT ⟨_, rfl, _, rfl, by show 2 ≤ sizeLine; decide, fun t ht => ?_⟩
          have e1 : Ex H' (upd H' t (.tup [.int (lcmI p (m / gcdI m x)), .int (r + i * p)])) := Ex.new ht
          refine ⟨t, _, rfl, SqT.of upd_same, rfl, _, _, rfl, _, rfl, a, C, dx, _, rfl, e1 _ _ ha, VC.cl, VC.n3, by show 4 < 1000; decide, ?_⟩
          refine ⟨_, _, rfl, _, rfl, a, C, dx, _, rfl, upd_same, VC.cl, VC.n4, by show 4 < 1000; decide, rfl, ?_⟩
          have ip0 : 0 ≤ (i : Int) * p := Int.mul_nonneg (by omega) (by omega)
          have ip1 : ((i : Int) + 1) * p ≤ N * p := Int.mul_le_mul_of_nonneg_right (by omega) (by omega)
          rw [Int.add_mul, Int.one_mul] at ip1
          refine q1 _ lo hi (lcmI p (m / gcdI m x)) (r + i * p) (((OnlyAt.ex e1).trans OnlyAt.upd).trans OnlyAt.upd) upd_same ?_ hPd
          exact R.take m0 (by omega) (by omega) ⟨(i : Int), by rw [Int.mul_comm]; omega⟩ (Int.dvd_of_emod_eq_zero hd) fun y => Iff.rfl
        · rw [decide_eq_false hd]
          refine iteF ⟨⟨_, rfl⟩, rfl, fun k hk => ?_⟩
          by_cases hki : k = i
          · rw [hki]; exact fun z => hd (Int.emod_eq_zero_of_dvd z)
          · exact hno k (by omega)
      · rintro σ H' ⟨⟨z, rfl⟩, rfl, hno⟩
        exact q2 H' lo hi p r OnlyAt.refl ha (R.untaken m0 hN hno)
    · rw [decide_eq_false hb]
      exact iteT (q2 H lo hi p r OnlyAt.refl ha fun y _ => by_bad hb y)
end
end K8

set_option Elab.async false
set_option linter.all false
set_option maxRecDepth 100000
set_option maxHeartbeats 4000000
namespace K8
open PySem PySem.Spec PyProof.Rows L2 M8
/-! one test taken; what is told -/
def alOf (ts : Tst) (x b : Int) : Al := match ts with | .row _ _ => .row x b | .same _ _ => .same x b | .div m _ _ => .by_ m x b
def lotOk (L : Int) (ts : Tst) : Prop := match ts with | .div m _ _ => 0 < m ∧ m ∣ L | _ => True
section
variable {P : Program} {w : World} {K : PySem.W.Frag} {mg : Str → Option Value} {base : Heap} {C : Addr}
def spTake (K : PySem.W.Frag) (C : Addr) : Sp := fun vs H Q _ => ∃ a dx lo hi p r v ts x b L S, vs = [.ref a, v, .int x, .int b] ∧ VAt C H a dx lo hi p r ∧ SeeF K H v (tstD ts) ∧ Rng S lo hi p r ∧ p ∣ L ∧ lotOk L ts ∧ 0 < L ∧ L ≤ 12 ∧ x.natAbs ≤ 1000000000 ∧ Took C L S (alOf ts x b) a dx H Q
abbrev s_Values_take : Stmt := inClass (top 38) 4
theorem sc_Values_take : FnScope ["self", "test", "part", "rest"] ["self", "test", "part", "rest"] (defScope s_Values_take) := ⟨rfl, rfl, rfl, by decide +kernel, rfl, by decide +kernel, by decide +kernel⟩
theorem fn_Values_take (T : Txt K mg) (VC : VCls K mg C) (OValues_take_by : OkM P w K mg base CX0 1 C "take_by" ["self", "many", "part", "rest"] (spTakeBy C)) (OValues_raise_least : OkM P w K mg base CX0 1 C "raise_least" ["self", "number"] (spRaiseL C))
    (OValues_lower_most : OkM P w K mg base CX0 1 C "lower_most" ["self", "number"] (spLowerM C)) {f : Addr} {fd : FuncData} (F : Fun K "take" "Values.take" s_Values_take f fd) : FnOk P w K mg base CX0 2 f fd ["self", "test", "part", "rest"] (spTake K C) := by
  refine F.ok sc_Values_take (fun vs H Q E h => ?_) (fun cdv A outer s H vs Q E hr h => ?_)
  · obtain ⟨a, dx, lo, hi, p, r, v, ts, x, b, L, S, rfl, _⟩ := h; rfl
  · obtain ⟨a, dx, lo, hi, p, r, v, ts, x, b, L, S, rfl, ha, hs, R, pL, lot, L0, L12, hx, q⟩ := h
    refine ⟨_, (pss_cons (ps_if (pt_cmpR op_eq (pe_ix (ix_qK (K := K) rfl) (pv 1) pe_int (fun _ _ => rfl)) pe_str (nomark _)) (pss_one (ps_ret (pe_methE OValues_take_by pass0 (hr.mono (by first | decide | omega)) (pv 0) (pa_cons (pe_ix (ix_qK (K := K) rfl) (pv 1) pe_int (fun _ _ => rfl)) (pa_cons (pv 2) (pa_cons (pv 3) pa_nil)))))) pss_nil)
      (pss_cons (ps_if (pt_cmpR op_eq (pv 2) pe_int (nomark _)) (pss_one (ps_ret (pe_ifExp (pt_cmpR op_eq (pe_ix (ix_qK (K := K) rfl) (pv 1) pe_int (fun _ _ => rfl)) pe_str (nomark _)) (pe_cmpR op_ge (pv 3) pe_int (nomark _)) (pe_cmpR op_eq (pv 3) pe_int (nomark _))))) pss_nil)
      (pss_cons (ps_if (pt_cmpR op_eq (pe_ix (ix_qK (K := K) rfl) (pv 1) pe_int (fun _ _ => rfl)) pe_str (nomark _)) (pss_cons (ps_expr (pe_methE OValues_raise_least pass0 (hr.mono (by first | decide | omega)) (pv 0) (pa_cons (pe_op op_fdivN (pe_un un_neg (pv 3)) (pv 2)) pa_nil)))
      (pss_cons (ps_expr (pe_methE OValues_lower_most pass0 (hr.mono (by first | decide | omega)) (pv 0) (pa_cons (pe_op op_fdivN (pe_un un_neg (pv 3)) (pv 2)) pa_nil)))
      (pss_one (ps_ret (pe_cmpR op_eq (pe_op op_modN (pv 3) (pv 2)) pe_int (nomark _)))))) pss_nil)
      (pss_cons (ps_if (pt_cmpR op_gt (pv 2) pe_int (nomark _)) (pss_one (ps_expr (pe_methE OValues_raise_least pass0 (hr.mono (by first | decide | omega)) (pv 0) (pa_cons (pe_un un_neg (pe_op op_fdiv (pv 3) (pv 2))) pa_nil)))) (pss_one (ps_expr (pe_methE OValues_lower_most pass0 (hr.mono (by first | decide | omega)) (pv 0) (pa_cons (pe_op op_fdiv (pv 3) (pe_un un_neg (pv 2))) pa_nil)))))
      (pss_one (ps_ret pe_bl)))))), ?_⟩
    have zero : ∀ {y : Int}, 0 * y + b = b := fun {y} => by rw [Int.zero_mul]; omega
    cases ts with
    | div m c k =>
      cases hs with
      | @tup qa xs _ hq hx' =>
        cases hx' with
        | cons y1 hx' =>
          cases y1
          cases hx' with
          | cons y2 hx' =>
            cases y2
            refine ⟨_, rfl, qa, _, 0, _, rfl, rfl, SqQ.t hq, at0, rfl, _, rfl, iteT ?_⟩
            exact ⟨_, rfl, a, dx, _, rfl, ha, rfl, _, rfl, qa, _, 1, _, rfl, rfl, SqQ.t hq, at1, _, rfl, _, rfl, a, dx, lo, hi, p, r, m, x, b, L, S, rfl, ha, R, pL, lot.2, lot.1, L0, L12, hx, q⟩
    | row c k =>
      cases hs with
      | @tup qa xs _ hq hx' =>
        cases hx' with
        | cons y1 hx' =>
          cases y1
          refine ⟨_, rfl, qa, _, 0, _, rfl, rfl, SqQ.t hq, at0, rfl, _, rfl, iteF ?_⟩
          refine ⟨_, rfl, rfl, _, rfl, ?_⟩
          rw [dec_int0]
          by_cases hx0 : x = 0
          · subst hx0
            refine iteT ⟨_, rfl, qa, _, 0, _, rfl, rfl, SqQ.t hq, at0, rfl, _, rfl, iteT ⟨_, rfl, _, _, rfl, rfl, ?_⟩⟩
            show Q (.bl (decide (0 ≤ b))) H
            by_cases hb : 0 ≤ b
            · rw [decide_eq_true hb]
              exact q.1 H lo hi p r OnlyAt.refl ha (R.congr fun y => ⟨fun h => h.1, fun h => ⟨h, show 0 ≤ 0 * y + b by rw [zero]; exact hb⟩⟩) pL
            · rw [decide_eq_false hb]
              exact q.2 H lo hi p r OnlyAt.refl ha fun y _ (z : 0 ≤ 0 * y + b) => hb (by rw [zero] at z; exact z)
          · rw [decide_eq_false hx0]
            refine iteF ⟨_, rfl, qa, _, 0, _, rfl, rfl, SqQ.t hq, at0, rfl, _, rfl, iteF ?_⟩
            refine ⟨_, rfl, _, _, rfl, rfl, _, rfl, ?_⟩
            by_cases hxp : 0 < x
            · rw [decide_eq_true hxp]
              refine iteT ⟨_, rfl, a, dx, _, rfl, ha, rfl, _, rfl, _, rfl, _, _, rfl, rfl, ⟨hxp, by show x < 1073741824; omega⟩, _, rfl, a, dx, lo, hi, p, r, _, rfl, ha, fun H' o' va => ?_⟩
              exact q.1 H' _ _ _ _ o' va (R.raise fun y => by
                show S y ∧ 0 ≤ x * y + b ↔ S y ∧ -(b / x) ≤ y
                rw [row_low hxp, show 0 - b / x = -(b / x) by omega]) pL
            · rw [decide_eq_false hxp]
              have hxn : x < 0 := by omega
              refine iteF ⟨_, rfl, a, dx, _, rfl, ha, rfl, _, rfl, _, rfl, _, rfl, _, _, rfl, rfl, ⟨by show 0 < -x; omega, by show -x < 1073741824; omega⟩, a, dx, lo, hi, p, r, _, rfl, ha, fun H' o' va => ?_⟩
              exact q.1 H' _ _ _ _ o' va (R.lower fun y => by
                show S y ∧ 0 ≤ x * y + b ↔ S y ∧ y ≤ b / -x
                rw [row_high hxn, show 0 - x = -x by omega]) pL
    | same c k =>
      cases hs with
      | @tup qa xs _ hq hx' =>
        cases hx' with
        | cons y1 hx' =>
          cases y1
          refine ⟨_, rfl, qa, _, 0, _, rfl, rfl, SqQ.t hq, at0, rfl, _, rfl, iteF ?_⟩
          refine ⟨_, rfl, rfl, _, rfl, ?_⟩
          rw [dec_int0]
          by_cases hx0 : x = 0
          · subst hx0
            refine iteT ⟨_, rfl, qa, _, 0, _, rfl, rfl, SqQ.t hq, at0, rfl, _, rfl, iteF ⟨_, rfl, rfl, ?_⟩⟩
            show Q (.bl (decide (V.int b = V.int 0))) H
            rw [dec_int0]
            by_cases hb : b = 0
            · rw [decide_eq_true hb]
              exact q.1 H lo hi p r OnlyAt.refl ha (R.congr fun y => ⟨fun h => h.1, fun h => ⟨h, show 0 * y + b = 0 by rw [zero]; exact hb⟩⟩) pL
            · rw [decide_eq_false hb]
              exact q.2 H lo hi p r OnlyAt.refl ha fun y _ (z : 0 * y + b = 0) => hb (by rw [zero] at z; exact z)
          · rw [decide_eq_false hx0]
            have hxb : x.natAbs < 1073741824 := by omega
            refine iteF ⟨_, rfl, qa, _, 0, _, rfl, rfl, SqQ.t hq, at0, rfl, _, rfl, iteT ?_⟩
            refine ⟨_, rfl, a, dx, _, rfl, ha, rfl, _, rfl, _, rfl, _, rfl, _, _, rfl, rfl, ⟨hx0, hxb⟩, a, dx, lo, hi, p, r, _, rfl, ha, fun H1 o1 v1 => ?_⟩
            refine ⟨_, rfl, a, dx, _, rfl, v1, rfl, _, rfl, _, rfl, _, rfl, _, _, rfl, rfl, ⟨hx0, hxb⟩, a, dx, _, hi, p, r, _, rfl, v1, fun H2 o2 v2 => ?_⟩
            refine ⟨_, rfl, _, rfl, _, _, rfl, rfl, hx0, rfl, ?_⟩
            show Q (.bl (decide (V.int (b.fmod x) = V.int 0))) H2
            rw [dec_int0]
            by_cases hb : b.fmod x = 0
            · rw [decide_eq_true hb]
              refine q.1 H2 _ _ _ _ (o1.trans o2) v2 (Rng.lower (Rng.raise (T := fun y => S y ∧ (-b).fdiv x ≤ y) R fun y => Iff.rfl) fun y => ?_) pL
              show S y ∧ x * y + b = 0 ↔ (S y ∧ (-b).fdiv x ≤ y) ∧ y ≤ (-b).fdiv x
              rw [same_one hx0 hb]
              constructor
              · rintro ⟨h, rfl⟩; exact ⟨⟨h, Int.le_refl _⟩, Int.le_refl _⟩
              · rintro ⟨⟨h, h1⟩, h2⟩; exact ⟨h, by omega⟩
            · rw [decide_eq_false hb]
              exact q.2 H2 _ _ _ _ (o1.trans o2) v2 fun y _ => same_none hb
/-- what is told of all values -/
def ansV (H : Hp) (v : V) : Ans → Prop
  | none => v = .non
  | some (lo, hi, p, r) => ∃ q, v = .ref q ∧ H q = some (.tup [optI lo, optI hi, .int p, .int r])
def spToldV (C : Addr) : Sp := fun vs H Q _ => ∃ a dx lo hi p r, vs = [.ref a] ∧ VAt C H a dx lo hi p r ∧ 0 < p ∧ ∀ v H', Ex H H' → ansV H' v (fin lo hi p r) → (∀ q, v = .ref q → H q = none) → Q v H'
abbrev s_Values_told : Stmt := inClass (top 38) 5
theorem sc_Values_told : FnScope ["self", "least", "most"] ["self"] (defScope s_Values_told) := ⟨rfl, rfl, rfl, by decide +kernel, rfl, by decide +kernel, by decide +kernel⟩
theorem fn_Values_told (T : Txt K mg) (VC : VCls K mg C) {f : Addr} {fd : FuncData} (F : Fun K "told" "Values.told" s_Values_told f fd) : FnOk P w K mg base CX0 1 f fd ["self"] (spToldV C) := by
  refine F.ok sc_Values_told (fun vs H Q E h => ?_) (fun cdv A outer s H vs Q E hr h => ?_)
  · obtain ⟨a, dx, lo, hi, p, r, rfl, _⟩ := h; rfl
  · obtain ⟨a, dx, lo, hi, p, r, rfl, ha, pp, q⟩ := h
    refine ⟨_, (pss_cons (ps_par (i := 1) (j := 2) rfl sc_Values_told.nd rfl rfl (by decide) rfl rfl (pa_cons (pe_fld (pv 0) rfl) (pa_cons (pe_fld (pv 0) rfl) pa_nil)) rfl)
      (pss_cons (ps_if (pt_cmpR op_notN (pv 1) pe_non (nomark _)) (pss_one (ps_aug (i := 1) sc_Values_told.nd rfl (Or.inl rfl) (pe_op op_mod (pe_op op_sub (pe_fld (pv 0) rfl) (pv 1)) (pe_fld (pv 0) rfl)) ip_add)) pss_nil)
      (pss_cons (ps_if (pt_cmpR op_notN (pv 2) pe_non (nomark _)) (pss_one (ps_aug (i := 2) sc_Values_told.nd rfl (Or.inl rfl) (pe_op op_mod (pe_op op_sub (pv 2) (pe_fld (pv 0) rfl)) (pe_fld (pv 0) rfl)) ip_sub)) pss_nil)
      (pss_cons (ps_if (PW.pt (pw_and (pt_cmpR op_notN (pv 1) pe_non (nomark _)) (pw_and1 (pt_cmpR op_notN (pv 2) pe_non (nomark _))))) (pss_cons (ps_if (pt_cmpR op_gt (pv 1) (pv 2) (nomark _)) (pss_one (ps_ret pe_non)) pss_nil)
      (pss_one (ps_if (pt_cmpR op_eq (pv 1) (pv 2) (nomark _)) (pss_one (ps_ret (pe_tup (pa_cons (pv 1) (pa_cons (pv 2) (pa_cons pe_int (pa_cons pe_int pa_nil))))))) pss_nil))) pss_nil)
      (pss_one (ps_ret (pe_tup (pa_cons (pv 1) (pa_cons (pv 2) (pa_cons (pe_fld (pv 0) rfl) (pa_cons (pe_fld (pv 0) rfl) pa_nil))))))))))), ?_⟩
    have new : ∀ {t : Addr} {xs : List V}, H t = none → Ex H (upd H t (.tup xs)) ∧ (upd H t (.tup xs)) t = some (.tup xs) := fun ht => ⟨Ex.new ht, upd_same⟩
    refine ⟨_, rfl, a, C, dx, _, _, rfl, ha, VC.cl, VC.n1, rfl, _, rfl, a, C, dx, _, _, rfl, ha, VC.cl, VC.n2, rfl, _, _, rfl, ?_⟩
    have fin4 : ∀ (l h : V) (ans : Ans), fin lo hi p r = ans → (∀ (q : Addr) H', H' q = some (.tup [l, h, .int p, .int r]) → ansV H' (.ref q) ans) →
        tRet (tTup (tCons (tVar 1) (tCons (tVar 2) (tCons (tFld K (tVar 0) "period") (tCons (tFld K (tVar 0) "rest") tNil))))) { nx := fun _ H' => Q .non H', rt := Q } [some (.ref a), some l, some h] H := by
      intro l h ans e hv
      refine ⟨_, rfl, _, rfl, _, rfl, a, C, dx, _, _, rfl, ha, VC.cl, VC.n3, rfl, _, rfl, a, C, dx, _, _, rfl, ha, VC.cl, VC.n4, rfl, by show 4 ≤ sizeLine; decide, fun t ht => ?_⟩
      exact q _ _ (new ht).1 (by rw [e]; exact hv t _ (new ht).2) fun z hz => by cases hz; exact ht
    cases lo with
    | none =>
      refine ⟨_, rfl, rfl, _, rfl, iteF ?_⟩
      cases hi with
      | none =>
        refine ⟨_, rfl, rfl, _, rfl, iteF ?_⟩
        refine ⟨_, rfl, rfl, _, rfl, iteF (iteF ?_)⟩
        exact fin4 _ _ _ rfl fun t H' e => ⟨t, rfl, e⟩
      | some h =>
        refine ⟨_, rfl, rfl, _, rfl, iteT ?_⟩
        refine ⟨_, rfl, _, rfl, _, rfl, a, C, dx, _, _, rfl, ha, VC.cl, VC.n4, rfl, _, _, rfl, rfl, _, rfl, a, C, dx, _, _, rfl, ha, VC.cl, VC.n3, rfl, _, _, rfl, rfl, pp, _, _, rfl, rfl, ?_⟩
        refine ⟨_, rfl, rfl, _, rfl, iteF (iteF ?_)⟩
        exact fin4 _ _ _ rfl fun t H' e => ⟨t, rfl, e⟩
    | some l =>
      refine ⟨_, rfl, rfl, _, rfl, iteT ?_⟩
      refine ⟨_, rfl, _, rfl, a, C, dx, _, _, rfl, ha, VC.cl, VC.n4, rfl, _, rfl, _, _, rfl, rfl, _, rfl, a, C, dx, _, _, rfl, ha, VC.cl, VC.n3, rfl, _, _, rfl, rfl, pp, _, _, rfl, rfl, ?_⟩
      cases hi with
      | none =>
        refine ⟨_, rfl, rfl, _, rfl, iteF ?_⟩
        refine ⟨_, rfl, rfl, _, rfl, iteT ⟨_, rfl, rfl, _, rfl, iteF ?_⟩⟩
        exact fin4 _ _ _ rfl fun t H' e => ⟨t, rfl, e⟩
      | some h =>
        refine ⟨_, rfl, rfl, _, rfl, iteT ?_⟩
        refine ⟨_, rfl, _, rfl, _, rfl, a, C, dx, _, _, rfl, ha, VC.cl, VC.n4, rfl, _, _, rfl, rfl, _, rfl, a, C, dx, _, _, rfl, ha, VC.cl, VC.n3, rfl, _, _, rfl, rfl, pp, _, _, rfl, rfl, ?_⟩
        refine ⟨_, rfl, rfl, _, rfl, iteT ⟨_, rfl, rfl, _, rfl, iteT ?_⟩⟩
        have ef : fin (some l) (some h) p r = if dn h r p < up l r p then none else if up l r p = dn h r p then some (some (up l r p), some (dn h r p), 1, 0) else some (some (up l r p), some (dn h r p), p, r) := rfl
        refine ⟨_, rfl, _, rfl, _, _, rfl, rfl, _, rfl, ?_⟩
        show (if decide (dn h r p < up l r p) = true then _ else _)
        by_cases c1 : dn h r p < up l r p
        · rw [decide_eq_true c1]
          rw [if_pos c1] at ef
          exact iteT (q .non H (Ex.refl H) (by rw [ef]; rfl) fun z hz => by cases hz)
        · rw [decide_eq_false c1]
          rw [if_neg c1] at ef
          refine iteF ⟨_, rfl, _, rfl, rfl, _, rfl, ?_⟩
          show (if decide (V.int (up l r p) = V.int (dn h r p)) = true then _ else _)
          rw [dec_int0]
          by_cases c2 : up l r p = dn h r p
          · rw [decide_eq_true c2]
            rw [if_pos c2] at ef
            refine iteT ⟨_, rfl, _, rfl, by show 4 ≤ sizeLine; decide, fun t ht => ?_⟩
            exact q _ _ (new ht).1 (by rw [ef]; exact ⟨t, rfl, (new ht).2⟩) fun z hz => by cases hz; exact ht
          · rw [decide_eq_false c2]
            rw [if_neg c2] at ef
            exact iteF (fin4 _ _ _ ef fun t H' e => ⟨t, rfl, e⟩)
end
end K8

set_option Elab.async false
set_option linter.all false
set_option maxRecDepth 100000
set_option maxHeartbeats 4000000
namespace K8
open PySem PySem.Spec PyProof.Rows L2 M8
/-! all values of a name -/
theorem lin_drop1 {n : Str} {cn : Coef} : ∀ {c : Coef}, (keys c).Nodup → lin c cn = lin (drop1 n c) cn + co c n * co cn n
  | [], _ => by show (0 : Int) = 0 + 0 * co cn n; rw [Int.zero_mul]; rfl
  | (m, j) :: c, h => by
    have h' : m ∉ keys c ∧ (keys c).Nodup := List.nodup_cons.mp h
    have ih := lin_drop1 (n := n) (cn := cn) h'.2
    have e1 : lin ((m, j) :: c) cn = j * co cn m + lin c cn := by unfold lin; rw [List.map_cons, List.sum_cons]
    by_cases e : m = n
    · subst e
      have e2 : drop1 m ((m, j) :: c) = drop1 m c := by unfold drop1; rw [List.filter_cons, if_neg (by simp)]
      have e3 : co ((m, j) :: c) m = j := co_of_mem h (by simp)
      have e4 : co c m = 0 := co_notin h'.1
      rw [e4, Int.zero_mul] at ih
      rw [e1, e2, e3, ih]; omega
    · have e2 : drop1 n ((m, j) :: c) = (m, j) :: drop1 n c := by unfold drop1; rw [List.filter_cons, if_pos (by simpa using e)]
      have e3 : co ((m, j) :: c) n = co c n := by unfold co look; rw [List.find?_cons, show decide (m = n) = false from decide_eq_false e]
      have e4 : lin ((m, j) :: drop1 n c) cn = j * co cn m + lin (drop1 n c) cn := by unfold lin; rw [List.map_cons, List.sum_cons]
      rw [e1, e2, e3, e4, ih]; omega
theorem lin_drop_canon {n : Str} {c cn : Coef} (h : (keys c).Nodup) : lin (drop1 n (canon c)) cn = lin (drop1 n c) cn := by
  have h1 := lin_drop1 (n := n) (cn := cn) h
  have h2 := lin_drop1 (n := n) (cn := cn) (canon_nodup h)
  rw [lin_canon h, co_canon h] at h2
  omega
/-- a test along a name, the others as told -/
def alW (n : Str) (cn : Coef) (ts : Tst) : Al := alOf ts (co (coef ts) n) (worth (drop1 n (coef ts)) (kst ts) cn)
theorem coef_canonT (ts : Tst) : coef (canonT ts) = canon (coef ts) := by cases ts <;> rfl
theorem kst_canonT (ts : Tst) : kst (canonT ts) = kst ts := by cases ts <;> rfl
theorem alOf_canonT (ts : Tst) (x b : Int) : alOf (canonT ts) x b = alOf ts x b := by cases ts <;> rfl
theorem alW_canon {n : Str} {cn : Coef} {ts : Tst} (h : (keys (coef ts)).Nodup) : alW n cn (canonT ts) = alW n cn ts := by
  unfold alW
  rw [alOf_canonT, coef_canonT, kst_canonT, co_canon h, worth_lin, worth_lin, lin_drop_canon h]
def Sol (n : Str) (cn : Coef) (tss : List Tst) (y : Int) : Prop := ∀ ts ∈ tss, (alW n cn ts).ok y
section
variable {P : Program} {w : World} {K : PySem.W.Frag} {mg : Str → Option Value} {base : Heap} {C : Addr}
/-- tests that all values can be told of -/
structure CaseT (L : Int) (ns : List Str) (ts : Tst) : Prop where
  few : Few (coef ts)
  lim : Lim (coef ts)
  lot : lotOk L ts
  nz : ∀ y ∈ nz (coef ts), y ∈ ns
def spSetOf (K : PySem.W.Frag) (CCa CNa CNu : Addr) : Sp := fun vs H Q E => ∃ v d nv dn uv du, vs = [v, nv, uv] ∧ SeeF K H v d ∧ SeeF K H nv dn ∧ SeeF K H uv du ∧ (items d).length ≤ 1000 ∧ (∀ x ∈ items d, testOk x) ∧ strOk dn ∧ dctOk du ∧
  match caseBad d with
  | some i => Rai E CCa "index" (.int (i : Nat)) H
  | none => ∃ (tss : List Tst) (L : Int) (ns : List Str), All2 IsTst (items d) tss ∧ (∀ ts ∈ tss, CaseT L ns ts) ∧ ns.length ≤ 1000 ∧ 0 < L ∧ L ≤ 12 ∧
    ((isName dn = false ∧ Rai E CNa "name" nv H) ∨ ∃ n, dn = .str n ∧ isNameS n = true ∧
      (((∀ ys, NamesT (tss.map canonT) ys → (isNumbers du && (ys.filter fun y => decide (y ≠ n)).all (hasK du)) = false) ∧ Rai E CNu "numbers" uv H) ∨
       ∃ cn, du = .dct (cD cn) ∧ isNumbers du = true ∧ (∀ ts ∈ tss, Has (drop1 n (coef ts)) cn) ∧ ∀ ans v H', Right (Sol n cn tss) ans → Ex H H' → ansV H' v ans → (∀ q, v = .ref q → H q = none) → Q v H'))
abbrev s_set_of : Stmt := top 39
theorem sc_set_of : FnScope ["case", "name", "numbers", "tests", "values", "test"] ["case", "name", "numbers"] (defScope s_set_of) := ⟨rfl, rfl, rfl, by decide +kernel, rfl, by decide +kernel, by decide +kernel⟩
theorem fn_set_of (T : Txt K mg) {CCa CNa CNu f fV : Addr} {fd fdV : FuncData} (BNu : BadNu K mg CNu) (VC : VCls K mg C) (MV : Mk K C fV) (GV : FnOk P w K mg base CX0 1 fV fdV ["self"] (spVInit C)) (bV : Binds K fdV ["self"] [])
    (Otold_case : Ok P w K mg base (L2.CX P w) 6 "told_case" ["case"] (spTCase K CCa)) (Ocheck_name : Ok P w K mg base (L2.CX P w) 3 "check_name" ["name"] (spChkNm K CNa)) (Ois_numbers_with : Ok P w K mg base CX0 4 "is_numbers_with" ["thing", "names"] (spNumsWith K))
    (Oothers_in : Ok P w K mg base CX0 4 "others_in" ["case", "name"] (spOthers K)) (Ocoefficient_in : Ok P w K mg base CX0 2 "coefficient_in" ["test", "name"] (spCoefIn K)) (Orest_at : Ok P w K mg base CX0 4 "rest_at" ["test", "name", "numbers"] (spRestAt K))
    (OValues_take : OkM P w K mg base CX0 2 C "take" ["self", "test", "part", "rest"] (spTake K C)) (OValues_told : OkM P w K mg base CX0 1 C "told" ["self"] (spToldV C)) (F : Fun K "set_of" "set_of" s_set_of f fd) :
    FnOk P w K mg base (L2.CX P w) 7 f fd ["case", "name", "numbers"] (spSetOf K CCa CNa CNu) := by
  obtain ⟨fINu, fdINu, iCNu, tINu, FINu, bINu⟩ := BNu.ini
  have GINu : FnOk P w K mg base CX0 1 fINu fdINu ["self", "numbers"] (spInit "numbers" CNu) := ok_initNu BNu FINu
  refine F.okX sc_set_of (fun vs H Q E h => ?_) (fun cdv A outer s H vs Q E hr h => ?_)
  · obtain ⟨v, d, nv, dn, uv, du, rfl, _⟩ := h; rfl
  · obtain ⟨v, d, nv, dn, uv, du, rfl, hs, hn, hu, hl, hok, hz, hdo, q⟩ := h
    refine ⟨_, (pss_cons (ps_set (i := 3) sc_set_of.nd rfl (Or.inl rfl) (pe_callE Otold_case (passes_call (takes_of rfl rfl rfl rfl) (fun _ _ _ _ h => h)) (hr.mono (by first | decide | omega)) rfl (pa_cons (pv 0) pa_nil)))
      (pss_cons (ps_expr (pe_callE Ocheck_name (passes_call (takes_of rfl rfl rfl rfl) (fun _ _ _ _ h => h)) (hr.mono (by first | decide | omega)) rfl (pa_cons (pv 1) pa_nil)))
      (pss_cons (ps_if (pt_not (pt_val (pe_callO Ois_numbers_with (hr.mono (by first | decide | omega)) rfl (pa_cons (pv 2) (pa_cons (pe_callO Oothers_in (hr.mono (by first | decide | omega)) rfl (pa_cons (pv 3) (pa_cons (pv 1) pa_nil))) pa_nil))))) (pss_one (ps_raise rfl (takes_of rfl rfl rfl rfl) (pmk_oex BNu.ox iCNu tINu GINu (hr.mono (by omega)) bINu .nil pass0 rfl BNu.gC (pa_cons (pv 2) pa_nil)))) pss_nil)
      (pss_cons (ps_set (i := 4) sc_set_of.nd rfl (Or.inl rfl) (pe_make0 MV GV (hr.mono (by decide)) rfl VC.gC bV .nil pass0))
      (pss_cons (ps_for (passes_of rfl) rfl (pi_list (pv 3)) (pg_name (i := 5) sc_set_of.nd rfl (Or.inl rfl)) (pss_one (ps_if (pt_not (pt_val (pe_methE OValues_take pass0 (hr.mono (by first | decide | omega)) (pv 4) (pa_cons (pv 5) (pa_cons (pe_callO Ocoefficient_in (hr.mono (by first | decide | omega)) rfl (pa_cons (pv 5) (pa_cons (pv 1) pa_nil))) (pa_cons (pe_callO Orest_at (hr.mono (by first | decide | omega)) rfl (pa_cons (pv 5) (pa_cons (pv 1) (pa_cons (pv 2) pa_nil)))) pa_nil)))))) (pss_one (ps_ret pe_non)) pss_nil)))
      (pss_one (ps_ret (pe_methE0 OValues_told pass0 (hr.mono (by first | decide | omega)) (pv 4))))))))), ?_⟩
    refine ⟨_, rfl, v, d, rfl, hs, hl, hok, ?_⟩
    cases hc : caseBad d with
    | some i => rw [hc] at q; exact q
    | none =>
    rw [hc] at q
    obtain ⟨tss, L, ns, all, ct, hns, L0, L12, q⟩ := q
    refine ⟨tss, all, fun ts h => (ct ts h).few, fun lt us H1 hlt e1 h1 hus => ?_⟩
    refine ⟨_, rfl, nv, dn, rfl, hn.mono e1, hz, ?_⟩
    rcases q with ⟨hbad, r⟩ | ⟨n, rfl, hnm, q⟩
    · exact .inr ⟨hbad, r.ex e1⟩
    refine .inl ⟨hnm, fun H2 e2 => ?_⟩
    cases hn
    have e02 := e1.trans e2
    have hus2 := SeeL.mono e2 hus
    have h2 := e2 _ _ h1
    have nzc : ∀ {ts : Tst} {y : Str}, Few (coef ts) → (y ∈ nz (coef (canonT ts)) ↔ co (coef ts) y ≠ 0) := fun {ts y} few => by rw [coef_canonT, mem_nz (canon_nodup few.nd), co_canon few.nd]
    have hmap : tss.map (fun ts => tstD (canonT ts)) = (tss.map canonT).map tstD := by rw [List.map_map]; rfl
    refine ⟨_, rfl, _, rfl, _, rfl, lt, us, tss.map canonT, n, ns, rfl, h2, hmap ▸ hus2, ?_, hns, fun lo ys H3 hys hlo e3 h3 => ?_⟩
    · intro ts' hts'
      obtain ⟨ts, hts, rfl⟩ := List.mem_map.mp hts'
      refine ⟨by rw [coef_canonT]; exact (ct ts hts).few.canon, fun y hy => (ct ts hts).nz y ?_⟩
      exact (mem_nz (ct ts hts).few.nd).mpr ((nzc (ct ts hts).few).mp hy)
    have e03 := e02.trans e3
    have hyl : ys.length ≤ 1000 := Nat.le_trans (List.subset_of_nodup_length hys.2.1 fun y hy => by
      obtain ⟨b, hb, t, ht, hy'⟩ := (hys.2.2 y).mp hy
      obtain ⟨ts', hts', rfl⟩ := List.mem_map.mp hb
      obtain ⟨ts, hts, rfl⟩ := List.mem_map.mp hts'
      have e : tl (.t (canonT ts)) = [canonT ts] := by simp [tl]
      rw [e, List.mem_singleton] at ht
      subst ht
      exact (ct ts hts).nz y ((mem_nz (ct ts hts).few.nd).mpr ((nzc (ct ts hts).few).mp hy'))) hns
    refine ⟨uv, du, lo, ys.filter fun y => decide (y ≠ n), rfl, hu.mono e03, hdo, h3, Nat.le_trans (List.length_filter_le _ _) (by omega), fun H4 e4 => ⟨_, rfl, ?_⟩⟩
    have e04 := e03.trans e4
    rcases q with ⟨hbad, r⟩ | ⟨cn, rfl, hnum, has, q⟩
    · rw [hbad ys hys]
      exact iteT ⟨_, rfl, (r.ex e04).mk⟩
    have hgood : (isNumbers (.dct (cD cn)) && (ys.filter fun y => decide (y ≠ n)).all (hasK (.dct (cD cn)))) = true := by
      rw [hnum, Bool.true_and, List.all_eq_true]
      intro y hy
      obtain ⟨hy, hyn⟩ := List.mem_filter.mp hy
      rw [hasK_c, decide_eq_true_eq]
      obtain ⟨b, hb, t, ht, hy'⟩ := (hys.2.2 y).mp hy
      obtain ⟨ts', hts', rfl⟩ := List.mem_map.mp hb
      obtain ⟨ts, hts, rfl⟩ := List.mem_map.mp hts'
      have e : tl (.t (canonT ts)) = [canonT ts] := by simp [tl]
      rw [e, List.mem_singleton] at ht
      subst ht
      have h0 := (nzc (ct ts hts).few).mp hy'
      exact (has ts hts).mem _ (List.mem_filter.mpr ⟨co_mem h0, hyn⟩) h0
    rw [hgood]
    refine iteF ?_
    cases hu with
    | @dct nd kvs _ hnd hk =>
    have ek : kvs = cK cn := cK_of hk
    subst ek
    have us4 : SeeL (FKK K) H4 us (tss.map fun ts => tstD (canonT ts)) := SeeL.mono (e3.trans e4) hus2
    have nd4 := e04 _ _ hnd
    have lt4 := e4 _ _ (e3 _ _ h2)
    dsimp only [tNext, tSeq]
    intro x dx hx hdx hne
    refine ⟨x, dx, rfl, upd_same, fun H5 o5 v5 => ⟨rfl, ?_⟩⟩
    have e45 : Ex H4 H5 := fun b o h => o5 b o (ne_of_none h hx) (by rw [upd_ne (ne_of_none h hx), upd_ne (ne_of_none h hdx)]; exact h)
    dsimp only [gName]
    refine tFor_of ⟨_, rfl, lt, rfl, ⟨us, SqL.of (e45 _ _ lt4)⟩, ?_⟩
    have hul := us4.len
    rw [List.length_map] at hul
    refine for_itB (walk_list (xs := us)) (fun i σ H' => (∃ z, σ = [some v, some (.str n), some (.ref nd), some (.ref lt), some (.ref x), z]) ∧ Ex H4 H' ∧ ∃ lo hi p r, VAt C H' x dx lo hi p r ∧ Rng (Sol n cn (tss.take i)) lo hi p r ∧ p ∣ L) ⟨⟨_, rfl⟩, e45, none, none, 1, 0, v5, ?_, Int.one_dvd L⟩ (fun i σ H' _ p => SqL.of (p.2.1 _ _ lt4)) ?_ ?_
    · exact Rng.start.congr fun y => ⟨fun _ => trivial, fun _ ts h => by simp at h⟩
    · rintro i y σ H6 H7 iN ⟨⟨z, rfl⟩, e6, lo, hi, p, r, va, R, pL⟩ ⟨rfl, hy⟩
      obtain ⟨dt, hdt, st⟩ := us4.getV hy
      rw [List.getElem?_map] at hdt
      cases hts : tss[i]? with
      | none => rw [hts] at hdt; cases hdt
      | some ts =>
      rw [hts] at hdt
      cases hdt
      have hm := List.mem_of_getElem? hts
      have few := (ct ts hm).few
      have fewc : Few (coef (canonT ts)) := by rw [coef_canonT]; exact few.canon
      have limc : Lim (coef (canonT ts)) := by
        rw [coef_canonT]
        exact fun q hq => (ct ts hm).lim q (canon_sub few.nd hq)
      have hasc : Has (drop1 n (coef (canonT ts))) cn := by
        refine ⟨(has ts hm).nd, fun q hq h0 => ?_⟩
        rw [coef_canonT] at hq
        obtain ⟨h1, h2⟩ := List.mem_filter.mp hq
        exact (has ts hm).mem q (List.mem_filter.mpr ⟨canon_sub few.nd h1, h2⟩) h0
      have hcx : (co (coef (canonT ts)) n).natAbs ≤ 1000000000 := by
        by_cases h0 : co (coef (canonT ts)) n = 0
        · rw [h0]; decide
        · exact limc _ (co_mem h0)
      have lot : lotOk L (canonT ts) := by have := (ct ts hm).lot; cases ts <;> exact this
      have s6 := st.mono e6
      refine ⟨_, rfl, x, dx, _, rfl, va, rfl, _, rfl, ?_⟩
      refine ⟨_, rfl, _, rfl, y, _, canonT ts, n, rfl, s6, tstD_is _, fewc.nd, fun H8 e8 => ?_⟩
      refine ⟨_, rfl, _, rfl, _, rfl, y, _, canonT ts, n, nd, cn, rfl, s6.mono e8, tstD_is _, fewc, limc, e8 _ _ (e6 _ _ nd4), hasc, fun H9 e9 => ?_⟩
      have e69 := e8.trans e9
      refine ⟨x, dx, lo, hi, p, r, y, canonT ts, _, _, L, Sol n cn (tss.take i), rfl, e69 _ _ va, s6.mono e69, R, pL, lot, L0, L12, hcx, ?_⟩
      have nx4 : ∀ {H' : Hp}, OnlyAt x H9 H' → Ex H4 H' := fun o b ob h => o b ob (ne_of_none h hx) (e69 _ _ (e6 _ _ h))
      have eA : alOf (canonT ts) (co (coef (canonT ts)) n) (worth (drop1 n (coef (canonT ts))) (kst (canonT ts)) cn) = alW n cn ts := alW_canon few.nd
      rw [eA]
      refine ⟨fun H' lo' hi' p' r' o' va' R' pL' => ⟨_, rfl, iteF ⟨⟨_, rfl⟩, nx4 o', lo', hi', p', r', va', R'.congr fun y => ?_, pL'⟩⟩, fun H' lo' hi' p' r' o' va' no => ⟨_, rfl, iteT ?_⟩⟩
      · unfold Sol
        rw [List.take_add_one, hts]
        constructor
        · intro h
          exact ⟨fun t ht => h t (List.mem_append.mpr (.inl ht)), h ts (by simp)⟩
        · rintro ⟨h1, h2⟩ t ht
          rcases List.mem_append.mp ht with ht | ht
          · exact h1 t ht
          · rw [show t = ts by simpa using ht]; exact h2
      · refine q none .non H' ?_ (e04.trans (nx4 o')) rfl fun q hq => by cases hq
        intro y hy
        exact no y (fun t ht => hy t (List.mem_of_mem_take ht)) (hy ts hm)
    · rintro σ H6 ⟨⟨z, rfl⟩, e6, lo, hi, p, r, va, R, pL⟩
      rw [List.take_of_length_le (by omega)] at R
      refine ⟨_, rfl, x, dx, _, rfl, va, rfl, x, dx, lo, hi, p, r, rfl, va, R.pp, fun u H7 e7 an fr => ?_⟩
      exact q _ u H7 (fin_right R) (e04.trans (e6.trans e7)) an fun q hq => (e04.trans e6).free (fr q hq)
end
end K8

set_option Elab.async false
set_option linter.all false
set_option maxRecDepth 100000
set_option maxHeartbeats 4000000
namespace K8
open PySem PySem.Spec PyProof.Rows L2 M8
/-! what is drawn -/
def Spr (H : Hp) (a : Addr) (B : Nat) : Prop := ∃ c m n : Int, H a = some (.lst [.int c, .int m, .int n]) ∧ 0 ≤ c ∧ 0 ≤ m ∧ m < 2147483648 ∧ 0 ≤ n ∧ n ≤ (B : Int)
def lot : Nat := 1000000000
theorem Spr.ne {H : Hp} {a : Addr} {B : Nat} (h : Spr H a B) : H a ≠ none := by
  obtain ⟨c, m, n, e, _⟩ := h; rw [e]; simp
theorem Spr.mono {H : Hp} {a : Addr} {B B' : Nat} (h : Spr H a B) (l : B ≤ B') : Spr H a B' := by
  obtain ⟨c, m, n, e, h1, h2, h3, h4, h5⟩ := h; exact ⟨c, m, n, e, h1, h2, h3, h4, by omega⟩
theorem Spr.ex {H H' : Hp} {a : Addr} {B : Nat} (h : Spr H a B) (e : Ex H H') : Spr H' a B := by
  obtain ⟨c, m, n, e1, h⟩ := h; exact ⟨c, m, n, e _ _ e1, h⟩
theorem Spr.at {H H' : Hp} {a : Addr} {B : Nat} (h : Spr H a B) (e : H' a = H a) : Spr H' a B := by
  obtain ⟨c, m, n, e1, h⟩ := h; exact ⟨c, m, n, by rw [e]; exact e1, h⟩
theorem SqL.exo {K : PySem.W.Frag} {S : List Addr} {H H' : Hp} {l : Addr} {xs : List V} (h : SqL K H l xs) (e : Exo S H H') (n : l ∉ S) : SqL K H' l xs := by
  rcases h with (h | ⟨o, h⟩) | h
  · exact .inl (.inl (e _ _ n h))
  · exact .inl (.inr ⟨o, e _ _ n h⟩)
  · exact .inr h
theorem SqT.exo {K : PySem.W.Frag} {S : List Addr} {H H' : Hp} {l : Addr} {xs : List V} (h : SqT K H l xs) (e : Exo S H H') (n : l ∉ S) : SqT K H' l xs := by
  rcases h with (h | ⟨o, h⟩) | h
  · exact .inl (.inl (e _ _ n h))
  · exact .inl (.inr ⟨o, e _ _ n h⟩)
  · exact .inr h
theorem SqQ.exo {K : PySem.W.Frag} {S : List Addr} {H H' : Hp} {l : Addr} {xs : List V} (h : SqQ K H l xs) (e : Exo S H H') (n : l ∉ S) : SqQ K H' l xs := h.imp (fun h => SqL.exo h e n) (fun h => SqT.exo h e n)
theorem not1 {l a : Addr} (h : l ≠ a) : l ∉ [a] := by simpa using h
section
variable {P : Program} {w : World} {K : PySem.W.Frag} {mg : Str → Option Value} {base : Heap}
def spCell (K : PySem.W.Frag) : Sp := fun vs H Q _ => ∃ (a : Addr) (ns : List Int) (t : Int), vs = [.ref a, .int t] ∧ SqL K H a (ns.map V.int) ∧ ns.length ≤ 63 ∧ 0 ≤ t ∧ t ≤ 1000 ∧ ∀ i, Q (.int i) H
abbrev s__law_cell : Stmt := top 41
theorem sc__law_cell : FnScope ["script", "k"] ["script", "k"] (defScope s__law_cell) := ⟨rfl, rfl, rfl, by decide +kernel, rfl, by decide +kernel, by decide +kernel⟩
theorem ok__law_cell (T : Txt K mg) (a : At K mg "_law_cell" s__law_cell ["script", "k"]) : Ok P w K mg base CX0 1 "_law_cell" ["script", "k"] (spCell K) := a.ok fun f fd F => by
  refine F.ok sc__law_cell (fun vs H Q E h => ?_) (fun cdv A outer s H vs Q E hr h => ?_)
  · obtain ⟨a, ns, t, rfl, _⟩ := h; rfl
  · obtain ⟨a, ns, t, rfl, hS, hn, t0, t1, q⟩ := h
    refine ⟨_, (pss_one (ps_ret (pe_ifExp (pt_cmpR op_lt (pv 1) (pe_callB (len_qK (K := K) rfl) rfl T.n_len rfl (pa_cons (pv 0) pa_nil)) (nomark _)) (pe_ix (ix_qK (K := K) rfl) (pv 0) (pv 1) (fun _ _ => rfl)) (pe_op op_mod (pe_callTy call_int1 rfl T.n_int rfl (pa_cons (pe_op op_add (pe_op op_add (pe_op op_mul (pe_callB (cr_sum rfl) rfl T.n_sum rfl (pa_cons (pv 0) pa_nil)) pe_int) (pe_op op_mul pe_int (pv 1))) pe_int) pa_nil)) pe_int)))), ?_⟩
    have lp : ((ns.map V.int).length : Int) = (ns.length : Int) := by rw [List.length_map]
    refine ⟨_, rfl, _, rfl, a, _, rfl, .inl hS, _, _, rfl, rfl, _, rfl, ?_⟩
    rw [lp]
    by_cases ht : t < (ns.length : Int)
    · rw [decide_eq_true ht]
      have hk : t.toNat < ns.length := by omega
      have hg : (ns.map V.int)[t.toNat]? = some (.int (ns[t.toNat]'hk)) := by rw [List.getElem?_map, List.getElem?_eq_getElem hk]; rfl
      exact iteT ⟨_, rfl, _, rfl, a, _, t, _, rfl, rfl, .inl hS, atZ t0 hg, q _⟩
    · rw [decide_eq_false ht]
      refine iteF ⟨_, rfl, a, ns, rfl, hS, _, _, rfl, rfl, .inr ⟨by decide, by decide⟩, _, rfl, _, _, rfl, rfl, .inl ⟨by decide, by decide⟩, _, _, rfl, rfl, _, _, rfl, rfl, .inl ⟨_, rfl, _, _, rfl, rfl, by show (0:Int) < 1000003; decide, q _⟩⟩
def spSource (K : PySem.W.Frag) : Sp := fun vs H Q _ => ∃ (a : Addr) (ns : List Int) (t : Int), vs = [.ref a, .int t] ∧ SqL K H a (ns.map V.int) ∧ ns.length ≤ 63 ∧ 0 ≤ t ∧ t ≤ 1000 ∧ ∀ p H', H p = none → Ex H H' → Spr H' p 0 → Q (.ref p) H'
abbrev s__law_source : Stmt := top 42
theorem sc__law_source : FnScope ["script", "k", "cell", "seed", "one"] ["script", "k"] (defScope s__law_source) := ⟨rfl, rfl, rfl, by decide +kernel, rfl, by decide +kernel, by decide +kernel⟩
theorem ok__law_source (T : Txt K mg) (a : At K mg "_law_source" s__law_source ["script", "k"]) (O_law_cell : Ok P w K mg base CX0 1 "_law_cell" ["script", "k"] (spCell K)) : Ok P w K mg base CX0 2 "_law_source" ["script", "k"] (spSource K) := a.ok fun f fd F => by
  refine F.ok sc__law_source (fun vs H Q E h => ?_) (fun cdv A outer s H vs Q E hr h => ?_)
  · obtain ⟨a, ns, t, rfl, _⟩ := h; rfl
  · obtain ⟨a, ns, t, rfl, hS, hn, t0, t1, q⟩ := h
    refine ⟨_, (pss_cons (ps_par (i := 2) (j := 3) rfl sc__law_source.nd rfl rfl (by decide) rfl rfl (pa_cons (pe_callB call_abs rfl T.n_abs rfl (pa_cons (pe_callO O_law_cell (hr.mono (by first | decide | omega)) rfl (pa_cons (pv 0) (pa_cons (pv 1) pa_nil))) pa_nil)) (pa_cons (pe_op op_add pe_int (pe_op op_mul pe_int (pv 1))) pa_nil)) rfl)
      (pss_cons (ps_for PassesOwn.never rfl (pi_list (pe_slice sl_list (pv 0) po_none (po_some pe_int))) (pg_name (i := 4) sc__law_source.nd rfl (Or.inl rfl)) (pss_one (ps_set (i := 3) sc__law_source.nd rfl (Or.inl rfl) (pe_op op_mod (pe_callTy call_int1 rfl T.n_int rfl (pa_cons (pe_op op_add (pe_op op_add (pe_op op_mul (pv 3) pe_int) (pe_op op_mod (pe_callTy call_int1 rfl T.n_int rfl (pa_cons (pv 4) pa_nil)) pe_int)) pe_int) pa_nil)) pe_int))))
      (pss_one (ps_ret (pe_lst (pa_cons (pe_ifExp (pt_cmpR op_ge (pv 2) (pe_op op_pow pe_int pe_int) (nomark _)) (pv 2) pe_int) (pa_cons (pe_op op_mod (pe_callTy call_int1 rfl T.n_int rfl (pa_cons (pe_op op_add (pe_op op_add (pv 3) (pe_op op_mul (pv 2) pe_int)) (pe_op op_mul pe_int (pv 1))) pa_nil)) pe_int) (pa_cons pe_int pa_nil)))))))), ?_⟩
    refine ⟨_, rfl, _, rfl, a, ns, t, rfl, hS, hn, t0, t1, fun c0 => ⟨_, rfl, _, rfl, _, _, rfl, rfl, .inl ⟨by decide, by decide⟩, _, _, rfl, rfl, _, _, rfl, ?_⟩⟩
    have hc : 0 ≤ (if c0 < 0 then -c0 else c0) := by split <;> omega
    generalize (if c0 < 0 then -c0 else c0) = cell at hc
    dsimp only [tSeq]
    refine tFor_of ⟨_, rfl, _, rfl, a, _, rfl, hS, fun L hL => ?_⟩
    refine ⟨L, rfl, ⟨_, SqL.of upd_same⟩, ?_⟩
    generalize hxs : cutV (ns.map V.int) none (some 63) = xs
    have hall : ∀ x ∈ xs, ∃ i, x = V.int i := by
      intro x hx
      rw [← hxs] at hx
      have := List.mem_of_mem_drop (List.mem_of_mem_take hx)
      obtain ⟨i, _, rfl⟩ := List.mem_map.mp this
      exact ⟨i, rfl⟩
    refine for_itB (walk_list (xs := xs)) (fun i σ H' => ∃ (m : Int) (x : Option V), σ = [some (.ref a), some (.int t), some (.int cell), some (.int m), x] ∧ Ex (upd H L (.lst xs)) H') ⟨_, none, rfl, Ex.refl _⟩ (fun i σ H' _ ⟨_, _, _, e⟩ => SqL.of (e _ _ upd_same)) ?_ ?_
    · rintro i x σ H1 H2 hi ⟨m, x4, rfl, e⟩ ⟨rfl, hx⟩
      obtain ⟨z, rfl⟩ := hall x (List.mem_of_getElem? hx)
      refine ⟨_, rfl, _, _, rfl, rfl, .inr ⟨by decide, by decide⟩, _, rfl, .inl ⟨_, rfl, _, _, rfl, rfl, by show (0:Int) < 2147483629; decide, _, _, rfl, rfl, _, _, rfl, rfl, .inl ⟨_, rfl, _, _, rfl, rfl, by show (0:Int) < 2147483647; decide, ?_⟩⟩⟩
      exact ⟨_, _, rfl, e⟩
    · rintro σ H1 ⟨m, x4, rfl, e⟩
      have ee : Ex H H1 := (Ex.new hL).trans e
      refine ⟨_, rfl, _, _, rfl, rfl, ⟨by decide, by decide, by decide⟩, _, _, rfl, rfl, _, rfl, ?_⟩
      have fin : ∀ c : Int, 0 ≤ c → tCons (tOp (rI (fun x j => 0 < j) fun i j => V.int (i % j)) (tCB (fun xs H Q => (∃ i, xs = [V.int i] ∧ Q (V.int i) H) ∨ ∃ k, xs = [V.bl k] ∧ Q (V.int (if k = true then 1 else 0)) H) (tCons (tOp (rI0 fun i j => V.int (i + j)) (tOp (rI0 fun i j => V.int (i + j)) (tVar 3) (tOp (rI CMul fun i j => V.int (i * j)) (tVar 2) (tC (V.int 40692)))) (tOp (rI CMul fun i j => V.int (i * j)) (tC (V.int 977)) (tVar 1))) tNil)) (tC (V.int 2147483629))) (tCons (tC (V.int 0)) tNil) [some (V.ref a), some (V.int t), some (V.int cell), some (V.int m), x4] H1
          fun xs H2 => (V.int c :: xs).length ≤ sizeLine ∧ ∀ p, H2 p = none → Q (.ref p) (upd H2 p (.lst (V.int c :: xs))) := by
        intro c hc
        refine ⟨_, rfl, _, rfl, _, _, rfl, rfl, .inr ⟨by decide, by decide⟩, _, _, rfl, rfl, _, rfl, _, _, rfl, rfl, .inl ⟨by decide, by decide⟩, _, _, rfl, rfl, .inl ⟨_, rfl, _, _, rfl, rfl, by show (0:Int) < 2147483629; decide, by show 3 ≤ sizeLine; decide, fun p hp => ?_⟩⟩
        have z0 := Int.emod_nonneg (m + cell * 40692 + 977 * t) (show (2147483629 : Int) ≠ 0 by decide)
        have z1 := Int.emod_lt_of_pos (m + cell * 40692 + 977 * t) (show (0 : Int) < 2147483629 by decide)
        exact q p _ (ee.free hp) (ee.mut (ee.free hp)) ⟨c, _, 0, upd_same, hc, z0, by omega, by decide, by decide⟩
      by_cases hc : (10 : Int) ^ (18 : Int).toNat ≤ cell
      · rw [decide_eq_true hc]
        exact iteT ⟨_, rfl, fin cell (by omega)⟩
      · rw [decide_eq_false hc]
        exact iteF (fin 0 (by decide))
def spDraw : Sp := fun vs H Q _ => ∃ a many B, vs = [.ref a, .int many] ∧ Spr H a B ∧ B < lot ∧ 0 < many ∧ many < 4503599627370496 ∧ ∀ d H', 0 ≤ d → d < many → Exo [a] H H' → Spr H' a (B + 1) → Q (.int d) H'
abbrev s__law_draw : Stmt := top 43
theorem sc__law_draw : FnScope ["source", "many", "digit", "seed"] ["source", "many"] (defScope s__law_draw) := ⟨rfl, rfl, rfl, by decide +kernel, rfl, by decide +kernel, by decide +kernel⟩
theorem ok__law_draw (T : Txt K mg) (a : At K mg "_law_draw" s__law_draw ["source", "many"]) : Ok P w K mg base CX0 1 "_law_draw" ["source", "many"] spDraw := a.ok fun f fd F => by
  refine F.ok sc__law_draw (fun vs H Q E h => ?_) (fun cdv A outer s H vs Q E hr h => ?_)
  · obtain ⟨a, many, B, rfl, _⟩ := h; rfl
  · obtain ⟨a, many, B, rfl, ⟨c, m, n, ha, h1, h2, h3, h4, h5⟩, hB, hm0, hm1, q⟩ := h
    refine ⟨_, (pss_cons (ps_if (pt_cmpR op_gt (pe_ix (ix_qK (K := K) rfl) (pv 0) pe_int (fun _ _ => rfl)) pe_int (nomark _)) (pss_cons (ps_set (i := 2) sc__law_draw.nd rfl (Or.inl rfl) (pe_op op_mod (pe_callTy call_int1 rfl T.n_int rfl (pa_cons (pe_ix (ix_qK (K := K) rfl) (pv 0) pe_int (fun _ _ => rfl)) pa_nil)) (pv 1)))
      (pss_cons (ps_asg (pe_op op_fdivW (pe_ix (ix_qK (K := K) rfl) (pv 0) pe_int (fun _ _ => rfl)) (pv 1)) (pg_sub (pv 0) pe_int set_list))
      (pss_one (ps_ret (pv 2))))) pss_nil)
      (pss_cons (ps_asg (pe_op op_add (pe_ix (ix_qK (K := K) rfl) (pv 0) pe_int (fun _ _ => rfl)) pe_int) (pg_sub (pv 0) pe_int set_list))
      (pss_cons (ps_set (i := 3) sc__law_draw.nd rfl (Or.inl rfl) (pe_op op_mod (pe_callTy call_int1 rfl T.n_int rfl (pa_cons (pe_op op_add (pe_ix (ix_qK (K := K) rfl) (pv 0) pe_int (fun _ _ => rfl)) (pe_op op_mul pe_int (pe_ix (ix_qK (K := K) rfl) (pv 0) pe_int (fun _ _ => rfl)))) pa_nil)) pe_int))
      (pss_cons (ps_set (i := 3) sc__law_draw.nd rfl (Or.inl rfl) (pe_op op_mod (pe_callTy call_int1 rfl T.n_int rfl (pa_cons (pe_op op_add (pe_op op_pow (pv 3) pe_int) (pe_ix (ix_qK (K := K) rfl) (pv 0) pe_int (fun _ _ => rfl))) pa_nil)) pe_int))
      (pss_one (ps_ret (pe_op op_mod (pe_op op_fdiv (pe_op op_mod (pe_callTy call_int1 rfl T.n_int rfl (pa_cons (pe_op op_add (pe_op op_mul (pv 3) pe_int) (pe_op op_mul pe_int (pe_ix (ix_qK (K := K) rfl) (pv 0) pe_int (fun _ _ => rfl)))) pa_nil)) pe_int) pe_int) (pv 1)))))))), ?_⟩
    have hlot : lot = 1000000000 := rfl
    refine ⟨_, rfl, a, _, 0, _, rfl, rfl, SqQ.l ha, at0, _, _, rfl, rfl, _, rfl, ?_⟩
    by_cases hc : 0 < c
    · rw [decide_eq_true hc]
      refine iteT ?_
      refine ⟨_, rfl, a, _, 0, _, rfl, rfl, SqQ.l ha, at0, .inl ⟨_, rfl, ?_⟩⟩
      refine ⟨_, rfl, _, _, rfl, rfl, hm0, ?_⟩
      refine ⟨_, rfl, a, _, 0, _, rfl, rfl, SqQ.l ha, at0, _, rfl, _, _, rfl, rfl, wide_div (b := 52) hm0 (by have h52 : (2 : Nat) ^ 52 = 4503599627370496 := (by decide); omega) (by decide) (by decide), ?_⟩
      refine ⟨_, rfl, a, _, 0, 0, rfl, rfl, ha, rfl, ?_⟩
      refine ⟨_, rfl, ?_⟩
      refine q _ _ (Int.emod_nonneg _ (by omega)) (Int.emod_lt_of_pos _ hm0) ((Exo.refl _ _).own (by simp)) ?_
      exact ⟨c / many, m, n, upd_same, Int.ediv_nonneg h1 (by omega), h2, h3, h4, by omega⟩
    · rw [decide_eq_false hc]
      refine iteF ?_
      refine ⟨_, rfl, a, _, 2, _, rfl, rfl, SqQ.l ha, at2, _, _, rfl, rfl, ?_⟩
      refine ⟨_, rfl, a, _, 2, 2, rfl, rfl, ha, rfl, ?_⟩
      have ha2 : upd H a (.lst ([V.int c, V.int m, V.int n].set 2 (.int (n + 1)))) a = some (.lst [.int c, .int m, .int (n + 1)]) := upd_same
      refine ⟨_, rfl, a, _, 1, _, rfl, rfl, SqQ.l ha2, at1, _, rfl, a, _, 2, _, rfl, rfl, SqQ.l ha2, at2, _, _, rfl, rfl, .inl ⟨by decide, by decide⟩, _, _, rfl, rfl, .inl ⟨_, rfl, ?_⟩⟩
      refine ⟨_, _, rfl, rfl, by show (0:Int) < 2147483629; decide, ?_⟩
      have y0 := Int.emod_nonneg (m + 15485863 * (n + 1)) (show (2147483629 : Int) ≠ 0 by decide)
      have y1 := Int.emod_lt_of_pos (m + 15485863 * (n + 1)) (show (0 : Int) < 2147483629 by decide)
      refine ⟨_, rfl, _, _, rfl, rfl, ⟨by decide, by decide, by show ((m + 15485863 * (n + 1)) % 2147483629).natAbs < 2 ^ 64; omega⟩, _, rfl, a, _, 2, _, rfl, rfl, SqQ.l ha2, at2, _, _, rfl, rfl, .inl ⟨_, rfl, _, _, rfl, rfl, by show (0:Int) < 2147483647; decide, ?_⟩⟩
      refine ⟨_, rfl, _, _, rfl, rfl, .inr ⟨by decide, by decide⟩, _, rfl, a, _, 2, _, rfl, rfl, SqQ.l ha2, at2, _, _, rfl, rfl, .inl ⟨by decide, by decide⟩, _, _, rfl, rfl, .inl ⟨_, rfl, ?_⟩⟩
      refine ⟨_, _, rfl, rfl, by show (0:Int) < 2147483629; decide, _, _, rfl, rfl, ⟨by decide, by decide⟩, _, rfl, _, _, rfl, rfl, hm0, ?_⟩
      refine q _ _ (Int.emod_nonneg _ (by omega)) (Int.emod_lt_of_pos _ hm0) ((Exo.refl _ _).own (by simp)) ?_
      exact ⟨c, m, n + 1, upd_same, h1, h2, h3, by omega, by omega⟩
def spPick (K : PySem.W.Frag) : Sp := fun vs H Q _ => ∃ a l xs B, vs = [.ref a, .ref l] ∧ Spr H a B ∧ B < lot ∧ l ≠ a ∧ SqQ K H l xs ∧ 0 < xs.length ∧ xs.length < 1000000 ∧ ∀ (i : Nat) y H', xs[i]? = some y → Exo [a] H H' → Spr H' a (B + 1) → Q y H'
abbrev s__law_pick : Stmt := top 44
theorem sc__law_pick : FnScope ["source", "some"] ["source", "some"] (defScope s__law_pick) := ⟨rfl, rfl, rfl, by decide +kernel, rfl, by decide +kernel, by decide +kernel⟩
theorem ok__law_pick (T : Txt K mg) (a : At K mg "_law_pick" s__law_pick ["source", "some"]) (O_law_draw : Ok P w K mg base CX0 1 "_law_draw" ["source", "many"] spDraw) : Ok P w K mg base CX0 2 "_law_pick" ["source", "some"] (spPick K) := a.ok fun f fd F => by
  refine F.ok sc__law_pick (fun vs H Q E h => ?_) (fun cdv A outer s H vs Q E hr h => ?_)
  · obtain ⟨a, l, xs, B, rfl, _⟩ := h; rfl
  · obtain ⟨a, l, xs, B, rfl, hs, hB, hl, hx, h0, h1, q⟩ := h
    refine ⟨_, (pss_one (ps_ret (pe_ix (ix_qK (K := K) rfl) (pv 1) (pe_callO O_law_draw (hr.mono (by first | decide | omega)) rfl (pa_cons (pv 0) (pa_cons (pe_callB (len_qK (K := K) rfl) rfl T.n_len rfl (pa_cons (pv 1) pa_nil)) pa_nil))) (fun _ _ => rfl)))), ?_⟩
    refine ⟨_, rfl, _, rfl, _, rfl, l, xs, rfl, hx, ?_⟩
    refine ⟨a, _, B, rfl, hs, hB, by omega, by omega, fun d H' d0 d1 e s' => ?_⟩
    have hd : d.toNat < xs.length := by omega
    have hg : xs[d.toNat]? = some xs[d.toNat] := List.getElem?_eq_getElem hd
    exact ⟨l, xs, d, _, rfl, rfl, hx.exo e (not1 hl), atZ d0 hg, q _ _ _ hg e s'⟩
theorem seqIx {i : Int} {n : Nat} (h0 : 0 ≤ i) (h1 : i < n) : seqIndex? i n = some i.toNat := by
  unfold seqIndex?
  first
    | (rw [if_pos (by omega)]; done)
    | (simp; omega)
theorem erase_perm {α : Type} : ∀ (l : List α) (k : Nat) (h : k < l.length), (l[k] :: l.eraseIdx k).Perm l
  | x :: l, 0, _ => .refl _
  | x :: l, k + 1, h => by
    have hk : k < l.length := by simpa using h
    have ih := erase_perm l k hk
    rw [List.eraseIdx_cons_succ, List.getElem_cons_succ]
    exact (List.Perm.swap x (l[k]'hk) (l.eraseIdx k)).trans (List.Perm.cons x ih)
def spMixed (K : PySem.W.Frag) : Sp := fun vs H Q _ => ∃ a l xs B, vs = [.ref a, .ref l] ∧ Spr H a B ∧ B + 64 < lot ∧ SqQ K H l xs ∧ xs.length ≤ 63 ∧
  ∀ p ys H', H p = none → Exo [a] H H' → Spr H' a (B + xs.length) → ys.Perm xs → H' p = some (.lst ys) → Q (.ref p) H'
abbrev s__law_mixed : Stmt := top 45
theorem sc__law_mixed : FnScope ["source", "some", "left", "found", "k"] ["source", "some"] (defScope s__law_mixed) := ⟨rfl, rfl, rfl, by decide +kernel, rfl, by decide +kernel, by decide +kernel⟩
theorem ok__law_mixed (T : Txt K mg) (a : At K mg "_law_mixed" s__law_mixed ["source", "some"]) (O_law_draw : Ok P w K mg base CX0 1 "_law_draw" ["source", "many"] spDraw) : Ok P w K mg base CX0 2 "_law_mixed" ["source", "some"] (spMixed K) := a.ok fun f fd F => by
  refine F.ok sc__law_mixed (fun vs H Q E h => ?_) (fun cdv A outer s H vs Q E hr h => ?_)
  · obtain ⟨a, l, xs, B, rfl, _⟩ := h; rfl
  · obtain ⟨a, l, xs, B, rfl, hs, hB, hx, h0, q⟩ := h
    refine ⟨_, (pss_cons (ps_par (i := 2) (j := 3) rfl sc__law_mixed.nd rfl rfl (by decide) rfl rfl (pa_cons (pe_callTy call_list_of rfl T.n_list rfl (pa_cons (pv 1) pa_nil)) (pa_cons (pe_lst pa_nil) pa_nil)) rfl)
      (pss_cons (ps_for PassesOwn.never rfl (pi_range1 rfl T.n_range (pa_cons (pe_callB (len_qK (K := K) rfl) rfl T.n_len rfl (pa_cons (pv 1) pa_nil)) pa_nil)) (pg_name (i := 4) sc__law_mixed.nd rfl (Or.inl rfl)) (pss_one (ps_expr (pe_bmK (K := K) rfl (pe_bm PySem.F.plainAttrs_list PySem.F.slot_list_append PySem.F.type_list_append mt_append (pv 3) (pa_cons (pe_bmK (K := K) rfl (pe_bm PySem.F.plainAttrs_list PySem.F.slot_list_pop PySem.F.type_list_pop mt_popAt (pv 2) (pa_cons (pe_callO O_law_draw (hr.mono (by first | decide | omega)) rfl (pa_cons (pv 0) (pa_cons (pe_callB (len_qK (K := K) rfl) rfl T.n_len rfl (pa_cons (pv 2) pa_nil)) pa_nil))) pa_nil))) pa_nil))))))
      (pss_one (ps_ret (pv 3))))), ?_⟩
    refine ⟨_, rfl, l, xs, rfl, hx, fun L hL => ?_⟩
    have hla : upd H L (.lst xs) L = some (.lst xs) := upd_same
    have nLa : L ≠ a := fun z => hs.ne (z ▸ hL)
    have e1 : Ex H (upd H L (.lst xs)) := Ex.new hL
    generalize upd H L (.lst xs) = H1 at hla e1
    refine ⟨by show 0 ≤ sizeLine; exact Nat.zero_le _, fun D hD => ⟨_, _, rfl, ?_⟩⟩
    have nDa : D ≠ a := fun z => (hs.ex e1).ne (z ▸ hD)
    have nLD : L ≠ D := ne_of_none hla hD
    have sl : (1000000 : Nat) < sizeLine := by rw [sizeLine_eq]; decide
    have sgrow : ∀ {H' : Hp} {b : Addr} {o : HO}, b ≠ a → H b = none → Exo [a] H H' → Exo [a] H (upd H' b o) := fun nb fb e c u hc hu => by rw [upd_ne (ne_of_none hu fb)]; exact e c u hc hu
    dsimp only [tSeq]
    refine tFor_of ⟨_, rfl, l, xs, rfl, (hx.exo (e1.exo []) (by simp)).exo ((Ex.new hD).exo []) (by simp), _, rfl, by omega, by omega, ?_⟩
    rw [show ((xs.length : Nat) : Int).toNat = xs.length by omega]
    refine for_itB walk_range (fun i σ H' => (∃ z, σ = [some (.ref a), some (.ref l), some (.ref L), some (.ref D), z]) ∧ Exo [a] H H' ∧ Spr H' a (B + i) ∧ ∃ acc rest, H' L = some (.lst rest) ∧ H' D = some (.lst acc) ∧ rest.length + i = xs.length ∧ acc.length = i ∧ (acc ++ rest).Perm xs) ⟨⟨_, rfl⟩, (e1.mut (e1.free hD)).exo _, (hs.ex e1).ex (Ex.new hD), [], xs, by rw [upd_ne nLD]; exact hla, upd_same, by omega, rfl, .refl _⟩ (fun _ _ _ _ _ => trivial) ?_ ?_
    · rintro i x σ H2 H2' hi ⟨⟨z, rfl⟩, e, s2, acc, rest, hr, hDH, hl, hacc, hp⟩ ⟨rfl, rfl⟩
      refine ⟨_, rfl, .inl ⟨rfl, _, SqL.of hDH⟩, _, rfl, .inl ⟨rfl, _, SqL.of hr⟩, _, rfl, _, rfl, L, rest, rfl, SqQ.l hr, ?_⟩
      refine ⟨a, _, B + i, rfl, s2, by omega, by omega, by omega, fun d H3 d0 d1 e3 s3 => ?_⟩
      have hr3 : H3 L = some (.lst rest) := e3 _ _ (not1 nLa) hr
      have hD3 : H3 D = some (.lst acc) := e3 _ _ (not1 nDa) hDH
      have hd : d.toNat < rest.length := by omega
      have hg : rest[d.toNat]? = some rest[d.toNat] := List.getElem?_eq_getElem hd
      refine ⟨L, rest, d, d.toNat, _, rfl, rfl, hr3, by omega, by omega, seqIx d0 d1, hg, ?_⟩
      refine ⟨D, acc, _, rfl, rfl, by rw [upd_ne nLD.symm]; exact hD3, by omega, ?_⟩
      refine ⟨⟨_, rfl⟩, sgrow nDa (e1.free hD) (sgrow nLa hL (e.trans e3)), ?_, acc ++ [rest[d.toNat]], rest.eraseIdx d.toNat, ?_, upd_same, ?_, by rw [List.length_append]; simp; omega, ?_⟩
      · exact ((s3.mono (by omega)).at (upd_ne nLa.symm)).at (upd_ne nDa.symm)
      · rw [upd_ne nLD, upd_same]
      · rw [List.length_eraseIdx_of_lt hd]; omega
      · refine List.Perm.trans ?_ hp
        rw [List.append_assoc]
        exact List.Perm.append_left acc (erase_perm rest _ hd)
    · rintro σ H2 ⟨⟨z, rfl⟩, e, s2, acc, rest, hr, hDH, hl, hacc, hp⟩
      have : rest = [] := List.eq_nil_of_length_eq_zero (by omega)
      rw [this, List.append_nil] at hp
      exact ⟨_, rfl, q D acc H2 (e1.free hD) e s2 hp hDH⟩
end
end K8

set_option Elab.async false
set_option linter.all false
set_option maxRecDepth 100000
set_option maxHeartbeats 4000000
namespace K8
open PySem PySem.Spec PyProof.Rows L2 M8
/-! things put in place, things made longer -/
def rDUpd : V → List V → Hp → VK → Prop := fun x vs H Q => ∃ (a b : Addr) (kvs : List (Key × V)), x = .ref a ∧ vs = [.ref b] ∧ a ≠ b ∧ H a = some (.dK []) ∧ H b = some (.dK kvs) ∧ (kvs.map (·.1)).Nodup ∧ Q .non (upd H a (.dK kvs))
theorem mtd_update {X : Cx} : MtR X "dict.update" rDUpd := by
  intro pins s σ H x vs v us Q I rx rv h
  obtain ⟨a, b, kvs, ex, ev, hab, ha, hb, hnd, q⟩ := h
  subst ex
  subst ev
  obtain rfl : v = Value.ref a := rx
  obtain ⟨u, rfl, ru⟩ := rv.one
  obtain rfl : u = Value.ref b := ru
  obtain ⟨za, hda, vsa, rela, dda⟩ := dk_of I.hok ha
  obtain ⟨zb, hdb, vsb, relb, ddb⟩ := dk_of I.hok hb
  have h0 : vsa = [] := by have := rela.length; cases vsa with | nil => rfl | cons _ _ => cases this
  subst h0
  refine call_meetsIn PySem.F.slot_dict_update dda.typeIs PySem.F.entry_dict_update (PySem.F.args_dict_update_2 _ _) (meets_dict_update (mixKind X.prog X.w) a b hab hdb) ⟨[], vsb, dda, ddb, ?_, fun h' dd' _ hs => ?_⟩
  · rw [List.length_nil, Nat.zero_add, ← relb.length]; exact zb
  · rw [merged_nil_of_nodup vsb (by rw [← relb.keys]; exact hnd)] at dd'
    have he : ∃ q, h'.get? a = some q := let ⟨q, _, _, hq, _⟩ := dd'; ⟨q, hq⟩
    exact ⟨.non, _, d_write (t' := s.toks) I (by rw [ha]; exact True.intro) hs he (dk_new zb hda relb dd'), rfl, q⟩
section
variable {X : Cx} {o e : Expr} {es : List Expr} {to : TE} {t : TA} {apos cpos : Pos} {K : PySem.W.Frag}
theorem pe_dclearK (hK : X.K = K) (ho : PE X o to) (hbase : attributeBase o "clear" X.env (eval o X.env) = eval o X.env := by rfl) (hline : (apos.endLine == cpos.line) = true := by rfl) : PE X (.Call (.Attribute o "clear" apos) [] [] cpos) (tBM0 K "dict" rDClear to) := hK ▸ pe_dclear ho hbase hline
theorem pe_lclearK (hK : X.K = K) (ho : PE X o to) (hbase : attributeBase o "clear" X.env (eval o X.env) = eval o X.env := by rfl) (hline : (apos.endLine == cpos.line) = true := by rfl) : PE X (.Call (.Attribute o "clear" apos) [] [] cpos) (tBM0 K "list" rClear to) := hK ▸ pe_bm0 PySem.F.plainAttrs_list PySem.F.slot_list_clear PySem.F.type_list_clear mt_clear ho hbase hline
theorem pe_dupdK (hK : X.K = K) (ho : PE X o to) (ha : PA X [e] t) (hbase : attributeBase o "update" X.env (eval o X.env) = eval o X.env := by rfl)
    (hfew : ((backTo cpos (starEach [e] X.env)).all (fun x => !x.1) && (backToKw cpos (keywordEach [] X.env)).all (fun x => x.1.isSome)
      && decide (([e] : List Expr).length + ([] : List Keyword).length + (if ([] : List Keyword).isEmpty then 0 else 1) < 30)) = true := by rfl)
    (hline : (apos.endLine == cpos.line) = true := by rfl) (hs : starEach [e] X.env = (false, eval e X.env) :: starEach [] X.env := by rfl) (hplain : (backTo cpos (starEach [] X.env)).any (·.1) = false := by rfl) :
    PE X (.Call (.Attribute o "update" apos) [e] [] cpos) (tBM K "dict" rDUpd to t) := hK ▸ pe_bm PySem.F.plainAttrs_dict PySem.F.slot_dict_update PySem.F.type_dict_update mtd_update ho ha hbase hfew hline hs hplain
end
section
variable {P : Program} {w : World} {K : PySem.W.Frag} {mg : Str → Option Value} {base : Heap}
def spPut : Sp := fun vs H Q _ => ∃ a b, vs = [.ref a, .ref b] ∧ a ≠ b ∧
  ((∃ xs ys, H a = some (.lst xs) ∧ H b = some (.lst ys) ∧ ys.length ≤ 1000 ∧ Q (.ref a) (upd H a (.lst ys))) ∨
   (∃ kvs kws, H a = some (.dK kvs) ∧ H b = some (.dK kws) ∧ (kws.map (·.1)).Nodup ∧ Q (.ref a) (upd H a (.dK kws))))
abbrev s__law_q_put : Stmt := top 47
theorem sc__law_q_put : FnScope ["held", "other"] ["held", "other"] (defScope s__law_q_put) := ⟨rfl, rfl, rfl, by decide +kernel, rfl, by decide +kernel, by decide +kernel⟩
theorem ok__law_q_put (T : Txt K mg) (a : At K mg "_law_q_put" s__law_q_put ["held", "other"]) : Ok P w K mg base CX0 1 "_law_q_put" ["held", "other"] spPut := a.ok fun f fd F => by
  refine F.ok sc__law_q_put (fun vs H Q E h => ?_) (fun cdv A outer s H vs Q E hr h => ?_)
  · obtain ⟨a, b, rfl, _⟩ := h; rfl
  · obtain ⟨a, b, rfl, hab, h⟩ := h
    rcases h with ⟨xs, ys, ha, hb, hl, q⟩ | ⟨kvs, kws, ha, hb, hnd, q⟩
    · refine ⟨_, (pss_cons (ps_expr (pe_lclearK (K := K) rfl (pv 0)))
      (pss_cons (ps_if (pt_val (pe_callB call_isiD rfl T.n_isinstance rfl (pa_cons (pv 0) (pa_cons (pe_tyN (n := "dict") rfl T.n_dict rfl) pa_nil)))) (pss_one (ps_expr (pe_dupdK (K := K) rfl (pv 0) (pa_cons (pv 1) pa_nil)))) (pss_one (ps_expr (pe_bmK (K := K) rfl (pe_bm PySem.F.plainAttrs_list PySem.F.slot_list_extend PySem.F.type_list_extend mt_extend (pv 0) (pa_cons (pv 1) pa_nil))))))
      (pss_one (ps_ret (pv 0))))), ?_⟩
      refine ⟨_, rfl, .inl ⟨rfl, _, SqL.of ha⟩, a, xs, rfl, rfl, ha, ?_⟩
      refine ⟨_, rfl, .ref a, "dict", .lst [], _, rfl, .lst upd_same .nil, kit_dct _, _, rfl, ?_⟩
      refine iteF ⟨_, rfl, .inl ⟨rfl, _, SqL.of upd_same⟩, _, rfl, a, b, [], ys, rfl, rfl, upd_same, by rw [upd_ne (Ne.symm hab)]; exact hb, by rw [sizeLine_eq]; simp; omega, ?_⟩
      refine ⟨_, rfl, ?_⟩
      have e : upd (upd H a (.lst [])) a (.lst ([] ++ ys)) = upd H a (.lst ys) := by funext c; by_cases h : c = a <;> simp [upd, h]
      rw [e]
      exact q
    · refine ⟨_, (pss_cons (ps_expr (pe_dclearK (K := K) rfl (pv 0)))
      (pss_cons (ps_if (pt_val (pe_callB call_isiD rfl T.n_isinstance rfl (pa_cons (pv 0) (pa_cons (pe_tyN (n := "dict") rfl T.n_dict rfl) pa_nil)))) (pss_one (ps_expr (pe_dupdK (K := K) rfl (pv 0) (pa_cons (pv 1) pa_nil)))) (pss_one (ps_expr (pe_bmK (K := K) rfl (pe_bm PySem.F.plainAttrs_list PySem.F.slot_list_extend PySem.F.type_list_extend mt_extend (pv 0) (pa_cons (pv 1) pa_nil))))))
      (pss_one (ps_ret (pv 0))))), ?_⟩
      refine ⟨_, rfl, .inr (.inr (.inl ⟨rfl, .inl ⟨_, ha⟩⟩)), a, kvs, rfl, rfl, ha, ?_⟩
      refine ⟨_, rfl, .ref a, "dict", .dct [], _, rfl, .dct upd_same .nil, kit_dct _, _, rfl, ?_⟩
      refine iteT ⟨_, rfl, .inr (.inr (.inl ⟨rfl, .inl ⟨_, upd_same⟩⟩)), _, rfl, a, b, kws, rfl, rfl, hab, upd_same, by rw [upd_ne (Ne.symm hab)]; exact hb, hnd, ?_⟩
      refine ⟨_, rfl, ?_⟩
      have e : upd (upd H a (.dK [])) a (.dK kws) = upd H a (.dK kws) := by funext c; by_cases h : c = a <;> simp [upd, h]
      rw [e]
      exact q
def unS : V → Str | .str z => z | _ => ""
theorem perm_strs {ys : List V} {ts : List Str} (h : ys.Perm (ts.map V.str)) : ∃ us : List Str, ys = us.map V.str ∧ us.Perm ts := by
  refine ⟨ys.map unS, ?_, ?_⟩
  · rw [List.map_map]
    have : ∀ y ∈ ys, (V.str ∘ unS) y = y := fun y hy => by
      obtain ⟨n, _, rfl⟩ := List.mem_map.mp (h.mem_iff.mp hy); rfl
    rw [List.map_congr_left this, List.map_id']
  · have := h.map unS
    rwa [List.map_map, show (unS ∘ V.str) = id from rfl, List.map_id] at this
theorem cut_first {xs : List V} {m : Int} (h0 : 0 ≤ m) : cutV xs none (some m) = xs.take m.toNat := by
  unfold cutV
  have e : m = ((m.toNat : Nat) : Int) := by omega
  rw [e, HT.sIx_nat, show HT.sIx xs.length 0 none = 0 from rfl]
  simp
  omega
def pool : List Str := ["a", "b", "x", "y", "k1", "z9", "eight8xx", "m", "q", "ofs", "nota", "w7"]
theorem Exo.new {S : List Addr} {H : Hp} {p : Addr} {o : HO} (h : H p = none) : Exo S H (upd H p o) := (Ex.new h).exo S
def spQNames : Sp := fun vs H Q _ => ∃ a many B, vs = [.ref a, .int many] ∧ Spr H a B ∧ B + 100 < lot ∧ 0 ≤ many ∧ many ≤ 12 ∧ ∀ (p : Addr) (ns : List Str) H', H p = none → Exo [a] H H' → Spr H' a (B + 12) → (ns.length : Int) = many → ns.Nodup → (∀ n ∈ ns, n ∈ pool) → H' p = some (.lst (ns.map V.str)) → Q (.ref p) H'
abbrev s__law_q_names : Stmt := top 48
theorem sc__law_q_names : FnScope ["source", "many"] ["source", "many"] (defScope s__law_q_names) := ⟨rfl, rfl, rfl, by decide +kernel, rfl, by decide +kernel, by decide +kernel⟩
theorem ok__law_q_names (T : Txt K mg) (a : At K mg "_law_q_names" s__law_q_names ["source", "many"]) (O_law_mixed : Ok P w K mg base CX0 2 "_law_mixed" ["source", "some"] (spMixed K)) : Ok P w K mg base CX0 3 "_law_q_names" ["source", "many"] spQNames := a.ok fun f fd F => by
  refine F.ok sc__law_q_names (fun vs H Q E h => ?_) (fun cdv A outer s H vs Q E hr h => ?_)
  · obtain ⟨a, many, B, rfl, _⟩ := h; rfl
  · obtain ⟨a, many, B, rfl, hs, hB, m0, m1, q⟩ := h
    refine ⟨_, (pss_one (ps_ret (pe_slice sl_list (pe_callO O_law_mixed (hr.mono (by first | decide | omega)) rfl (pa_cons (pv 0) (pa_cons (pe_lst (pa_cons pe_str (pa_cons pe_str (pa_cons pe_str (pa_cons pe_str (pa_cons pe_str (pa_cons pe_str (pa_cons pe_str (pa_cons pe_str (pa_cons pe_str (pa_cons pe_str (pa_cons pe_str (pa_cons pe_str pa_nil))))))))))))) pa_nil))) po_none (po_some (pv 1))))), ?_⟩
    refine ⟨_, rfl, by show 12 ≤ sizeLine; decide, fun l hl => ?_⟩
    have e1 : Ex H (upd H l (.lst (pool.map V.str))) := Ex.new hl
    have hl1 : (upd H l (.lst (pool.map V.str))) l = some (.lst (pool.map V.str)) := upd_same
    refine ⟨a, l, pool.map V.str, B, rfl, hs.ex e1, by omega, SqQ.l hl1, by decide, fun p ys H2 hp e2 s2 perm h2 => ?_⟩
    obtain ⟨zs, rfl, pz⟩ := perm_strs perm
    refine ⟨_, rfl, _, rfl, p, _, rfl, SqL.of h2, fun p2 hp2 => ?_⟩
    have n2a : p2 ≠ a := fun z => s2.ne (z ▸ hp2)
    have e02 : Exo [a] H H2 := (e1.exo _).trans e2
    have zl : zs.length = 12 := pz.length_eq
    have znd : zs.Nodup := pz.nodup_iff.mpr (by decide +kernel)
    rw [cut_first m0]
    refine q p2 (zs.take many.toNat) _ (e02.free (not1 n2a) hp2) (e02.mut (e02.free (not1 n2a) hp2)) ((s2.mono (by simp [pool])).at (upd_ne n2a.symm)) ?_ (znd.sublist (List.take_sublist _ _)) (fun n hn => pz.mem_iff.mp (List.mem_of_mem_take hn)) ?_
    · rw [List.length_take]; omega
    · rw [upd_same, List.map_take]
def spQTerm : Sp := fun vs H Q _ => ∃ a l ns top far B, vs = [.ref a, .ref l, .int top, .int far] ∧ Spr H a B ∧ B + 100 < lot ∧ l ≠ a ∧ H l = some (.lst ((ns : List Str).map V.str)) ∧ ns.Nodup ∧ ns.length ≤ 12 ∧ 0 ≤ top ∧ top ≤ 100 ∧ 0 ≤ far ∧ far ≤ 10000000 ∧
  ∀ t d c k H', H t = none → H d = none → Exo [a] H H' → Spr H' a (B + 30) → PairT H' t d c k → Told c → (∀ p ∈ c, p.1 ∈ ns ∧ p.2.natAbs ≤ top.toNat) → c.length ≤ 12 → k.natAbs ≤ far.toNat → Q (.ref t) H'
abbrev s__law_q_term : Stmt := top 49
theorem sc__law_q_term : FnScope ["source", "names", "top", "far", "found", "name", "number"] ["source", "names", "top", "far"] (defScope s__law_q_term) := ⟨rfl, rfl, rfl, by decide +kernel, rfl, by decide +kernel, by decide +kernel⟩
theorem ok__law_q_term (T : Txt K mg) (a : At K mg "_law_q_term" s__law_q_term ["source", "names", "top", "far"]) (O_law_draw : Ok P w K mg base CX0 1 "_law_draw" ["source", "many"] spDraw) : Ok P w K mg base CX0 2 "_law_q_term" ["source", "names", "top", "far"] spQTerm := a.ok fun f fd F => by
  refine F.ok sc__law_q_term (fun vs H Q E h => ?_) (fun cdv A outer s H vs Q E hr h => ?_)
  · obtain ⟨a, l, ns, top, far, B, rfl, _⟩ := h; rfl
  · obtain ⟨a, l, ns, top, far, B, rfl, hs, hB, hla, hl, nd, nl, t0, t1, f0, f1, q⟩ := h
    refine ⟨_, (pss_cons (ps_set (i := 4) sc__law_q_term.nd rfl (Or.inl rfl) pe_dnewK)
      (pss_cons (ps_for PassesOwn.never rfl (pi_list (pe_callB cr_sortedS rfl T.n_sorted rfl (pa_cons (pv 1) pa_nil))) (pg_name (i := 5) sc__law_q_term.nd rfl (Or.inl rfl)) (pss_cons (ps_set (i := 6) sc__law_q_term.nd rfl (Or.inl rfl) (pe_ifExp (pt_cmpR op_gt (pe_callO O_law_draw (hr.mono (by first | decide | omega)) rfl (pa_cons (pv 0) (pa_cons pe_int pa_nil))) pe_int (nomark _)) (pe_op op_sub (pe_callO O_law_draw (hr.mono (by first | decide | omega)) rfl (pa_cons (pv 0) (pa_cons (pe_op op_add (pe_op op_mul pe_int (pv 2)) pe_int) pa_nil))) (pv 2)) pe_int))
      (pss_one (ps_if (pt_cmpR op_ne (pv 6) pe_int (nomark _)) (pss_one (ps_dput (hu_of hr) (pv 4) (pv 5) (pv 6) rfl)) pss_nil))))
      (pss_one (ps_ret (pe_tup (pa_cons (pv 4) (pa_cons (pe_op op_sub (pe_callO O_law_draw (hr.mono (by first | decide | omega)) rfl (pa_cons (pv 0) (pa_cons (pe_op op_add (pe_op op_mul pe_int (pv 3)) pe_int) pa_nil))) (pv 3)) pa_nil))))))), ?_⟩
    intro D hD
    have e1 : Ex H (upd H D (.dK [])) := Ex.new hD
    have hD1 : (upd H D (.dK [])) D = some (.dK []) := upd_same
    have nDa : D ≠ a := fun z => hs.ne (z ▸ hD)
    generalize upd H D (.dK []) = H1 at e1 hD1
    dsimp only [gName, tSeq]
    refine tFor_of ?_
    refine ⟨_, rfl, l, ns, rfl, SqL.of (e1 _ _ hl), by omega, fun ys p hp hst hpn => ?_⟩
    have e2 : Ex H1 (upd H1 p (.lst (ys.map V.str))) := Ex.new hpn
    have hp2 : (upd H1 p (.lst (ys.map V.str))) p = some (.lst (ys.map V.str)) := upd_same
    have npa : p ≠ a := fun z => (hs.ex e1).ne (z ▸ hpn)
    have npD : p ≠ D := fun z => by rw [z, hD1] at hpn; cases hpn
    generalize upd H1 p (.lst (ys.map V.str)) = H2 at e2 hp2
    have ynd : ys.Nodup := hp.nodup_iff.mpr nd
    have yl : ys.length ≤ 12 := by rw [hp.length_eq]; exact nl
    have e02 : Ex H H2 := e1.trans e2
    have ypw : ys.Pairwise leS := sorted_pw hst
    let Pv : Nat → L2.St → Hp → Prop := fun i σ H' => (∃ z1 z2, σ = [some (.ref a), some (.ref l), some (.int top), some (.int far), some (.ref D), z1, z2]) ∧ Exo [a] H H' ∧ Spr H' a (B + 2 * i) ∧ H' p = some (.lst (ys.map V.str)) ∧ ∃ c, H' D = some (.dK (cK c)) ∧ (keys c).Sublist (ys.take i) ∧ ∀ q ∈ c, q.2 ≠ 0 ∧ q.2.natAbs ≤ top.toNat
    dsimp only [tVar]
    refine ⟨p, rfl, ⟨_, SqL.of hp2⟩, ?_⟩
    refine for_itB (walk_list (xs := ys.map V.str)) Pv ⟨⟨_, _, rfl⟩, e02.exo _, (hs.ex e02).mono (by omega), hp2, [], e2 _ _ hD1, by simp [keys], by simp⟩ (fun i σ H' _ h => SqL.of h.2.2.2.1) ?_ ?_
    · rintro i x σ H3 H3' iN ⟨⟨z1, z2, rfl⟩, e3, s3, hp3, c, hD3, sub, hc⟩ ⟨rfl, hx⟩
      rw [List.getElem?_map] at hx
      rw [List.length_map] at iN
      obtain ⟨n, hn⟩ : ∃ n, ys[i]? = some n := ⟨ys[i], List.getElem?_eq_getElem iN⟩
      rw [hn] at hx
      cases hx
      have hpa := hp3
      have cont : ∀ (num : Int) (H4 : Hp) (En : Ends), En.nx = Pv (i + 1) → Exo [a] H3' H4 → Spr H4 a (B + 2 * i + 2) → num.natAbs ≤ top.toNat →
          tIfS (tTest (tOp rNe (tVar 6) (tC (V.int 0)))) (sDPut (tVar 4) (tVar 5) (tVar 6)) tNext En [some (.ref a), some (.ref l), some (.int top), some (.int far), some (.ref D), some (.str n), some (.int num)] H4 := by
        intro num H4 En hEn e4 s4 hnum
        have hD4 := e4.at1 nDa hD3
        have hp4 := e4.at1 npa hp3
        have htk : ys.take (i + 1) = ys.take i ++ [n] := by rw [List.take_add_one, hn]; rfl
        refine ⟨_, rfl, rfl, _, rfl, ?_⟩
        show (if (!decide (V.int num = V.int 0)) = true then _ else _)
        rw [dec_int0]
        by_cases h0 : num = 0
        · rw [decide_eq_true h0]
          refine iteF ?_
          show En.nx _ H4
          rw [hEn]
          exact ⟨⟨_, _, rfl⟩, e3.trans e4, s4.mono (by omega), hp4, c, hD4, by rw [htk]; exact sub.trans (List.sublist_append_left _ _), hc⟩
        · rw [decide_eq_false h0]
          have nk : n ∉ keys c := fun z => by
            have h1 := sub.subset z
            have h2 : (ys.take i ++ [n]).Nodup := by rw [← htk]; exact ynd.sublist (List.take_sublist _ _)
            rw [List.nodup_append] at h2
            exact h2.2.2 n h1 n (by simp) rfl
          have cl : c.length ≤ 12 := by
            have h1 := sub.length_le
            have h2 : (ys.take i).length ≤ ys.length := by rw [List.length_take]; omega
            unfold keys at h1
            rw [List.length_map] at h1
            omega
          refine iteT ⟨_, rfl, _, rfl, _, rfl, D, _, rfl, .inl ⟨cK c, .inr n, hD4, rfl, by rw [cK_len, sizeLine_eq]; omega, rfl⟩, ?_⟩
          have ek : putK (cK c) (.inr n) (.int num) = cK (c ++ [(n, num)]) := by
            rw [cK_app, putK_new fun z => ?_]; rfl
            unfold cK at z
            rw [List.map_map] at z
            obtain ⟨q, hq, e⟩ := List.mem_map.mp z
            exact nk (List.mem_map.mpr ⟨q, hq, Sum.inr.inj e⟩)
          rw [ek]
          show En.nx _ _
          rw [hEn]
          have e5 : Exo [a] H (upd H4 D (.dK (cK (c ++ [(n, num)])))) := fun b o nb hb => by
            rw [upd_ne (ne_of_none hb hD)]
            exact (e3.trans e4) b o nb hb
          refine ⟨⟨_, _, rfl⟩, e5, (s4.mono (by omega)).at (upd_ne nDa.symm), by rw [upd_ne npD]; exact hp4, c ++ [(n, num)], upd_same, ?_, ?_⟩
          · rw [htk, keys_app]; exact sub.append (.refl _)
          · intro q hq
            rcases List.mem_append.mp hq with hq | hq
            · exact hc q hq
            · rw [List.mem_singleton.mp hq]; exact ⟨h0, hnum⟩
      refine ⟨_, rfl, a, 3, B + 2 * i, rfl, s3, by omega, by decide, by decide, fun d H4 d0 d1 e4 s4 => ⟨_, _, rfl, rfl, _, rfl, ?_⟩⟩
      by_cases hd : 0 < d
      · rw [decide_eq_true hd]
        refine iteT ⟨_, rfl, _, rfl, _, _, rfl, rfl, .inl ⟨by decide, by decide⟩, _, _, rfl, rfl, a, _, _, rfl, s4, by omega, by omega, by omega, fun d2 H5 g0 g1 e5 s5 => ⟨_, rfl, _, _, rfl, rfl, ?_⟩⟩
        exact cont _ _ _ rfl (e4.trans e5) (s5.mono (by omega)) (by omega)
      · rw [decide_eq_false hd]
        exact iteF (cont 0 H4 _ rfl e4 (s4.mono (by omega)) (by omega))
    · rintro σ H3 ⟨⟨z1, z2, rfl⟩, e3, s3, hp3, c, hD3, sub, hc⟩
      rw [List.length_map, List.take_of_length_le (by omega)] at sub
      rw [List.length_map] at s3
      refine ⟨_, rfl, _, rfl, _, rfl, _, _, rfl, rfl, .inl ⟨by decide, by decide⟩, _, _, rfl, rfl, a, _, _, rfl, s3, by omega, by omega, by omega, fun d2 H5 g0 g1 e5 s5 => ⟨_, rfl, _, _, rfl, rfl, by show 2 ≤ sizeLine; decide, fun t ht => ?_⟩⟩
      have nta : t ≠ a := fun z => s5.ne (z ▸ ht)
      have e05 := e3.trans e5
      have cl : c.length ≤ 12 := by
        have h1 := sub.length_le
        unfold keys at h1
        rw [List.length_map] at h1
        omega
      have hD5 := e5.at1 nDa hD3
      exact q t D c (d2 - far) _ (e05.free (not1 nta) ht) hD (e05.mut (e05.free (not1 nta) ht)) ((s5.mono (by omega)).at (upd_ne nta.symm)) ⟨upd_same, by rw [upd_ne (ne_of_none hD5 ht)]; exact hD5⟩ ⟨ypw.sublist sub, ynd.sublist sub, fun q hq => (hc q hq).1⟩ (fun q hq => ⟨hp.mem_iff.mp (sub.subset (List.mem_map.mpr ⟨q, hq, rfl⟩)), (hc q hq).2⟩) cl (by omega)
end
end K8

set_option Elab.async false
set_option linter.all false
set_option maxRecDepth 100000
set_option maxHeartbeats 4000000
namespace K8
open PySem PySem.Spec PyProof.Rows L2 M8
/-! the law hands a thing over -/
def nought : Str := "nought"
def HcR (c c' : Coef) : Prop := c'.Perm c ∨ c'.Perm (c ++ [(nought, (0 : Int))])
def Hd0 (d d' : Dat) : Prop := match d with
  | .dct _ => ∃ c c', d = .dct (cD c) ∧ d' = .dct (cD c') ∧ HcR c c'
  | _ => d' = d
def HdS (R : Dat → Dat → Prop) (d d' : Dat) : Prop := match d with
  | .lst ds => isSq d' = true ∧ Pair2 R ds (items d')
  | .tup ds => isSq d' = true ∧ Pair2 R ds (items d')
  | d => Hd0 d d'
def Pr0 : Dat → Prop
  | .dct kds => ∃ c, kds = cD c ∧ c.length ≤ 12 ∧ (keys c).Nodup ∧ nought ∉ keys c
  | .lst _ => False | .tup _ => False | .fn _ => False
  | _ => True
def PrS (G : Dat → Prop) : Dat → Prop
  | .lst ds => ds.length ≤ 8 ∧ ∀ d ∈ ds, G d
  | .tup ds => ds.length ≤ 8 ∧ ∀ d ∈ ds, G d
  | d => Pr0 d
theorem get_cK' {c : Coef} {i : Nat} {k : Key} {v : V} (h : (cK c)[i]? = some (k, v)) : ∃ n z, c[i]? = some (n, z) ∧ k = .inr n ∧ v = .int z := by
  unfold cK at h
  rw [List.getElem?_map] at h
  cases hc : c[i]? with
  | none => rw [hc] at h; cases h
  | some p => rw [hc] at h; cases h; exact ⟨p.1, p.2, rfl, rfl, rfl⟩
/-- some of a dict's pairs in another order -/
theorem map_co_perm {c : Coef} {us : List Str} (nd : (keys c).Nodup) (h : us.Perm (keys c)) : (us.map fun n => (n, co c n)).Perm c := by
  have h1 := h.map fun n => (n, co c n)
  have h2 : ((keys c).map fun n => (n, co c n)) = c := by
    unfold keys
    rw [List.map_map]
    conv => rhs; rw [← List.map_id c]
    exact List.map_congr_left fun p hp => by
      show (p.1, co c p.1) = p
      rw [co_of_mem (n := p.1) (i := p.2) nd hp]
  rwa [h2] at h1
theorem dp_of {K : PySem.W.Frag} {wi : TI} {g : TG} {tt : TT} {te : TE} {vs : List Nat} {σ : L2.St} {H : Hp} {Q : VK} (h : wi σ H (LcB g tt te vs σ fun x H1 => rDictC K [x] H1 Q)) : tCB (rDictC K) (tCons (tLc wi g tt te vs) tNil) σ H Q := h
def spHand (K : PySem.W.Frag) (b : Nat) (G : Dat → Prop) (R : Dat → Dat → Prop) : Sp := fun vs H Q _ => ∃ a v d B N, vs = [.ref a, v] ∧ Spr H a B ∧ B + b + 100 < lot ∧ a ∈ N ∧ (∀ b ∈ N, H b ≠ none) ∧ SeeF K (sansL N H) v d ∧ G d ∧
  ∀ v' d' H', Exo [a] H H' → Spr H' a (B + b) → SeeF K (sansL N H') v' d' → R d d' → Q v' H'
section
variable {P : Program} {w : World} {K : PySem.W.Frag} {mg : Str → Option Value} {base : Heap}
abbrev s__law_q_handed : Stmt := top 50
theorem sc__law_q_handed : FnScope ["source", "thing", "found", "name", "part"] ["source", "thing"] (defScope s__law_q_handed) := ⟨rfl, rfl, rfl, by decide +kernel, rfl, by decide +kernel, by decide +kernel⟩
theorem ok_hand_step (T : Txt K mg) (a : At K mg "_law_q_handed" s__law_q_handed ["source", "thing"]) (O_law_draw : Ok P w K mg base CX0 1 "_law_draw" ["source", "many"] spDraw) (O_law_mixed : Ok P w K mg base CX0 2 "_law_mixed" ["source", "some"] (spMixed K)) {k b : Nat} {G : Dat → Prop} {R : Dat → Dat → Prop} (O_law_q_handed : Ok P w K mg base CX0 (k+2) "_law_q_handed" ["source", "thing"] (spHand K b G R)) : Ok P w K mg base CX0 (k+3) "_law_q_handed" ["source", "thing"] (spHand K (8 * b + 20) (PrS G) (HdS R)) := a.ok fun f fd F => by
  refine F.ok sc__law_q_handed (fun vs H Q E h => ?_) (fun cdv A outer s H vs Q E hr h => ?_)
  · obtain ⟨a, v, d, B, N, rfl, _⟩ := h; rfl
  · obtain ⟨a, v, d, B, N, rfl, hs, hB, haN, hN, hv, hg, q⟩ := h
    refine ⟨_, (pss_cons (ps_if (pt_val (pe_callB call_isiD rfl T.n_isinstance rfl (pa_cons (pv 1) (pa_cons (pe_tyN (n := "dict") rfl T.n_dict rfl) pa_nil)))) (pss_cons (ps_set (i := 2) sc__law_q_handed.nd rfl (Or.inl rfl) (pe_callTy (call_dictC (K := K) rfl rfl) rfl T.n_dict rfl (pa_cons (pe_lc (own := [("name", 3)]) (g := gName 3) (tt := tYes) rfl sc__law_q_handed.nd (pi_list (pe_callO O_law_mixed (hr.mono (by first | decide | omega)) rfl (pa_cons (pv 0) (pa_cons (pe_callTy (call_listD rfl) rfl T.n_list rfl (pa_cons (pv 1) pa_nil)) pa_nil)))) (blkOk_by (N := ["source", "thing", "found", "name", "part"]) (sc := defScope s__law_q_handed) (by decide +kernel)) (fun _ _ _ _ _ => (pg_name (i := 3) sc__law_q_handed.nd rfl (Or.inl rfl))) (fun _ _ _ _ _ => pts_nil) (fun _ _ _ _ _ => (pe_tup (pa_cons (pv 3) (pa_cons (pe_dget (hu_of hr) (pv 1) (pv 3) (fun _ _ => rfl)) pa_nil))))) pa_nil)))
      (pss_cons (ps_if (pt_cmpR op_eq (pe_callO O_law_draw (hr.mono (by first | decide | omega)) rfl (pa_cons (pv 0) (pa_cons pe_int pa_nil))) pe_int (nomark _)) (pss_one (ps_dput (hu_of hr) (pv 2) pe_str pe_int rfl)) pss_nil)
      (pss_one (ps_ret (pv 2))))) pss_nil)
      (pss_cons (ps_if (pt_not (pt_val (pe_callB call_isiDT rfl T.n_isinstance rfl (pa_cons (pv 1) (pa_cons (pe_tup (pa_cons (pe_tyN (n := "list") rfl T.n_list rfl) (pa_cons (pe_tyN (n := "tuple") rfl T.n_tuple rfl) pa_nil))) pa_nil))))) (pss_one (ps_ret (pv 1))) pss_nil)
      (pss_cons (ps_setLc (i := 2) (own := [("part", 4)]) (g := gName 4) (tt := tYes) rfl sc__law_q_handed.nd rfl rfl (sw_true rfl rfl rfl (by decide +kernel)) (pi_lt (pv 1)) (blkOk_by (N := ["source", "thing", "found", "name", "part"]) (sc := defScope s__law_q_handed) (by decide +kernel)) (fun _ _ _ _ _ => (pg_name (i := 4) sc__law_q_handed.nd rfl (Or.inl rfl))) (fun _ _ _ _ _ => pts_nil) (fun _ _ _ _ _ => (pe_callO O_law_q_handed (hr.mono (by first | decide | omega)) rfl (pa_cons (pv 0) (pa_cons (pv 4) pa_nil)))))
      (pss_one (ps_ret (pe_ifExp (pt_cmpR op_eq (pe_callO O_law_draw (hr.mono (by first | decide | omega)) rfl (pa_cons (pv 0) (pa_cons pe_int pa_nil))) pe_int (nomark _)) (pv 2) (pe_callTy call_tuple_of rfl T.n_tuple rfl (pa_cons (pv 2) pa_nil)))))))), ?_⟩
    have hv1 := See.mono (sansL_ex N H) hv
    have newN : ∀ {H' : Hp} {p : Addr}, Exo [a] H H' → (∃ B', Spr H' a B') → H' p = none → p ∉ N := by
      intro H' p e ⟨B', s'⟩ hp hpN
      by_cases z : p = a
      · exact s'.ne (by rw [← z]; exact hp)
      · exact hN p hpN (e.free (by simpa using z) hp)
    refine ⟨_, rfl, v, "dict", d, _, rfl, hv1, kit_dct d, _, rfl, ?_⟩
    cases hv with
    | @dct p kvs kds h1 k1 =>
      refine iteT ?_
      obtain ⟨c, rfl, h4, hnd, hz⟩ : Pr0 (.dct kds) := hg
      have hkv := cK_of k1
      subst hkv
      have hpH := sansL_ex N H _ _ h1
      have npa : p ≠ a := fun z => by
        unfold sansL at h1
        rw [z, if_pos haN] at h1; cases h1
      refine dp_of ?_
      have hkeys : (cK c).map (fun kv => kV kv.1) = (keys c).map V.str := by unfold cK keys; rw [List.map_map, List.map_map]; rfl
      refine ⟨_, rfl, _, rfl, p, cK c, rfl, .inl hpH, fun L hL => ?_⟩
      rw [hkeys]
      have e1 : Ex H (upd H L (.lst ((keys c).map V.str))) := Ex.new hL
      have hL1 : (upd H L (.lst ((keys c).map V.str))) L = some (.lst ((keys c).map V.str)) := upd_same
      generalize upd H L (.lst ((keys c).map V.str)) = H1 at e1 hL1
      have kl : (keys c).length = c.length := by unfold keys; rw [List.length_map]
      refine ⟨a, L, (keys c).map V.str, B, rfl, hs.ex e1, by omega, SqQ.l hL1, by rw [List.length_map]; omega, fun Y ys H2 hY e2 s2 perm hY2 => ?_⟩
      obtain ⟨us, rfl, pu⟩ := perm_strs perm
      have ul : us.length = c.length := by rw [pu.length_eq, kl]
      have und : us.Nodup := pu.nodup_iff.mpr hnd
      have nYa : Y ≠ a := fun z => (hs.ex e1).ne (by rw [← z]; exact hY)
      have e02 : Exo [a] H H2 := (e1.exo _).trans e2
      have hp2 : H2 p = some (.dK (cK c)) := e02.at1 npa hpH
      have s2' : Spr H2 a (B + 12) := s2.mono (by rw [List.length_map]; omega)
      refine ⟨Y, rfl, ⟨_, SqL.of hY2⟩, ?_⟩
      refine lc_pairs (walk_list (xs := us.map V.str)) [] (fun _ _ => True) (fun i cc => cc = (us.take i).map fun n => (n, co c n)) (by rw [List.length_map]; omega) (fun H' e => SqL.of (e.ex _ _ hY2)) (fun _ _ _ _ _ => trivial) (fun _ _ _ b hb => by simp at hb) trivial rfl ?_ ?_
      · rintro i x H3 H3' cc R1 R2 hi e _ rfl ⟨rfl, hx⟩ k1 _
        rw [List.getElem?_map] at hx
        cases hn : us[i]? with
        | none => rw [hn] at hx; cases hx
        | some n =>
        rw [hn] at hx
        cases hx
        have hm : n ∈ keys c := pu.mem_iff.mp (List.mem_of_getElem? hn)
        refine ⟨rfl, yesT ⟨_, rfl, _, rfl, _, rfl, p, _, rfl, .inl ⟨cK c, .inr n, .inl (e.ex _ _ hp2), rfl, (valV_co hm hnd).symm⟩, by show 2 ≤ sizeLine; decide, fun t ht => ?_⟩⟩
        refine k1 t n (co c n) _ ht ((Ex.new ht).exo _) trivial ?_ upd_same
        rw [List.take_add_one, hn, List.map_append]; rfl
      · rintro D ps cc H3 hD e _ rfl hDH hps
        rw [List.length_map, List.take_of_length_le (Nat.le_refl _)] at hps
        have hcp : (us.map fun n => (n, co c n)).Perm c := map_co_perm hnd pu
        generalize (us.map fun n => (n, co c n)) = cc at hcp hps
        have hnd' : (keys cc).Nodup := (keys_perm hcp).nodup_iff.mpr hnd
        have hz' : nought ∉ keys cc := fun h => hz ((keys_perm hcp).mem_iff.mp h)
        have cl : cc.length ≤ 12 := by rw [hcp.length_eq]; exact h4
        have e03 : Exo [a] H H3 := e02.trans (e.ex.exo _)
        have s3 : Spr H3 a (B + 12) := s2'.ex e.ex
        refine ⟨D, ps, cK cc, rfl, hDH, pairs_cK hps, cK_nodup hnd', fun r hr => ?_⟩
        have nra : r ≠ a := fun z => s3.ne (by rw [← z]; exact hr)
        have nrN : r ∉ N := newN e03 ⟨_, s3⟩ hr
        have hrH : H r = none := e03.free (not1 nra) hr
        have e4 : Ex H3 (upd H3 r (.dK (cK cc))) := Ex.new hr
        have hr4 : (upd H3 r (.dK (cK cc))) r = some (.dK (cK cc)) := upd_same
        generalize upd H3 r (.dK (cK cc)) = H4 at e4 hr4
        refine ⟨_, rfl, a, 3, B + 12, rfl, s3.ex e4, by omega, by decide, by decide, fun u H5 u0 u1 e5 s5 => ⟨rfl, _, rfl, ?_⟩⟩
        rw [dec_int0]
        have hr5 := e5.at1 nra hr4
        have e05 := (e03.trans (e4.exo _)).trans e5
        by_cases hu0 : u = 0
        · rw [decide_eq_true hu0]
          refine iteT ⟨_, rfl, r, _, rfl, .inl ⟨cK cc, .inr nought, hr5, rfl, by rw [cK_len, sizeLine_eq]; omega, rfl⟩, ?_⟩
          have ek : putK (cK cc) (.inr nought) (.int 0) = cK (cc ++ [(nought, 0)]) := by
            rw [cK_app, putK_new fun z => ?_]; rfl
            unfold cK at z
            rw [List.map_map] at z
            obtain ⟨q, hq, e⟩ := List.mem_map.mp z
            exact hz' (List.mem_map.mpr ⟨q, hq, Sum.inr.inj e⟩)
          rw [ek]
          refine ⟨_, rfl, q (.ref r) (.dct (cD (cc ++ [(nought, 0)]))) _ ?_ ((s5.mono (by omega)).at (upd_ne nra.symm)) (.dct (sansL_at nrN upd_same) (seeK_c _)) ⟨c, _, rfl, rfl, .inr (hcp.append_right _)⟩⟩
          intro b' o nb hb
          rw [upd_ne (ne_of_none hb hrH)]
          exact e05 b' o nb hb
        · rw [decide_eq_false hu0]
          refine iteF ⟨_, rfl, q (.ref r) (.dct (cD cc)) _ e05 (s5.mono (by omega)) (.dct (sansL_at nrN hr5) (seeK_c _)) ⟨c, _, rfl, rfl, .inl hcp⟩⟩
    | @lst a1 xs ds h1 k1 =>
      refine iteF ?_
      have hpH := sansL_ex N H _ _ h1
      have e0H : ∀ {tp : Addr}, H tp = none → Ex H (upd H tp (.tup (["list", "tuple"].map V.ty))) := fun h => Ex.new h
      refine ⟨_, rfl, by show 2 ≤ sizeLine; decide, fun tp htp => ⟨_, tp, ["list", "tuple"], .lst ds, _, rfl, upd_same, See.mono (e0H htp) hv1, kit_lt (.lst ds), _, rfl, iteF ?_⟩⟩
      have e0 := e0H htp
      have hs0 := hs.ex e0
      have hN0 : ∀ b ∈ N, upd H tp (.tup (["list", "tuple"].map V.ty)) b ≠ none := fun b hb => by
        have := hN b hb
        rw [upd_ne (fun z => this (by rw [z]; exact htp))]; exact this
      have hl := k1.len
      obtain ⟨hl4, hgd⟩ : ds.length ≤ 8 ∧ ∀ d ∈ ds, G d := hg
      dsimp only [tNext, tSeq, tAsg, gName]
      refine tLc_of ?_
      refine .inl ⟨_, rfl, a1, rfl, ⟨xs, SqL.of (e0 _ _ hpH)⟩, ?_⟩
      refine lc_genD (walk_list (xs := xs)) [a] (fun i H' => Spr H' a (B + i * b)) (fun D i acc H' => ∃ ds', SeeL (FKK K) (sansL (D :: N) H') acc ds' ∧ Pair2 R (ds.take i) ds') (by omega) (fun b hb => by rw [show b = a by simpa using hb]; exact hs0.ne) ?_ (fun i H1 H2 hb h => h.at (hb a (by simp))) ?_ (by simpa using hs0) ?_ ?_ ?_
      · intro H1 e
        have nal : a1 ≠ a := fun z => by
          unfold sansL at h1
          rw [z, if_pos haN] at h1; cases h1
        exact SqL.of (e.at1 nal (e0 _ _ hpH))
      · rintro i acc H1 D l0 l hD hN1 ⟨ds', h1', h2'⟩
        exact ⟨ds', SeeL.mono (sansL_mono fun b o nb hb => ⟨nb, by rw [upd_ne fun z => nb (by simp [z])]; exact hb⟩) h1', h2'⟩
      · intro D hD
        exact ⟨[], .nil, .nil⟩
      · rintro i x H1 H2 D acc R1 R2 hi e m hD hDH ⟨ds', h1', h2'⟩ hacc ⟨rfl, hx⟩ k' _
        obtain ⟨dd, hdd, sd⟩ := k1.getV hx
        have hi' : i < ds.length := by omega
        refine ⟨rfl, yesT ⟨_, rfl, _, rfl, a, x, dd, B + i * b, D :: N, rfl, m, ?_, by simp [haN], ?_, ?_, hgd _ (List.mem_of_getElem? hdd), fun v' d' H4 e4 s4 sv hr' => ?_⟩⟩
        · have : i * b ≤ 7 * b := Nat.mul_le_mul_right _ (by omega)
          omega
        · intro b' hb'
          rcases List.mem_cons.mp hb' with rfl | hb'
          · rw [hDH]; simp
          · by_cases z : b' = a
            · rw [z]; exact m.ne
            · have h0 := hN0 b' hb'
              cases hq0 : upd H tp (.tup (["list", "tuple"].map V.ty)) b' with
              | none => exact absurd hq0 h0
              | some o => rw [e.at1 z hq0]; simp
        · refine See.mono (sansL_mono fun b' o nb hb' => ?_) sd
          have nba : b' ≠ a := fun z => nb (by rw [z]; exact haN)
          have hb0 := e0 _ _ hb'
          refine ⟨fun z => ?_, e.at1 nba hb0⟩
          rcases List.mem_cons.mp z with z | z
          · have hD' : upd H tp (.tup (["list", "tuple"].map V.ty)) D = none := hD
            rw [z, hD'] at hb0; cases hb0
          · exact nb z
        · have hDa : D ≠ a := fun z => hs0.ne (by rw [← z]; exact hD)
          refine k' v' H4 e4 (s4.mono (by rw [Nat.succ_mul]; omega)) ⟨ds' ++ [d'], SeeL.append (SeeL.mono (sansL_mono fun b' o nb hb' => ⟨nb, e4.at1 (fun z => nb (by rw [z]; simp [haN])) hb'⟩) h1') (.cons sv .nil), ?_⟩
          rw [List.take_add_one, hdd]
          exact Pair2.snoc h2' hr'
      · rintro D acc H1 hD e m ⟨ds', h1', h2'⟩ hDH hacc
        have hDa : D ≠ a := fun z => hs0.ne (by rw [← z]; exact hD)
        have hDN : D ∉ N := fun z => hN0 D z hD
        rw [List.take_of_length_le (by omega)] at h2'
        have m' : Spr H1 a (B + 8 * b) := m.mono (by have : xs.length * b ≤ 8 * b := Nat.mul_le_mul_right _ (by omega); omega)
        have e01 : Exo [a] H H1 := (e0.exo _).trans e
        refine ⟨_, rfl, a, _, _, rfl, m', by omega, by decide, by decide, fun u H2 u0 u1 e2 s2 => ?_⟩
        refine ⟨rfl, _, rfl, ?_⟩
        have hD2 := e2.at1 hDa hDH
        have see2 : SeeL (FKK K) (sansL (D :: N) H2) acc ds' := SeeL.mono (sansL_mono fun b' o nb hb' => ⟨nb, e2.at1 (fun z => nb (by rw [z]; simp [haN])) hb'⟩) h1'
        by_cases hu0 : u = 0
        · rw [show decide (V.int u = V.int 0) = true from decide_eq_true (by rw [hu0])]
          refine iteT ⟨_, rfl, ?_⟩
          exact q (.ref D) (.lst ds') H2 (e01.trans e2) (s2.mono (by omega)) (.lst (sansL_at hDN hD2) (SeeL.mono (sansL_mono fun b' o nb hb' => ⟨fun z => nb (by simp [z]), hb'⟩) see2)) ⟨rfl, h2'⟩
        · rw [show decide (V.int u = V.int 0) = false from decide_eq_false fun e => hu0 (V.int.inj e)]
          refine iteF ⟨_, rfl, D, acc, rfl, .inl ⟨SqL.of hD2, fun T hT => ?_⟩⟩
          have nTa : T ≠ a := fun z => s2.ne (by rw [← z]; exact hT)
          have nTN : T ∉ N := newN (e01.trans e2) ⟨_, s2⟩ hT
          refine q (.ref T) (.tup ds') _ ((e01.trans e2).mut ((e01.trans e2).free (by simpa using nTa) hT)) ((s2.at (upd_ne nTa.symm)).mono (by omega)) (.tup (sansL_at nTN upd_same) (SeeL.mono (sansL_mono fun b' o nb hb' => ⟨fun z => nb (by simp [z]), by rw [upd_ne (ne_of_none hb' hT)]; exact hb'⟩) see2)) ⟨rfl, h2'⟩
    | @tup a1 xs ds h1 k1 =>
      refine iteF ?_
      have hpH := sansL_ex N H _ _ h1
      have e0H : ∀ {tp : Addr}, H tp = none → Ex H (upd H tp (.tup (["list", "tuple"].map V.ty))) := fun h => Ex.new h
      refine ⟨_, rfl, by show 2 ≤ sizeLine; decide, fun tp htp => ⟨_, tp, ["list", "tuple"], .tup ds, _, rfl, upd_same, See.mono (e0H htp) hv1, kit_lt (.tup ds), _, rfl, iteF ?_⟩⟩
      have e0 := e0H htp
      have hs0 := hs.ex e0
      have hN0 : ∀ b ∈ N, upd H tp (.tup (["list", "tuple"].map V.ty)) b ≠ none := fun b hb => by
        have := hN b hb
        rw [upd_ne (fun z => this (by rw [z]; exact htp))]; exact this
      have hl := k1.len
      obtain ⟨hl4, hgd⟩ : ds.length ≤ 8 ∧ ∀ d ∈ ds, G d := hg
      dsimp only [tNext, tSeq, tAsg, gName]
      refine tLc_of ?_
      refine .inr ⟨_, rfl, a1, rfl, ⟨xs, SqT.of (e0 _ _ hpH)⟩, ?_⟩
      refine lc_genD (walk_tup (xs := xs)) [a] (fun i H' => Spr H' a (B + i * b)) (fun D i acc H' => ∃ ds', SeeL (FKK K) (sansL (D :: N) H') acc ds' ∧ Pair2 R (ds.take i) ds') (by omega) (fun b hb => by rw [show b = a by simpa using hb]; exact hs0.ne) ?_ (fun i H1 H2 hb h => h.at (hb a (by simp))) ?_ (by simpa using hs0) ?_ ?_ ?_
      · intro H1 e
        have nal : a1 ≠ a := fun z => by
          unfold sansL at h1
          rw [z, if_pos haN] at h1; cases h1
        exact SqT.of (e.at1 nal (e0 _ _ hpH))
      · rintro i acc H1 D l0 l hD hN1 ⟨ds', h1', h2'⟩
        exact ⟨ds', SeeL.mono (sansL_mono fun b o nb hb => ⟨nb, by rw [upd_ne fun z => nb (by simp [z])]; exact hb⟩) h1', h2'⟩
      · intro D hD
        exact ⟨[], .nil, .nil⟩
      · rintro i x H1 H2 D acc R1 R2 hi e m hD hDH ⟨ds', h1', h2'⟩ hacc ⟨rfl, hx⟩ k' _
        obtain ⟨dd, hdd, sd⟩ := k1.getV hx
        have hi' : i < ds.length := by omega
        refine ⟨rfl, yesT ⟨_, rfl, _, rfl, a, x, dd, B + i * b, D :: N, rfl, m, ?_, by simp [haN], ?_, ?_, hgd _ (List.mem_of_getElem? hdd), fun v' d' H4 e4 s4 sv hr' => ?_⟩⟩
        · have : i * b ≤ 7 * b := Nat.mul_le_mul_right _ (by omega)
          omega
        · intro b' hb'
          rcases List.mem_cons.mp hb' with rfl | hb'
          · rw [hDH]; simp
          · by_cases z : b' = a
            · rw [z]; exact m.ne
            · have h0 := hN0 b' hb'
              cases hq0 : upd H tp (.tup (["list", "tuple"].map V.ty)) b' with
              | none => exact absurd hq0 h0
              | some o => rw [e.at1 z hq0]; simp
        · refine See.mono (sansL_mono fun b' o nb hb' => ?_) sd
          have nba : b' ≠ a := fun z => nb (by rw [z]; exact haN)
          have hb0 := e0 _ _ hb'
          refine ⟨fun z => ?_, e.at1 nba hb0⟩
          rcases List.mem_cons.mp z with z | z
          · have hD' : upd H tp (.tup (["list", "tuple"].map V.ty)) D = none := hD
            rw [z, hD'] at hb0; cases hb0
          · exact nb z
        · have hDa : D ≠ a := fun z => hs0.ne (by rw [← z]; exact hD)
          refine k' v' H4 e4 (s4.mono (by rw [Nat.succ_mul]; omega)) ⟨ds' ++ [d'], SeeL.append (SeeL.mono (sansL_mono fun b' o nb hb' => ⟨nb, e4.at1 (fun z => nb (by rw [z]; simp [haN])) hb'⟩) h1') (.cons sv .nil), ?_⟩
          rw [List.take_add_one, hdd]
          exact Pair2.snoc h2' hr'
      · rintro D acc H1 hD e m ⟨ds', h1', h2'⟩ hDH hacc
        have hDa : D ≠ a := fun z => hs0.ne (by rw [← z]; exact hD)
        have hDN : D ∉ N := fun z => hN0 D z hD
        rw [List.take_of_length_le (by omega)] at h2'
        have m' : Spr H1 a (B + 8 * b) := m.mono (by have : xs.length * b ≤ 8 * b := Nat.mul_le_mul_right _ (by omega); omega)
        have e01 : Exo [a] H H1 := (e0.exo _).trans e
        refine ⟨_, rfl, a, _, _, rfl, m', by omega, by decide, by decide, fun u H2 u0 u1 e2 s2 => ?_⟩
        refine ⟨rfl, _, rfl, ?_⟩
        have hD2 := e2.at1 hDa hDH
        have see2 : SeeL (FKK K) (sansL (D :: N) H2) acc ds' := SeeL.mono (sansL_mono fun b' o nb hb' => ⟨nb, e2.at1 (fun z => nb (by rw [z]; simp [haN])) hb'⟩) h1'
        by_cases hu0 : u = 0
        · rw [show decide (V.int u = V.int 0) = true from decide_eq_true (by rw [hu0])]
          refine iteT ⟨_, rfl, ?_⟩
          exact q (.ref D) (.lst ds') H2 (e01.trans e2) (s2.mono (by omega)) (.lst (sansL_at hDN hD2) (SeeL.mono (sansL_mono fun b' o nb hb' => ⟨fun z => nb (by simp [z]), hb'⟩) see2)) ⟨rfl, h2'⟩
        · rw [show decide (V.int u = V.int 0) = false from decide_eq_false fun e => hu0 (V.int.inj e)]
          refine iteF ⟨_, rfl, D, acc, rfl, .inl ⟨SqL.of hD2, fun T hT => ?_⟩⟩
          have nTa : T ≠ a := fun z => s2.ne (by rw [← z]; exact hT)
          have nTN : T ∉ N := newN (e01.trans e2) ⟨_, s2⟩ hT
          refine q (.ref T) (.tup ds') _ ((e01.trans e2).mut ((e01.trans e2).free (by simpa using nTa) hT)) ((s2.at (upd_ne nTa.symm)).mono (by omega)) (.tup (sansL_at nTN upd_same) (SeeL.mono (sansL_mono fun b' o nb hb' => ⟨fun z => nb (by simp [z]), by rw [upd_ne (ne_of_none hb' hT)]; exact hb'⟩) see2)) ⟨rfl, h2'⟩
    | non =>
      refine iteF ?_
      refine ⟨_, rfl, by show 2 ≤ sizeLine; decide, fun tp htp => ⟨_, tp, ["list", "tuple"], .non, _, rfl, upd_same, .non, kit_lt .non, _, rfl, iteT ?_⟩⟩
      refine ⟨_, rfl, q _ .non _ ((Ex.new htp).exo _) ((hs.ex (Ex.new htp)).mono (by omega)) .non rfl⟩
    | bl b =>
      refine iteF ?_
      refine ⟨_, rfl, by show 2 ≤ sizeLine; decide, fun tp htp => ⟨_, tp, ["list", "tuple"], (.bl b), _, rfl, upd_same, (.bl b), kit_lt (.bl b), _, rfl, iteT ?_⟩⟩
      refine ⟨_, rfl, q _ (.bl b) _ ((Ex.new htp).exo _) ((hs.ex (Ex.new htp)).mono (by omega)) (.bl b) rfl⟩
    | int i =>
      refine iteF ?_
      refine ⟨_, rfl, by show 2 ≤ sizeLine; decide, fun tp htp => ⟨_, tp, ["list", "tuple"], (.int i), _, rfl, upd_same, (.int i), kit_lt (.int i), _, rfl, iteT ?_⟩⟩
      refine ⟨_, rfl, q _ (.int i) _ ((Ex.new htp).exo _) ((hs.ex (Ex.new htp)).mono (by omega)) (.int i) rfl⟩
    | str z =>
      refine iteF ?_
      refine ⟨_, rfl, by show 2 ≤ sizeLine; decide, fun tp htp => ⟨_, tp, ["list", "tuple"], (.str z), _, rfl, upd_same, (.str z), kit_lt (.str z), _, rfl, iteT ?_⟩⟩
      refine ⟨_, rfl, q _ (.str z) _ ((Ex.new htp).exo _) ((hs.ex (Ex.new htp)).mono (by omega)) (.str z) rfl⟩
    | fn hf => exact hg.elim
def bH : Nat → Nat
  | 0 => 0
  | n + 1 => 8 * bH n + 20
def GH : Nat → Dat → Prop
  | 0 => fun _ => False
  | n + 1 => PrS (GH n)
def RH : Nat → Dat → Dat → Prop
  | 0 => fun _ _ => False
  | n + 1 => HdS (RH n)
theorem ok_hand (T : Txt K mg) (a : At K mg "_law_q_handed" s__law_q_handed ["source", "thing"]) (O_law_draw : Ok P w K mg base CX0 1 "_law_draw" ["source", "many"] spDraw) (O_law_mixed : Ok P w K mg base CX0 2 "_law_mixed" ["source", "some"] (spMixed K)) : ∀ n, Ok P w K mg base CX0 (n+2) "_law_q_handed" ["source", "thing"] (spHand K (bH n) (GH n) (RH n))
  | 0 => a.ok fun f fd F => F.ok sc__law_q_handed (fun vs H Q E h => by obtain ⟨a, v, d, B, N, rfl, _⟩ := h; rfl) (fun cdv A outer s H vs Q E hr h => by obtain ⟨a, v, d, B, N, rfl, _, _, _, _, _, hg, _⟩ := h; exact hg.elim)
  | n + 1 => ok_hand_step T a O_law_draw O_law_mixed (ok_hand T a O_law_draw O_law_mixed n)
end
end K8

set_option Elab.async false
set_option linter.all false
set_option maxRecDepth 100000
set_option maxHeartbeats 4000000
namespace K8
open PySem PySem.Spec PyProof.Rows L2 M8
/-! what terms come to, whether tests are so, by the law -/
section
variable {P : Program} {w : World} {K : PySem.W.Frag} {mg : Str → Option Value} {base : Heap}
def spQWorth : Sp := fun vs H Q _ => ∃ v c k nd cn, vs = [v, .ref nd] ∧ TermAt H v c k ∧ H nd = some (.dK (cK cn)) ∧ c.length ≤ 1000 ∧ (keys c).Nodup ∧ Lim c ∧ (keys cn).Nodup ∧ (∀ p ∈ c, p.1 ∈ keys cn) ∧ ∀ H', Ex H H' → Q (.int (worth c k cn)) H'
abbrev s__law_q_worth : Stmt := top 51
theorem sc__law_q_worth : FnScope ["term", "numbers", "name", "many"] ["term", "numbers"] (defScope s__law_q_worth) := ⟨rfl, rfl, rfl, by decide +kernel, rfl, by decide +kernel, by decide +kernel⟩
theorem ok__law_q_worth (T : Txt K mg) (a : At K mg "_law_q_worth" s__law_q_worth ["term", "numbers"]) : Ok P w K mg base CX0 1 "_law_q_worth" ["term", "numbers"] spQWorth := a.ok fun f fd F => by
  refine F.ok sc__law_q_worth (fun vs H Q E h => ?_) (fun cdv A outer s H vs Q E hr h => ?_)
  · obtain ⟨v, c, k, nd, cn, rfl, _⟩ := h; rfl
  · obtain ⟨v, c, k, nd, cn, rfl, ⟨p, d, rfl, hp, hd⟩, hn, cl, cnd, lim, nnd, hin, q⟩ := h
    refine ⟨_, (pss_one (ps_ret (pe_op op_add (pe_ix (ix_qK (K := K) rfl) (pv 0) pe_int (fun _ _ => rfl)) (pe_callB (cr_sum rfl) rfl T.n_sum rfl (pa_cons (pe_lock (pe_lc (own := [("name", 2), ("many", 3)]) (g := gTup K 2 (gCons (gName 2) (gCons (gName 3) gNil))) (tt := tYes) rfl sc__law_q_worth.nd (pi_items (pe_ix (ix_qK (K := K) rfl) (pv 0) pe_int (fun _ _ => rfl))) (blkOk_by (N := ["term", "numbers", "name", "many"]) (sc := defScope s__law_q_worth) (by decide +kernel)) (fun _ _ _ _ _ => (pg_tup rfl (pgs_cons (pg_name (i := 2) sc__law_q_worth.nd rfl (Or.inl rfl)) (pgs_cons (pg_name (i := 3) sc__law_q_worth.nd rfl (Or.inl rfl)) pgs_nil)))) (fun _ _ _ _ _ => pts_nil) (fun _ _ _ _ _ => (pe_op op_mul (pv 3) (pe_dget (hu_of hr) (pv 1) (pv 2) (fun _ _ => rfl)))))) pa_nil))))), ?_⟩
    refine ⟨_, rfl, p, _, 1, _, rfl, rfl, SqQ.or hp, at1, ?_⟩
    dsimp only [tNext, tRet, tCB, tCons, tNil, gName]
    refine ⟨d, _, hd, trivial, fun od => ?_⟩
    refine tLc_of ?_
    have pd : p ≠ d := fun z => by rw [z, hd] at hp; rcases hp with hp | hp <;> cases hp
    have hp0 : upd H d (.frz od (.dK (cK c))) p = some (.lst [.ref d, .int k]) ∨ upd H d (.frz od (.dK (cK c))) p = some (.tup [.ref d, .int k]) := by rw [upd_ne pd]; exact hp
    have hn0 : upd H d (.frz od (.dK (cK c))) nd = some (.dK (cK cn)) ∨ ∃ o, upd H d (.frz od (.dK (cK c))) nd = some (.frz o (.dK (cK cn))) := by
      by_cases z : nd = d
      · right
        rw [z, hd] at hn
        have hn := Option.some.inj hn
        injection hn with hn
        rw [z, ← hn]
        exact ⟨od, upd_same⟩
      · left; rw [upd_ne z]; exact hn
    refine ⟨_, rfl, p, _, 0, _, rfl, rfl, SqQ.or hp0, at0, d, od, _, rfl, upd_same, ?_⟩
    have hl : (cK c).length = c.length := cK_len c
    refine lc_val walk_items (fun i => ((c.take i).map fun p => p.2 * co cn p.1).map V.int) (by omega) rfl (fun H1 e => e _ _ upd_same) ?_ ?_
    · rintro i x H1 H2 R R' hi e ⟨t, y1, y2, rfl, ht, rfl, e1, e2⟩ k1 _
      have hci : i < c.length := by omega
      obtain ⟨⟨n, y⟩, hcy⟩ : ∃ p : Str × Int, c[i]? = some p := ⟨c[i], List.getElem?_eq_getElem hci⟩
      dsimp only at e1 e2
      rw [get_cK hcy] at e1 e2
      cases e1
      cases e2
      have hm := List.mem_of_getElem? hcy
      have x2 : Ex H1 (upd H1 t (.tup [.str n, .int y])) := Ex.new ht
      have hv : valV (cK cn) (.inr n) = some (.int (co cn n)) := valV_co (hin _ hm) nnd
      have dg : DGet (upd H1 t (.tup [.str n, .int y])) nd (.str n) (some (.int (co cn n))) := by
        rcases hn0 with h | ⟨o, h⟩
        · exact .inl ⟨cK cn, .inr n, .inl (x2 _ _ (e _ _ h)), rfl, hv.symm⟩
        · exact .inl ⟨cK cn, .inr n, .inr ⟨o, x2 _ _ (e _ _ h)⟩, rfl, hv.symm⟩
      refine ⟨t, _, rfl, SqT.of upd_same, rfl, _, _, rfl, _, _, rfl, rfl, rfl, yesT ⟨_, rfl, _, rfl, _, rfl, nd, _, rfl, dg, _, _, rfl, rfl, .inl ?_, k1 _ _ x2 ?_⟩⟩
      · have := lim _ hm
        simp only at this
        constructor <;> omega
      · rw [List.take_add_one, hcy, List.map_append, List.map_append]; rfl
    · intro D H1 hD e hDH
      have hx := e _ _ upd_same
      have hDd : D ≠ d := fun z => by rw [z, upd_same] at hD; cases hD
      rw [hl, List.take_length] at hDH
      refine ⟨hx, D, _, rfl, SqL.of (by rw [upd_ne hDd]; exact hDH), _, _, rfl, rfl, ?_⟩
      have e1 : ((c.map fun p => p.2 * co cn p.1).sum : Int) = lin c cn := rfl
      show Q (.int (k + (c.map fun p => p.2 * co cn p.1).sum)) _
      rw [e1, ← worth_lin]
      exact q _ (e.unlock hd)
def wordT : Tst → Str | .row _ _ => "row" | .same _ _ => "same" | .div _ _ _ => "by"
/-- the last of a told test -/
theorem tstD_parts {H : Hp} {v : V} {ts : Tst} (h : SeeF K H v (tstD ts)) : ∃ q wd xs u, v = .ref q ∧ H q = some (.tup (.str wd :: xs)) ∧ (∃ ys, (V.str wd :: xs) = ys ++ [u]) ∧ TermAt H u (coef ts) (kst ts) ∧ wd = wordT ts ∧ (∀ m c k, ts = .div m c k → xs = [.int m, u]) := by
  have ht : ∀ {u : V} {c : Coef} {k : Int}, SeeF K H u (tDat c k) → TermAt H u c k := TermAt.of_tup
  cases ts with
  | row c k =>
    cases h with
    | tup hq hx => cases hx with
      | cons h1 hx => cases h1; cases hx with
        | cons h2 hx => cases hx; exact ⟨_, _, _, _, rfl, hq, ⟨[_], rfl⟩, ht h2, rfl, fun _ _ _ e => by cases e⟩
  | same c k =>
    cases h with
    | tup hq hx => cases hx with
      | cons h1 hx => cases h1; cases hx with
        | cons h2 hx => cases hx; exact ⟨_, _, _, _, rfl, hq, ⟨[_], rfl⟩, ht h2, rfl, fun _ _ _ e => by cases e⟩
  | div m c k =>
    cases h with
    | tup hq hx => cases hx with
      | cons h1 hx => cases h1; cases hx with
        | cons h2 hx => cases h2; cases hx with
          | cons h3 hx => cases hx; exact ⟨_, _, _, _, rfl, hq, ⟨[_, _], rfl⟩, ht h3, rfl, fun _ _ _ e => by cases e; rfl⟩
def spQSo (K : PySem.W.Frag) : Sp := fun vs H Q _ => ∃ v ts nd cn, vs = [v, .ref nd] ∧ SeeF K H v (tstD ts) ∧ H nd = some (.dK (cK cn)) ∧ (coef ts).length ≤ 1000 ∧ (keys (coef ts)).Nodup ∧ Lim (coef ts) ∧ mOk ts ∧ (keys cn).Nodup ∧ (∀ p ∈ coef ts, p.1 ∈ keys cn) ∧ ∀ H', Ex H H' → Q (.bl (so cn ts)) H'
abbrev s__law_q_so : Stmt := top 52
theorem sc__law_q_so : FnScope ["body", "numbers", "parts", "worth", "part"] ["body", "numbers"] (defScope s__law_q_so) := ⟨rfl, rfl, rfl, by decide +kernel, rfl, by decide +kernel, by decide +kernel⟩
theorem ok__law_q_so (T : Txt K mg) (a : At K mg "_law_q_so" s__law_q_so ["body", "numbers"]) (O_law_q_worth : Ok P w K mg base CX0 1 "_law_q_worth" ["term", "numbers"] spQWorth) : Ok P w K mg base CX0 2 "_law_q_so" ["body", "numbers"] (spQSo K) := a.ok fun f fd F => by
  refine F.ok sc__law_q_so (fun vs H Q E h => ?_) (fun cdv A outer s H vs Q E hr h => ?_)
  · obtain ⟨v, ts, nd, cn, rfl, _⟩ := h; rfl
  · obtain ⟨v, ts, nd, cn, rfl, hs, hn, cl, cnd, lim, hm, nnd, hin, q⟩ := h
    refine ⟨_, (pss_cons (ps_if (pt_cmpR op_eq (pe_ix (ix_qK (K := K) rfl) (pv 0) pe_int (fun _ _ => rfl)) pe_str (nomark _)) (pss_one ps_never) pss_nil)
      (pss_cons (ps_if (pt_cmpR op_in_seq (pe_ix (ix_qK (K := K) rfl) (pv 0) pe_int (fun _ _ => rfl)) (pe_tup (pa_cons pe_str (pa_cons pe_str pa_nil))) rfl) (pss_cons ps_never
      (pss_one ps_never)) pss_nil)
      (pss_cons (ps_set (i := 3) sc__law_q_so.nd rfl (Or.inl rfl) (pe_callO O_law_q_worth (hr.mono (by first | decide | omega)) rfl (pa_cons (pe_ix (ix_qK (K := K) rfl) (pv 0) (pe_un un_neg pe_int) (fun _ _ => rfl)) (pa_cons (pv 1) pa_nil))))
      (pss_one (ps_ret (pe_ifExp (pt_cmpR op_eq (pe_ix (ix_qK (K := K) rfl) (pv 0) pe_int (fun _ _ => rfl)) pe_str (nomark _)) (pe_cmpR op_ge (pv 3) pe_int (nomark _)) (pe_ifExp (pt_cmpR op_eq (pe_ix (ix_qK (K := K) rfl) (pv 0) pe_int (fun _ _ => rfl)) pe_str (nomark _)) (pe_cmpR op_eq (pv 3) pe_int (nomark _)) (pe_cmpR op_eq (pe_op op_mod (pe_callTy call_int1 rfl T.n_int rfl (pa_cons (pv 3) pa_nil)) (pe_ix (ix_qK (K := K) rfl) (pv 0) pe_int (fun _ _ => rfl))) pe_int (nomark _))))))))), ?_⟩
    obtain ⟨p, wd, xs, u, rfl, hp, ⟨ys, hy⟩, tu, hw, hdiv⟩ := tstD_parts hs
    have hlast : atI (V.str wd :: xs) (-1) = some u := by rw [hy]; exact atLast
    refine ⟨_, rfl, p, _, 0, _, rfl, rfl, SqQ.t hp, at0, rfl, _, rfl, ?_⟩
    have n1 : decide (V.str wd = V.str "not") = false := by cases ts <;> (rw [hw]; rfl)
    rw [n1]
    refine iteF ⟨_, rfl, p, _, 0, _, rfl, rfl, SqQ.t hp, at0, by show 2 ≤ sizeLine; decide, fun tp htp => ?_⟩
    have e1 : Ex H (upd H tp (.tup [.str "all", .str "any"])) := Ex.new htp
    refine ⟨tp, _, rfl, .inr (SqT.of upd_same), rfl, rfl, _, rfl, ?_⟩
    have n2 : inV (.str wd) [.str "all", .str "any"] = false := by
      rw [hw]
      cases ts
      · show inV (.str "row") _ = false; decide +kernel
      · show inV (.str "same") _ = false; decide +kernel
      · show inV (.str "by") _ = false; decide +kernel
    rw [n2]
    refine iteF ⟨_, rfl, _, rfl, p, _, _, _, rfl, rfl, SqQ.t (e1 _ _ hp), hlast, _, rfl, u, coef ts, kst ts, nd, cn, rfl, tu.mono e1, e1 _ _ hn, cl, cnd, lim, nnd, hin, fun H2 e2 => ?_⟩
    have e02 := e1.trans e2
    have hp2 := e02 _ _ hp
    have q2 := q H2 e02
    refine ⟨_, rfl, p, _, 0, _, rfl, rfl, SqQ.t hp2, at0, rfl, _, rfl, ?_⟩
    cases ts with
    | row c k =>
      subst hw
      exact iteT ⟨_, rfl, _, _, rfl, rfl, q2⟩
    | same c k =>
      subst hw
      refine iteF ⟨_, rfl, p, _, 0, _, rfl, rfl, SqQ.t hp2, at0, rfl, _, rfl, iteT ⟨_, rfl, rfl, ?_⟩⟩
      show Q (.bl (decide (V.int (worth c k cn) = V.int 0))) H2
      rw [dec_int0]
      exact q2
    | div m c k =>
      subst hw
      have hxs := hdiv m c k rfl
      subst hxs
      refine iteF ⟨_, rfl, p, _, 0, _, rfl, rfl, SqQ.t hp2, at0, rfl, _, rfl, iteF ?_⟩
      refine ⟨_, rfl, .inl ⟨_, rfl, _, rfl, p, _, 1, _, rfl, rfl, SqQ.t hp2, at1, _, _, rfl, rfl, hm.1, rfl, ?_⟩⟩
      show Q (.bl (decide (V.int (worth c k cn % m) = V.int 0))) H2
      rw [dec_int0]
      exact q2
end
end K8

set_option Elab.async false
set_option linter.all false
set_option maxRecDepth 100000
set_option maxHeartbeats 4000000
namespace K8
open PySem PySem.Spec PyProof.Rows L2 M8
/-! what is written in the text, with names of which it is known what they show -/
structure GamAt (K : PySem.W.Frag) (N : List Addr) (U : List Nat) (Γ : Nat → Dat) (σ : L2.St) (H : Hp) : Prop where
  al : ∀ b ∈ N, H b ≠ none
  vr : ∀ i ∈ U, ∃ v, σ[i]? = some (some v) ∧ SeeF K (sansL N H) v (Γ i)
theorem GamAt.ex {K : PySem.W.Frag} {N : List Addr} {U : List Nat} {Γ : Nat → Dat} {σ : L2.St} {H H' : Hp} (g : GamAt K N U Γ σ H) (e : Ex H H') : GamAt K N U Γ σ H' := by
  refine ⟨fun b hb => ?_, fun i hi => ?_⟩
  · cases q : H b with
    | none => exact absurd q (g.al b hb)
    | some o => rw [e _ _ q]; simp
  · obtain ⟨v, h1, h2⟩ := g.vr i hi
    exact ⟨v, h1, h2.mono (sansL_mono fun b o n h => ⟨n, e _ _ h⟩)⟩
def tL (K : PySem.W.Frag) (U : List Nat) (F : (Nat → Dat) → Dat) : TE := fun σ H Q => ∃ N Γ, GamAt K N U Γ σ H ∧ ∀ v H', Ex H H' → SeeF K (sansL N H') v (F Γ) → Q v H'
def tLs (K : PySem.W.Frag) (U : List Nat) (n : Nat) (F : (Nat → Dat) → List Dat) : TA := fun σ H Q => ∃ N Γ, GamAt K N U Γ σ H ∧ ∀ vs H', vs.length = n → Ex H H' → SeeL (FKK K) (sansL N H') vs (F Γ) → Q vs H'
theorem newL {N : List Addr} {H : Hp} {p : Addr} (al : ∀ b ∈ N, H b ≠ none) (hp : H p = none) : p ∉ N := fun z => al p z hp
section
variable {X : Cx} {K : PySem.W.Frag} {U : List Nat}
theorem litE {e : Expr} {F : (Nat → Dat) → Dat} (h : PE X e (tL K U F)) : PE X e (tL K U F) := h
theorem litA {es : List Expr} {n : Nat} {F : (Nat → Dat) → List Dat} (h : PA X es (tLs K U n F)) : PA X es (tLs K U n F) := h
theorem PE.lC {e : Expr} {v : V} {d : Dat} (h : PE X e (tC v)) (hs : ∀ H, SeeF K H v d) : PE X e (tL K U fun _ => d) := ⟨fun pins s σ H Q I q => by
  obtain ⟨N, Γ, g, q⟩ := q
  exact h.run pins s σ H Q I (q _ _ (Ex.refl _) (hs _))⟩
theorem PE.lV {e : Expr} {i : Nat} (h : PE X e (tVar i)) (hi : i ∈ U) : PE X e (tL K U fun Γ => Γ i) := ⟨fun pins s σ H Q I q => h.run pins s σ H Q I (by
  obtain ⟨N, Γ, g, q⟩ := q
  obtain ⟨v, h1, h2⟩ := g.vr i hi
  exact ⟨v, h1, q _ _ (Ex.refl _) h2⟩)⟩
theorem lz_neg {i : Int} {p1 : Pos} {k : Nat} {pos : Pos} : PE X (.UnaryOp .USub (.Constant (.int i) k p1) pos) (tL K U fun _ => .int (-i)) := ⟨fun pins s σ H Q I q => by
  obtain ⟨N, Γ, g, q⟩ := q
  exact (pe_un un_neg pe_int).run pins s σ H Q I ⟨i, rfl, q _ _ (Ex.refl _) (.int _)⟩⟩
theorem lz_nil : PA X [] (tLs K U 0 fun _ => []) := ⟨fun pos pins s σ H Q I q => by
  obtain ⟨N, Γ, g, q⟩ := q
  exact pa_nil.run pos pins s σ H Q I (q _ _ rfl (Ex.refl _) .nil)⟩
theorem lz_cons {e : Expr} {es : List Expr} {d : (Nat → Dat) → Dat} {ds : (Nat → Dat) → List Dat} (h : PE X e (tL K U d)) {n : Nat} (hr : PA X es (tLs K U n ds)) (hs : starEach (e :: es) X.env = (false, eval e X.env) :: starEach es X.env := by rfl) : PA X (e :: es) (tLs K U (n + 1) fun Γ => d Γ :: ds Γ) :=
  ⟨fun pos pins s σ H Q I q => by
    obtain ⟨N, Γ, g, q⟩ := q
    exact (pa_cons h hr hs).run pos pins s σ H Q I ⟨N, Γ, g, fun v H1 e1 s1 => ⟨N, Γ, g.ex e1, fun vs H2 hl e2 s2 => q _ _ (by rw [List.length_cons, hl]) (e1.trans e2) (.cons (s1.mono (sansL_mono fun b o n h => ⟨n, e2 _ _ h⟩)) s2)⟩⟩⟩
theorem big6 (n : Nat) (h : n ≤ 1000000) : n ≤ sizeLine := by rw [sizeLine_eq]; omega
theorem lz_tup {es : List Expr} {ds : (Nat → Dat) → List Dat} {x1} {pos : Pos} {n : Nat} (h : PA X es (tLs K U n ds)) (hn : n ≤ 1000000 := by decide) : PE X (.Tuple es x1 pos) (tL K U fun Γ => .tup (ds Γ)) :=
  ⟨fun pins s σ H Q I q => by
    obtain ⟨N, Γ, g, q⟩ := q
    exact (pe_tup h).run pins s σ H Q I ⟨N, Γ, g, fun vs H1 hl e1 s1 => ⟨by rw [hl]; exact big6 _ hn, fun p hp => q _ _ (e1.mut (e1.free hp)) (.tup (sansL_at (newL (g.ex e1).al hp) upd_same) (SeeL.mono (sansL_mono fun b o n h => ⟨n, by rw [upd_ne (ne_of_none h hp)]; exact h⟩) s1))⟩⟩⟩
theorem lz_lst {es : List Expr} {ds : (Nat → Dat) → List Dat} {pos : Pos} {n : Nat} (h : PA X es (tLs K U n ds)) (hn : n ≤ 1000000 := by decide) : PE X (.List es pos) (tL K U fun Γ => .lst (ds Γ)) :=
  ⟨fun pins s σ H Q I q => by
    obtain ⟨N, Γ, g, q⟩ := q
    exact (pe_lst h).run pins s σ H Q I ⟨N, Γ, g, fun vs H1 hl e1 s1 => ⟨by rw [hl]; exact big6 _ hn, fun p hp => q _ _ (e1.mut (e1.free hp)) (.lst (sansL_at (newL (g.ex e1).al hp) upd_same) (SeeL.mono (sansL_mono fun b o n h => ⟨n, by rw [upd_ne (ne_of_none h hp)]; exact h⟩) s1))⟩⟩⟩
theorem lz_dnil {pos : Pos} : PE X (.Dict [] [] pos) (tL K U fun _ => .dct []) := ⟨fun pins s σ H Q I q => by
  obtain ⟨N, Γ, g, q⟩ := q
  exact pe_dnewK.run pins s σ H Q I (fun p hp => q _ _ (Ex.new hp) (.dct (sansL_at (newL g.al hp) upd_same) .nil))⟩
theorem lz_d1 {pos : Pos} {k e : Expr} {key : Key} {v : V} {d : Dat} (hk : PE X k (tC (kV key))) (hv : PE X e (tC v)) (hs : ∀ H, SeeF K H v d) : PE X (.Dict [some k] [e] pos) (tL K U fun _ => .dct [(key, d)]) := by
  refine ⟨fun pins s σ H Q I q => (pe_disp (pps_cons hk hv pps_nil) rfl rfl (by simp) (by simp)).run pins s σ H Q I ?_⟩
  obtain ⟨N, Γ, g, q⟩ := q
  intro p hp
  refine ⟨upd_same, [(key, v)], rfl, by simp, q _ _ ((Ex.new hp).mut hp) (.dct (sansL_at (newL g.al hp) upd_same) (.cons (hs _) .nil))⟩
theorem pe_negC {i : Int} {k : Nat} {p1 pos : Pos} : PE X (.UnaryOp .USub (.Constant (.int i) k p1) pos) (tC (.int (-i))) := ⟨fun pins s σ H Q I q => (pe_un un_neg pe_int).run pins s σ H Q I ⟨i, rfl, q⟩⟩
theorem lz_d2 {pos : Pos} {ka kb ea eb : Expr} {k1 k2 : Key} {v1 v2 : V} {d1 d2 : Dat} (hk1 : PE X ka (tC (kV k1))) (hk2 : PE X kb (tC (kV k2))) (hv1 : PE X ea (tC v1)) (hv2 : PE X eb (tC v2)) (hs1 : ∀ H, SeeF K H v1 d1) (hs2 : ∀ H, SeeF K H v2 d2) (hn : k2 ≠ k1) :
    PE X (.Dict [some ka, some kb] [ea, eb] pos) (tL K U fun _ => .dct [(k1, d1), (k2, d2)]) := by
  refine ⟨fun pins s σ H Q I q => (pe_disp (pps_cons hk1 hv1 (pps_cons hk2 hv2 pps_nil)) rfl rfl (by simp) (by simp)).run pins s σ H Q I ?_⟩
  obtain ⟨N, Γ, g, q⟩ := q
  intro p hp
  have e : mergeK [] [(k1, v1), (k2, v2)] = [(k1, v1), (k2, v2)] := mergeK_nil (by simp [hn.symm])
  refine ⟨upd_same, [(k1, v1), (k2, v2)], rfl, by simp, ?_⟩
  rw [e]
  exact q _ _ ((Ex.new hp).mut hp) (.dct (sansL_at (newL g.al hp) upd_same) (.cons (hs1 _) (.cons (hs2 _) .nil)))
theorem lz_d3 {pos : Pos} {ka kb kc ea eb ec : Expr} {k1 k2 k3 : Key} {v1 v2 v3 : V} {d1 d2 d3 : Dat} (hk1 : PE X ka (tC (kV k1))) (hk2 : PE X kb (tC (kV k2))) (hk3 : PE X kc (tC (kV k3))) (hv1 : PE X ea (tC v1)) (hv2 : PE X eb (tC v2)) (hv3 : PE X ec (tC v3)) (hs1 : ∀ H, SeeF K H v1 d1) (hs2 : ∀ H, SeeF K H v2 d2) (hs3 : ∀ H, SeeF K H v3 d3) (hn : k2 ≠ k1) (hn2 : k3 ≠ k1) (hn3 : k3 ≠ k2) :
    PE X (.Dict [some ka, some kb, some kc] [ea, eb, ec] pos) (tL K U fun _ => .dct [(k1, d1), (k2, d2), (k3, d3)]) := by
  refine ⟨fun pins s σ H Q I q => (pe_disp (pps_cons hk1 hv1 (pps_cons hk2 hv2 (pps_cons hk3 hv3 pps_nil))) rfl rfl (by simp) (by simp)).run pins s σ H Q I ?_⟩
  obtain ⟨N, Γ, g, q⟩ := q
  intro p hp
  have e : mergeK [] [(k1, v1), (k2, v2), (k3, v3)] = [(k1, v1), (k2, v2), (k3, v3)] := mergeK_nil (by simp [hn.symm, hn2.symm, hn3.symm])
  refine ⟨upd_same, [(k1, v1), (k2, v2), (k3, v3)], rfl, by simp, ?_⟩
  rw [e]
  exact q _ _ ((Ex.new hp).mut hp) (.dct (sansL_at (newL g.al hp) upd_same) (.cons (hs1 _) (.cons (hs2 _) (.cons (hs3 _) .nil))))
def rDictM : List V → Hp → VK → Prop := fun xs H Q => ∃ (a : Addr) (ps : List Addr) (kvs : List (Key × V)), xs = [.ref a] ∧ H a = some (.lst (ps.map V.ref)) ∧ Paired (fun p kv => H p = some (.tup [kV kv.1, kv.2])) ps kvs ∧
    ∀ p, H p = none → Q (.ref p) (upd H p (.dK (mergeK [] kvs)))
theorem call_dictM (hK : X.K = K) (hc : X.calm = true) : CallR X (.type "dict") rDictM := by
  intro pins s σ H xs us Q I r q
  obtain ⟨a, ps, kvs, ex, ha, hp, q⟩ := q
  exact call_dictP hc pins s σ H xs us Q I r ⟨a, ps, kvs, ex, SqL.of ha, Paired.imp (fun _ _ h => SqT.of h) hp, q⟩
theorem merge_put {kvs : List (Key × V)} (h : (kvs.map (·.1)).Nodup) (k : Key) (v : V) : mergeK [] (kvs ++ [(k, v)]) = putK kvs k v := by
  have e : mergeK [] (kvs ++ [(k, v)]) = putK (mergeK [] kvs) k v := by unfold mergeK; rw [List.foldl_append]; rfl
  rw [e, mergeK_nil h]
end
end K8

set_option Elab.async false
set_option linter.all false
set_option maxRecDepth 100000
set_option maxHeartbeats 4000000
namespace K8
open PySem PySem.Spec PyProof.Rows L2 M8
/-! a case drawn -/
/-- a drawn test -/
structure CaseG (L : Int) (ns : List Str) (ts : Tst) : Prop where
  told : Told (coef ts)
  len : (coef ts).length ≤ 12
  mem : ∀ p ∈ coef ts, p.1 ∈ ns ∧ p.2.natAbs ≤ 10
  lot : lotOk L ts
  kb : (kst ts).natAbs ≤ 10000000000
def lotsD : List Dat := [.lst [.int 1, .int 2, .int 3, .int 4, .int 6, .int 12], .lst [.int 2, .int 5, .int 10], .lst [.int 3, .int 9], .lst [.int 2, .int 4, .int 8], .lst [.int 7], .lst [.int 11], .lst [.int 1]]
def LotIs (d : Dat) (ms : List Int) (L : Int) : Prop := d = .lst (ms.map Dat.int) ∧ 0 < ms.length ∧ ms.length ≤ 6 ∧ 0 < L ∧ L ≤ 12 ∧ ∀ m ∈ ms, 0 < m ∧ m ∣ L
theorem lots_ok {d : Dat} (h : d ∈ lotsD) : ∃ ms L, LotIs d ms L := by
  unfold lotsD at h
  simp only [List.mem_cons, List.not_mem_nil, or_false] at h
  rcases h with rfl | rfl | rfl | rfl | rfl | rfl | rfl
  · exact ⟨[1, 2, 3, 4, 6, 12], 12, rfl, by decide, by decide, by decide, by decide, by decide⟩
  · exact ⟨[2, 5, 10], 10, rfl, by decide, by decide, by decide, by decide, by decide⟩
  · exact ⟨[3, 9], 9, rfl, by decide, by decide, by decide, by decide, by decide⟩
  · exact ⟨[2, 4, 8], 8, rfl, by decide, by decide, by decide, by decide, by decide⟩
  · exact ⟨[7], 7, rfl, by decide, by decide, by decide, by decide, by decide⟩
  · exact ⟨[11], 11, rfl, by decide, by decide, by decide, by decide, by decide⟩
  · exact ⟨[1], 1, rfl, by decide, by decide, by decide, by decide, by decide⟩
theorem see_intsV {F : Fk} {H : Hp} : ∀ {us : List V} {ms : List Int}, SeeL F H us (ms.map Dat.int) → us = ms.map V.int
  | _, [], h => by cases h; rfl
  | _, m :: ms, h => by
    cases h with
    | cons h1 t => cases h1; rw [see_intsV t]; rfl
theorem sansL_get {N : List Addr} {H : Hp} {b : Addr} {o : HO} (h : sansL N H b = some o) : b ∉ N ∧ H b = some o := by
  unfold sansL at h
  split at h
  · cases h
  · exact ⟨by assumption, h⟩
theorem Exo.sansL {N : List Addr} {H H' : Hp} (e : Exo N H H') : Ex (sansL N H) (sansL N H') := sansL_mono fun b o n h => ⟨n, e b o n h⟩
section
variable {P : Program} {w : World} {K : PySem.W.Frag} {mg : Str → Option Value} {base : Heap}
def spVCase (K : PySem.W.Frag) : Sp := fun vs H Q _ => ∃ (a l pd : Addr) (ns : List Str) (name : Str) (far slack : Int) (cn : Coef) (B : Nat) (N : List Addr), vs = [.ref a, .ref l, .str name, .int 10, .int far, .ref pd, .int slack] ∧ Spr H a B ∧ B + 1000 < lot ∧ a ∈ N ∧ (∀ b ∈ N, H b ≠ none) ∧ l ≠ a ∧ H l = some (.lst (ns.map V.str)) ∧ ns.Nodup ∧ ns.length ≤ 12 ∧
  0 ≤ far ∧ far ≤ 10000000 ∧ 0 < slack ∧ slack ≤ 100 ∧ H pd = some (.dK (cK cn)) ∧ (keys cn).Nodup ∧ (∀ n ∈ ns, n ∈ keys cn) ∧ (∀ n, (co cn n).natAbs ≤ 10000000) ∧
  ∀ (p : Addr) (us : List V) (tss : List Tst) (L : Int) H', H p = none → Exo [a] H H' → Spr H' a (B + 400) → 0 < L → L ≤ 12 → tss.length ≤ 7 → (∀ ts ∈ tss, CaseG L ns ts) → H' p = some (.lst us) → SeeL (FKK K) (sansL (p :: N) H') us (tss.map tstD) → Q (.ref p) H'
structure VcI (K : PySem.W.Frag) (N : List Addr) (a l pd lotA D : Addr) (ns : List Str) (name : Str) (far slack : Int) (B : Nat) (L : Int) (H1 : Hp) (i : Nat) (σ : L2.St) (H' : Hp) : Prop where
  st : ∃ x9 x10 x11 x12 x13 x14, σ = [some (.ref a), some (.ref l), some (.str name), some (.int 10), some (.int far), some (.ref pd), some (.int slack), some (.ref lotA), some (.ref D), x9, x10, x11, x12, x13, x14]
  ex : Exo [a, D] H1 H'
  sp : Spr H' a (B + 2 + 40 * i)
  tl : ∃ (us : List V) (tss : List Tst), H' D = some (.lst us) ∧ SeeL (FKK K) (sansL (D :: N) H') us (tss.map tstD) ∧ tss.length ≤ i ∧ ∀ ts ∈ tss, CaseG L ns ts
theorem lin_bound {A B : Nat} {cn : Coef} : ∀ {c : Coef}, (∀ p ∈ c, p.2.natAbs ≤ A) → (∀ n, (co cn n).natAbs ≤ B) → (lin c cn).natAbs ≤ c.length * (A * B)
  | [], _, _ => by show (0 : Int).natAbs ≤ _; simp
  | p :: c, h, hb => by
    have ih := lin_bound (c := c) (fun q hq => h q (List.mem_cons_of_mem _ hq)) hb
    have e1 : lin (p :: c) cn = p.2 * co cn p.1 + lin c cn := by unfold lin; rw [List.map_cons, List.sum_cons]
    have h1 := h p List.mem_cons_self
    have h2 : (p.2 * co cn p.1).natAbs ≤ A * B := by rw [Int.natAbs_mul]; exact Nat.mul_le_mul h1 (hb _)
    rw [e1, List.length_cons, Nat.succ_mul]
    omega
def vcApp (K : PySem.W.Frag) : TS := tDrop (tBM K "list" rAppend (tVar 8) (tCons (tIf (tTest (tOp rEq (tVar 10) (tC (V.str "by")))) (tTup (tCons (tC (V.str "by")) (tCons (tVar 13) (tCons (tVar 11) tNil)))) (tTup (tCons (tVar 10) (tCons (tVar 11) tNil)))) tNil))
/-- the test is told of at the end of the list -/
theorem vcApp_ok {a l pd lotA D : Addr} {ns : List Str} {name : Str} {far slack : Int} {B : Nat} {L m : Int} {H1 : Hp} {i : Nat} {En : Ends} {wd : Str} {t d : Addr} {c : Coef} {k : Int} {H2 H3 : Hp} {us : List V} {tss : List Tst} {N : List Addr} {x9 x12 x14 : Option V}
    (haN : a ∈ N) (hN : ∀ b ∈ N, H2 b ≠ none) (hDa : D ≠ a) (hEn : ∀ σ H, VcI K N a l pd lotA D ns name far slack B L H1 (i + 1) σ H → En.nx σ H) (hi : i < 7) (e12 : Exo [a, D] H1 H2) (hD2 : H2 D = some (.lst us)) (hus : SeeL (FKK K) (sansL (D :: N) H2) us (tss.map tstD)) (htl : tss.length ≤ i) (hts : ∀ ts ∈ tss, CaseG L ns ts)
    (e23 : Exo [a] H2 H3) (s3 : Spr H3 a (B + 2 + 40 * i + 40)) (nt : H2 t = none) (nd : H2 d = none) (pt : PairT H3 t d c k) (tc : Told c) (cl : c.length ≤ 12) (cm : ∀ p ∈ c, p.1 ∈ ns ∧ p.2.natAbs ≤ 10) (hwd : wd = "row" ∨ wd = "by" ∨ wd = "same") (hm : 0 < m ∧ m ∣ L) (hkb : k.natAbs ≤ 10000000000) :
    vcApp K En [some (.ref a), some (.ref l), some (.str name), some (.int 10), some (.int far), some (.ref pd), some (.int slack), some (.ref lotA), some (.ref D), x9, some (.str wd), some (.ref t), x12, some (.int m), x14] H3 := by
  have hD3 : H3 D = some (.lst us) := e23.at1 hDa hD2
  have lu := hus.len
  rw [List.length_map] at lu
  have sl : (1000000 : Nat) < sizeLine := by rw [sizeLine_eq]; decide
  have nta : t ≠ a := fun z => by
    obtain ⟨c1, m1, n1, e, _⟩ := s3
    have h1 := pt.1
    rw [z, e] at h1; cases h1
  have nda : d ≠ a := fun z => by
    obtain ⟨c1, m1, n1, e, _⟩ := s3
    have h1 := pt.2
    rw [z, e] at h1; cases h1
  have ntD : t ≠ D := fun z => by rw [z, hD2] at nt; cases nt
  have ndD : d ≠ D := fun z => by rw [z, hD2] at nd; cases nd
  have fin : ∀ (q : Addr) (xs : List V) (ts : Tst), H3 q = none → CaseG L ns ts → (∀ {H' : Hp}, H' q = some (.tup xs) → SeeF K H' (.ref t) (tDat c k) → SeeF K H' (.ref q) (tstD ts)) →
      En.nx [some (.ref a), some (.ref l), some (.str name), some (.int 10), some (.int far), some (.ref pd), some (.int slack), some (.ref lotA), some (.ref D), x9, some (.str wd), some (.ref t), x12, some (.int m), x14] (upd (upd H3 q (.tup xs)) D (.lst (us ++ [.ref q]))) := by
    intro q xs ts hq cg see
    have nqa : q ≠ a := fun z => s3.ne (z ▸ hq)
    have nqD : q ≠ D := fun z => by rw [z, hD3] at hq; cases hq
    have eq1 : Ex H3 (upd H3 q (.tup xs)) := Ex.new hq
    have e2f : Exo [a, D] H2 (upd (upd H3 q (.tup xs)) D (.lst (us ++ [.ref q]))) := fun b o nb hb => by
      rw [upd_ne fun z => nb (by simp [z])]
      exact eq1 b o (e23 b o (fun z => nb (by simp [show b = a by simpa using z])) hb)
    have qN : q ∉ N := fun z => by
      by_cases h : q = a
      · exact nqa h
      · exact hN q z (e23.free (not1 h) hq)
    have e2n : Exo (D :: N) H2 (upd (upd H3 q (.tup xs)) D (.lst (us ++ [.ref q]))) := fun b o nb hb => e2f b o (fun z => nb (by
      rcases List.mem_cons.mp z with z | z
      · rw [z]; exact List.mem_cons_of_mem _ haN
      · rw [List.mem_singleton.mp z]; exact List.mem_cons_self)) hb
    have atf : ∀ {b : Addr} {o : HO}, b ∉ N → b ≠ D → (upd H3 q (.tup xs)) b = some o → sansL (D :: N) (upd (upd H3 q (.tup xs)) D (.lst (us ++ [.ref q]))) b = some o := fun na nD h => sansL_at (by simp [na, nD]) (by rw [upd_ne nD]; exact h)
    refine hEn _ _ ⟨⟨_, _, _, _, _, _, rfl⟩, e12.trans e2f, ((s3.ex eq1).at (upd_ne hDa.symm)).mono (by omega), us ++ [.ref q], tss ++ [ts], upd_same, ?_, by rw [List.length_append]; simp; omega, ?_⟩
    · rw [List.map_append]
      refine SeeL.append (hus.mono e2n.sansL) (.cons (see (atf qN nqD upd_same) ?_) .nil)
      exact tDat_see (atf (fun z => hN t z nt) ntD (eq1 _ _ pt.1)) (atf (fun z => hN d z nd) ndD (eq1 _ _ pt.2))
    · intro ts' h
      rcases List.mem_append.mp h with h | h
      · exact hts _ h
      · rw [List.mem_singleton.mp h]; exact cg
  refine ⟨_, rfl, .inl ⟨rfl, _, SqL.of hD3⟩, _, rfl, rfl, _, rfl, ?_⟩
  rcases hwd with rfl | rfl | rfl
  · refine iteF ⟨_, rfl, _, rfl, by show 2 ≤ sizeLine; decide, fun q hq => ?_⟩
    have nqD : q ≠ D := fun z => by rw [z, hD3] at hq; cases hq
    refine ⟨D, us, _, rfl, rfl, by rw [upd_ne nqD.symm]; exact hD3, by omega, fin q _ (.row c k) hq ⟨tc, cl, cm, trivial, hkb⟩ fun h1 h2 => .tup h1 (.cons (.str _) (.cons h2 .nil))⟩
  · refine iteT ⟨_, rfl, _, rfl, by show 3 ≤ sizeLine; decide, fun q hq => ?_⟩
    have nqD : q ≠ D := fun z => by rw [z, hD3] at hq; cases hq
    refine ⟨D, us, _, rfl, rfl, by rw [upd_ne nqD.symm]; exact hD3, by omega, fin q _ (.div m c k) hq ⟨tc, cl, cm, hm, hkb⟩ fun h1 h2 => .tup h1 (.cons (.str _) (.cons (.int m) (.cons h2 .nil)))⟩
  · refine iteF ⟨_, rfl, _, rfl, by show 2 ≤ sizeLine; decide, fun q hq => ?_⟩
    have nqD : q ≠ D := fun z => by rw [z, hD3] at hq; cases hq
    refine ⟨D, us, _, rfl, rfl, by rw [upd_ne nqD.symm]; exact hD3, by omega, fin q _ (.same c k) hq ⟨tc, cl, cm, trivial, hkb⟩ fun h1 h2 => .tup h1 (.cons (.str _) (.cons h2 .nil))⟩
def vcMid (K : PySem.W.Frag) : TS := tSeq (tPar 12 13 (tCons (tC0 spQWorth (tCons (tVar 11) (tCons (tVar 5) tNil))) (tCons (tC0 (spPick K) (tCons (tVar 0) (tCons (tVar 7) tNil))) tNil)))
  (tSeq (tIfS (tTest (tOp rEq (tVar 10) (tC (V.str "row"))))
      (tAsg (tTup (tCons (tOp (rIxQ K) (tVar 11) (tC (V.int 0))) (tCons (tOp (rI0 fun i j => V.int (i - j)) (tOp (rI0 fun i j => V.int (i + j)) (tOp (rI0 fun i j => V.int (i - j)) (tOp (rIxQ K) (tVar 11) (tC (V.int 1))) (tVar 12)) (tC0 spDraw (tCons (tVar 0) (tCons (tVar 6) tNil)))) (tC0 spDraw (tCons (tVar 0) (tCons (tC (V.int 2)) tNil)))) tNil))) (gName 11))
      (tIfS (tOr (tTest (tOp rEq (tVar 10) (tC (V.str "same")))) (tTest (tOp (rI0 fun i j => V.bl (decide (j < i))) (tC0 spDraw (tCons (tVar 0) (tCons (tC (V.int 5)) tNil))) (tC (V.int 0)))))
        (tAsg (tTup (tCons (tOp (rIxQ K) (tVar 11) (tC (V.int 0))) (tCons (tOp (rI0 fun i j => V.int (i + j)) (tOp (rI0 fun i j => V.int (i - j)) (tOp (rIxQ K) (tVar 11) (tC (V.int 1))) (tVar 12)) (tOp (rI CMul fun i j => V.int (i * j)) (tOp (rI CMul fun i j => V.int (i * j)) (tVar 13) (tC0 spDraw (tCons (tVar 0) (tCons (tC (V.int 3)) tNil))))
          (tCB (fun xs H Q => (∃ i, xs = [V.int i] ∧ Q (V.int i) H) ∨ ∃ k, xs = [V.bl k] ∧ Q (V.int (if k = true then 1 else 0)) H) (tCons (tOp rEq (tVar 10) (tC (V.str "by"))) tNil)))) tNil))) (gName 11)) tNext))
    (vcApp K))
theorem vcMid_ok {a l pd lotA D : Addr} {ns : List Str} {name : Str} {far slack : Int} {B : Nat} {L : Int} {H1 : Hp} {i : Nat} {En : Ends} {wd : Str} {t d : Addr} {c : Coef} {k : Int} {H2 H3 : Hp} {us : List V} {tss : List Tst} {N : List Addr} {x9 x12 x13 x14 : Option V} {ms : List Int} {cn : Coef}
    (haN : a ∈ N) (hN : ∀ b ∈ N, H2 b ≠ none) (hDa : D ≠ a) (hEn : ∀ σ H, VcI K N a l pd lotA D ns name far slack B L H1 (i + 1) σ H → En.nx σ H) (hi : i < 7) (e12 : Exo [a, D] H1 H2) (hD2 : H2 D = some (.lst us)) (hus : SeeL (FKK K) (sansL (D :: N) H2) us (tss.map tstD)) (htl : tss.length ≤ i) (hts : ∀ ts ∈ tss, CaseG L ns ts)
    (e23 : Exo [a] H2 H3) (s3 : Spr H3 a (B + 2 + 40 * i + 33)) (nt : H2 t = none) (nd : H2 d = none) (pt : PairT H3 t d c k) (tc : Told c) (cl : c.length ≤ 12) (cm : ∀ p ∈ c, p.1 ∈ ns ∧ p.2.natAbs ≤ 10) (hwd : wd = "row" ∨ wd = "by" ∨ wd = "same")
    (hms : ∀ m ∈ ms, 0 < m ∧ m ∣ L) (hml : 0 < ms.length) (hml2 : ms.length ≤ 6) (hL12 : 0 < L ∧ L ≤ 12) (hlot : H2 lotA = some (.lst (ms.map V.int))) (nla : lotA ≠ a) (hpd : H2 pd = some (.dK (cK cn))) (npa : pd ≠ a) (cnd : (keys cn).Nodup) (hin : ∀ n ∈ ns, n ∈ keys cn) (s0 : 0 < slack) (s1 : slack ≤ 100) (hB : B + 1000 < lot) (hk0 : k.natAbs ≤ 10000000) (hcn : ∀ n, (co cn n).natAbs ≤ 10000000) :
    vcMid K En [some (.ref a), some (.ref l), some (.str name), some (.int 10), some (.int far), some (.ref pd), some (.int slack), some (.ref lotA), some (.ref D), x9, some (.str wd), some (.ref t), x12, x13, x14] H3 := by
  have nta : t ≠ a := fun z => by
    obtain ⟨c1, m1, n1, e, _⟩ := s3
    have h1 := pt.1
    rw [z, e] at h1; cases h1
  have nda : d ≠ a := fun z => by
    obtain ⟨c1, m1, n1, e, _⟩ := s3
    have h1 := pt.2
    rw [z, e] at h1; cases h1
  refine ⟨_, rfl, _, rfl, .ref t, c, k, pd, cn, rfl, ⟨t, d, rfl, .inr pt.1, pt.2⟩, e23.at1 npa hpd, by omega, tc.nd, fun p hp => by have := (cm p hp).2; omega, cnd, fun p hp => hin _ (cm p hp).1, fun H4 e4 => ?_⟩
  have hwb : (worth c k cn).natAbs ≤ 1300000000 := by
    rw [worth_lin]
    have := lin_bound (A := 10) (B := 10000000) (fun p hp => (cm p hp).2) hcn
    have : c.length * (10 * 10000000) ≤ 12 * (10 * 10000000) := Nat.mul_le_mul_right _ cl
    omega
  generalize worth c k cn = wv at hwb
  have e24 : Exo [a] H2 H4 := e23.trans (e4.exo _)
  have s4 := s3.ex e4
  refine ⟨_, rfl, _, rfl, a, lotA, ms.map V.int, _, rfl, s4, by omega, nla, SqQ.l (e24.at1 nla hlot), by rw [List.length_map]; exact hml, by rw [List.length_map]; omega, fun j y H5 hy e5 s5 => ?_⟩
  rw [List.getElem?_map] at hy
  obtain ⟨m, hm, rfl⟩ : ∃ m, ms[j]? = some m ∧ V.int m = y := by
    cases h : ms[j]? with
    | none => rw [h] at hy; cases hy
    | some m => rw [h] at hy; exact ⟨m, rfl, Option.some.inj hy⟩
  have hmo := hms m (List.mem_of_getElem? hm)
  have hml3 : m ≤ 12 := by have := Int.le_of_dvd hL12.1 hmo.2; omega
  have e25 := e24.trans e5
  have pt5 : PairT H5 t d c k := ⟨e5.at1 nta (e4 _ _ pt.1), e5.at1 nda (e4 _ _ pt.2)⟩
  refine ⟨_, _, rfl, ?_⟩
  have addb : ∀ {d2 z : Int}, 0 < m → m ≤ 12 → 0 ≤ d2 → d2 < 3 → z = 0 ∨ z = 1 → (k - wv + m * d2 * z).natAbs ≤ 10000000000 := by
    intro d2 z h1 h2 h3 h4 h5
    have h6 : 0 ≤ m * d2 := Int.mul_nonneg (by omega) h3
    have h7 : m * d2 ≤ 12 * 2 := Int.mul_le_mul h2 (by omega) h3 (by decide)
    rcases h5 with rfl | rfl
    · rw [Int.mul_zero]; omega
    · rw [Int.mul_one]; omega
  -- the new term, with another constant
  have app : ∀ (t' : Addr) (k' : Int) (H6 : Hp) (x12 : Option V), Exo [a] H2 H6 → Spr H6 a (B + 2 + 40 * i + 40) → H2 t' = none → PairT H6 t' d c k' → k'.natAbs ≤ 10000000000 →
      vcApp K En [some (.ref a), some (.ref l), some (.str name), some (.int 10), some (.int far), some (.ref pd), some (.int slack), some (.ref lotA), some (.ref D), x9, some (.str wd), some (.ref t'), x12, some (.int m), x14] H6 :=
    fun t' k' H6 x12 e s h p hk => vcApp_ok haN hN hDa hEn hi e12 hD2 hus htl hts e s h nd p tc cl cm hwd hmo hk
  have newT : ∀ (k' : Int) (H6 : Hp), Exo [a] H5 H6 → Spr H6 a (B + 2 + 40 * i + 40) → ∀ p, H6 p = none → Exo [a] H2 (upd H6 p (.tup [.ref d, .int k'])) ∧ Spr (upd H6 p (.tup [.ref d, .int k'])) a (B + 2 + 40 * i + 40) ∧ H2 p = none ∧ PairT (upd H6 p (.tup [.ref d, .int k'])) p d c k' := by
    intro k' H6 e6 s6 p hp
    have npa : p ≠ a := fun z => s6.ne (z ▸ hp)
    have hd6 := e6.at1 nda pt5.2
    have e26 := e25.trans e6
    exact ⟨e26.mut (e26.free (not1 npa) hp), s6.at (upd_ne npa.symm), e26.free (not1 npa) hp, upd_same, by rw [upd_ne (ne_of_none hd6 hp)]; exact hd6⟩
  rcases hwd with rfl | rfl | rfl
  · refine ⟨_, rfl, rfl, _, rfl, iteT ?_⟩
    refine ⟨_, rfl, t, _, 0, _, rfl, rfl, SqQ.t pt5.1, at0, _, rfl, t, _, 1, _, rfl, rfl, SqQ.t pt5.1, at1, _, rfl, _, _, rfl, rfl, _, rfl, _, rfl, a, _, _, rfl, s5, by omega, s0, by omega, fun d1 H6 g0 g1 e6 s6 => ⟨_, _, rfl, rfl, ?_⟩⟩
    refine ⟨_, rfl, a, 2, _, rfl, s6, by omega, by decide, by decide, fun d2 H7 g2 g3 e7 s7 => ⟨_, _, rfl, rfl, by show 2 ≤ sizeLine; decide, fun p hp => ?_⟩⟩
    obtain ⟨n1, n2, n3, n4⟩ := newT (k - wv + d1 - d2) H7 (e6.trans e7) (s7.mono (by omega)) p hp
    exact app p _ _ _ n1 n2 n3 n4 (by omega)
  · refine ⟨_, rfl, rfl, _, rfl, iteF ?_⟩
    refine ⟨_, rfl, rfl, _, rfl, iteF ?_⟩
    refine ⟨_, rfl, a, 5, _, rfl, s5, by omega, by decide, by decide, fun d1 H6 g0 g1 e6 s6 => ⟨_, _, rfl, rfl, _, rfl, ?_⟩⟩
    have pt6 : PairT H6 t d c k := ⟨e6.at1 nta pt5.1, e6.at1 nda pt5.2⟩
    by_cases hd1 : 0 < d1
    · rw [decide_eq_true hd1]
      refine iteT ?_
      refine ⟨_, rfl, t, _, 0, _, rfl, rfl, SqQ.t pt6.1, at0, _, rfl, t, _, 1, _, rfl, rfl, SqQ.t pt6.1, at1, _, rfl, _, _, rfl, rfl, _, rfl, _, rfl, a, 3, _, rfl, s6, by omega, by decide, by decide, fun d2 H7 g2 g3 e7 s7 => ?_⟩
      refine ⟨_, _, rfl, rfl, .inl ⟨by omega, by omega⟩, _, rfl, rfl, .inr ⟨_, rfl, _, _, rfl, rfl, .inr (by split <;> exact ⟨by decide, by decide⟩), _, _, rfl, rfl, by show 2 ≤ sizeLine; decide, fun p hp => ?_⟩⟩
      obtain ⟨n1, n2, n3, n4⟩ := newT _ H7 (e6.trans e7) (s7.mono (by omega)) p hp
      refine app p _ _ _ n1 n2 n3 n4 (addb hmo.1 hml3 g2 g3 ?_)
      split <;> simp
    · rw [decide_eq_false hd1]
      exact iteF (app t k H6 _ (e25.trans e6) (s6.mono (by omega)) nt pt6 (by omega))
  · refine ⟨_, rfl, rfl, _, rfl, iteF ?_⟩
    refine ⟨_, rfl, rfl, _, rfl, iteT ?_⟩
    refine ⟨_, rfl, t, _, 0, _, rfl, rfl, SqQ.t pt5.1, at0, _, rfl, t, _, 1, _, rfl, rfl, SqQ.t pt5.1, at1, _, rfl, _, _, rfl, rfl, _, rfl, _, rfl, a, 3, _, rfl, s5, by omega, by decide, by decide, fun d2 H7 g2 g3 e7 s7 => ?_⟩
    refine ⟨_, _, rfl, rfl, .inl ⟨by omega, by omega⟩, _, rfl, rfl, .inr ⟨_, rfl, _, _, rfl, rfl, .inr (by split <;> exact ⟨by decide, by decide⟩), _, _, rfl, rfl, by show 2 ≤ sizeLine; decide, fun p hp => ?_⟩⟩
    obtain ⟨n1, n2, n3, n4⟩ := newT _ H7 e7 (s7.mono (by omega)) p hp
    refine app p _ _ _ n1 n2 n3 n4 (addb hmo.1 hml3 g2 g3 ?_)
    split <;> simp
abbrev s__law_v_case : Stmt := top 53
theorem sc__law_v_case : FnScope ["source", "names", "name", "top", "far", "point", "slack", "lot", "found", "k", "word", "term", "worth", "m", "one"] ["source", "names", "name", "top", "far", "point", "slack"] (defScope s__law_v_case) := ⟨rfl, rfl, rfl, by decide +kernel, rfl, by decide +kernel, by decide +kernel⟩
theorem ok__law_v_case (T : Txt K mg) (a : At K mg "_law_v_case" s__law_v_case ["source", "names", "name", "top", "far", "point", "slack"]) (O_law_draw : Ok P w K mg base CX0 1 "_law_draw" ["source", "many"] spDraw) (O_law_pick : Ok P w K mg base CX0 2 "_law_pick" ["source", "some"] (spPick K)) (O_law_q_term : Ok P w K mg base CX0 2 "_law_q_term" ["source", "names", "top", "far"] spQTerm) (O_law_q_worth : Ok P w K mg base CX0 1 "_law_q_worth" ["term", "numbers"] spQWorth) : Ok P w K mg base CX0 3 "_law_v_case" ["source", "names", "name", "top", "far", "point", "slack"] (spVCase K) := a.ok fun f fd F => by
  refine F.ok sc__law_v_case (fun vs H Q E h => ?_) (fun cdv A outer s H vs Q E hr h => ?_)
  · obtain ⟨a, l, pd, ns, name, far, slack, cn, B, N, rfl, _⟩ := h; rfl
  · obtain ⟨a, l, pd, ns, name, far, slack, cn, B, N, rfl, hs, hB, haN, hN, hla, hl, nd, nl, f0, f1, s0, s1, hpd, cnd, hin, hcb, q⟩ := h
    refine ⟨_, (pss_cons (ps_par (i := 7) (j := 8) rfl sc__law_v_case.nd rfl rfl (by decide) rfl rfl (pa_cons (pe_callO O_law_pick (hr.mono (by first | decide | omega)) rfl (pa_cons (pv 0) (pa_cons (litE (K := K) (U := []) (lz_lst (lz_cons (lz_lst (lz_cons (PE.lC pe_int (fun _ => .int _)) (lz_cons (PE.lC pe_int (fun _ => .int _)) (lz_cons (PE.lC pe_int (fun _ => .int _)) (lz_cons (PE.lC pe_int (fun _ => .int _)) (lz_cons (PE.lC pe_int (fun _ => .int _)) (lz_cons (PE.lC pe_int (fun _ => .int _)) lz_nil))))))) (lz_cons (lz_lst (lz_cons (PE.lC pe_int (fun _ => .int _)) (lz_cons (PE.lC pe_int (fun _ => .int _)) (lz_cons (PE.lC pe_int (fun _ => .int _)) lz_nil)))) (lz_cons (lz_lst (lz_cons (PE.lC pe_int (fun _ => .int _)) (lz_cons (PE.lC pe_int (fun _ => .int _)) lz_nil))) (lz_cons (lz_lst (lz_cons (PE.lC pe_int (fun _ => .int _)) (lz_cons (PE.lC pe_int (fun _ => .int _)) (lz_cons (PE.lC pe_int (fun _ => .int _)) lz_nil)))) (lz_cons (lz_lst (lz_cons (PE.lC pe_int (fun _ => .int _)) lz_nil)) (lz_cons (lz_lst (lz_cons (PE.lC pe_int (fun _ => .int _)) lz_nil)) (lz_cons (lz_lst (lz_cons (PE.lC pe_int (fun _ => .int _)) lz_nil)) lz_nil))))))))) pa_nil))) (pa_cons (pe_lst pa_nil) pa_nil)) rfl)
      (pss_cons (ps_for PassesOwn.never rfl (pi_range1 rfl T.n_range (pa_cons (pe_callO O_law_draw (hr.mono (by first | decide | omega)) rfl (pa_cons (pv 0) (pa_cons pe_int pa_nil))) pa_nil)) (pg_name (i := 9) sc__law_v_case.nd rfl (Or.inl rfl)) (pss_cons (ps_asg (pe_tup (pa_cons (pe_callO O_law_pick (hr.mono (by first | decide | omega)) rfl (pa_cons (pv 0) (pa_cons (litE (K := K) (U := []) (lz_lst (lz_cons (PE.lC pe_str (fun _ => .str _)) (lz_cons (PE.lC pe_str (fun _ => .str _)) (lz_cons (PE.lC pe_str (fun _ => .str _)) (lz_cons (PE.lC pe_str (fun _ => .str _)) (lz_cons (PE.lC pe_str (fun _ => .str _)) (lz_cons (PE.lC pe_str (fun _ => .str _)) lz_nil)))))))) pa_nil))) (pa_cons (pe_callO O_law_q_term (hr.mono (by first | decide | omega)) rfl (pa_cons (pv 0) (pa_cons (pv 1) (pa_cons pe_int (pa_cons (pv 4) pa_nil))))) pa_nil))) (pg_tup rfl (pgs_cons (pg_name (i := 10) sc__law_v_case.nd rfl (Or.inl rfl)) (pgs_cons (pg_name (i := 11) sc__law_v_case.nd rfl (Or.inr rfl)) pgs_nil))))
      (pss_cons (ps_if (pt_cmp (pc_din (hu_of hr) (pv 2) (pe_ix (ix_qK (K := K) rfl) (pv 11) pe_int (fun _ _ => rfl)))) (pss_one (ps_set (i := 11) sc__law_v_case.nd rfl (Or.inr rfl) (pe_tup (pa_cons (pe_callTy (call_dictC (K := K) rfl rfl) rfl T.n_dict rfl (pa_cons (pe_lock (pe_lc (own := [("one", 14)]) (g := gName 14) (tt := tYes) rfl sc__law_v_case.nd (pi_keys (pe_ix (ix_qK (K := K) rfl) (pv 11) pe_int (fun _ _ => rfl))) (blkOk_by (N := ["source", "names", "name", "top", "far", "point", "slack", "lot", "found", "k", "word", "term", "worth", "m", "one"]) (sc := defScope s__law_v_case) (by decide +kernel)) (fun _ _ _ _ _ => (pg_name (i := 14) sc__law_v_case.nd rfl (Or.inl rfl))) (fun _ _ _ _ _ => pts_nil) (fun _ _ _ _ _ => (pe_tup (pa_cons (pv 14) (pa_cons (pe_ifExp (pt_cmpR op_eq (pv 14) (pv 2) (nomark _)) (pe_callB (call_max2 rfl) rfl T.n_max rfl (pa_cons (pe_op op_sub pe_int (pv 3)) (pa_cons (pe_callB (call_min2 rfl) rfl T.n_min rfl (pa_cons (pv 3) (pa_cons (pe_dget (hu_of hr) (pe_ix (ix_qK (K := K) rfl) (pv 11) pe_int (fun _ _ => rfl)) (pv 14) (fun _ _ => rfl)) pa_nil))) pa_nil))) (pe_dget (hu_of hr) (pe_ix (ix_qK (K := K) rfl) (pv 11) pe_int (fun _ _ => rfl)) (pv 14) (fun _ _ => rfl))) pa_nil)))))) pa_nil)) (pa_cons (pe_ix (ix_qK (K := K) rfl) (pv 11) pe_int (fun _ _ => rfl)) pa_nil))))) pss_nil)
      (pss_cons (ps_par (i := 12) (j := 13) rfl sc__law_v_case.nd rfl rfl (by decide) rfl rfl (pa_cons (pe_callO O_law_q_worth (hr.mono (by first | decide | omega)) rfl (pa_cons (pv 11) (pa_cons (pv 5) pa_nil))) (pa_cons (pe_callO O_law_pick (hr.mono (by first | decide | omega)) rfl (pa_cons (pv 0) (pa_cons (pv 7) pa_nil))) pa_nil)) rfl)
      (pss_cons (ps_if (pt_cmpR op_eq (pv 10) pe_str (nomark _)) (pss_one (ps_set (i := 11) sc__law_v_case.nd rfl (Or.inr rfl) (pe_tup (pa_cons (pe_ix (ix_qK (K := K) rfl) (pv 11) pe_int (fun _ _ => rfl)) (pa_cons (pe_op op_sub (pe_op op_add (pe_op op_sub (pe_ix (ix_qK (K := K) rfl) (pv 11) pe_int (fun _ _ => rfl)) (pv 12)) (pe_callO O_law_draw (hr.mono (by first | decide | omega)) rfl (pa_cons (pv 0) (pa_cons (pv 6) pa_nil)))) (pe_callO O_law_draw (hr.mono (by first | decide | omega)) rfl (pa_cons (pv 0) (pa_cons pe_int pa_nil)))) pa_nil))))) (pss_one (ps_if (PW.pt (pw_or (pt_cmpR op_eq (pv 10) pe_str (nomark _)) (pw_or1 (pt_cmpR op_gt (pe_callO O_law_draw (hr.mono (by first | decide | omega)) rfl (pa_cons (pv 0) (pa_cons pe_int pa_nil))) pe_int (nomark _))))) (pss_one (ps_set (i := 11) sc__law_v_case.nd rfl (Or.inr rfl) (pe_tup (pa_cons (pe_ix (ix_qK (K := K) rfl) (pv 11) pe_int (fun _ _ => rfl)) (pa_cons (pe_op op_add (pe_op op_sub (pe_ix (ix_qK (K := K) rfl) (pv 11) pe_int (fun _ _ => rfl)) (pv 12)) (pe_op op_mul (pe_op op_mul (pv 13) (pe_callO O_law_draw (hr.mono (by first | decide | omega)) rfl (pa_cons (pv 0) (pa_cons pe_int pa_nil)))) (pe_callTy call_int1 rfl T.n_int rfl (pa_cons (pe_cmpR op_eq (pv 10) pe_str (nomark _)) pa_nil)))) pa_nil))))) pss_nil)))
      (pss_one (ps_expr (pe_bmK (K := K) rfl (pe_bm PySem.F.plainAttrs_list PySem.F.slot_list_append PySem.F.type_list_append mt_append (pv 8) (pa_cons (pe_ifExp (pt_cmpR op_eq (pv 10) pe_str (nomark _)) (pe_tup (pa_cons pe_str (pa_cons (pv 13) (pa_cons (pv 11) pa_nil)))) (pe_tup (pa_cons (pv 10) (pa_cons (pv 11) pa_nil)))) pa_nil))))))))))
      (pss_one (ps_ret (pv 8))))), ?_⟩
    have npa : pd ≠ a := fun z => by
      obtain ⟨c1, m1, n1, e, _⟩ := hs
      rw [z, e] at hpd; cases hpd
    refine ⟨_, rfl, [a], fun _ => .non, ⟨fun b hb => by rw [List.mem_singleton.mp hb]; exact hs.ne, fun i hi => by cases hi⟩, fun v H1 e1 sv => ?_⟩
    have sv : SeeF K (sansL [a] H1) v (.lst lotsD) := sv
    cases sv with
    | @lst l1 xs _ h1 k1 =>
    obtain ⟨nl1, h1⟩ := sansL_get h1
    have xl := k1.len
    refine ⟨a, l1, xs, B, rfl, hs.ex e1, by omega, by simpa using nl1, SqQ.l h1, by rw [xl]; decide, by rw [xl]; decide, fun j y H2 hy e2 s2 => ?_⟩
    obtain ⟨dy, hdy, sy⟩ := k1.getV hy
    obtain ⟨ms, L, rfl, hm0, hm6, L0, L12, hms⟩ := lots_ok (List.mem_of_getElem? hdy)
    cases sy with
    | @lst lotA zs _ hlot kz =>
    have ez := see_intsV kz
    subst ez
    obtain ⟨nla, hlot⟩ := sansL_get hlot
    have nla : lotA ≠ a := by simpa using nla
    refine ⟨by show 0 ≤ sizeLine; exact Nat.zero_le _, fun D hD => ⟨_, _, rfl, ?_⟩⟩
    have e02 : Exo [a] H H2 := (e1.exo _).trans e2
    have nDa : D ≠ a := fun z => s2.ne (z ▸ hD)
    have e3 : Ex H2 (upd H2 D (.lst [])) := Ex.new hD
    have hD3 : (upd H2 D (.lst [])) D = some (.lst []) := upd_same
    generalize upd H2 D (.lst []) = H3 at e3 hD3
    have e03 : Exo [a] H H3 := e02.trans (e3.exo _)
    have hl3 := e03.at1 hla hl
    have hpd3 := e03.at1 npa hpd
    have hlot3 := e3 _ _ (e2.at1 nla hlot)
    dsimp only [tSeq]
    refine tFor_of ⟨_, rfl, a, 8, _, rfl, s2.ex e3, by omega, by decide, by decide, fun n H4 n0 n1 e4 s4 => ⟨n, rfl, by omega, by omega, ?_⟩⟩
    have hl2 := e02.at1 hla hl
    have hpd2 := e02.at1 npa hpd
    have nlD : l ≠ D := ne_of_none hl2 hD
    have npD : pd ≠ D := ne_of_none hpd2 hD
    have nLD : lotA ≠ D := ne_of_none (e2.at1 nla hlot) hD
    have more : ∀ {H' H'' : Hp}, Exo [a] H' H'' → Exo [a, D] H' H'' := fun e b o nb hb => e b o (fun z => nb (by simp [show b = a by simpa using z])) hb
    refine for_itB walk_range (VcI K N a l pd lotA D ns name far slack B L H3) ⟨⟨_, _, _, _, _, _, rfl⟩, more e4, s4.mono (by omega), [], [], e4.at1 nDa hD3, .nil, by simp, by simp⟩ (fun _ _ _ _ _ => trivial) ?_ ?_
    · rintro i x σ H5 H5' iN ⟨⟨x9, x10, x11, x12, x13, x14, rfl⟩, e35, s5, us, tss, hD5, hus, htl, hts⟩ ⟨rfl, rfl⟩
      have at5 : ∀ {b : Addr} {o : HO}, b ≠ a → b ≠ D → H3 b = some o → H5' b = some o := fun na nD h => e35 _ _ (by simp [na, nD]) h
      have hl5 := at5 hla nlD hl3
      have hN5 : ∀ b ∈ N, H5' b ≠ none := fun b hb => by
        by_cases h : b = a
        · rw [h]; exact s5.ne
        · cases hx : H b with
          | none => exact absurd hx (hN b hb)
          | some o =>
            have h2 := e02.at1 h hx
            rw [at5 h (ne_of_none h2 hD) (e3 _ _ h2)]; simp
      refine ⟨_, rfl, [a], fun _ => .non, ⟨fun b hb => by rw [List.mem_singleton.mp hb]; exact s5.ne, fun i hi => by cases hi⟩, fun v H6 e6 sv => ?_⟩
      have sv : SeeF K (sansL [a] H6) v (.lst (([ "row", "row", "row", "by", "by", "same"] : List Str).map Dat.str)) := sv
      cases sv with
      | @lst lw ws _ hlw kw =>
      have wl := kw.len
      obtain ⟨nlw, hlw⟩ := sansL_get hlw
      refine ⟨a, lw, ws, _, rfl, s5.ex e6, by omega, by simpa using nlw, SqQ.l hlw, by rw [wl]; decide, by rw [wl]; decide, fun j y H7 hy e7 s7 => ?_⟩
      obtain ⟨wd, rfl, hwd⟩ : ∃ wd : Str, y = .str wd ∧ (wd = "row" ∨ wd = "by" ∨ wd = "same") := by
        obtain ⟨dw, hdw, sw⟩ := kw.getV hy
        have hm := List.mem_of_getElem? hdw
        simp only [List.map_cons, List.map_nil, List.mem_cons, List.not_mem_nil, or_false] at hm
        rcases hm with rfl | rfl | rfl | rfl | rfl | rfl <;> (cases sw; exact ⟨_, rfl, by simp⟩)
      have e57 : Exo [a] H5' H7 := (e6.exo _).trans e7
      refine ⟨_, rfl, _, rfl, _, rfl, a, l, ns, 10, far, _, rfl, s7, by omega, hla, e57.at1 hla hl5, nd, nl, by decide, by decide, f0, f1, fun t d c k H8 ht hd e8 s8 pt tc hc cl hk0 => ⟨by show 2 ≤ sizeLine; decide, fun tp htp => ⟨tp, _, rfl, SqT.of upd_same, rfl, _, _, rfl, _, _, rfl, rfl, ?_⟩⟩⟩
      have e58 : Exo [a] H5' H8 := e57.trans e8
      have ntpa : tp ≠ a := fun z => s8.ne (z ▸ htp)
      have e9 : Ex H8 (upd H8 tp (.tup [.str wd, .ref t])) := Ex.new htp
      have s9 := s8.ex e9
      have pt9 : PairT (upd H8 tp (.tup [.str wd, .ref t])) t d c k := ⟨e9 _ _ pt.1, e9 _ _ pt.2⟩
      have e59 := e58.trans (e9.exo [a])
      generalize upd H8 tp (.tup [.str wd, .ref t]) = H9 at e9 s9 pt9 e59
      have nta : t ≠ a := fun z => by
        obtain ⟨c1, m1, n1, e, _⟩ := s9
        have h1 := pt9.1
        rw [z, e] at h1; cases h1
      have nda : d ≠ a := fun z => by
        obtain ⟨c1, m1, n1, e, _⟩ := s9
        have h1 := pt9.2
        rw [z, e] at h1; cases h1
      have ht5 : H5' t = none := e57.free (not1 nta) ht
      have hd5 : H5' d = none := e57.free (not1 nda) hd
      have cm : ∀ p ∈ c, p.1 ∈ ns ∧ p.2.natAbs ≤ 10 := hc
      have few : Few c := ⟨tc.nd, by omega⟩
      have mid : ∀ (En : Ends) (t' d' : Addr) (H10 : Hp) (x12 x13 x14 : Option V), (∀ σ H, VcI K N a l pd lotA D ns name far slack B L H3 (i + 1) σ H → En.nx σ H) → Exo [a] H5' H10 → Spr H10 a (B + 2 + 40 * i + 33) → H5' t' = none → H5' d' = none → PairT H10 t' d' c k →
          vcMid K En [some (.ref a), some (.ref l), some (.str name), some (.int 10), some (.int far), some (.ref pd), some (.int slack), some (.ref lotA), some (.ref D), some (.int (0 + (i : Nat))), some (.str wd), some (.ref t'), x12, x13, x14] H10 :=
        fun En t' d' H10 x12 x13 x14 hEn e s h1 h2 p => vcMid_ok haN hN5 nDa hEn (by omega) e35 hD5 hus htl hts e s h1 h2 p tc cl cm hwd hms hm0 hm6 ⟨L0, L12⟩ (at5 nla nLD hlot3) nla (at5 npa npD hpd3) npa cnd hin s0 s1 hB (by omega) hcb
      refine ⟨_, rfl, _, rfl, t, _, 0, _, rfl, rfl, SqQ.t pt9.1, at0, d, _, rfl, DGet.k (k := Sum.inr name) pt9.2, _, rfl, ?_⟩
      cases hb : (valV (cK c) (.inr name)).isSome with
      | false => exact iteF (mid _ t d H9 _ _ _ (fun σ H h => h) e59 (s9.mono (by omega)) ht5 hd5 pt9)
      | true =>
        refine iteT ?_
        refine dp_lock (fun p : Str × Int => p.2) (fun _ => true) pt9.2 few (fun H2 R e k => ⟨_, rfl, t, _, 0, _, rfl, rfl, SqQ.t (e _ _ (fun z => by have h1 := pt9.1; rw [z, pt9.2] at h1; cases h1) pt9.1), at0, k⟩) (by simp [wipe, L2.start]) (fun _ => rfl) ?_ ?_
        · intro n z H10 od R R' hm hf e k1 _
          have ht10 := e _ _ (fun z => by have h1 := pt9.1; rw [z, pt9.2] at h1; cases h1) pt9.1
          have hv : valV (cK c) (.inr n) = some (.int z) := by
            rw [valV_cK, look_of_mem tc.nd hm]; rfl
          have hzb := (cm _ hm).2
          simp only at hzb
          refine yesT ⟨_, rfl, _, rfl, _, rfl, rfl, _, rfl, ?_⟩
          by_cases hnn : n = name
          · rw [show decide (V.str n = V.str name) = true from decide_eq_true (by rw [hnn])]
            refine iteT ⟨_, rfl, _, _, rfl, rfl, _, rfl, _, rfl, t, _, 0, _, rfl, rfl, SqQ.t ht10, at0, _, rfl, d, _, rfl, .inl ⟨cK c, .inr n, .inr ⟨od, hf⟩, rfl, hv.symm⟩, _, _, rfl, _, _, rfl, by show 2 ≤ sizeLine; decide, fun p hp => ?_⟩
            have ez : (if (if z < 10 then z else 10) > 0 - 10 then (if z < 10 then z else 10) else 0 - 10) = z := by
              split <;> split <;> omega
            rw [ez]
            exact k1 rfl p _ hp (Ex.new hp) upd_same
          · rw [show decide (V.str n = V.str name) = false from decide_eq_false fun e => hnn (V.str.inj e)]
            exact iteF ⟨_, rfl, t, _, 0, _, rfl, rfl, SqQ.t ht10, at0, _, rfl, d, _, rfl, .inl ⟨cK c, .inr n, .inr ⟨od, hf⟩, rfl, hv.symm⟩, by show 2 ≤ sizeLine; decide, fun p hp => k1 rfl p _ hp (Ex.new hp) upd_same⟩
        · intro r H10 hr e10 hr10
          rw [filt_all, show (c.map fun p => (p.1, p.2)) = c from List.map_id' c] at hr10
          have s10 := s9.ex e10
          have nra : r ≠ a := fun z => s9.ne (z ▸ hr)
          refine ⟨_, rfl, t, _, 1, _, rfl, rfl, SqQ.t (e10 _ _ pt9.1), at1, by show 2 ≤ sizeLine; decide, fun t2 ht2 => ?_⟩
          have nt2a : t2 ≠ a := fun z => s10.ne (z ▸ ht2)
          have e11 : Ex H10 (upd H10 t2 (.tup [.ref r, .int k])) := Ex.new ht2
          have e5x := e59.trans (e10.exo [a])
          exact mid _ t2 r _ _ _ _ (fun σ H h => h) (e5x.trans (e11.exo _)) ((s10.ex e11).mono (by omega)) (e5x.free (not1 nt2a) ht2) (e59.free (not1 nra) hr) ⟨upd_same, e11 _ _ hr10⟩
    · rintro σ H5 ⟨⟨x9, x10, x11, x12, x13, x14, rfl⟩, e35, s5, us, tss, hD5, hus, htl, hts⟩
      have e05 : Exo [a] H H5 := fun b o nb hb => e35 b o (by
        intro z
        rcases List.mem_cons.mp z with z | z
        · exact nb (by simp [z])
        · have z := List.mem_singleton.mp z
          rw [z, e02.free (not1 nDa) hD] at hb; cases hb) (e03 b o nb hb)
      exact ⟨_, rfl, q D us tss L H5 (e02.free (not1 nDa) hD) e05 (s5.mono (by omega)) L0 L12 (by omega) hts hD5 hus⟩
end
end K8

set_option Elab.async false
set_option linter.all false
set_option maxRecDepth 100000
set_option maxHeartbeats 4000000
namespace K8
open PySem PySem.Spec PyProof.Rows L2 M8
/-! all values, by the law -/
theorem hu1 {A : Around} {k : Nat} (hr : Room k A) : A.units < cLine := by have := hr.un; omega
def rNeNil : R2 := fun x y H Q => ∃ p q xs, x = .ref p ∧ y = .ref q ∧ H p = some (.lst xs) ∧ H q = some (.lst []) ∧ Q (.bl (!xs.isEmpty)) H
theorem op_neNil {X : Cx} (hu : X.A.units < cLine) : OpR X (compareOp .NotEq) rNeNil := by
  intro pins s σ H x y v u Q I rx ry h
  obtain ⟨p, q, xs, rfl, rfl, hp, hq, qq⟩ := h
  cases (show v = Value.ref p from rx)
  cases (show u = Value.ref q from ry)
  obtain ⟨z1, i1, n1, r1, l1, g1⟩ := I.lstM hp
  obtain ⟨z2, i2, n2, r2, l2, g2⟩ := I.lstM hq
  have hl1 : s.heap.IsList p i1.toArray := ⟨_, g1, rfl, n1, rfl⟩
  have hl2 : s.heap.IsList q i2.toArray := ⟨_, g2, rfl, n2, rfl⟩
  have e2 : i2 = [] := List.length_eq_zero_iff.mp l2.symm
  subst e2
  cases xs with
  | nil =>
    have e1 : i1 = [] := List.length_eq_zero_iff.mp l1.symm
    subst e1
    have := SeqAt.RcNeAt.lists (A := X.A) (s := s) (e := fun _ => true) hl1 hl2 rfl hu (fun j h1 _ => by simp at h1)
    exact this X.prog X.w X.xe _ ⟨.bl false, H, I, rfl, qq⟩
  | cons w xs =>
    have := SeqAt.RcNeAt.lists_lengths (A := X.A) (s := s) hl1 hl2 (by rw [List.length_cons] at l1; simp [← l1]) hu
    exact this X.prog X.w X.xe _ ⟨.bl true, H, I, rfl, qq⟩
section
variable {P : Program} {w : World} {K : PySem.W.Frag} {mg : Str → Option Value} {base : Heap}
def spVLeast : Sp := fun vs H Q _ => ∃ n r p : Int, vs = [.int n, .int r, .int p] ∧ 0 < p ∧ Q (.int (up n r p)) H
abbrev s__law_v_least : Stmt := top 54
theorem sc__law_v_least : FnScope ["number", "rest", "period"] ["number", "rest", "period"] (defScope s__law_v_least) := ⟨rfl, rfl, rfl, by decide +kernel, rfl, by decide +kernel, by decide +kernel⟩
theorem ok__law_v_least (T : Txt K mg) (a : At K mg "_law_v_least" s__law_v_least ["number", "rest", "period"]) : Ok P w K mg base CX0 1 "_law_v_least" ["number", "rest", "period"] spVLeast := a.ok fun f fd F => by
  refine F.ok sc__law_v_least (fun vs H Q E h => ?_) (fun cdv A outer s H vs Q E hr h => ?_)
  · obtain ⟨n, r, p, rfl, _⟩ := h; rfl
  · obtain ⟨n, r, p, rfl, hp, q⟩ := h
    refine ⟨_, (pss_one (ps_ret (pe_op op_add (pv 0) (pe_op op_mod (pe_callTy call_int1 rfl T.n_int rfl (pa_cons (pe_op op_sub (pv 1) (pv 0)) pa_nil)) (pv 2))))), ?_⟩
    exact ⟨_, rfl, _, rfl, _, rfl, _, _, rfl, rfl, .inl ⟨_, rfl, _, rfl, _, _, rfl, rfl, hp, _, _, rfl, rfl, q⟩⟩
theorem cr_allK {X : Cx} {K : PySem.W.Frag} (hK : X.K = K) (hc : X.calm = true) : CallR X (.builtin "all") (rAll K) := hK ▸ cr_all hc
def spVValues (K : PySem.W.Frag) : Sp := fun vs H Q _ => ∃ (l nd : Addr) (us : List V) (tss : List Tst) (name : Str) (cn : Coef) (L : Int) (ns : List Str), vs = [.ref l, .str name, .ref nd] ∧ SqL K H l us ∧ SeeL (FKK K) H us (tss.map tstD) ∧ tss.length ≤ 100 ∧ (∀ ts ∈ tss, CaseG L ns ts) ∧ 0 < L ∧ L ≤ 12 ∧ H nd = some (.dK (cK cn)) ∧ (keys cn).Nodup ∧ (∀ n ∈ ns, n ≠ name → n ∈ keys cn) ∧
  ∀ ans v H', Right (Sol name cn tss) ans → Ex H H' → ansV H' v ans → (∀ q, v = .ref q → H q = none) → Q v H'
/-- the ends that a row gives -/
def vvExt (K : PySem.W.Frag) : TS := tSeq
  (tDrop (tBM K "list" rExtend (tVar 3) (tCons (tIf (tTest (tOp (rI0 fun i j => V.bl (decide (j < i))) (tVar 10) (tC (V.int 0)))) (tLst (tCons (tOp (rI0 fun i j => V.int (i - j)) (tC (V.int 0)) (tOp (rI CDivN fun i j => V.int (i.fdiv j)) (tCB (fun xs H Q => (∃ i, xs = [V.int i] ∧ Q (V.int i) H) ∨ ∃ k, xs = [V.bl k] ∧ Q (V.int (if k = true then 1 else 0)) H) (tCons (tVar 11) tNil)) (tVar 10))) tNil)) (tLst tNil)) tNil)))
  (tDrop (tBM K "list" rExtend (tVar 4) (tCons (tIf (tTest (tOp (rI0 fun i j => V.bl (decide (i < j))) (tVar 10) (tC (V.int 0)))) (tLst (tCons (tOp (rI CDivN fun i j => V.int (i.fdiv j)) (tCB (fun xs H Q => (∃ i, xs = [V.int i] ∧ Q (V.int i) H) ∨ ∃ k, xs = [V.bl k] ∧ Q (V.int (if k = true then 1 else 0)) H) (tCons (tVar 11) tNil)) (tOp (rI0 fun i j => V.int (i - j)) (tC (V.int 0)) (tVar 10))) tNil)) (tLst tNil)) tNil)))
def rowsAll (prs : List (Int × Int)) (x : Int) : Prop := ∀ q ∈ prs, 0 ≤ q.1 * x + q.2
/-- lists of ends that stand, all else kept -/
structure EndI (lo hi : Addr) (low high : List Int) (N : Nat) (H H' : Hp) : Prop where
  ex : Exo [lo, hi] H H'
  hl : H' lo = some (.lst (low.map V.int))
  hh : H' hi = some (.lst (high.map V.int))
  l1 : low.length ≤ N
  l2 : high.length ≤ N
theorem vvFor_ok {lo hi lp : Addr} {ps : List Addr} {prs : List (Int × Int)} {low high : List Int} {N : Nat} {H0 : Hp} {En : Ends} {y0 y1 y2 y5 y6 y7 y8 y9 y10 y11 y12 y13 y14 y15 y16 y17 y18 : Option V} (hne : lo ≠ hi) (hN : N ≤ 1000)
    (hlp : H0 lp = some (.lst (ps.map V.ref))) (hps : Paired (fun p (q : Int × Int) => H0 p = some (.tup [.int q.1, .int q.2])) ps prs) (hl0 : H0 lo = some (.lst (low.map V.int))) (hh0 : H0 hi = some (.lst (high.map V.int))) (nl : lp ≠ lo ∧ lp ≠ hi)
    (hlow : low.length ≤ N) (hhigh : high.length ≤ N) (hb : ∀ q ∈ prs, q.1.natAbs ≤ 1000000000 ∧ (q.1 = 0 → 0 ≤ q.2)) (h2 : prs.length ≤ 2)
    (fin : ∀ z10 z11 H' low' high', EndI lo hi low' high' (N + 2) H0 H' → (∀ x, inLH low' high' x ↔ inLH low high x ∧ rowsAll prs x) → En.nx [y0, y1, y2, some (.ref lo), some (.ref hi), y5, y6, y7, y8, y9, z10, z11, y12, y13, y14, y15, y16, y17, y18] H') :
    ForB (gTup K 2 (gCons (gName 10) (gCons (gName 11) gNil))) (vvExt K) En [y0, y1, y2, some (.ref lo), some (.ref hi), y5, y6, y7, y8, y9, y10, y11, y12, y13, y14, y15, y16, y17, y18] (Itl K lp) H0 := by
  have hlen := hps.length
  refine for_itB (walk_list (xs := ps.map V.ref)) (fun i σ H' => (∃ z10 z11, σ = [y0, y1, y2, some (.ref lo), some (.ref hi), y5, y6, y7, y8, y9, z10, z11, y12, y13, y14, y15, y16, y17, y18]) ∧ ∃ low' high', EndI lo hi low' high' (N + i) H0 H' ∧ ∀ x, inLH low' high' x ↔ inLH low high x ∧ rowsAll (prs.take i) x)
    ⟨⟨_, _, rfl⟩, low, high, ⟨Exo.refl _ _, hl0, hh0, hlow, hhigh⟩, fun x => ⟨fun h => ⟨h, fun q hq => by simp at hq⟩, fun h => h.1⟩⟩ (fun i σ H' _ h => by
      obtain ⟨_, _, _, h, _⟩ := h
      exact SqL.of (h.ex _ _ (by simp [nl.1, nl.2]) hlp)) ?_ ?_
  · rintro i x σ H1 H1' hi' ⟨⟨z10, z11, rfl⟩, low', high', I, hin⟩ ⟨rfl, hx⟩
    rw [List.getElem?_map] at hx
    rw [List.length_map] at hi'
    obtain ⟨p, hp⟩ : ∃ p, ps[i]? = some p := ⟨ps[i], List.getElem?_eq_getElem hi'⟩
    rw [hp] at hx
    cases hx
    obtain ⟨q, hq, hpq⟩ : ∃ q, prs[i]? = some q ∧ H0 p = some (.tup [.int q.1, .int q.2]) := by
      clear hlen hlp hb h2 fin hin
      have : ∀ {ps : List Addr} {prs : List (Int × Int)} {i : Nat}, Paired (fun p (q : Int × Int) => H0 p = some (.tup [.int q.1, .int q.2])) ps prs → ps[i]? = some p → ∃ q, prs[i]? = some q ∧ H0 p = some (.tup [.int q.1, .int q.2]) := by
        intro ps prs i h
        induction h generalizing i with
        | nil => intro h; simp at h
        | cons h1 t ih =>
          cases i with
          | zero => intro h; simp at h; subst h; exact ⟨_, rfl, h1⟩
          | succ i => intro h; simpa using ih (by simpa using h)
      exact this hps hp
    obtain ⟨a, b⟩ := q
    have hb' := hb _ (List.mem_of_getElem? hq)
    simp only at hb' hpq
    have hp1 : H1' p = some (.tup [.int a, .int b]) := I.ex _ _ (by
      intro z
      rcases List.mem_cons.mp z with z | z
      · rw [z, hl0] at hpq; cases hpq
      · rw [List.mem_singleton.mp z, hh0] at hpq; cases hpq) hpq
    have sl : (1000000 : Nat) < sizeLine := by rw [sizeLine_eq]; decide
    have il : i < 2 := by omega
    have step : ∀ x, rowsAll (prs.take (i + 1)) x ↔ rowsAll (prs.take i) x ∧ 0 ≤ a * x + b := fun x => by
      unfold rowsAll
      rw [List.take_add_one, hq]
      constructor
      · intro h; exact ⟨fun q hq => h q (List.mem_append.mpr (.inl hq)), h (a, b) (by simp)⟩
      · rintro ⟨h1, h2⟩ q hq
        rcases List.mem_append.mp hq with hq | hq
        · exact h1 q hq
        · rw [show q = (a, b) by simpa using hq]; exact h2
    -- the second list
    have second : ∀ (low'' : List Int) (H2 : Hp), EndI lo hi low'' high' (N + i + 1) H0 H2 → high'.length ≤ N + i → (∀ x, 0 < a → (inLH low'' high' x ↔ inLH low' high' x ∧ 0 ≤ a * x + b)) → (a ≤ 0 → low'' = low') → ∀ (D : Ends), (∀ z10 z11 H' low3 high3, EndI lo hi low3 high3 (N + (i + 1)) H0 H' → (∀ x, inLH low3 high3 x ↔ inLH low high x ∧ rowsAll (prs.take (i + 1)) x) → D.nx [y0, y1, y2, some (.ref lo), some (.ref hi), y5, y6, y7, y8, y9, z10, z11, y12, y13, y14, y15, y16, y17, y18] H') →
        (tDrop (tBM K "list" rExtend (tVar 4) (tCons (tIf (tTest (tOp (rI0 fun i j => V.bl (decide (i < j))) (tVar 10) (tC (V.int 0)))) (tLst (tCons (tOp (rI CDivN fun i j => V.int (i.fdiv j)) (tCB (fun xs H Q => (∃ i, xs = [V.int i] ∧ Q (V.int i) H) ∨ ∃ k, xs = [V.bl k] ∧ Q (V.int (if k = true then 1 else 0)) H) (tCons (tVar 11) tNil)) (tOp (rI0 fun i j => V.int (i - j)) (tC (V.int 0)) (tVar 10))) tNil)) (tLst tNil)) tNil))) D [y0, y1, y2, some (.ref lo), some (.ref hi), y5, y6, y7, y8, y9, some (.int a), some (.int b), y12, y13, y14, y15, y16, y17, y18] H2 := by
      intro low'' H2 I2 hh' ha hna D hD
      refine ⟨_, rfl, .inl ⟨rfl, _, SqL.of I2.hh⟩, _, rfl, _, _, rfl, rfl, _, rfl, ?_⟩
      by_cases hneg : a < 0
      · rw [decide_eq_true hneg]
        refine iteT ⟨_, rfl, .inl ⟨_, rfl, _, rfl, _, _, rfl, rfl, _, _, rfl, rfl, ⟨by omega, by omega⟩, by show 1 ≤ sizeLine; decide, fun M hM => ?_⟩⟩
        have eM : Ex H2 (upd H2 M (.lst [.int (b.fdiv (0 - a))])) := Ex.new hM
        have nM : hi ≠ M := ne_of_none I2.hh hM
        have nM2 : lo ≠ M := ne_of_none I2.hl hM
        refine ⟨hi, M, _, _, rfl, rfl, eM _ _ I2.hh, upd_same, by rw [List.length_map]; simp; omega, ?_⟩
        refine hD _ _ _ low'' (high' ++ [b / (0 - a)]) ⟨fun c o nc hc => ?_, ?_, ?_, by have := I2.l1; omega, by rw [List.length_append]; simp; omega⟩ fun x => ?_
        · rw [upd_ne fun z => nc (by simp [z])]
          exact eM _ _ (I2.ex _ _ nc hc)
        · rw [upd_ne hne]; exact eM _ _ I2.hl
        · rw [upd_same, List.map_append]
          show some (HO.lst (high'.map V.int ++ [V.int (b.fdiv (0 - a))])) = _
          rw [fdiv_pos (show 0 < 0 - a by omega)]; rfl
        · rw [step, hna (by omega), row_high hneg]
          have := hin x
          unfold inLH at this ⊢
          constructor
          · rintro ⟨g1, g2⟩
            have g3 := this.mp ⟨g1, fun h hh => g2 h (List.mem_append.mpr (.inl hh))⟩
            exact ⟨g3.1, g3.2, g2 _ (by simp)⟩
          · rintro ⟨g1, g2, g3⟩
            have g4 := this.mpr ⟨g1, g2⟩
            refine ⟨g4.1, fun h hh => ?_⟩
            rcases List.mem_append.mp hh with hh | hh
            · exact g4.2 h hh
            · rw [List.mem_singleton.mp hh]; exact g3
      · rw [decide_eq_false hneg]
        refine iteF ⟨by show 0 ≤ sizeLine; exact Nat.zero_le _, fun M hM => ?_⟩
        have eM : Ex H2 (upd H2 M (.lst [])) := Ex.new hM
        refine ⟨hi, M, _, _, rfl, rfl, eM _ _ I2.hh, upd_same, by rw [List.length_map]; simp; omega, ?_⟩
        refine hD _ _ _ low'' high' ⟨fun c o nc hc => ?_, ?_, ?_, by have := I2.l1; omega, by omega⟩ fun x => ?_
        · rw [upd_ne fun z => nc (by simp [z])]
          exact eM _ _ (I2.ex _ _ nc hc)
        · rw [upd_ne hne]; exact eM _ _ I2.hl
        · rw [upd_same, List.append_nil]
        · rw [step]
          by_cases hpos : 0 < a
          · rw [ha x hpos, hin x]
            exact ⟨fun ⟨⟨g1, g2⟩, g3⟩ => ⟨g1, g2, g3⟩, fun ⟨g1, g2, g3⟩ => ⟨⟨g1, g2⟩, g3⟩⟩
          · have ha0 : a = 0 := by omega
            rw [hna (by omega), hin x]
            have : 0 ≤ a * x + b := by rw [ha0, Int.zero_mul]; have := hb'.2 ha0; omega
            exact ⟨fun ⟨g1, g2⟩ => ⟨g1, g2, this⟩, fun ⟨g1, g2, _⟩ => ⟨g1, g2⟩⟩
    refine ⟨p, _, rfl, SqT.of hp1, rfl, _, _, rfl, _, _, rfl, rfl, ?_⟩
    unfold vvExt
    refine ⟨_, rfl, .inl ⟨rfl, _, SqL.of I.hl⟩, _, rfl, _, _, rfl, rfl, _, rfl, ?_⟩
    by_cases hpos : 0 < a
    · rw [decide_eq_true hpos]
      refine iteT ⟨_, rfl, .inl ⟨_, rfl, _, rfl, _, _, rfl, rfl, ⟨by omega, by omega⟩, _, _, rfl, rfl, by show 1 ≤ sizeLine; decide, fun M hM => ?_⟩⟩
      have eM : Ex H1' (upd H1' M (.lst [.int (0 - b.fdiv a)])) := Ex.new hM
      have nM : lo ≠ M := ne_of_none I.hl hM
      have nM2 : hi ≠ M := ne_of_none I.hh hM
      have l1 := I.l1
      refine ⟨lo, M, _, _, rfl, rfl, eM _ _ I.hl, upd_same, by rw [List.length_map]; simp; omega, ?_⟩
      refine second (low' ++ [0 - b / a]) _ ⟨fun c o nc hc => ?_, ?_, ?_, by rw [List.length_append]; simp; omega, by have := I.l2; omega⟩ I.l2 (fun x _ => ?_) (fun z => absurd z (by omega)) _ fun z10 z11 H' low3 high3 I3 h3 => ⟨⟨_, _, rfl⟩, low3, high3, I3, h3⟩
      · rw [upd_ne fun z => nc (by simp [z])]
        exact eM _ _ (I.ex _ _ nc hc)
      · rw [upd_same, List.map_append]
        show some (HO.lst (low'.map V.int ++ [V.int (0 - b.fdiv a)])) = _
        rw [fdiv_pos hpos]; rfl
      · rw [upd_ne hne.symm]; exact eM _ _ I.hh
      · rw [row_low hpos]
        unfold inLH
        constructor
        · rintro ⟨g1, g2⟩
          exact ⟨⟨fun l hl => g1 l (List.mem_append.mpr (.inl hl)), g2⟩, g1 _ (by simp)⟩
        · rintro ⟨⟨g1, g2⟩, g3⟩
          refine ⟨fun l hl => ?_, g2⟩
          rcases List.mem_append.mp hl with hl | hl
          · exact g1 l hl
          · rw [List.mem_singleton.mp hl]; exact g3
    · rw [decide_eq_false hpos]
      refine iteF ⟨by show 0 ≤ sizeLine; exact Nat.zero_le _, fun M hM => ?_⟩
      have eM : Ex H1' (upd H1' M (.lst [])) := Ex.new hM
      have l1 := I.l1
      refine ⟨lo, M, _, _, rfl, rfl, eM _ _ I.hl, upd_same, by rw [List.length_map]; simp; omega, ?_⟩
      refine second low' _ ⟨fun c o nc hc => ?_, ?_, ?_, by omega, by have := I.l2; omega⟩ I.l2 (fun x z => absurd z hpos) (fun _ => rfl) _ fun z10 z11 H' low3 high3 I3 h3 => ⟨⟨_, _, rfl⟩, low3, high3, I3, h3⟩
      · rw [upd_ne fun z => nc (by simp [z])]
        exact eM _ _ (I.ex _ _ nc hc)
      · rw [upd_same, List.append_nil]
      · rw [upd_ne hne.symm]; exact eM _ _ I.hh
  · rintro σ H1 ⟨⟨z10, z11, rfl⟩, low', high', I, hin⟩
    rw [List.length_map, List.take_of_length_le (by omega)] at hin
    have := I.l1
    have := I.l2
    rw [List.length_map] at *
    exact fin z10 z11 H1 low' high' ⟨I.ex, I.hl, I.hh, by omega, by omega⟩ hin
end
end K8

set_option Elab.async false
set_option linter.all false
set_option maxRecDepth 100000
set_option maxHeartbeats 4000000
namespace K8
open PySem PySem.Spec PyProof.Rows L2 M8
/-! all values, by the law: the whole -/
theorem li_lock {H : Hp} {d : Addr} {c : Coef} {td te : TE} {tt : TT} {j : Nat} {vs : List Nat} {σ : L2.St} {Q : VK} (f : Str → Int) (kp : Str → Bool) (hd : H d = some (.dK (cK c))) (hlc : c.length ≤ 1000)
    (htd : ∀ (H2 : Hp) (R : V → Hp → Prop), (∀ b o, b ≠ d → H b = some o → H2 b = some o) → R (.ref d) H2 → td σ H2 R) (hj : (wipe σ vs)[j]? ≠ none) (hw : ∀ x, wipe ((wipe σ vs).set j (some x)) vs = wipe σ vs)
    (hv : ∀ (n : Str) (H2 : Hp) (od : Obj) (R : V → Hp → Prop) (R' : Hp → Prop), n ∈ keys c → H2 d = some (.frz od (.dK (cK c))) → (∀ b o, b ≠ d → H b = some o → H2 b = some o) → (kp n = true → ∀ H4, Ex H2 H4 → R (.int (f n)) H4) → (kp n = false → ∀ H4, Ex H2 H4 → R' H4) →
      tt ((wipe σ vs).set j (some (.str n))) H2 fun b H3 => if b = true then te ((wipe σ vs).set j (some (.str n))) H3 R else R' H3)
    (hq : ∀ D H', H D = none → Ex H H' → H' D = some (.lst (((keys c).filter kp).map fun n => V.int (f n))) → Q (.ref D) H') :
    tLockE (tLc (iKeys td) (gName j) tt te vs) σ H Q := by
  refine ⟨d, _, hd, trivial, fun od => ?_⟩
  refine tLc_of ?_
  have out : ∀ H2 : Hp, Ex (upd H d (.frz od (.dK (cK c)))) H2 → ∀ b o, b ≠ d → H b = some o → H2 b = some o := fun H2 e b o hb h => e b o (by rw [upd_ne hb]; exact h)
  refine htd _ _ (fun b o hb h => by rw [upd_ne hb]; exact h) ⟨d, od, rfl, .inl ⟨_, upd_same, ?_⟩⟩
  have hl : (cK c).length = c.length := cK_len c
  have kl : (keys c).length = c.length := by unfold keys; rw [List.length_map]
  have hjl : j < (wipe σ vs).length := Decidable.byContradiction fun q => hj (List.getElem?_eq_none (by omega))
  refine lc_val walk_keys (fun i => (((keys c).take i).filter kp).map fun n => V.int (f n)) (by omega) rfl (fun H1 e => e _ _ upd_same) ?_ ?_
  · rintro i x H1 H2 R R' hi e ⟨rfl, k', z, hkz, rfl⟩ k1 k2
    have hci : i < c.length := by omega
    obtain ⟨⟨n, y⟩, hcy⟩ : ∃ p : Str × Int, c[i]? = some p := ⟨c[i], List.getElem?_eq_getElem hci⟩
    rw [get_cK hcy] at hkz
    cases hkz
    have hk : (keys c)[i]? = some n := by unfold keys; rw [List.getElem?_map, hcy]; rfl
    have ht : (keys c).take (i + 1) = (keys c).take i ++ [n] := by rw [List.take_add_one, hk]; rfl
    refine ⟨hw _, hv n H2 od R R' (List.mem_of_getElem? hk) (e _ _ upd_same) (out _ e) (fun hk H4 e4 => k1 _ _ e4 ?_) (fun hk H4 e4 => k2 _ e4 ?_)⟩
    · rw [ht, List.filter_append, List.filter_cons, if_pos hk, List.map_append]; rfl
    · rw [ht, List.filter_append, List.filter_cons, if_neg (by rw [hk]; simp)]; simp
  · intro D H1 hD e hDH
    have hx := e _ _ upd_same
    have hDd : D ≠ d := fun z => by rw [z, upd_same] at hD; cases hD
    rw [hl, ← kl, List.take_length] at hDH
    exact ⟨hx, hq D _ (by rw [upd_ne hDd] at hD; exact hD) (e.unlock hd) (by rw [upd_ne hDd]; exact hDH)⟩
theorem lin_drop_sum {n : Str} {cn : Coef} {c : Coef} (nd : (keys c).Nodup) : (((keys c).filter fun y => decide (y ≠ n)).map fun y => co c y * co cn y).sum = lin (drop1 n c) cn := by
  unfold lin drop1 keys
  rw [List.filter_map, List.map_map]
  congr 1
  refine List.map_congr_left fun p hp => ?_
  have hm := (List.mem_filter.mp hp).1
  show co c p.1 * co cn p.1 = p.2 * co cn p.1
  rw [co_of_mem (n := p.1) (i := p.2) nd hm]
abbrev TupAt (H : Hp) (p : Addr) (q : Int × Int × Int) : Prop := H p = some (.tup [.int q.1, .int q.2.1, .int q.2.2])
section
variable {P : Program} {w : World} {K : PySem.W.Frag} {mg : Str → Option Value} {base : Heap}
structure VvI (l nd lo hi by_ : Addr) (name : Str) (cn : Coef) (L : Int) (tss : List Tst) (H1 : Hp) (i : Nat) (σ : L2.St) (H' : Hp) : Prop where
  st : ∃ x7 x8 x9 x10 x11 x12 x13 x14 x15 x16 x17 x18, σ = [some (.ref l), some (.str name), some (.ref nd), some (.ref lo), some (.ref hi), some (.ref by_), some (.int 1), x7, x8, x9, x10, x11, x12, x13, x14, x15, x16, x17, x18]
  ex : Exo [lo, hi, by_] H1 H'
  dat : ∃ (low high : List Int) (bys : List (Int × Int × Int)) (ps : List Addr), H' lo = some (.lst (low.map V.int)) ∧ H' hi = some (.lst (high.map V.int)) ∧ H' by_ = some (.lst (ps.map V.ref)) ∧ Paired (TupAt H') ps bys ∧ low.length ≤ 2 * i ∧ high.length ≤ 2 * i ∧ ps.length ≤ i ∧
    (∀ x, Sol name cn (tss.take i) x ↔ inLH low high x ∧ byAll bys x = true) ∧ ∀ q ∈ bys, 0 < q.1 ∧ q.1 ∣ L ∧ q.2.1.natAbs ≤ 1000000000
theorem sol_snoc {name : Str} {cn : Coef} {tss : List Tst} {i : Nat} {ts : Tst} (h : tss[i]? = some ts) (x : Int) : Sol name cn (tss.take (i + 1)) x ↔ Sol name cn (tss.take i) x ∧ (alW name cn ts).ok x := by
  unfold Sol
  rw [List.take_add_one, h]
  constructor
  · intro h
    exact ⟨fun t ht => h t (List.mem_append.mpr (.inl ht)), h ts (by simp)⟩
  · rintro ⟨h1, h2⟩ t ht
    rcases List.mem_append.mp ht with ht | ht
    · exact h1 t ht
    · rw [show t = ts by simpa using ht]; exact h2
/-- what is told in the end -/
def vvTail (K : PySem.W.Frag) : TS := tSeq (tIfS (tOr (tTest (tOp (fun x y H Q => y = V.non ∧ Q (V.bl (decide (x = V.non))) H) (tVar 15) (tC V.non))) (tOr (tTest (tOp (fun x y H Q => y = V.non ∧ Q (V.bl (decide (x = V.non))) H) (tVar 16) (tC V.non))) (tTest (tOp (rI0 fun i j => V.bl (decide (i < j))) (tVar 15) (tVar 16)))))
    (tRet (tTup (tCons (tVar 15) (tCons (tVar 16) (tCons (tVar 6) (tCons (tOp (rIxQ K) (tVar 14) (tC (V.int 0))) tNil)))))) tNext)
  (tRet (tIf (tTest (tOp rEq (tVar 15) (tVar 16))) (tTup (tCons (tVar 15) (tCons (tVar 16) (tCons (tC (V.int 1)) (tCons (tC (V.int 0)) tNil))))) (tC V.non)))
theorem vvTail_ok {K : PySem.W.Frag} {lo' hi' : Option Int} {P r : Int} {R : Addr} {H : Hp} {Q : VK} {N : Hp → Prop} {y0 y1 y2 y3 y4 y5 y7 y8 y9 y10 y11 y12 y13 y17 y18 : Option V} (hR : H R = some (.lst [.int r]))
    (q : ∀ v H', Ex H H' → ansV H' v (fin lo' hi' P r) → (∀ t, v = .ref t → H t = none) → Q v H') :
    vvTail K { nx := fun _ H' => N H', rt := Q } [y0, y1, y2, y3, y4, y5, some (.int P), y7, y8, y9, y10, y11, y12, y13, some (.ref R), some (optI (lo'.map (up · r P))), some (optI (hi'.map (dn · r P))), y17, y18] H := by
  have tup : ∀ {t : Addr} {xs : List V}, H t = none → Ex H (upd H t (.tup xs)) ∧ (upd H t (.tup xs)) t = some (.tup xs) := fun ht => ⟨Ex.new ht, upd_same⟩
  have four : ∀ {D : Ends} (l h : Option Int), D.rt = Q → (∀ t H', H' t = some (.tup [optI l, optI h, .int P, .int r]) → ansV H' (.ref t) (fin lo' hi' P r)) → tRet (tTup (tCons (tVar 15) (tCons (tVar 16) (tCons (tVar 6) (tCons (tOp (rIxQ K) (tVar 14) (tC (V.int 0))) tNil))))) D [y0, y1, y2, y3, y4, y5, some (.int P), y7, y8, y9, y10, y11, y12, y13, some (.ref R), some (optI l), some (optI h), y17, y18] H := by
    intro D l h hD hv
    refine ⟨_, rfl, _, rfl, _, rfl, _, rfl, R, _, 0, _, rfl, rfl, SqQ.l hR, at0, by show 4 ≤ sizeLine; decide, fun t ht => ?_⟩
    rw [hD]
    exact q _ _ (tup ht).1 (hv t _ (tup ht).2) fun z hz => by cases hz; exact ht
  unfold vvTail
  refine ⟨_, rfl, rfl, _, rfl, ?_⟩
  rw [isN_opt]
  cases lo' with
  | none =>
    refine iteT (iteT (four none (hi'.map (dn · r P)) rfl fun t H' h => ?_))
    show ansV H' (.ref t) (fin none hi' P r)
    cases hi' <;> exact ⟨t, rfl, h⟩
  | some l =>
    refine iteF ⟨_, rfl, rfl, _, rfl, ?_⟩
    show (if decide (optI (hi'.map (dn · r P)) = .non) = true then _ else _)
    rw [isN_opt]
    cases hi' with
    | none => exact iteT (iteT (four (some (up l r P)) none rfl fun t H' h => ⟨t, rfl, h⟩))
    | some h =>
      have ef : fin (some l) (some h) P r = if dn h r P < up l r P then none else if up l r P = dn h r P then some (some (up l r P), some (dn h r P), 1, 0) else some (some (up l r P), some (dn h r P), P, r) := rfl
      refine iteF ⟨_, rfl, _, rfl, _, _, rfl, rfl, _, rfl, ?_⟩
      by_cases c : up l r P < dn h r P
      · rw [decide_eq_true c]
        refine iteT (four (some (up l r P)) (some (dn h r P)) rfl fun t H' hh => ?_)
        rw [ef, if_neg (by omega), if_neg (by omega)]
        exact ⟨t, rfl, hh⟩
      · rw [decide_eq_false c]
        refine iteF ⟨_, rfl, _, rfl, rfl, _, rfl, ?_⟩
        show (if decide (V.int (up l r P) = V.int (dn h r P)) = true then _ else _)
        rw [dec_int0]
        by_cases c2 : up l r P = dn h r P
        · rw [decide_eq_true c2]
          refine iteT ⟨_, rfl, _, rfl, by show 4 ≤ sizeLine; decide, fun t ht => ?_⟩
          refine q _ _ (tup ht).1 ?_ fun z hz => by cases hz; exact ht
          rw [ef, if_neg (by omega), if_pos c2]
          exact ⟨t, rfl, (tup ht).2⟩
        · rw [decide_eq_false c2]
          refine iteF (q _ _ (Ex.refl _) ?_ fun z hz => by cases hz)
          rw [ef, if_pos (by omega)]; rfl
abbrev s__law_v_values : Stmt := top 55
theorem sc__law_v_values : FnScope ["case", "name", "numbers", "low", "high", "bys", "period", "test", "many", "rest", "number", "other", "m", "rounds", "rests", "least", "most", "one", "k"] ["case", "name", "numbers"] (defScope s__law_v_values) := ⟨rfl, rfl, rfl, by decide +kernel, rfl, by decide +kernel, by decide +kernel⟩
abbrev sc_rests : Scope := { kind := .function, names := [(".0", .local), ("k", .cell), ("all", .globalImplicit), ("bys", .cell)], isGenerator := false, isCoroutine := false }
theorem ok__law_v_values (T : Txt K mg) (a : At K mg "_law_v_values" s__law_v_values ["case", "name", "numbers"]) (O_law_v_least : Ok P w K mg base CX0 1 "_law_v_least" ["number", "rest", "period"] spVLeast) : Ok P w K mg base CX0 2 "_law_v_values" ["case", "name", "numbers"] (spVValues K) := a.ok fun f fd F => by
  refine F.ok sc__law_v_values (fun vs H Q E h => ?_) (fun cdv A outer s H vs Q E hr h => ?_)
  · obtain ⟨l, nd, us, tss, name, cn, L, ns, rfl, _⟩ := h; rfl
  · obtain ⟨l, nd, us, tss, name, cn, L, ns, rfl, hl, hus, htl, hts, L0, L12, hnd, cnd, hin, q⟩ := h
    refine ⟨_, (pss_cons (ps_asg (pe_tup (pa_cons (pe_lst pa_nil) (pa_cons (pe_lst pa_nil) (pa_cons (pe_lst pa_nil) (pa_cons pe_int pa_nil))))) (pg_tup rfl (pgs_cons (pg_name (i := 3) sc__law_v_values.nd rfl (Or.inl rfl)) (pgs_cons (pg_name (i := 4) sc__law_v_values.nd rfl (Or.inl rfl)) (pgs_cons (pg_name (i := 5) sc__law_v_values.nd rfl (Or.inr rfl)) (pgs_cons (pg_name (i := 6) sc__law_v_values.nd rfl (Or.inr rfl)) pgs_nil))))))
      (pss_cons (ps_for PassesOwn.never rfl (pi_list (pv 0)) (pg_name (i := 7) sc__law_v_values.nd rfl (Or.inr rfl)) (pss_cons (ps_set (i := 8) sc__law_v_values.nd rfl (Or.inr rfl) (pe_dget2 (hu_of hr) (pe_ix (ix_qK (K := K) rfl) (pe_ix (ix_qK (K := K) rfl) (pv 7) (pe_un un_neg pe_int) (fun _ _ => rfl)) pe_int (fun _ _ => rfl)) (pv 1) pe_int ⟨rfl, rfl, rfl, rfl⟩))
      (pss_cons (ps_set (i := 9) sc__law_v_values.nd rfl (Or.inl rfl) (pe_op op_add (pe_ix (ix_qK (K := K) rfl) (pe_ix (ix_qK (K := K) rfl) (pv 7) (pe_un un_neg pe_int) (fun _ _ => rfl)) pe_int (fun _ _ => rfl)) (pe_callB (cr_sum rfl) rfl T.n_sum rfl (pa_cons (pe_lock (pe_lc (own := [("one", 17)]) (g := gName 17) (tt := _) rfl sc__law_v_values.nd (pi_keys (pe_ix (ix_qK (K := K) rfl) (pe_ix (ix_qK (K := K) rfl) (pv 7) (pe_un un_neg pe_int) (fun _ _ => rfl)) pe_int (fun _ _ => rfl))) (blkOk_by (N := ["case", "name", "numbers", "low", "high", "bys", "period", "test", "many", "rest", "number", "other", "m", "rounds", "rests", "least", "most", "one", "k"]) (sc := defScope s__law_v_values) (by decide +kernel)) (fun _ _ _ _ _ => (pg_name (i := 17) sc__law_v_values.nd rfl (Or.inl rfl))) (fun _ _ _ _ _ => (pts_one (pt_cmpR op_ne (pv 17) (pv 1) (nomark _)))) (fun _ _ _ _ _ => (pe_op op_mul (pe_dget (hu_of hr) (pe_ix (ix_qK (K := K) rfl) (pe_ix (ix_qK (K := K) rfl) (pv 7) (pe_un un_neg pe_int) (fun _ _ => rfl)) pe_int (fun _ _ => rfl)) (pv 17) (fun _ _ => rfl)) (pe_dget (hu_of hr) (pv 2) (pv 17) (fun _ _ => rfl)))))) pa_nil))))
      (pss_cons (ps_if (pt_cmpR op_eq (pe_ix (ix_qK (K := K) rfl) (pv 7) pe_int (fun _ _ => rfl)) pe_str (nomark _)) (pss_cons (ps_expr (pe_bmK (K := K) rfl (pe_bm PySem.F.plainAttrs_list PySem.F.slot_list_append PySem.F.type_list_append mt_append (pv 5) (pa_cons (pe_tup (pa_cons (pe_ix (ix_qK (K := K) rfl) (pv 7) pe_int (fun _ _ => rfl)) (pa_cons (pv 8) (pa_cons (pv 9) pa_nil)))) pa_nil))))
      (pss_one ps_continue)) pss_nil)
      (pss_cons (ps_if (PW.pt (pw_and (pt_cmpR op_eq (pv 8) pe_int (nomark _)) (pw_and1 (PW.pt (pw_or (pt_cmpR op_lt (pv 9) pe_int (nomark _)) (pw_or1 (PW.pt (pw_and (pt_cmpR op_eq (pe_ix (ix_qK (K := K) rfl) (pv 7) pe_int (fun _ _ => rfl)) pe_str (nomark _)) (pw_and1 (pt_cmpR op_ne (pv 9) pe_int (nomark _))))))))))) (pss_one (ps_ret pe_non)) pss_nil)
      (pss_one (ps_for PassesOwn.never rfl (pi_list (pe_op op_cat (pe_lst (pa_cons (pe_tup (pa_cons (pv 8) (pa_cons (pv 9) pa_nil))) pa_nil)) (pe_ifExp (pt_cmpR op_eq (pe_ix (ix_qK (K := K) rfl) (pv 7) pe_int (fun _ _ => rfl)) pe_str (nomark _)) (pe_lst (pa_cons (pe_tup (pa_cons (pe_op op_sub pe_int (pv 8)) (pa_cons (pe_op op_sub pe_int (pv 9)) pa_nil))) pa_nil)) (pe_lst pa_nil)))) (pg_tup rfl (pgs_cons (pg_name (i := 10) sc__law_v_values.nd rfl (Or.inl rfl)) (pgs_cons (pg_name (i := 11) sc__law_v_values.nd rfl (Or.inl rfl)) pgs_nil))) (pss_cons (ps_expr (pe_bmK (K := K) rfl (pe_bm PySem.F.plainAttrs_list PySem.F.slot_list_extend PySem.F.type_list_extend mt_extend (pv 3) (pa_cons (pe_ifExp (pt_cmpR op_gt (pv 10) pe_int (nomark _)) (pe_lst (pa_cons (pe_op op_sub pe_int (pe_op op_fdivN (pe_callTy call_int1 rfl T.n_int rfl (pa_cons (pv 11) pa_nil)) (pv 10))) pa_nil)) (pe_lst pa_nil)) pa_nil))))
      (pss_one (ps_expr (pe_bmK (K := K) rfl (pe_bm PySem.F.plainAttrs_list PySem.F.slot_list_extend PySem.F.type_list_extend mt_extend (pv 4) (pa_cons (pe_ifExp (pt_cmpR op_lt (pv 10) pe_int (nomark _)) (pe_lst (pa_cons (pe_op op_fdivN (pe_callTy call_int1 rfl T.n_int rfl (pa_cons (pv 11) pa_nil)) (pe_op op_sub pe_int (pv 10))) pa_nil)) (pe_lst pa_nil)) pa_nil)))))))))))))
      (pss_cons (ps_for PassesOwn.never rfl (pi_list (pv 5)) (pg_tup rfl (pgs_cons (pg_name (i := 12) sc__law_v_values.nd rfl (Or.inr rfl)) (pgs_cons (pg_name (i := 8) sc__law_v_values.nd rfl (Or.inr rfl)) (pgs_cons (pg_name (i := 9) sc__law_v_values.nd rfl (Or.inl rfl)) pgs_nil)))) (pss_cons (ps_set (i := 13) sc__law_v_values.nd rfl (Or.inr rfl) (pe_ix (ix_qK (K := K) rfl) (pe_lc (own := [("k", 18)]) (g := gName 18) (tt := _) rfl sc__law_v_values.nd (pi_range2 rfl T.n_range (pa_cons pe_int (pa_cons (pe_op op_add (pv 12) pe_int) pa_nil))) (blkOk_by (N := ["case", "name", "numbers", "low", "high", "bys", "period", "test", "many", "rest", "number", "other", "m", "rounds", "rests", "least", "most", "one", "k"]) (sc := defScope s__law_v_values) (by decide +kernel)) (fun _ _ _ _ _ => (pg_name (i := 18) sc__law_v_values.nd rfl (Or.inl rfl))) (fun _ _ _ _ _ => (pts_one (pt_cmpR op_eq (pe_op op_mod (pe_callTy call_int1 rfl T.n_int rfl (pa_cons (pe_op op_mul (pv 8) (pv 18)) pa_nil)) (pv 12)) pe_int (nomark _)))) (fun _ _ _ _ _ => (pv 18))) pe_int (fun _ _ => rfl)))
      (pss_one (ps_set (i := 6) sc__law_v_values.nd rfl (Or.inr rfl) (pe_ix (ix_qK (K := K) rfl) (pe_lc (own := [("k", 18)]) (g := gName 18) (tt := _) rfl sc__law_v_values.nd (pi_range2 rfl T.n_range (pa_cons pe_int (pa_cons pe_int pa_nil))) (blkOk_by (N := ["case", "name", "numbers", "low", "high", "bys", "period", "test", "many", "rest", "number", "other", "m", "rounds", "rests", "least", "most", "one", "k"]) (sc := defScope s__law_v_values) (by decide +kernel)) (fun _ _ _ _ _ => (pg_name (i := 18) sc__law_v_values.nd rfl (Or.inl rfl))) (fun _ _ _ _ _ => (pts_one (PW.pt (pw_and (pt_cmpR op_eq (pe_op op_mod (pv 18) (pv 6)) pe_int (nomark _)) (pw_and1 (pt_cmpR op_eq (pe_op op_mod (pv 18) (pv 13)) pe_int (nomark _))))))) (fun _ _ _ _ _ => (pv 18))) pe_int (fun _ _ => rfl))))))
      (pss_cons (ps_setLc (i := 14) (own := [("k", 18)]) (g := gName 18) (tt := _) rfl sc__law_v_values.nd rfl rfl (sw_true rfl rfl rfl (by decide +kernel)) (pi_range1 rfl T.n_range (pa_cons (pv 6) pa_nil)) (blkOk_by (N := ["case", "name", "numbers", "low", "high", "bys", "period", "test", "many", "rest", "number", "other", "m", "rounds", "rests", "least", "most", "one", "k"]) (sc := defScope s__law_v_values) (by decide +kernel)) (fun _ _ _ _ _ => (pg_name (i := 18) sc__law_v_values.nd rfl (Or.inr rfl))) (fun _ _ _ _ _ => (pts_one (pt_val (pe_callB (cr_allK (K := K) rfl rfl) rfl T.n_all rfl (pa_cons (pe_lc (wi := iList K (tVar 5)) (own := [("m", 12), ("many", 8), ("rest", 9)]) (g := gTup K 3 (gCons (gName 12) (gCons (gName 8) (gCons (gName 9) gNil)))) (tt := tYes) rfl sc__law_v_values.nd (pi_list (pv 5)) (blkOk_by (N := ["case", "name", "numbers", "low", "high", "bys", "period", "test", "many", "rest", "number", "other", "m", "rounds", "rests", "least", "most", "one", "k"]) (sc := sc_rests) (by decide +kernel)) (fun _ _ _ _ _ => (pg_tup rfl (pgs_cons (pg_name (i := 12) sc__law_v_values.nd rfl (Or.inl rfl)) (pgs_cons (pg_name (i := 8) sc__law_v_values.nd rfl (Or.inl rfl)) (pgs_cons (pg_name (i := 9) sc__law_v_values.nd rfl (Or.inl rfl)) pgs_nil))))) (fun _ _ _ _ _ => pts_nil) (fun _ _ _ _ _ => (pe_cmpR op_eq (pe_op op_mod (pe_callTy call_int1 rfl T.n_int rfl (pa_cons (pe_op op_add (pe_op op_mul (pv 8) (pv 18)) (pv 9)) pa_nil)) (pv 12)) pe_int (nomark _)))) pa_nil))))) (fun _ _ _ _ _ => (pv 18)))
      (pss_cons (ps_if (pt_cmpR op_ne (pe_callB (len_qK (K := K) rfl) rfl T.n_len rfl (pa_cons (pv 14) pa_nil)) pe_int (nomark _)) (pss_one (ps_ret pe_non)) pss_nil)
      (pss_cons (ps_set (i := 15) sc__law_v_values.nd rfl (Or.inl rfl) (pe_ifExp (pt_cmpR (op_neNil (hu1 hr)) (pv 3) (pe_lst pa_nil) (nomark _)) (pe_callO O_law_v_least (hr.mono (by first | decide | omega)) rfl (pa_cons (pe_callB (cr_max rfl) rfl T.n_max rfl (pa_cons (pv 3) pa_nil)) (pa_cons (pe_ix (ix_qK (K := K) rfl) (pv 14) pe_int (fun _ _ => rfl)) (pa_cons (pv 6) pa_nil)))) pe_non))
      (pss_cons (ps_set (i := 16) sc__law_v_values.nd rfl (Or.inl rfl) (pe_ifExp (pt_cmpR (op_neNil (hu1 hr)) (pv 4) (pe_lst pa_nil) (nomark _)) (pe_op op_sub pe_int (pe_callO O_law_v_least (hr.mono (by first | decide | omega)) rfl (pa_cons (pe_op op_sub pe_int (pe_callB (cr_min rfl) rfl T.n_min rfl (pa_cons (pv 4) pa_nil))) (pa_cons (pe_op op_sub pe_int (pe_ix (ix_qK (K := K) rfl) (pv 14) pe_int (fun _ _ => rfl))) (pa_cons (pv 6) pa_nil))))) pe_non))
      (pss_cons (ps_if (PW.pt (pw_or (pt_cmpR op_isN (pv 15) pe_non (nomark _)) (pw_or (pt_cmpR op_isN (pv 16) pe_non (nomark _)) (pw_or1 (pt_cmpR op_lt (pv 15) (pv 16) (nomark _)))))) (pss_one (ps_ret (pe_tup (pa_cons (pv 15) (pa_cons (pv 16) (pa_cons (pv 6) (pa_cons (pe_ix (ix_qK (K := K) rfl) (pv 14) pe_int (fun _ _ => rfl)) pa_nil))))))) pss_nil)
      (pss_one (ps_ret (pe_ifExp (pt_cmpR op_eq (pv 15) (pv 16) (nomark _)) (pe_tup (pa_cons (pv 15) (pa_cons (pv 16) (pa_cons pe_int (pa_cons pe_int pa_nil))))) pe_non))))))))))), ?_⟩
    refine ⟨by show 0 ≤ sizeLine; exact Nat.zero_le _, fun lo hlo => ?_⟩
    refine ⟨by show 0 ≤ sizeLine; exact Nat.zero_le _, fun hi hhi => ?_⟩
    refine ⟨by show 0 ≤ sizeLine; exact Nat.zero_le _, fun by_ hby => ?_⟩
    refine ⟨by show 4 ≤ sizeLine; decide, fun tq htq => ?_⟩
    have e1 : Ex H (upd (upd (upd (upd H lo (.lst [])) hi (.lst [])) by_ (.lst [])) tq (.tup [.ref lo, .ref hi, .ref by_, .int 1])) := (((Ex.new hlo).trans (Ex.new hhi)).trans (Ex.new hby)).trans (Ex.new htq)
    have n1 : lo ≠ hi := ne_of_none upd_same hhi
    have n2 : hi ≠ by_ := ne_of_none upd_same hby
    have n3 : lo ≠ by_ := ne_of_none (by rw [upd_ne n1]; exact upd_same) hby
    have n4 : by_ ≠ tq := ne_of_none upd_same htq
    have n5 : hi ≠ tq := ne_of_none (by rw [upd_ne n2]; exact upd_same) htq
    have n6 : lo ≠ tq := ne_of_none (by rw [upd_ne n3, upd_ne n1]; exact upd_same) htq
    refine ⟨tq, _, rfl, SqT.of upd_same, rfl, _, _, rfl, _, _, rfl, _, _, rfl, _, _, rfl, rfl, ?_⟩
    have a1 : (upd (upd (upd (upd H lo (.lst [])) hi (.lst [])) by_ (.lst [])) tq (.tup [.ref lo, .ref hi, .ref by_, .int 1])) lo = some (.lst []) := by rw [upd_ne n6, upd_ne n3, upd_ne n1, upd_same]
    have a2 : (upd (upd (upd (upd H lo (.lst [])) hi (.lst [])) by_ (.lst [])) tq (.tup [.ref lo, .ref hi, .ref by_, .int 1])) hi = some (.lst []) := by rw [upd_ne n5, upd_ne n2, upd_same]
    have a3 : (upd (upd (upd (upd H lo (.lst [])) hi (.lst [])) by_ (.lst [])) tq (.tup [.ref lo, .ref hi, .ref by_, .int 1])) by_ = some (.lst []) := by rw [upd_ne n4, upd_same]
    generalize (upd (upd (upd (upd H lo (.lst [])) hi (.lst [])) by_ (.lst [])) tq (.tup [.ref lo, .ref hi, .ref by_, .int 1])) = H1 at e1 a1 a2 a3
    have hil : H hi = none := (Ex.new hlo).free hhi
    have hbl : H by_ = none := ((Ex.new hlo).trans (Ex.new hhi)).free hby
    have keep : ∀ {H' : Hp}, Exo [lo, hi, by_] H1 H' → Ex H H' := fun e b o h => e b o (by
      intro z
      simp only [List.mem_cons, List.not_mem_nil, or_false] at z
      rcases z with z | z | z
      · rw [z, hlo] at h; cases h
      · rw [z, hil] at h; cases h
      · rw [z, hbl] at h; cases h) (e1 _ _ h)
    have hul := hus.len
    rw [List.length_map] at hul
    dsimp only [tSeq]
    refine tFor_of ⟨_, rfl, l, rfl, ⟨us, SqL.exo hl (e1.exo []) (by simp)⟩, ?_⟩
    refine for_itB (walk_list (xs := us)) (VvI l nd lo hi by_ name cn L tss H1) ⟨⟨_, _, _, _, _, _, _, _, _, _, _, _, rfl⟩, Exo.refl _ _, [], [], [], [], a1, a2, a3, .nil, by simp, by simp, by simp, fun x => ⟨fun _ => ⟨⟨by simp, by simp⟩, rfl⟩, fun _ ts h => by simp at h⟩, by simp⟩ (fun i σ H' _ I => SqL.exo hl ((keep I.ex).exo []) (by simp)) ?_ ?_
    · rintro i y σ H2 H2' iN ⟨⟨x7, x8, x9, x10, x11, x12, x13, x14, x15, x16, x17, x18, rfl⟩, e2, low, high, bys, ps, hlo2, hhi2, hby2, hps, ll, lh, lp, hsol, hbys⟩ ⟨rfl, hy⟩
      obtain ⟨dt, hdt, st⟩ := hus.getV hy
      rw [List.getElem?_map] at hdt
      cases hts' : tss[i]? with
      | none => rw [hts'] at hdt; cases hdt
      | some ts =>
      rw [hts'] at hdt
      cases hdt
      have hm := List.mem_of_getElem? hts'
      have cg := hts ts hm
      have e02 := keep e2
      have st2 := st.mono e02
      obtain ⟨p, wd, xs, u, rfl, hp, ⟨ys, hxy⟩, ⟨pt, pd, rfl, hpt, hpd⟩, hw, hdiv⟩ := tstD_parts st2
      have hlast : atI (V.str wd :: xs) (-1) = some (.ref pt) := by rw [hxy]; exact atLast
      have hnd2 := e02 _ _ hnd
      have npd : p ≠ pd := fun z => by rw [z, hpd] at hp; cases hp
      have nptd : pt ≠ pd := fun z => by rw [z, hpd] at hpt; rcases hpt with h | h <;> cases h
      have cnd2 := cg.told.nd
      -- many
      refine ⟨_, rfl, _, rfl, p, _, _, _, rfl, rfl, SqQ.t hp, hlast, pt, _, 0, _, rfl, rfl, SqQ.or hpt, at0, pd, rfl, .inl ⟨_, .inl hpd⟩, _, rfl, _, DGet.k (k := .inr name) hpd, ?_⟩
      have ev : ((valV (cK (coef ts)) (.inr name)).getD (.int 0)) = .int (co (coef ts) name) := by
        rw [valV_cK]; unfold co
        cases look (coef ts) name <;> rfl
      rw [ev]
      have hmany : (co (coef ts) name).natAbs ≤ 10 := by
        by_cases h0 : co (coef ts) name = 0
        · rw [h0]; decide
        · exact (cg.mem _ (co_mem h0)).2
      -- the others
      refine ⟨_, rfl, _, rfl, p, _, _, _, rfl, rfl, SqQ.t hp, hlast, pt, _, 1, _, rfl, rfl, SqQ.or hpt, at1, ?_⟩
      dsimp only [tCB, tCons, tNil]
      have lkp : ∀ {H2 : Hp}, (∀ b o, b ≠ pd → H2' b = some o → H2 b = some o) → H2 p = some (.tup (V.str wd :: xs)) := fun e => e _ _ npd hp
      have lkt : ∀ {H2 : Hp}, (∀ b o, b ≠ pd → H2' b = some o → H2 b = some o) → (H2 pt = some (.lst [.ref pd, .int (kst ts)]) ∨ H2 pt = some (.tup [.ref pd, .int (kst ts)])) := fun e => hpt.imp (e _ _ nptd) (e _ _ nptd)
      refine li_lock (fun y => co (coef ts) y * co cn y) (fun y => decide (y ≠ name)) hpd (by have := cg.len; omega) (fun H3 R e k => ⟨_, rfl, _, rfl, p, _, _, _, rfl, rfl, SqQ.t (lkp e), hlast, pt, _, 0, _, rfl, rfl, SqQ.or (lkt e), at0, k⟩) (by simp [wipe]) (fun _ => rfl) ?_ ?_
      · intro y H3 od R R' hy3 hf e k1 k2
        refine ⟨_, rfl, _, rfl, rfl, _, rfl, ?_⟩
        rw [dec_strs]
        cases hd : decide (y ≠ name) with
        | false => exact iteF (k2 hd _ (Ex.refl _))
        | true =>
          have hyn : y ≠ name := of_decide_eq_true hd
          obtain ⟨q0, hq0, eq0⟩ := List.mem_map.mp hy3
          have hns := (cg.mem q0 hq0)
          have hmn : y ∈ keys cn := hin y (eq0 ▸ hns.1) hyn
          have hb : (co (coef ts) y).natAbs ≤ 10 := by
            rw [← eq0, co_of_mem (n := q0.1) (i := q0.2) cnd2 hq0]; exact hns.2
          have dg : DGet H3 nd (.str y) (some (.int (co cn y))) := by
            by_cases z : nd = pd
            · rw [z, hpd] at hnd2
              have h1 := Option.some.inj hnd2
              injection h1 with h1
              rw [z]
              exact .inl ⟨cK (coef ts), .inr y, .inr ⟨od, hf⟩, rfl, by rw [h1]; exact (valV_co hmn cnd).symm⟩
            · exact .inl ⟨cK cn, .inr y, .inl (e _ _ z hnd2), rfl, (valV_co hmn cnd).symm⟩
          exact iteT ⟨_, rfl, _, rfl, p, _, _, _, rfl, rfl, SqQ.t (lkp e), hlast, pt, _, 0, _, rfl, rfl, SqQ.or (lkt e), at0, _, rfl, pd, _, rfl, .inl ⟨cK (coef ts), .inr y, .inr ⟨od, hf⟩, rfl, (valV_co hy3 cnd2).symm⟩, _, rfl, _, rfl, nd, _, rfl, dg, _, _, rfl, rfl, .inl ⟨by omega, by omega⟩, k1 hd _ (Ex.refl _)⟩
      intro D H3 hD e3 hDH
      refine ⟨D, (((keys (coef ts)).filter fun y => decide (y ≠ name)).map fun y => co (coef ts) y * co cn y), rfl, SqL.of (by rw [hDH, List.map_map]; rfl), _, _, rfl, rfl, ?_⟩
      show gName 9 (V.int (kst ts + (((keys (coef ts)).filter fun y => decide (y ≠ name)).map fun y => co (coef ts) y * co cn y).sum)) _ _ _
      have erst : kst ts + (((keys (coef ts)).filter fun y => decide (y ≠ name)).map fun y => co (coef ts) y * co cn y).sum = worth (drop1 name (coef ts)) (kst ts) cn := by
        rw [lin_drop_sum cnd2, worth_lin]
      have eal : alW name cn ts = alOf ts (co (coef ts) name) (kst ts + (((keys (coef ts)).filter fun y => decide (y ≠ name)).map fun y => co (coef ts) y * co cn y).sum) := by rw [erst]; rfl
      generalize kst ts + (((keys (coef ts)).filter fun y => decide (y ≠ name)).map fun y => co (coef ts) y * co cn y).sum = rst at eal
      generalize co (coef ts) name = many at hmany eal
      have hp3 := e3 _ _ hp
      have e13 : Exo [lo, hi, by_] H1 H3 := e2.trans (e3.exo _)
      have hlo3 := e3 _ _ hlo2
      have hhi3 := e3 _ _ hhi2
      have hby3 := e3 _ _ hby2
      have hps3 : Paired (TupAt H3) ps bys := Paired.imp (fun p q h => e3 _ _ h) hps
      have lb := hps3.length
      have iN2 : i < 100 := by omega
      refine ⟨_, rfl, p, _, 0, _, rfl, rfl, SqQ.t hp3, at0, rfl, _, rfl, ?_⟩
      have sl : (1000000 : Nat) < sizeLine := by rw [sizeLine_eq]; decide
      -- behind the rows of a test
      have rows : ∀ (En : Ends) (lp : Addr) (ps' : List Addr) (prs : List (Int × Int)) (H5 : Hp) (z7 z10 z11 z12 z13 z14 z15 z16 z17 z18 : Option V), (∀ σ H, VvI l nd lo hi by_ name cn L tss H1 (i + 1) σ H → En.nx σ H) → Ex H3 H5 → H5 lp = some (.lst (ps'.map V.ref)) → H3 lp = none → Paired (fun p (q : Int × Int) => H5 p = some (.tup [.int q.1, .int q.2])) ps' prs → prs.length ≤ 2 → (∀ q ∈ prs, q.1.natAbs ≤ 1000000000 ∧ (q.1 = 0 → 0 ≤ q.2)) → (∀ x, (alW name cn ts).ok x ↔ rowsAll prs x) →
          ForB (gTup K 2 (gCons (gName 10) (gCons (gName 11) gNil))) (vvExt K) En [some (.ref l), some (.str name), some (.ref nd), some (.ref lo), some (.ref hi), some (.ref by_), some (.int 1), z7, some (.int many), some (.int rst), z10, z11, z12, z13, z14, z15, z16, z17, z18] (Itl K lp) H5 := by
        intro En lp ps' prs H5 z7 z10 z11 z12 z13 z14 z15 z16 z17 z18 hEn e5 hlp5 hlp3 hpp h2 hb hok
        refine vvFor_ok (N := 2 * i) n1 (by omega) hlp5 hpp (e5 _ _ hlo3) (e5 _ _ hhi3) ⟨fun z => (by rw [z, hlo3] at hlp3; cases hlp3), fun z => (by rw [z, hhi3] at hlp3; cases hlp3)⟩ ll lh hb h2 fun y10 y11 H6 low' high' I6 hx6 => hEn _ _ ?_
        have e36 : Exo [lo, hi] H3 H6 := fun b o nb hb => I6.ex b o nb (e5 b o hb)
        refine ⟨⟨_, _, _, _, _, _, _, _, _, _, _, _, rfl⟩, e13.trans fun b o nb hb => e36 b o (fun z => nb (by
          rcases List.mem_cons.mp z with z | z
          · simp [z]
          · simp [show b = hi by simpa using z])) hb, low', high', bys, ps, I6.hl, I6.hh, e36 _ _ (by simp [n3.symm, n2.symm]) hby3, Paired.imp (fun p q h => e36 _ _ (fun z => ?_) h) hps3, by have := I6.l1; omega, by have := I6.l2; omega, by omega, fun x => ?_, hbys⟩
        · rcases List.mem_cons.mp z with z | z
          · have h : H3 p = _ := h
            rw [z, hlo3] at h; cases h
          · have h : H3 p = _ := h
            rw [show p = hi by simpa using z, hhi3] at h; cases h
        · rw [sol_snoc hts', hsol, hx6, hok]
          exact ⟨fun ⟨⟨g1, g2⟩, g3⟩ => ⟨⟨g1, g3⟩, g2⟩, fun ⟨⟨g1, g3⟩, g2⟩ => ⟨⟨g1, g2⟩, g3⟩⟩
      cases ts with
      | div m c k =>
        subst hw
        have hxs := hdiv m c k rfl
        subst hxs
        refine iteT ⟨_, rfl, .inl ⟨rfl, _, SqL.of hby3⟩, _, rfl, p, _, 1, _, rfl, rfl, SqQ.t hp3, at1, _, rfl, _, rfl, by show 3 ≤ sizeLine; decide, fun tp htp => ?_⟩
        have e4 : Ex H3 (upd H3 tp (.tup [.int m, .int many, .int rst])) := Ex.new htp
        have nt1 : tp ≠ by_ := fun z => by rw [z, hby3] at htp; cases htp
        refine ⟨by_, _, _, rfl, rfl, e4 _ _ hby3, by rw [List.length_map]; omega, ?_⟩
        refine ⟨⟨_, _, _, _, _, _, _, _, _, _, _, _, rfl⟩, e13.trans fun b o nb hb => ?_, low, high, bys ++ [(m, many, rst)], ps ++ [tp], ?_, ?_, ?_, ?_, by omega, by omega, by rw [List.length_append]; simp; omega, fun x => ?_, ?_⟩
        · rw [upd_ne fun z => nb (by simp [z])]
          exact e4 _ _ hb
        · rw [upd_ne n3]; exact e4 _ _ hlo3
        · rw [upd_ne n2]; exact e4 _ _ hhi3
        · rw [upd_same, List.map_append]; rfl
        · refine Paired.app (Paired.imp (fun p q h => ?_) hps3) (.cons ?_ .nil)
          · show upd _ by_ _ p = _
            rw [upd_ne fun z => by rw [z, TupAt, hby3] at h; cases h]
            exact e4 _ _ h
          · show upd _ by_ _ tp = _
            rw [upd_ne nt1, upd_same]
        · rw [sol_snoc hts', hsol, eal]
          show _ ∧ m ∣ many * x + rst ↔ _
          unfold byAll
          rw [List.all_append, Bool.and_eq_true]
          have : ([(m, many, rst)].all fun q => decide ((q.2.1 * x + q.2.2) % q.1 = 0)) = true ↔ m ∣ many * x + rst := by
            rw [List.all_cons, List.all_nil, Bool.and_true, decide_eq_true_eq]
            exact ⟨Int.dvd_of_emod_eq_zero, Int.emod_eq_zero_of_dvd⟩
          rw [this]
          exact ⟨fun ⟨⟨g1, g2⟩, g3⟩ => ⟨g1, g2, g3⟩, fun ⟨g1, g2, g3⟩ => ⟨⟨g1, g2⟩, g3⟩⟩
        · intro q' hq'
          rcases List.mem_append.mp hq' with hq' | hq'
          · exact hbys q' hq'
          · rw [show q' = (m, many, rst) by simpa using hq']
            exact ⟨cg.lot.1, cg.lot.2, by show many.natAbs ≤ _; omega⟩
      | row c k =>
        subst hw
        have oks : ∀ x, (alW name cn (.row c k)).ok x ↔ 0 ≤ many * x + rst := fun x => by rw [eal]; exact Iff.rfl
        refine iteF ?_
        have go : ∀ (En : Ends) (z7 z10 z11 z12 z13 z14 z15 z16 z17 z18 : Option V), (∀ σ H, VvI l nd lo hi by_ name cn L tss H1 (i + 1) σ H → En.nx σ H) → (many = 0 → 0 ≤ rst) →
            tFor (iList K (tOp rCat (tLst (tCons (tTup (tCons (tVar 8) (tCons (tVar 9) tNil))) tNil)) (tIf (tTest (tOp rEq (tOp (rIxQ K) (tVar 7) (tC (V.int 0))) (tC (V.str "same")))) (tLst (tCons (tTup (tCons (tOp (rI0 fun i j => V.int (i - j)) (tC (V.int 0)) (tVar 8)) (tCons (tOp (rI0 fun i j => V.int (i - j)) (tC (V.int 0)) (tVar 9)) tNil))) tNil)) (tLst tNil)))) (gTup K 2 (gCons (gName 10) (gCons (gName 11) gNil))) (vvExt K) En [some (.ref l), some (.str name), some (.ref nd), some (.ref lo), some (.ref hi), some (.ref by_), some (.int 1), some (.ref p), some (.int many), some (.int rst), z10, z11, z12, z13, z14, z15, z16, z17, z18] H3 := by
          intro En z7 z10 z11 z12 z13 z14 z15 z16 z17 z18 hEn h0
          refine tFor_of ?_
          refine ⟨_, rfl, _, rfl, by show 2 ≤ sizeLine; decide, fun t1 ht1 => ⟨by show 1 ≤ sizeLine; decide, fun l1 hl1 => ?_⟩⟩
          have x1 : Ex H3 (upd H3 t1 (.tup [.int many, .int rst])) := Ex.new ht1
          have x2 := x1.trans (Ex.new hl1 (o := .lst [.ref t1]))
          have hl1' : (upd (upd H3 t1 (.tup [.int many, .int rst])) l1 (.lst [.ref t1])) l1 = some (.lst [.ref t1]) := upd_same
          have ht1' : (upd (upd H3 t1 (.tup [.int many, .int rst])) l1 (.lst [.ref t1])) t1 = some (.tup [.int many, .int rst]) := by rw [upd_ne (ne_of_none upd_same hl1)]; exact upd_same
          generalize (upd (upd H3 t1 (.tup [.int many, .int rst])) l1 (.lst [.ref t1])) = H4 at x2 hl1' ht1'
          refine ⟨_, rfl, p, _, 0, _, rfl, rfl, SqQ.t (x2 _ _ hp3), at0, rfl, _, rfl, iteF ⟨by show 0 ≤ sizeLine; exact Nat.zero_le _, fun l2 hl2 => ?_⟩⟩
          have x3 : Ex H4 (upd H4 l2 (.lst [])) := Ex.new hl2
          refine ⟨l1, l2, _, _, rfl, rfl, x3 _ _ hl1', upd_same, by rw [sizeLine_eq]; simp, fun lp hlp => ?_⟩
          have x4 := x3.mut (x3.free hlp) (o := .lst ([.ref t1] ++ []))
          refine ⟨lp, rfl, ⟨_, SqL.of upd_same⟩, ?_⟩
          refine rows En lp [t1] [(many, rst)] _ _ _ _ _ _ _ _ _ _ _ hEn (x2.trans x4) upd_same ((x2.trans x3).free hlp) (.cons (x4 _ _ ht1') .nil) (by simp) ?_ fun x => ?_
          · intro q hq
            rw [List.mem_singleton.mp hq]
            exact ⟨by show many.natAbs ≤ _; omega, h0⟩
          · rw [oks]
            exact ⟨fun h q hq => by rw [List.mem_singleton.mp hq]; exact h, fun h => h (many, rst) (by simp)⟩
        refine ⟨_, rfl, rfl, _, rfl, ?_⟩
        rw [dec_int0]
        by_cases h0 : many = 0
        · rw [decide_eq_true h0]
          refine iteT ⟨_, rfl, _, _, rfl, rfl, _, rfl, ?_⟩
          by_cases hr0 : rst < 0
          · rw [decide_eq_true hr0]
            refine iteT (iteT (q none .non H3 ?_ (keep e13) rfl fun q hq => by cases hq))
            intro x hx
            have := (oks x).mp (hx _ hm)
            rw [h0, Int.zero_mul] at this
            omega
          · rw [decide_eq_false hr0]
            refine iteF ⟨_, rfl, p, _, 0, _, rfl, rfl, SqQ.t hp3, at0, rfl, _, rfl, iteF (iteF ?_)⟩
            exact go _ none _ _ _ _ _ _ _ _ _ (fun σ H h => h) (fun _ => by omega)
        · rw [decide_eq_false h0]
          exact iteF (iteF (go _ none _ _ _ _ _ _ _ _ _ (fun σ H h => h) (fun z => absurd z h0)))
      | same c k =>
        subst hw
        have oks : ∀ x, (alW name cn (.same c k)).ok x ↔ many * x + rst = 0 := fun x => by rw [eal]; exact Iff.rfl
        refine iteF ?_
        have go : ∀ (En : Ends) (z7 z10 z11 z12 z13 z14 z15 z16 z17 z18 : Option V), (∀ σ H, VvI l nd lo hi by_ name cn L tss H1 (i + 1) σ H → En.nx σ H) → (many = 0 → rst = 0) →
            tFor (iList K (tOp rCat (tLst (tCons (tTup (tCons (tVar 8) (tCons (tVar 9) tNil))) tNil)) (tIf (tTest (tOp rEq (tOp (rIxQ K) (tVar 7) (tC (V.int 0))) (tC (V.str "same")))) (tLst (tCons (tTup (tCons (tOp (rI0 fun i j => V.int (i - j)) (tC (V.int 0)) (tVar 8)) (tCons (tOp (rI0 fun i j => V.int (i - j)) (tC (V.int 0)) (tVar 9)) tNil))) tNil)) (tLst tNil)))) (gTup K 2 (gCons (gName 10) (gCons (gName 11) gNil))) (vvExt K) En [some (.ref l), some (.str name), some (.ref nd), some (.ref lo), some (.ref hi), some (.ref by_), some (.int 1), some (.ref p), some (.int many), some (.int rst), z10, z11, z12, z13, z14, z15, z16, z17, z18] H3 := by
          intro En z7 z10 z11 z12 z13 z14 z15 z16 z17 z18 hEn h0
          refine tFor_of ?_
          refine ⟨_, rfl, _, rfl, by show 2 ≤ sizeLine; decide, fun t1 ht1 => ⟨by show 1 ≤ sizeLine; decide, fun l1 hl1 => ?_⟩⟩
          have x1 : Ex H3 (upd H3 t1 (.tup [.int many, .int rst])) := Ex.new ht1
          have x2 := x1.trans (Ex.new hl1 (o := .lst [.ref t1]))
          have hl1' : (upd (upd H3 t1 (.tup [.int many, .int rst])) l1 (.lst [.ref t1])) l1 = some (.lst [.ref t1]) := upd_same
          have ht1' : (upd (upd H3 t1 (.tup [.int many, .int rst])) l1 (.lst [.ref t1])) t1 = some (.tup [.int many, .int rst]) := by rw [upd_ne (ne_of_none upd_same hl1)]; exact upd_same
          generalize (upd (upd H3 t1 (.tup [.int many, .int rst])) l1 (.lst [.ref t1])) = H4 at x2 hl1' ht1'
          refine ⟨_, rfl, p, _, 0, _, rfl, rfl, SqQ.t (x2 _ _ hp3), at0, rfl, _, rfl, iteT ⟨_, rfl, _, _, rfl, rfl, _, rfl, _, _, rfl, rfl, by show 2 ≤ sizeLine; decide, fun t2 ht2 => ⟨by show 1 ≤ sizeLine; decide, fun l2 hl2 => ?_⟩⟩⟩
          have y1 : Ex H4 (upd H4 t2 (.tup [.int (0 - many), .int (0 - rst)])) := Ex.new ht2
          have y2 := y1.trans (Ex.new hl2 (o := .lst [.ref t2]))
          have hl2' : (upd (upd H4 t2 (.tup [.int (0 - many), .int (0 - rst)])) l2 (.lst [.ref t2])) l2 = some (.lst [.ref t2]) := upd_same
          have ht2' : (upd (upd H4 t2 (.tup [.int (0 - many), .int (0 - rst)])) l2 (.lst [.ref t2])) t2 = some (.tup [.int (0 - many), .int (0 - rst)]) := by rw [upd_ne (ne_of_none upd_same hl2)]; exact upd_same
          refine ⟨l1, l2, _, _, rfl, rfl, y2 _ _ hl1', upd_same, by rw [sizeLine_eq]; simp, fun lp hlp => ?_⟩
          have y3 := y2.trans (Ex.new hlp (o := .lst ([.ref t1] ++ [.ref t2])))
          refine ⟨lp, rfl, ⟨_, SqL.of upd_same⟩, ?_⟩
          refine rows En lp [t1, t2] [(many, rst), (0 - many, 0 - rst)] _ _ _ _ _ _ _ _ _ _ _ hEn (x2.trans y3) upd_same ((x2.trans y2).free hlp) (.cons (y3 _ _ ht1') (.cons ((Ex.new hlp) _ _ ht2') .nil)) (by simp) ?_ fun x => ?_
          · intro q hq
            simp only [List.mem_cons, List.not_mem_nil, or_false] at hq
            rcases hq with rfl | rfl
            · exact ⟨by show many.natAbs ≤ _; omega, fun z => by show 0 ≤ rst; rw [h0 z]; exact Int.le_refl _⟩
            · exact ⟨by show (0 - many).natAbs ≤ _; omega, fun z => by show 0 ≤ 0 - rst; rw [h0 (by have z : 0 - many = 0 := z; omega)]; decide⟩
          · rw [oks, same_rows]
            constructor
            · rintro ⟨g1, g2⟩ q hq
              simp only [List.mem_cons, List.not_mem_nil, or_false] at hq
              rcases hq with rfl | rfl
              · exact g1
              · exact g2
            · intro h
              exact ⟨h (many, rst) (by simp), h (0 - many, 0 - rst) (by simp)⟩
        refine ⟨_, rfl, rfl, _, rfl, ?_⟩
        rw [dec_int0]
        by_cases h0 : many = 0
        · rw [decide_eq_true h0]
          refine iteT ⟨_, rfl, _, _, rfl, rfl, _, rfl, ?_⟩
          have none_ : rst ≠ 0 → Q .non H3 := fun hr => by
            refine q none .non H3 ?_ (keep e13) rfl fun q hq => by cases hq
            intro x hx
            have := (oks x).mp (hx _ hm)
            rw [h0, Int.zero_mul] at this
            omega
          by_cases hr0 : rst < 0
          · rw [decide_eq_true hr0]
            exact iteT (iteT (none_ (by omega)))
          · rw [decide_eq_false hr0]
            refine iteF ⟨_, rfl, p, _, 0, _, rfl, rfl, SqQ.t hp3, at0, rfl, _, rfl, iteT ⟨_, rfl, rfl, _, rfl, ?_⟩⟩
            show (fun b H => if b = true then _ else _) (!decide (V.int rst = V.int 0)) H3
            rw [dec_int0]
            by_cases hr1 : rst = 0
            · rw [decide_eq_true hr1]
              exact iteF (go _ none _ _ _ _ _ _ _ _ _ (fun σ H h => h) (fun _ => hr1))
            · rw [decide_eq_false hr1]
              exact iteT (none_ hr1)
        · rw [decide_eq_false h0]
          exact iteF (iteF (go _ none _ _ _ _ _ _ _ _ _ (fun σ H h => h) (fun z => absurd z h0)))
    · rintro σ H2 ⟨⟨x7, x8, x9, x10, x11, x12, x13, x14, x15, x16, x17, x18, rfl⟩, e2, low, high, bys, ps, hlo2, hhi2, hby2, hps, ll, lh, lp, hsol, hbys⟩
      rw [List.take_of_length_le (by omega)] at hsol
      have e02 := keep e2
      have lb := hps.length
      have sl : (1000000 : Nat) < sizeLine := by rw [sizeLine_eq]; decide
      have psx : ∀ {j : Nat}, j < ps.length → ∃ p q, ps[j]? = some p ∧ bys[j]? = some q ∧ H2 p = some (.tup [.int q.1, .int q.2.1, .int q.2.2]) := by
        intro j hj
        have g1 : ps[j]? = some ps[j] := List.getElem?_eq_getElem hj
        have g2 : bys[j]? = some (bys[j]'(by omega)) := List.getElem?_eq_getElem _
        have : ∀ {ps : List Addr} {bys : List (Int × Int × Int)} {j : Nat} {p : Addr}, Paired (TupAt H2) ps bys → ps[j]? = some p → ∃ q, bys[j]? = some q ∧ TupAt H2 p q := by
          intro ps bys j p h
          induction h generalizing j with
          | nil => intro h; simp at h
          | cons h1 t ih =>
            cases j with
            | zero => intro h; simp at h; subst h; exact ⟨_, rfl, h1⟩
            | succ j => intro h; simpa using ih (by simpa using h)
        obtain ⟨q, g3, g4⟩ := this hps g1
        exact ⟨_, q, g1, g3, g4⟩
      dsimp only [tSeq]
      refine tFor_of ?_
      refine ⟨_, rfl, by_, rfl, ⟨_, SqL.of hby2⟩, ?_⟩
      refine for_itB (walk_list (xs := ps.map V.ref)) (fun j σ H' => (∃ P x7 x8 x9 x10 x11 x12 x13 x14 x15 x16 x17 x18, σ = [some (.ref l), some (.str name), some (.ref nd), some (.ref lo), some (.ref hi), some (.ref by_), some (.int P), x7, x8, x9, x10, x11, x12, x13, x14, x15, x16, x17, x18] ∧ PerOk (bys.take j) P) ∧ Ex H2 H') ⟨⟨1, _, _, _, _, _, _, _, _, _, _, _, _, rfl, PerOk.nil⟩, Ex.refl _⟩ (fun j σ H' _ I => SqL.of (I.2 _ _ hby2)) ?_ ?_
      · rintro j y σ H3 H3' jN ⟨⟨P, x7, x8, x9, x10, x11, x12, x13, x14, x15, x16, x17, x18, rfl, hP⟩, e3⟩ ⟨rfl, hy⟩
        rw [List.length_map] at jN
        rw [List.getElem?_map] at hy
        obtain ⟨p, ⟨m, many, rst⟩, hp, hq, hpt⟩ := psx jN
        rw [hp] at hy
        cases hy
        obtain ⟨m0, mL, mb⟩ := hbys _ (List.mem_of_getElem? hq)
        have hpt3 := e3 _ _ hpt
        simp only at m0 mL mb hpt3
        have m12 : m ≤ 12 := by have := Int.le_of_dvd L0 mL; omega
        have hP2 := hP.snoc (a := many) (b := rst) m0
        have htk : bys.take (j + 1) = bys.take j ++ [(m, many, rst)] := by rw [List.take_add_one, hq]; rfl
        have hPle := (hP2.le L0 (fun q hq => (hbys q (by rw [← htk] at hq; exact List.mem_of_mem_take hq)).2.1)).1
        refine ⟨p, _, rfl, SqT.of hpt3, rfl, _, _, rfl, _, _, rfl, _, _, rfl, rfl, ?_⟩
        dsimp only [tSeq, tAsg]
        refine tLc_of ?_
        refine ⟨_, rfl, _, _, rfl, rfl, 1, m + 1, rfl, ⟨by omega, by omega, by omega, by omega⟩, ?_⟩
        rw [show (m + 1 - 1).toNat = m.toNat by omega]
        refine lc_val walk_range (fun i => (((List.range i).map fun j : Nat => 1 + (j : Int)).filter fun k => decide ((many * k) % m = 0)).map V.int) (by omega) rfl (fun _ _ => trivial) ?_ ?_
        · rintro i x H4 H4' R R' hi4 e4 ⟨rfl, rfl⟩ k1 k2
          have ht : (((List.range (i + 1)).map fun j : Nat => 1 + (j : Int)).filter fun k => decide ((many * k) % m = 0)).map V.int = (((List.range i).map fun j : Nat => 1 + (j : Int)).filter fun k => decide ((many * k) % m = 0)).map V.int ++ (if decide ((many * (1 + (i : Int))) % m = 0) = true then [V.int (1 + (i : Int))] else []) := by
            rw [List.range_succ, List.map_append, List.filter_append, List.map_append, List.map_cons, List.map_nil, List.filter_cons]
            split <;> simp
          refine ⟨rfl, _, rfl, _, rfl, _, _, rfl, rfl, .inl ⟨by omega, by omega⟩, .inl ⟨_, rfl, _, rfl, _, _, rfl, rfl, m0, rfl, _, rfl, ?_⟩⟩
          rw [dec_int0]
          cases hd : decide ((many * (1 + (i : Int))) % m = 0) with
          | true =>
            rw [hd, if_pos rfl] at ht
            exact iteT ⟨_, rfl, k1 _ _ (Ex.refl _) ht⟩
          | false =>
            rw [hd, if_neg (by simp), List.append_nil] at ht
            exact iteF (k2 _ (Ex.refl _) ht)
        · intro D H4 hD e4 hDH
          have h0 := rounds_eq (a := many) m0
          refine ⟨D, _, 0, _, rfl, rfl, SqQ.l hDH, atN (i := 0) (by rw [List.getElem?_map, h0]; rfl), ?_⟩
          dsimp only [gName, tAsg]
          refine tLc_of ?_
          have rp := quo_pos (a := many) m0
          have Pp := hP.pos
          have h12 : lcmI P (m / gcdI m many) ≤ 12 := by omega
          refine ⟨1, 13, rfl, ⟨by decide, by decide, by decide, by decide⟩, ?_⟩
          rw [show ((13 : Int) - 1).toNat = 12 by decide]
          refine lc_val walk_range (fun i => (((List.range i).map fun j : Nat => 1 + (j : Int)).filter fun k => decide (k % P = 0) && decide (k % (m / gcdI m many) = 0)).map V.int) (by omega) rfl (fun _ _ => trivial) ?_ ?_
          · rintro i x H5 H5' R R' hi5 e5 ⟨rfl, rfl⟩ k1 k2
            have ht : (((List.range (i + 1)).map fun j : Nat => 1 + (j : Int)).filter fun k => decide (k % P = 0) && decide (k % (m / gcdI m many) = 0)).map V.int = (((List.range i).map fun j : Nat => 1 + (j : Int)).filter fun k => decide (k % P = 0) && decide (k % (m / gcdI m many) = 0)).map V.int ++ (if (decide ((1 + (i : Int)) % P = 0) && decide ((1 + (i : Int)) % (m / gcdI m many) = 0)) = true then [V.int (1 + (i : Int))] else []) := by
              rw [List.range_succ, List.map_append, List.filter_append, List.map_append, List.map_cons, List.map_nil, List.filter_cons]
              split <;> simp
            refine ⟨rfl, _, rfl, _, rfl, _, _, rfl, rfl, Pp, rfl, _, rfl, ?_⟩
            rw [dec_int0]
            cases hd : decide ((1 + (i : Int)) % P = 0) with
            | false =>
              rw [hd, Bool.false_and, if_neg (by simp), List.append_nil] at ht
              exact iteF (iteF (k2 _ (Ex.refl _) ht))
            | true =>
              rw [hd, Bool.true_and] at ht
              refine iteT ⟨_, rfl, _, rfl, _, _, rfl, rfl, rp, rfl, _, rfl, ?_⟩
              dsimp only
              rw [dec_int0]
              cases hd2 : decide ((1 + (i : Int)) % (m / gcdI m many) = 0) with
              | true =>
                rw [hd2, if_pos rfl] at ht
                exact iteT ⟨_, rfl, k1 _ _ (Ex.refl _) ht⟩
              | false =>
                rw [hd2, if_neg (by simp), List.append_nil] at ht
                exact iteF (k2 _ (Ex.refl _) ht)
          · intro D2 H5 hD2 e5 hDH2
            have h0 := period_eq Pp rp h12
            refine ⟨D2, _, 0, _, rfl, rfl, SqQ.l hDH2, atN (i := 0) (by rw [List.getElem?_map, h0]; rfl), ?_⟩
            exact ⟨⟨_, _, _, _, _, _, _, _, _, _, _, _, _, rfl, by rw [htk]; exact hP2⟩, e3.trans (e4.trans e5)⟩
      · rintro σ H3 ⟨⟨P, x7, x8, x9, x10, x11, x12, x13, x14, x15, x16, x17, x18, rfl, hP⟩, e3⟩
        rw [List.length_map, List.take_of_length_le (by omega)] at hP
        have e03 := e02.trans e3
        have Pp := hP.pos
        have Ple := (hP.le L0 fun q hq => (hbys q hq).2.1).1
        have hlo3 := e3 _ _ hlo2
        have hhi3 := e3 _ _ hhi2
        have hby3 := e3 _ _ hby2
        dsimp only [tSeq, tAsg]
        refine tLc_of ?_
        refine ⟨_, rfl, P, rfl, by omega, by omega, ?_⟩
        refine lc_val walk_range (fun i => (((List.range i).map fun j : Nat => (j : Int)).filter (byAll bys)).map V.int) (by omega) rfl (fun _ _ => trivial) ?_ ?_
        · rintro i x H4 H4' R R' hi4 e4 ⟨rfl, rfl⟩ k1 k2
          have e34 := e3.trans e4
          have ht : (((List.range (i + 1)).map fun j : Nat => (j : Int)).filter (byAll bys)).map V.int = (((List.range i).map fun j : Nat => (j : Int)).filter (byAll bys)).map V.int ++ (if byAll bys (i : Int) = true then [V.int (0 + (i : Int))] else []) := by
            rw [List.range_succ, List.map_append, List.filter_append, List.map_append, List.map_cons, List.map_nil, List.filter_cons]
            split <;> simp
          refine ⟨rfl, ?_⟩
          dsimp only [tB, tCB, tCons, tNil]
          refine tLc_of ?_
          refine ⟨_, rfl, by_, rfl, ⟨_, SqL.of (e4 _ _ hby3)⟩, ?_⟩
          refine lc_val (walk_list (xs := ps.map V.ref)) (fun j => ((bys.take j).map fun q => decide ((q.2.1 * (0 + (i : Int)) + q.2.2) % q.1 = 0)).map V.bl) (by rw [List.length_map]; omega) rfl (fun H' e => SqL.of (e _ _ (e4 _ _ hby3))) ?_ ?_
          · rintro j y H5 H5' R2 R2' hj5 e5 ⟨rfl, hy⟩ j1 _
            rw [List.length_map] at hj5
            rw [List.getElem?_map] at hy
            obtain ⟨p, ⟨m, many, rst⟩, hp, hq, hpt⟩ := psx hj5
            rw [hp] at hy
            cases hy
            obtain ⟨m0, mL, mb⟩ := hbys _ (List.mem_of_getElem? hq)
            have hpt5 := e5 _ _ (e34 _ _ hpt)
            simp only at m0 mL mb hpt5
            refine ⟨p, _, rfl, SqT.of hpt5, rfl, _, _, rfl, _, _, rfl, _, _, rfl, rfl, rfl, yesT ⟨_, rfl, _, rfl, _, _, rfl, rfl, .inl ⟨by omega, by omega⟩, _, rfl, _, _, rfl, rfl, .inl ⟨_, rfl, _, rfl, _, _, rfl, rfl, m0, rfl, ?_⟩⟩⟩
            refine j1 _ _ (Ex.refl _) ?_
            rw [List.take_add_one, hq, dec_int0]
            simp
          · intro D2 H5 hD2 e5 hDH2
            rw [List.length_map, lb, List.take_length] at hDH2
            refine ⟨D2, _, rfl, SqL.of hDH2, _, rfl, ?_⟩
            have hall : ((bys.map fun q => decide ((q.2.1 * (0 + (i : Int)) + q.2.2) % q.1 = 0)).all id) = byAll bys (i : Int) := by
              unfold byAll
              rw [List.all_map]
              congr 1
              funext q
              show decide ((q.2.1 * (0 + (i : Int)) + q.2.2) % q.1 = 0) = _
              rw [Int.zero_add]
            rw [hall]
            cases hb : byAll bys (i : Int) with
            | true =>
              rw [hb, if_pos rfl] at ht
              exact iteT ⟨_, rfl, k1 _ _ e5 ht⟩
            | false =>
              rw [hb, if_neg (by simp), List.append_nil] at ht
              exact iteF (k2 _ e5 ht)
        · intro R H4 hR e4 hRH
          have eR : (((List.range P.toNat).map fun j : Nat => (j : Int)).filter (byAll bys)) = restsOf bys P := rfl
          rw [eR] at hRH
          have e04 := e03.trans e4
          dsimp only [gName]
          refine ⟨_, rfl, R, _, rfl, SqQ.l hRH, rfl, _, rfl, ?_⟩
          have elen : decide (V.int (((restsOf bys P).map V.int).length : Int) = V.int 1) = decide ((restsOf bys P).length = 1) := by
            rw [List.length_map]
            exact decide_eq_decide.mpr ⟨fun h => by have := V.int.inj h; omega, fun h => by rw [h]; rfl⟩
          show (if (!decide (V.int (((restsOf bys P).map V.int).length : Int) = V.int 1)) = true then _ else _)
          rw [elen]
          by_cases h1 : (restsOf bys P).length = 1
          · rw [decide_eq_true h1]
            refine iteF ?_
            obtain ⟨r, hr⟩ : ∃ r, restsOf bys P = [r] := List.length_eq_one_iff.mp h1
            rw [hr] at hRH
            have hlo4 := e4 _ _ hlo3
            have hhi4 := e4 _ _ hhi3
            have tail : ∀ (lo' hi' : Option Int) (H6 : Hp) (z7 z8 z9 z10 z11 z12 z13 z17 z18 : Option V), MaxO low lo' → MinO high hi' → Ex H4 H6 →
                vvTail K { nx := fun _ H' => Q .non H', rt := Q } [some (.ref l), some (.str name), some (.ref nd), some (.ref lo), some (.ref hi), some (.ref by_), some (.int P), z7, z8, z9, z10, z11, z12, z13, some (.ref R), some (optI (lo'.map (up · r P))), some (optI (hi'.map (dn · r P))), z17, z18] H6 := by
              intro lo' hi' H6 z7 z8 z9 z10 z11 z12 z13 z17 z18 m1 m2 e6
              refine vvTail_ok (e6 _ _ hRH) fun v H' e' an fr => q _ v H' (fin_right (law_rng hsol m1 m2 hP hr)) ((e04.trans e6).trans e') an fun t ht => (e04.trans e6).free (fr t ht)
            -- the greatest
            have most : ∀ (lo' : Option Int) (H6 : Hp) (z7 z8 z9 z10 z11 z12 z13 z16 z17 z18 : Option V), MaxO low lo' → Ex H4 H6 →
                tSeq (tAsg (tIf (tTest (tOp rNeNil (tVar 4) (tLst tNil))) (tOp (rI0 fun i j => V.int (i - j)) (tC (V.int 0)) (tC0 spVLeast (tCons (tOp (rI0 fun i j => V.int (i - j)) (tC (V.int 0)) (tCB (rMin K) (tCons (tVar 4) tNil))) (tCons (tOp (rI0 fun i j => V.int (i - j)) (tC (V.int 0)) (tOp (rIxQ K) (tVar 14) (tC (V.int 0)))) (tCons (tVar 6) tNil))))) (tC V.non)) (gName 16)) (vvTail K)
                  { nx := fun _ H' => Q .non H', rt := Q } [some (.ref l), some (.str name), some (.ref nd), some (.ref lo), some (.ref hi), some (.ref by_), some (.int P), z7, z8, z9, z10, z11, z12, z13, some (.ref R), some (optI (lo'.map (up · r P))), z16, z17, z18] H6 := by
              intro lo' H6 z7 z8 z9 z10 z11 z12 z13 z16 z17 z18 m1 e6
              refine ⟨_, rfl, by show 0 ≤ sizeLine; exact Nat.zero_le _, fun e he => ?_⟩
              have e7 : Ex H6 (upd H6 e (.lst [])) := Ex.new he
              refine ⟨hi, e, _, rfl, rfl, e7 _ _ (e6 _ _ hhi4), upd_same, _, rfl, ?_⟩
              cases high with
              | nil => exact iteF (tail lo' none _ _ _ _ _ _ _ _ _ _ m1 ⟨fun _ => rfl, fun h => absurd rfl h⟩ (e6.trans e7))
              | cons h0 hs =>
                refine iteT ⟨_, rfl, hi, h0 :: hs, rfl, SqL.of (e7 _ _ (e6 _ _ hhi4)), by simp, fun m hm hle => ⟨_, _, rfl, rfl, _, rfl, R, _, 0, _, rfl, rfl, SqQ.l (e7 _ _ (e6 _ _ hRH)), at0, _, _, rfl, rfl, _, rfl, 0 - m, 0 - r, P, rfl, Pp, _, _, rfl, rfl, ?_⟩⟩
                have ed : (0 : Int) - up (0 - m) (0 - r) P = dn m r P := by
                  unfold up dn
                  rw [show (0 : Int) - r - (0 - m) = m - r by omega]; omega
                have := tail lo' (some m) _ z7 z8 z9 z10 z11 z12 z13 z17 z18 m1 ⟨fun h => (by cases h), fun _ => ⟨m, rfl, hm, hle⟩⟩ (e6.trans e7)
                have ed2 : optI ((some m).map (dn · r P)) = .int (0 - up (0 - m) (0 - r) P) := by
                  show V.int (dn m r P) = _
                  rw [ed]
                rw [ed2] at this
                exact this
            refine ⟨_, rfl, by show 0 ≤ sizeLine; exact Nat.zero_le _, fun e he => ?_⟩
            have e5 : Ex H4 (upd H4 e (.lst [])) := Ex.new he
            refine ⟨lo, e, _, rfl, rfl, e5 _ _ hlo4, upd_same, _, rfl, ?_⟩
            cases low with
            | nil => exact iteF (most none _ _ _ _ _ _ _ _ _ _ _ ⟨fun _ => rfl, fun h => absurd rfl h⟩ e5)
            | cons l0 ls =>
              refine iteT ⟨_, rfl, lo, l0 :: ls, rfl, SqL.of (e5 _ _ hlo4), by simp, fun m hm hle => ⟨_, rfl, R, _, 0, _, rfl, rfl, SqQ.l (e5 _ _ hRH), at0, _, rfl, m, r, P, rfl, Pp, ?_⟩⟩
              exact most (some m) _ _ _ _ _ _ _ _ _ _ _ ⟨fun h => (by cases h), fun _ => ⟨m, rfl, hm, hle⟩⟩ e5
          · rw [decide_eq_false h1]
            refine iteT (q none .non H4 (fun x hx => ?_) e04 rfl fun q hq => by cases hq)
            have := ((hsol x).mp hx).2
            rw [rests_none hP h1 x] at this
            cases this
end
end K8

set_option Elab.async false
set_option linter.all false
set_option maxRecDepth 100000
set_option maxHeartbeats 4000000
namespace K8
open PySem PySem.Spec PyProof.Rows L2 M8
/-! a name, a case, numbers: drawn -/
structure Dr where
  name : Str
  tss : List Tst
  cn : Coef
  L : Int
structure DrOk (d : Dr) : Prop where
  nm : d.name ∈ pool
  nk : d.name ∉ keys d.cn
  nd : (keys d.cn).Nodup
  pl : ∀ n ∈ keys d.cn, n ∈ pool
  len : d.tss.length ≤ 7
  L0 : 0 < d.L
  L12 : d.L ≤ 12
  cb : ∀ n, (co d.cn n).natAbs ≤ 100000000
  cl : d.cn.length ≤ 12
  ok : ∀ ts ∈ d.tss, CaseG d.L (d.name :: keys d.cn) ts
def drD (d : Dr) : Dat := .tup [.str d.name, .lst (d.tss.map tstD), .dct (cD d.cn)]
section
variable {P : Program} {w : World} {K : PySem.W.Frag} {mg : Str → Option Value} {base : Heap}
theorem co_bound {c : Coef} {B : Nat} (h : ∀ p ∈ c, p.2.natAbs ≤ B) (n : Str) : (co c n).natAbs ≤ B := by
  by_cases h0 : co c n = 0
  · rw [h0]; simp
  · exact h _ (co_mem h0)
theorem cut_tail {x : Str} {xs : List Str} : cutV ((x :: xs).map V.str) (some 1) none = xs.map V.str := by
  have h0 := HT.sIx_nat ((x :: xs).map V.str).length 0 1
  have h1 : HT.sIx ((x :: xs).map V.str).length 0 (some (1 : Int)) = 1 := h0.trans (by rw [List.length_map, List.length_cons]; omega)
  have h2 : HT.sIx ((x :: xs).map V.str).length ((x :: xs).map V.str).length none = ((x :: xs).map V.str).length := rfl
  unfold cutV
  rw [h1, h2, List.length_map, List.length_cons, List.map_cons, List.drop_succ_cons, List.drop_zero]
  exact List.take_of_length_le (by rw [List.length_map]; omega)
def spDrawn (K : PySem.W.Frag) : Sp := fun vs H Q _ => ∃ a B N, vs = [.ref a] ∧ Spr H a B ∧ B + 2000 < lot ∧ a ∈ N ∧ (∀ b ∈ N, H b ≠ none) ∧ ∀ d v H', DrOk d → Exo [a] H H' → Spr H' a (B + 600) → SeeF K (sansL N H') v (drD d) → Q v H'
abbrev s__law_drawn : Stmt := top 57
theorem sc__law_drawn : FnScope ["source", "names", "far", "point", "case", "numbers", "name"] ["source"] (defScope s__law_drawn) := ⟨rfl, rfl, rfl, by decide +kernel, rfl, by decide +kernel, by decide +kernel⟩
theorem ok__law_drawn (T : Txt K mg) (a : At K mg "_law_drawn" s__law_drawn ["source"]) (O_law_draw : Ok P w K mg base CX0 1 "_law_draw" ["source", "many"] spDraw) (O_law_pick : Ok P w K mg base CX0 2 "_law_pick" ["source", "some"] (spPick K)) (O_law_q_names : Ok P w K mg base CX0 3 "_law_q_names" ["source", "many"] spQNames) (O_law_v_case : Ok P w K mg base CX0 3 "_law_v_case" ["source", "names", "name", "top", "far", "point", "slack"] (spVCase K)) : Ok P w K mg base CX0 4 "_law_drawn" ["source"] (spDrawn K) := a.ok fun f fd F => by
  refine F.ok sc__law_drawn (fun vs H Q E h => ?_) (fun cdv A outer s H vs Q E hr h => ?_)
  · obtain ⟨a, B, N, rfl, _⟩ := h; rfl
  · obtain ⟨a, B, N, rfl, hs, hB, haN, hN, q⟩ := h
    refine ⟨_, (pss_cons (ps_asg (pe_tup (pa_cons (pe_callO O_law_q_names (hr.mono (by first | decide | omega)) rfl (pa_cons (pv 0) (pa_cons (pe_op op_add pe_int (pe_callO O_law_draw (hr.mono (by first | decide | omega)) rfl (pa_cons (pv 0) (pa_cons pe_int pa_nil)))) pa_nil))) (pa_cons (pe_callO O_law_pick (hr.mono (by first | decide | omega)) rfl (pa_cons (pv 0) (pa_cons (pe_lst (pa_cons pe_int (pa_cons pe_int (pa_cons pe_int (pa_cons (pe_op op_pow pe_int pe_int) pa_nil))))) pa_nil))) pa_nil))) (pg_tup rfl (pgs_cons (pg_name (i := 1) sc__law_drawn.nd rfl (Or.inl rfl)) (pgs_cons (pg_name (i := 2) sc__law_drawn.nd rfl (Or.inr rfl)) pgs_nil))))
      (pss_cons (ps_set (i := 3) sc__law_drawn.nd rfl (Or.inr rfl) (pe_callTy (call_dictC (K := K) rfl rfl) rfl T.n_dict rfl (pa_cons (pe_lc (own := [("name", 6)]) (g := gName 6) (tt := tYes) rfl sc__law_drawn.nd (pi_list (pv 1)) (blkOk_by (N := ["source", "names", "far", "point", "case", "numbers", "name"]) (sc := defScope s__law_drawn) (by decide +kernel)) (fun _ _ _ _ _ => (pg_name (i := 6) sc__law_drawn.nd rfl (Or.inl rfl))) (fun _ _ _ _ _ => pts_nil) (fun _ _ _ _ _ => (pe_tup (pa_cons (pv 6) (pa_cons (pe_op op_sub (pe_callO O_law_draw (hr.mono (by first | decide | omega)) rfl (pa_cons (pv 0) (pa_cons (pe_op op_add (pe_op op_mul pe_int (pv 2)) pe_int) pa_nil))) (pv 2)) pa_nil))))) pa_nil)))
      (pss_cons (ps_set (i := 4) sc__law_drawn.nd rfl (Or.inl rfl) (pe_callO O_law_v_case (hr.mono (by first | decide | omega)) rfl (pa_cons (pv 0) (pa_cons (pv 1) (pa_cons (pe_ix (ix_qK (K := K) rfl) (pv 1) pe_int (fun _ _ => rfl)) (pa_cons pe_int (pa_cons (pv 2) (pa_cons (pv 3) (pa_cons (pe_callO O_law_pick (hr.mono (by first | decide | omega)) rfl (pa_cons (pv 0) (pa_cons (pe_lst (pa_cons pe_int (pa_cons pe_int (pa_cons pe_int pa_nil)))) pa_nil))) pa_nil)))))))))
      (pss_cons (ps_set (i := 5) sc__law_drawn.nd rfl (Or.inl rfl) (pe_callTy (call_dictC (K := K) rfl rfl) rfl T.n_dict rfl (pa_cons (pe_lc (own := [("name", 6)]) (g := gName 6) (tt := tYes) rfl sc__law_drawn.nd (pi_list (pe_slice sl_list (pv 1) (po_some pe_int) po_none)) (blkOk_by (N := ["source", "names", "far", "point", "case", "numbers", "name"]) (sc := defScope s__law_drawn) (by decide +kernel)) (fun _ _ _ _ _ => (pg_name (i := 6) sc__law_drawn.nd rfl (Or.inl rfl))) (fun _ _ _ _ _ => pts_nil) (fun _ _ _ _ _ => (pe_tup (pa_cons (pv 6) (pa_cons (pe_op op_add (pe_dget (hu_of hr) (pv 3) (pv 6) (fun _ _ => rfl)) (pe_callO O_law_pick (hr.mono (by first | decide | omega)) rfl (pa_cons (pv 0) (pa_cons (pe_lst (pa_cons pe_int (pa_cons pe_int (pa_cons pe_int (pa_cons pe_int pa_nil))))) pa_nil)))) pa_nil))))) pa_nil)))
      (pss_one (ps_ret (pe_tup (pa_cons (pe_ix (ix_qK (K := K) rfl) (pv 1) pe_int (fun _ _ => rfl)) (pa_cons (pv 4) (pa_cons (pv 5) pa_nil)))))))))), ?_⟩
    have hNs : ∀ {H' : Hp} {B' : Nat}, Exo [a] H H' → Spr H' a B' → ∀ b ∈ N, H' b ≠ none := fun {H' B'} e s b hb => by
      by_cases h : b = a
      · rw [h]; exact s.ne
      · cases hx : H b with
        | none => exact absurd hx (hN b hb)
        | some o => rw [e.at1 h hx]; simp
    have newN : ∀ {H' : Hp} {B' : Nat} {b : Addr}, Exo [a] H H' → Spr H' a B' → H' b = none → b ∉ N := fun e s h z => hNs e s _ z h
    refine ⟨_, rfl, _, rfl, a, 5, B, rfl, hs, by omega, by decide, by decide, fun m H1 m0 m1 e1 s1 => ⟨_, _, rfl, rfl, ?_⟩⟩
    refine ⟨a, 1 + m, _, rfl, s1, by omega, by omega, by omega, fun np ns H2 hnp e2 s2 nl nnd npl hns2 => ?_⟩
    have nnpa : np ≠ a := fun z => s1.ne (z ▸ hnp)
    refine ⟨_, rfl, _, _, rfl, rfl, ⟨by decide, by decide, by decide⟩, by show 4 ≤ sizeLine; decide, fun lq hlq => ?_⟩
    have x2 : Ex H2 (upd H2 lq (.lst [.int 9, .int 9, .int 40, .int (10 ^ (7 : Int).toNat)])) := Ex.new hlq
    have nlqa : lq ≠ a := fun z => s2.ne (z ▸ hlq)
    refine ⟨a, lq, _, _, rfl, s2.ex x2, by omega, nlqa, SqQ.l upd_same, by decide, by decide, fun j y H3 hy e3 s3 => ?_⟩
    obtain ⟨far, rfl, f0, f1⟩ : ∃ far : Int, y = .int far ∧ 0 ≤ far ∧ far ≤ 10000000 := by
      have hm := List.mem_of_getElem? hy
      simp only [List.mem_cons, List.not_mem_nil, or_false] at hm
      rcases hm with rfl | rfl | rfl | rfl <;> exact ⟨_, rfl, by decide, by decide⟩
    have e23 : Exo [a] H2 H3 := (x2.exo _).trans e3
    refine ⟨by show 2 ≤ sizeLine; decide, fun tp htp => ⟨tp, _, rfl, SqT.of upd_same, rfl, _, _, rfl, _, _, rfl, rfl, ?_⟩⟩
    have x4 : Ex H3 (upd H3 tp (.tup [.ref np, .int far])) := Ex.new htp
    have s4 := s3.ex x4
    have hnp4 := x4 _ _ (e23.at1 nnpa hns2)
    have e04 : Exo [a] H (upd H3 tp (.tup [.ref np, .int far])) := ((e1.trans e2).trans e23).trans (x4.exo _)
    generalize upd H3 tp (.tup [.ref np, .int far]) = H4 at x4 s4 hnp4 e04
    have nlen : ns.length ≤ 12 := by omega
    dsimp only [tSeq, tAsg]
    refine dp_of ?_
    refine ⟨_, rfl, np, rfl, ⟨_, SqL.of hnp4⟩, ?_⟩
    refine lc_pairs (walk_list (xs := ns.map V.str)) [a] (fun i H' => Spr H' a (B + 14 + i)) (fun i cc => keys cc = ns.take i ∧ ∀ p ∈ cc, p.2.natAbs ≤ 10000000) (by rw [List.length_map]; omega) (fun H' e => SqL.of (e.at1 nnpa hnp4)) (fun i H' H'' h s => s.at (h a (by simp))) (fun i H' s b hb => by rw [List.mem_singleton.mp hb]; exact s.ne) (s4.mono (by omega)) ⟨rfl, by simp⟩ ?_ ?_
    · rintro i x H5 H5' cc R R' hi e5 s5 ⟨hcc, hcv⟩ ⟨rfl, hx⟩ k1 _
      rw [List.length_map] at hi
      rw [List.getElem?_map] at hx
      obtain ⟨n, hn⟩ : ∃ n, ns[i]? = some n := ⟨ns[i], List.getElem?_eq_getElem hi⟩
      rw [hn] at hx
      cases hx
      refine ⟨rfl, yesT ⟨_, rfl, _, rfl, _, rfl, _, _, rfl, rfl, .inl ⟨by decide, by decide⟩, _, _, rfl, rfl, a, _, _, rfl, s5, by omega, by omega, by omega, fun d H6 d0 d1 e6 s6 => ⟨_, rfl, _, _, rfl, rfl, by show 2 ≤ sizeLine; decide, fun t ht => ?_⟩⟩⟩
      have nta : t ≠ a := fun z => s6.ne (z ▸ ht)
      refine k1 t n (d - far) _ (e6.free (not1 nta) ht) (e6.mut (e6.free (not1 nta) ht)) (s6.at (upd_ne nta.symm)) ⟨by rw [keys_app, hcc, List.take_add_one, hn]; rfl, fun p hp => ?_⟩ upd_same
      rcases List.mem_append.mp hp with hp | hp
      · exact hcv p hp
      · rw [List.mem_singleton.mp hp]; show (d - far).natAbs ≤ _; omega
    · rintro D ps cp H5 hD e5 s5 ⟨hcp, hcpv⟩ hDH hps
      have hcpb : ∀ n, (co cp n).natAbs ≤ 10000000 := co_bound hcpv
      rw [List.length_map] at s5 hcp
      rw [List.take_length] at hcp
      have cpd : (keys cp).Nodup := by rw [hcp]; exact nnd
      refine ⟨D, ps, cK cp, rfl, hDH, pairs_cK hps, cK_nodup cpd, fun pd hpd => ?_⟩
      have npda : pd ≠ a := fun z => s5.ne (z ▸ hpd)
      have x6 : Ex H5 (upd H5 pd (.dK (cK cp))) := Ex.new hpd
      have hpd6 : (upd H5 pd (.dK (cK cp))) pd = some (.dK (cK cp)) := upd_same
      have s6 := s5.ex x6
      have e06 := (e04.trans e5).trans (x6.exo [a])
      have hnp6 := x6 _ _ (e5.at1 nnpa hnp4)
      generalize upd H5 pd (.dK (cK cp)) = H6 at x6 hpd6 s6 e06 hnp6
      obtain ⟨name, rest, rfl⟩ : ∃ name rest, ns = name :: rest := by
        cases ns with
        | nil => simp at nl; omega
        | cons n r => exact ⟨n, r, rfl⟩
      dsimp only [gName, tSeq]
      refine ⟨_, rfl, _, rfl, _, rfl, np, _, 0, _, rfl, rfl, SqQ.l hnp6, at0, _, rfl, _, rfl, _, rfl, by show 3 ≤ sizeLine; decide, fun lq hlq => ?_⟩
      have x7 : Ex H6 (upd H6 lq (.lst [.int 3, .int 20, .int 90])) := Ex.new hlq
      have nlqa : lq ≠ a := fun z => s6.ne (z ▸ hlq)
      refine ⟨a, lq, _, _, rfl, s6.ex x7, by simp at nlen ⊢; omega, nlqa, SqQ.l upd_same, by decide, by decide, fun j y H7 hy e7 s7 => ?_⟩
      obtain ⟨slack, rfl, sk0, sk1⟩ : ∃ far : Int, y = .int far ∧ 0 < far ∧ far ≤ 100 := by
        have hm := List.mem_of_getElem? hy
        simp only [List.mem_cons, List.not_mem_nil, or_false] at hm
        rcases hm with rfl | rfl | rfl <;> exact ⟨_, rfl, by decide, by decide⟩
      have e67 : Exo [a] H6 H7 := (x7.exo _).trans e7
      have hnp7 := e67.at1 nnpa hnp6
      have hpd7 := e67.at1 npda hpd6
      refine ⟨a, np, pd, name :: rest, name, far, slack, cp, _, N, rfl, s7, by simp at nlen ⊢; omega, haN, hNs (e06.trans e67) s7, nnpa, hnp7, nnd, nlen, f0, f1, sk0, sk1, hpd7, cpd, fun n hn => by rw [hcp]; exact hn, hcpb, fun p us tss L H8 hp e8 s8 L0 L12 tl cg hp8 hus => ?_⟩
      have npa : p ≠ a := fun z => s7.ne (z ▸ hp)
      have hnp8 := e8.at1 nnpa hnp7
      have hpd8 := e8.at1 npda hpd7
      dsimp only [gName, tSeq, tAsg]
      refine dp_of ?_
      refine ⟨_, rfl, _, rfl, np, _, rfl, SqL.of hnp8, fun ls hls => ?_⟩
      have ecut : cutV ((name :: rest).map V.str) (some 1) none = rest.map V.str := cut_tail
      rw [ecut]
      have x9 : Ex H8 (upd H8 ls (.lst (rest.map V.str))) := Ex.new hls
      have hls9 : (upd H8 ls (.lst (rest.map V.str))) ls = some (.lst (rest.map V.str)) := upd_same
      have nlsa : ls ≠ a := fun z => s8.ne (z ▸ hls)
      have s9 := s8.ex x9
      have e89 := x9.exo [a]
      generalize upd H8 ls (.lst (rest.map V.str)) = H9 at x9 hls9 s9 e89
      refine ⟨ls, rfl, ⟨_, SqL.of hls9⟩, ?_⟩
      have rl : rest.length ≤ 11 := by simp at nlen; omega
      refine lc_pairs (walk_list (xs := rest.map V.str)) [a] (fun i H' => Spr H' a (B + 500 + i)) (fun i cc => keys cc = rest.take i ∧ ∀ p ∈ cc, p.2.natAbs ≤ 100000000) (by rw [List.length_map]; omega) (fun H' e => SqL.of (e.at1 nlsa hls9)) (fun i H' H'' h s => s.at (h a (by simp))) (fun i H' s b hb => by rw [List.mem_singleton.mp hb]; exact s.ne) (s9.mono (by simp at nlen ⊢; omega)) ⟨rfl, by simp⟩ ?_ ?_
      · rintro i x H10 H10' cc R R' hi e10 s10 ⟨hcc, hcv⟩ ⟨rfl, hx⟩ k1 _
        rw [List.length_map] at hi
        rw [List.getElem?_map] at hx
        obtain ⟨n, hn⟩ : ∃ n, rest[i]? = some n := ⟨rest[i], List.getElem?_eq_getElem hi⟩
        rw [hn] at hx
        cases hx
        have hm : n ∈ keys cp := by rw [hcp]; exact List.mem_cons_of_mem _ (List.mem_of_getElem? hn)
        refine ⟨rfl, yesT ⟨_, rfl, _, rfl, _, rfl, pd, _, rfl, .inl ⟨cK cp, .inr n, .inl (e10.at1 npda (x9 _ _ hpd8)), rfl, (valV_co hm cpd).symm⟩, _, rfl, by show 4 ≤ sizeLine; decide, fun lq hlq => ?_⟩⟩
        have x11 : Ex H10' (upd H10' lq (.lst [.int 0, .int 0, .int 0, .int 1])) := Ex.new hlq
        have nlqa : lq ≠ a := fun z => s10.ne (z ▸ hlq)
        refine ⟨a, lq, _, _, rfl, s10.ex x11, by omega, nlqa, SqQ.l upd_same, by decide, by decide, fun j y H11 hy e11 s11 => ?_⟩
        obtain ⟨z, rfl, z0, z1⟩ : ∃ z : Int, y = .int z ∧ 0 ≤ z ∧ z ≤ 1 := by
          have hm := List.mem_of_getElem? hy
          simp only [List.mem_cons, List.not_mem_nil, or_false] at hm
          rcases hm with rfl | rfl | rfl | rfl <;> exact ⟨_, rfl, by decide, by decide⟩
        refine ⟨_, _, rfl, rfl, by show 2 ≤ sizeLine; decide, fun t ht => ?_⟩
        have nta : t ≠ a := fun z => s11.ne (z ▸ ht)
        have e1011 : Exo [a] H10' H11 := (x11.exo _).trans e11
        refine k1 t n _ _ (e1011.free (not1 nta) ht) (e1011.mut (e1011.free (not1 nta) ht)) ((s11.at (upd_ne nta.symm)).mono (by omega)) ⟨by rw [keys_app, hcc, List.take_add_one, hn]; rfl, fun p hp => ?_⟩ upd_same
        rcases List.mem_append.mp hp with hp | hp
        · exact hcv p hp
        · rw [List.mem_singleton.mp hp]
          show (co cp n + z).natAbs ≤ _
          have := hcpb n
          omega
      · rintro D2 ps2 cn H10 hD2 e10 s10 ⟨hcn, hcnv⟩ hDH2 hps2
        rw [List.length_map] at s10 hcn
        rw [List.take_length] at hcn
        have cnd : (keys cn).Nodup := by rw [hcn]; exact (List.nodup_cons.mp nnd).2
        refine ⟨D2, ps2, cK cn, rfl, hDH2, pairs_cK hps2, cK_nodup cnd, fun nq hnq => ?_⟩
        have nnqa : nq ≠ a := fun z => s10.ne (z ▸ hnq)
        have x11 : Ex H10 (upd H10 nq (.dK (cK cn))) := Ex.new hnq
        have hnq11 : (upd H10 nq (.dK (cK cn))) nq = some (.dK (cK cn)) := upd_same
        have e811 := (e89.trans e10).trans (x11.exo [a])
        have s11 := s10.ex x11
        generalize upd H10 nq (.dK (cK cn)) = H11 at x11 hnq11 e811 s11
        refine ⟨_, rfl, np, _, 0, _, rfl, rfl, SqQ.l (e811.at1 nnpa hnp8), at0, _, rfl, _, rfl, by show 3 ≤ sizeLine; decide, fun t ht => ?_⟩
        have nta : t ≠ a := fun z => s11.ne (z ▸ ht)
        have x12 : Ex H11 (upd H11 t (.tup [.str name, .ref p, .ref nq])) := Ex.new ht
        have e812 : Exo [a] H8 (upd H11 t (.tup [.str name, .ref p, .ref nq])) := e811.trans (x12.exo _)
        refine q ⟨name, tss, cn, L⟩ (.ref t) _ ⟨npl _ List.mem_cons_self, ?_, cnd, fun n hn => npl _ (by rw [hcn] at hn; exact List.mem_cons_of_mem _ hn), tl, L0, L12, co_bound hcnv, ?_, fun ts h => ?_⟩ ((((e06.trans e67).trans e8).trans e811).trans (x12.exo _)) ((s11.ex x12).mono (by omega)) ?_
        · show name ∉ keys cn
          rw [hcn]; exact (List.nodup_cons.mp nnd).1
        · show cn.length ≤ 12
          have : (keys cn).length = rest.length := by rw [hcn]
          unfold keys at this
          rw [List.length_map] at this
          omega
        · show CaseG L (name :: keys cn) ts
          rw [hcn]; exact cg ts h
        · have h08 : Exo [a] H H7 := e06.trans e67
          have h8 : Exo [a] H H8 := h08.trans e8
          have h11 : Exo [a] H H11 := h8.trans e811
          refine .tup (sansL_at (newN h11 s11 ht) upd_same) (.cons (.str _) (.cons (.lst (sansL_at (newN h08 s7 hp) (e812.at1 npa hp8)) (hus.mono (sansL_mono fun b o nb hb => ?_))) (.cons (.dct (sansL_at (newN (h8.trans (e89.trans e10)) s10 hnq) (x12 _ _ hnq11)) (seeK_c _)) .nil)))
          have nb2 : b ∉ N := fun z => nb (List.mem_cons_of_mem _ z)
          exact ⟨nb2, e812.at1 (fun z => nb2 (z ▸ haN)) hb⟩
end
end K8

set_option Elab.async false
set_option linter.all false
set_option maxRecDepth 100000
set_option maxHeartbeats 4000000
namespace K8
open PySem PySem.Spec PyProof.Rows L2 M8
/-! told values, near their ends -/
theorem seq_split {t1 t2 : TS} {D : Ends} {σ : L2.St} {H : Hp} (P : L2.St → Hp → Prop) (h1 : ∀ nx, (∀ σ' H', P σ' H' → nx σ' H') → t1 { D with nx := nx } σ H) (h2 : ∀ σ' H', P σ' H' → t2 D σ' H') : tSeq t1 t2 D σ H := h1 _ h2
theorem seq_split4 {t1 t2 t3 t4 : TS} {D : Ends} {σ : L2.St} {H : Hp} (P : L2.St → Hp → Prop) (h1 : ∀ nx, (∀ σ' H', P σ' H' → nx σ' H') → tSeq t1 (tSeq t2 t3) { D with nx := nx } σ H) (h2 : ∀ σ' H', P σ' H' → t4 D σ' H') : tSeq t1 (tSeq t2 (tSeq t3 t4)) D σ H := h1 _ h2
/-- a test held with the name's own number -/
theorem co_snoc {cn : Coef} {name : Str} {v : Int} (h : name ∉ keys cn) : co (cn ++ [(name, v)]) name = v ∧ ∀ n, n ≠ name → co (cn ++ [(name, v)]) n = co cn n := by
  constructor
  · unfold co look
    rw [List.find?_append, show cn.find? (fun p => decide (p.1 = name)) = none from ?_]
    · simp
    · rw [List.find?_eq_none]
      intro p hp
      simp only [decide_eq_true_eq]
      exact fun z => h (List.mem_map.mpr ⟨p, hp, z⟩)
  · intro n hn
    unfold co look
    rw [List.find?_append]
    cases cn.find? fun p => decide (p.1 = n) with
    | some p => rfl
    | none => simp [show ¬ name = n from fun z => hn z.symm]
theorem so_ok {cn : Coef} {name : Str} {v : Int} {ts : Tst} (h : name ∉ keys cn) (nd : (keys (coef ts)).Nodup) : so (cn ++ [(name, v)]) ts = true ↔ (alW name cn ts).ok v := by
  have hw : ∀ k, worth (coef ts) k (cn ++ [(name, v)]) = co (coef ts) name * v + worth (drop1 name (coef ts)) k cn := by
    intro k
    rw [worth_lin, worth_lin, lin_drop1 (n := name) nd, (co_snoc (v := v) h).1]
    have : lin (drop1 name (coef ts)) (cn ++ [(name, v)]) = lin (drop1 name (coef ts)) cn := by
      unfold lin
      congr 1
      refine List.map_congr_left fun p hp => ?_
      have := (List.mem_filter.mp hp).2
      rw [(co_snoc (v := v) h).2 p.1 (by simpa using this)]
    rw [this]; omega
  cases ts with
  | row c k => show decide (0 ≤ worth c k _) = true ↔ 0 ≤ _; rw [decide_eq_true_eq, show worth c k (cn ++ [(name, v)]) = _ from hw k]; exact Iff.rfl
  | same c k => show decide (worth c k _ = 0) = true ↔ _ = 0; rw [decide_eq_true_eq, show worth c k (cn ++ [(name, v)]) = _ from hw k]; exact Iff.rfl
  | div m c k =>
    show decide (worth c k _ % m = 0) = true ↔ m ∣ _
    rw [decide_eq_true_eq, show worth c k (cn ++ [(name, v)]) = _ from hw k]
    exact ⟨Int.dvd_of_emod_eq_zero, Int.emod_eq_zero_of_dvd⟩
theorem abs_of_mul {a l b d : Int} (ha : a ≠ 0) (h : (a * l).natAbs ≤ b.natAbs + a.natAbs * d.natAbs) : l.natAbs ≤ b.natAbs + d.natAbs := by
  rw [Int.natAbs_mul] at h
  have h1 : 1 ≤ a.natAbs := by omega
  have h2 : b.natAbs ≤ a.natAbs * b.natAbs := Nat.le_mul_of_pos_left _ h1
  have h3 : a.natAbs * l.natAbs ≤ a.natAbs * (b.natAbs + d.natAbs) := by rw [Nat.mul_add]; omega
  exact Nat.le_of_mul_le_mul_left h3 h1
theorem end_bound {tss : List Tst} {name : Str} {cn : Coef} {L l d : Int} {ns : List Str} (hts : ∀ ts ∈ tss, CaseG L ns ts) (hcb : ∀ n, (co cn n).natAbs ≤ 100000000) (hd : L ∣ d) (hd2 : d.natAbs ≤ 12) (h : Sol name cn tss l) (hn : ¬ Sol name cn tss (l + d)) : l.natAbs ≤ 100000000000 := by
  have : ∃ ts ∈ tss, ¬ (alW name cn ts).ok (l + d) := by
    refine Classical.byContradiction fun z => hn fun ts hm => Classical.byContradiction fun y => z ⟨ts, hm, y⟩
  obtain ⟨ts, hm, hno⟩ := this
  have hy := h ts hm
  have cg := hts ts hm
  have hb : (worth (drop1 name (coef ts)) (kst ts) cn).natAbs ≤ 22000000000 := by
    rw [worth_lin]
    have h1 := lin_bound (A := 10) (B := 100000000) (c := drop1 name (coef ts)) (fun p hp => (cg.mem p (List.mem_filter.mp hp).1).2) hcb
    have h2 : (drop1 name (coef ts)).length ≤ 12 := Nat.le_trans (List.length_filter_le _ _) cg.len
    have h3 : (drop1 name (coef ts)).length * (10 * 100000000) ≤ 12 * (10 * 100000000) := Nat.mul_le_mul_right _ h2
    have := cg.kb
    omega
  unfold alW at hy hno
  generalize worth (drop1 name (coef ts)) (kst ts) cn = b at hy hno hb
  generalize co (coef ts) name = a at hy hno
  have hmul : a * (l + d) = a * l + a * d := Int.mul_add a l d
  have hnd : (a * d).natAbs = a.natAbs * d.natAbs := Int.natAbs_mul a d
  cases ts with
  | row c k =>
    have hy : 0 ≤ a * l + b := hy
    have hno : ¬ 0 ≤ a * (l + d) + b := hno
    by_cases ha : a = 0
    · rw [ha, Int.zero_mul] at hy hno; omega
    · have := abs_of_mul (b := b) (d := d) (l := l) ha (by omega)
      omega
  | same c k =>
    have hy : a * l + b = 0 := hy
    have hno : ¬ a * (l + d) + b = 0 := hno
    by_cases ha : a = 0
    · rw [ha, Int.zero_mul] at hy hno; omega
    · have := abs_of_mul (b := b) (d := d) (l := l) ha (by omega)
      omega
  | div m c k =>
    have hy : m ∣ a * l + b := hy
    refine absurd ?_ hno
    show m ∣ a * (l + d) + b
    have e : a * (l + d) + b = (a * l + b) + a * d := by omega
    rw [e]
    exact Int.dvd_add hy (Int.dvd_trans (Int.dvd_trans cg.lot.2 hd) (Int.dvd_mul_left a d))
theorem right_ends {tss : List Tst} {name : Str} {cn : Coef} {L p r : Int} {lo hi : Option Int} {ns : List Str} (hts : ∀ ts ∈ tss, CaseG L ns ts) (hcb : ∀ n, (co cn n).natAbs ≤ 100000000) (L0 : 0 < L) (L12 : L ≤ 12) (h : Right (Sol name cn tss) (some (lo, hi, p, r))) : (∀ l, lo = some l → l.natAbs ≤ 100000000000) ∧ (∀ l, hi = some l → l.natAbs ≤ 100000000000) ∧ 0 < p := by
  have nb : ∀ {l d : Int}, (d = L ∨ d = -L) → Sol name cn tss l → ¬ Sol name cn tss (l + d) → l.natAbs ≤ 100000000000 := fun hd hs hn => end_bound hts hcb (by rcases hd with rfl | rfl; exact Int.dvd_refl _; exact Int.dvd_neg.mpr (Int.dvd_refl _)) (by omega) hs hn
  rcases h with ⟨x, e1, e2, e3, e4, hx⟩ | ⟨R, h1, h2, h3⟩
  · have b : x.natAbs ≤ 100000000000 := nb (.inl rfl) ((hx x).mpr rfl) fun z => by have := (hx _).mp z; omega
    exact ⟨fun l hl => by rw [e1] at hl; cases hl; exact b, fun l hl => by rw [e2] at hl; cases hl; exact b, by omega⟩
  · refine ⟨fun l hl => nb (.inr rfl) (h1 l hl) fun z => ?_, fun l hl => nb (.inl rfl) (h2 l hl) fun z => ?_, R.pp⟩
    · have := ((R.iff _).mp z).1.1 l hl; omega
    · have := ((R.iff _).mp z).1.2 l hl; omega
section
variable {P : Program} {w : World} {K : PySem.W.Frag} {mg : Str → Option Value} {base : Heap}
def spNear (K : PySem.W.Frag) : Sp := fun vs H Q _ => ∃ (l nd : Addr) (us : List V) (d : Dr) (v : V) (ans : Ans), vs = [.ref l, .str d.name, .ref nd, v] ∧ H l = some (.lst us) ∧ SeeL (FKK K) H us (d.tss.map tstD) ∧ DrOk d ∧ H nd = some (.dK (cK d.cn)) ∧ ansV H v ans ∧ Right (Sol d.name d.cn d.tss) ans ∧ ∀ H', Ex H H' → Q (.bl true) H'
def nrEnd (K : PySem.W.Frag) : TS := tAsg (tAndV (tVar 8) (tAndV (tOrV (tOp (fun x y H Q => y = V.non ∧ Q (V.bl (decide (x = V.non))) H) (tOp (rIxQ K) (tVar 3) (tC (V.int 0))) (tC V.non)) (tOp (rI0 fun i j => V.bl (decide (i ≤ j))) (tOp (rIxQ K) (tVar 3) (tC (V.int 0))) (tVar 6)))
  (tOrV (tOp (fun x y H Q => y = V.non ∧ Q (V.bl (decide (x = V.non))) H) (tOp (rIxQ K) (tVar 3) (tC (V.int 1))) (tC V.non)) (tOp (rI0 fun i j => V.bl (decide (i ≤ j))) (tVar 6) (tOp (rIxQ K) (tVar 3) (tC (V.int 1))))))) (gName 8)
def loB (lo : Option Int) (v : Int) : Bool := match lo with | none => true | some l => decide (l ≤ v)
def hiB (hi : Option Int) (v : Int) : Bool := match hi with | none => true | some h => decide (v ≤ h)
theorem nrEnd_ok {K : PySem.W.Frag} {lo hi : Option Int} {p r vv : Int} {b2 : Bool} {tq : Addr} {H : Hp} {En : Ends} {y0 y1 y2 y4 y5 y7 y9 y10 : Option V} (h : H tq = some (.tup [optI lo, optI hi, .int p, .int r]))
    (q : En.nx [y0, y1, y2, some (.ref tq), y4, y5, some (.int vv), y7, some (.bl (b2 && (loB lo vv && hiB hi vv))), y9, y10] H) :
    nrEnd K En [y0, y1, y2, some (.ref tq), y4, y5, some (.int vv), y7, some (.bl b2), y9, y10] H := by
  refine ⟨_, rfl, _, rfl, ?_⟩
  cases b2 with
  | false => exact iteF q
  | true =>
    refine iteT ?_
    rw [Bool.true_and] at q
    refine ⟨_, rfl, tq, _, 0, _, rfl, rfl, SqQ.t h, at0, rfl, _, rfl, ?_⟩
    show (if decide (optI lo = .non) = true then _ else _)
    rw [isN_opt]
    have second : (En.nx [y0, y1, y2, some (.ref tq), y4, y5, some (.int vv), y7, some (.bl (hiB hi vv)), y9, y10] H) →
        (tOrV (tOp (fun x y H Q => y = V.non ∧ Q (V.bl (decide (x = V.non))) H) (tOp (rIxQ K) (tVar 3) (tC (V.int 1))) (tC V.non)) (tOp (rI0 fun i j => V.bl (decide (i ≤ j))) (tVar 6) (tOp (rIxQ K) (tVar 3) (tC (V.int 1))))) [y0, y1, y2, some (.ref tq), y4, y5, some (.int vv), y7, some (.bl true), y9, y10] H fun x H1 => gName 8 x [y0, y1, y2, some (.ref tq), y4, y5, some (.int vv), y7, some (.bl true), y9, y10] H1 En.nx := by
      intro q
      refine ⟨_, rfl, tq, _, 1, _, rfl, rfl, SqQ.t h, at1, rfl, _, rfl, ?_⟩
      show (if decide (optI hi = .non) = true then _ else _)
      rw [isN_opt]
      cases hi with
      | none => exact iteT q
      | some z => exact iteF ⟨_, rfl, _, rfl, tq, _, 1, _, rfl, rfl, SqQ.t h, at1, _, _, rfl, rfl, q⟩
    cases lo with
    | none => exact iteT ⟨_, rfl, iteT (second q)⟩
    | some l =>
      refine iteF ⟨_, rfl, tq, _, 0, _, rfl, rfl, SqQ.t h, at0, _, rfl, _, _, rfl, rfl, _, rfl, ?_⟩
      have q : En.nx [y0, y1, y2, some (.ref tq), y4, y5, some (.int vv), y7, some (.bl (decide (l ≤ vv) && hiB hi vv)), y9, y10] H := q
      cases hd : decide (l ≤ vv) with
      | true => rw [hd, Bool.true_and] at q; exact iteT (second q)
      | false => rw [hd] at q; exact iteF q
abbrev s__law_near_right : Stmt := top 58
theorem sc__law_near_right : FnScope ["case", "name", "numbers", "told", "spots", "spot", "value", "at", "is_one", "end", "test"] ["case", "name", "numbers", "told"] (defScope s__law_near_right) := ⟨rfl, rfl, rfl, by decide +kernel, rfl, by decide +kernel, by decide +kernel⟩
theorem ok__law_near_right (T : Txt K mg) (a : At K mg "_law_near_right" s__law_near_right ["case", "name", "numbers", "told"]) (O_law_q_so : Ok P w K mg base CX0 2 "_law_q_so" ["body", "numbers"] (spQSo K)) : Ok P w K mg base CX0 3 "_law_near_right" ["case", "name", "numbers", "told"] (spNear K) := a.ok fun f fd F => by
  refine F.ok sc__law_near_right (fun vs H Q E h => ?_) (fun cdv A outer s H vs Q E hr h => ?_)
  · obtain ⟨l, nd, us, d, v, ans, rfl, _⟩ := h; rfl
  · obtain ⟨l, nd, us, ⟨name, tss, cn, L⟩, v, ans, rfl, hl, hus, dk, hnd, hv, hR, q⟩ := h
    refine ⟨_, (pss_cons (ps_if (pt_cmpR op_isN (pv 3) pe_non (nomark _)) (pss_one (ps_set (i := 4) sc__law_near_right.nd rfl (Or.inl rfl) (pe_lst (pa_cons pe_int pa_nil)))) (pss_one (ps_set (i := 4) sc__law_near_right.nd rfl (Or.inl rfl) (pe_op op_cat (pe_lst (pa_cons pe_int pa_nil)) (pe_lc (own := [("end", 9)]) (g := gName 9) (tt := _) rfl sc__law_near_right.nd (pi_tup (pe_slice sl_tup (pv 3) po_none (po_some pe_int))) (blkOk_by (N := ["case", "name", "numbers", "told", "spots", "spot", "value", "at", "is_one", "end", "test"]) (sc := defScope s__law_near_right) (by decide +kernel)) (fun _ _ _ _ _ => (pg_name (i := 9) sc__law_near_right.nd rfl (Or.inl rfl))) (fun _ _ _ _ _ => (pts_one (pt_cmpR op_notN (pv 9) pe_non (nomark _)))) (fun _ _ _ _ _ => (pv 9)))))))
      (pss_cons (ps_for PassesOwn.never rfl (pi_list (pv 4)) (pg_name (i := 5) sc__law_near_right.nd rfl (Or.inl rfl)) (pss_one (ps_for PassesOwn.never rfl (pi_range2 rfl T.n_range (pa_cons (pe_op op_sub (pv 5) pe_int) (pa_cons (pe_op op_add (pv 5) pe_int) pa_nil))) (pg_name (i := 6) sc__law_near_right.nd rfl (Or.inl rfl)) (pss_cons (ps_set (i := 7) sc__law_near_right.nd rfl (Or.inr rfl) (pe_callTy (call_dictC (K := K) rfl rfl) rfl T.n_dict rfl (pa_cons (pe_op op_cat (LiI.pe_listItems rfl (pv 2) rfl T.n_list rfl) (pe_lst (pa_cons (pe_tup (pa_cons (pv 1) (pa_cons (pv 6) pa_nil))) pa_nil))) pa_nil)))
      (pss_cons (ps_set (i := 8) sc__law_near_right.nd rfl (Or.inl rfl) (pe_and (pe_cmpR op_notN (pv 3) pe_non (nomark _)) (pe_one (pe_cmpR op_eq (pe_op op_mod (pe_callTy call_int1 rfl T.n_int rfl (pa_cons (pv 6) pa_nil)) (pe_ix (ix_qK (K := K) rfl) (pv 3) pe_int (fun _ _ => rfl))) (pe_ix (ix_qK (K := K) rfl) (pv 3) pe_int (fun _ _ => rfl)) (nomark _)))))
      (pss_cons (ps_if (PW.pt (pw_and (pt_val (pv 8)) (pw_and (pt_cmpR op_notN (pe_ix (ix_qK (K := K) rfl) (pv 3) pe_int (fun _ _ => rfl)) pe_non (nomark _)) (pw_and1 (pt_cmpR op_eq (pe_ix (ix_qK (K := K) rfl) (pv 3) pe_int (fun _ _ => rfl)) (pe_ix (ix_qK (K := K) rfl) (pv 3) pe_int (fun _ _ => rfl)) (nomark _)))))) (pss_one (ps_set (i := 8) sc__law_near_right.nd rfl (Or.inl rfl) (pe_cmpR op_eq (pv 6) (pe_ix (ix_qK (K := K) rfl) (pv 3) pe_int (fun _ _ => rfl)) (nomark _)))) pss_nil)
      (pss_cons (ps_set (i := 8) sc__law_near_right.nd rfl (Or.inl rfl) (pe_and (pv 8) (pe_and (pe_or (pe_cmpR op_isN (pe_ix (ix_qK (K := K) rfl) (pv 3) pe_int (fun _ _ => rfl)) pe_non (nomark _)) (pe_one (pe_cmpR op_le (pe_ix (ix_qK (K := K) rfl) (pv 3) pe_int (fun _ _ => rfl)) (pv 6) (nomark _)))) (pe_one (pe_or (pe_cmpR op_isN (pe_ix (ix_qK (K := K) rfl) (pv 3) pe_int (fun _ _ => rfl)) pe_non (nomark _)) (pe_one (pe_cmpR op_le (pv 6) (pe_ix (ix_qK (K := K) rfl) (pv 3) pe_int (fun _ _ => rfl)) (nomark _))))))))
      (pss_one (ps_if (pt_cmpR op_ne (pv 8) (pe_callB (cr_all rfl) rfl T.n_all rfl (pa_cons (pe_lc (own := [("test", 10)]) (g := gName 10) (tt := tYes) rfl sc__law_near_right.nd (pi_list (pv 0)) (blkOk_by (N := ["case", "name", "numbers", "told", "spots", "spot", "value", "at", "is_one", "end", "test"]) (sc := defScope s__law_near_right) (by decide +kernel)) (fun _ _ _ _ _ => (pg_name (i := 10) sc__law_near_right.nd rfl (Or.inl rfl))) (fun _ _ _ _ _ => pts_nil) (fun _ _ _ _ _ => (pe_callO O_law_q_so (hr.mono (by first | decide | omega)) rfl (pa_cons (pv 10) (pa_cons (pv 7) pa_nil))))) pa_nil)) (nomark _)) (pss_one (ps_ret pe_bl)) pss_nil)))))))))
      (pss_one (ps_ret pe_bl)))), ?_⟩
    have hts := dk.ok
    have hcb := dk.cb
    have L0 := dk.L0
    have L12 := dk.L12
    have hnk := dk.nk
    have cnd := dk.nd
    simp only at hl hus hts hcb L0 L12 hnd hR hnk cnd
    refine seq_split (fun σ' H' => ∃ S zs x5 x6 x7 x8 x9 x10, σ' = [some (.ref l), some (.str name), some (.ref nd), some v, some (.ref S), x5, x6, x7, x8, x9, x10] ∧ Ex H H' ∧ H' S = some (.lst ((zs : List Int).map V.int)) ∧ zs.length ≤ 10 ∧ ∀ z ∈ zs, z.natAbs ≤ 100000000000) (fun nx hnx => ?_) ?_
    · match ans, hv, hR with
      | none, hv, hR =>
        have hv : v = .non := hv
        subst hv
        refine ⟨_, rfl, rfl, _, rfl, iteT ⟨by show 1 ≤ sizeLine; decide, fun S hS => ?_⟩⟩
        exact hnx _ _ ⟨S, [0], _, _, _, _, _, _, rfl, Ex.new hS, upd_same, by simp, by simp⟩
      | some (lo, hi, p, r), hv, hR =>
        obtain ⟨b1, b2, pp⟩ := right_ends hts hcb L0 L12 hR
        obtain ⟨tq, rfl, htq⟩ := hv
        refine ⟨_, rfl, rfl, _, rfl, iteF ⟨by show 1 ≤ sizeLine; decide, fun S0 hS0 => ?_⟩⟩
        have x1 : Ex H (upd H S0 (.lst [.int 0])) := Ex.new hS0
        have hS1 : (upd H S0 (.lst [.int 0])) S0 = some (.lst [.int 0]) := upd_same
        generalize upd H S0 (.lst [.int 0]) = H1 at x1 hS1
        refine tLc_of ?_
        refine ⟨_, rfl, _, rfl, tq, _, rfl, SqT.of (x1 _ _ htq), by show ¬ (HT.sIx 4 0 none = 0 ∧ HT.sIx 4 4 (some 2) = 4); decide, fun tl htl => ?_⟩
        have ec : cutV [optI lo, optI hi, V.int p, V.int r] none (some 2) = [optI lo, optI hi] := rfl
        rw [ec]
        have x2 : Ex H1 (upd H1 tl (.tup [optI lo, optI hi])) := Ex.new htl
        refine ⟨tl, rfl, ⟨_, SqT.of upd_same⟩, ?_⟩
        refine lc_val (walk_tup (xs := [optI lo, optI hi])) (fun i => (([lo, hi].take i).filterMap id).map V.int) (by simp) rfl (fun H' e => SqT.of (e _ _ upd_same)) ?_ ?_
        · rintro i x H3 H3' R R' hi' e ⟨rfl, hx⟩ k1 k2
          have key : ∀ (o : Option Int), x = optI o → ([lo, hi].take (i + 1)) = ([lo, hi].take i) ++ [o] → gName 9 x (wipe (L2.start ["case", "name", "numbers", "told", "spots", "spot", "value", "at", "is_one", "end", "test"] [V.ref l, V.str name, V.ref nd, V.ref tq]) (List.map (fun x => x.2) [(("end" : Str), 9)])) H3' fun σ2 H2 => wipe σ2 (List.map (fun x => x.2) [(("end" : Str), 9)]) = wipe (L2.start ["case", "name", "numbers", "told", "spots", "spot", "value", "at", "is_one", "end", "test"] [V.ref l, V.str name, V.ref nd, V.ref tq]) (List.map (fun x => x.2) [(("end" : Str), 9)]) ∧ tTest (tOp (fun x y H Q => y = V.non ∧ Q (V.bl !decide (x = V.non)) H) (tVar 9) (tC V.non)) σ2 H2 fun b H3 => if b = true then tVar 9 σ2 H3 R else R' H3 := by
            rintro o rfl ht
            have k1 := fun y H4 e4 => k1 y H4 e4
            rw [ht, List.filterMap_append, List.map_append] at k1 k2
            cases o with
            | none => exact ⟨rfl, _, rfl, rfl, _, rfl, iteF (k2 _ (Ex.refl _) (by simp))⟩
            | some z => exact ⟨rfl, _, rfl, rfl, _, rfl, iteT ⟨_, rfl, k1 _ _ (Ex.refl _) (by simp; rfl)⟩⟩
          have hi2 : i < 2 := hi'
          match i, hi2, hx, key with
          | 0, _, hx, key => exact key lo (by simpa using hx.symm) rfl
          | 1, _, hx, key => exact key hi (by simpa using hx.symm) rfl
        · intro D H3 hD e hDH
          have x3 := x2.trans e
          have hDH : H3 D = some (.lst (([lo, hi].filterMap id).map V.int)) := hDH
          refine ⟨S0, D, _, _, rfl, rfl, x3 _ _ hS1, hDH, ?_, fun S hS => ?_⟩
          · rw [List.length_map]
            have : ([lo, hi].filterMap id).length ≤ 2 := List.length_filterMap_le _ _
            rw [sizeLine_eq]
            simp only [List.length_cons, List.length_nil]
            omega
          refine hnx _ _ ⟨S, 0 :: [lo, hi].filterMap id, _, _, _, _, _, _, rfl, (x1.trans x3).trans (Ex.new hS), upd_same, ?_, ?_⟩
          · have : ([lo, hi].filterMap id).length ≤ 2 := List.length_filterMap_le _ _
            rw [List.length_cons]; omega
          · intro z hz
            rcases List.mem_cons.mp hz with rfl | hz
            · decide
            · obtain ⟨o, ho, eo⟩ := List.mem_filterMap.mp hz
              have eo : o = some z := eo
              simp only [List.mem_cons, List.not_mem_nil, or_false] at ho
              rcases ho with h | h
              · exact b1 z (h ▸ eo)
              · exact b2 z (h ▸ eo)
    · rintro σ H1 ⟨S, zs, x5, x6, x7, x8, x9, x10, rfl, e1, hS, zl, hz⟩
      dsimp only [tSeq]
      refine tFor_of ?_
      refine ⟨_, rfl, S, rfl, ⟨_, SqL.of hS⟩, ?_⟩
      refine for_itB (walk_list (xs := zs.map V.int)) (fun i σ H' => (∃ x5 x6 x7 x8 x9 x10, σ = [some (.ref l), some (.str name), some (.ref nd), some v, some (.ref S), x5, x6, x7, x8, x9, x10]) ∧ Ex H1 H') ⟨⟨_, _, _, _, _, _, rfl⟩, Ex.refl _⟩ (fun i σ H' _ I => SqL.of (I.2 _ _ hS)) ?_ ?_
      · rintro i x σ H2 H2' iN ⟨⟨x5, x6, x7, x8, x9, x10, rfl⟩, e2⟩ ⟨rfl, hx⟩
        rw [List.getElem?_map] at hx
        obtain ⟨spot, hsp, rfl⟩ : ∃ z, zs[i]? = some z ∧ V.int z = x := by
          cases h : zs[i]? with
          | none => rw [h] at hx; cases hx
          | some z => rw [h] at hx; exact ⟨z, rfl, Option.some.inj hx⟩
        have hb := hz spot (List.mem_of_getElem? hsp)
        dsimp only [gName]
        refine tFor_of ?_
        refine ⟨_, rfl, _, _, rfl, rfl, _, rfl, _, _, rfl, rfl, _, _, rfl, ⟨by omega, by omega, by omega, by omega⟩, ?_⟩
        refine for_itB walk_range (fun j σ H' => (∃ x5 x6 x7 x8 x9 x10, σ = [some (.ref l), some (.str name), some (.ref nd), some v, some (.ref S), x5, x6, x7, x8, x9, x10]) ∧ Ex H1 H') ⟨⟨_, _, _, _, _, _, rfl⟩, e2⟩ (fun _ _ _ _ _ => trivial) ?_ ?_
        · rintro j x σ H3 H3' jN ⟨⟨x5, x6, x7, x8, x9, x10, rfl⟩, e3⟩ ⟨rfl, rfl⟩
          dsimp only
          generalize hvv : spot - 13 + (j : Int) = vv
          have e03 := e1.trans e3
          have hnd3 := e03 _ _ hnd
          refine ⟨_, rfl, nd, cK cn, rfl, hnd3, fun H4 Lq ts e4 hL _ _ hL4 hts4 => ?_⟩
          have e4 : Ex H3' H4 := e4
          refine ⟨_, rfl, _, rfl, by show 2 ≤ sizeLine; decide, fun t ht => ⟨by show 1 ≤ sizeLine; decide, fun l2 hl2 => ?_⟩⟩
          have w5 : Ex H4 (upd H4 t (.tup [.str name, .int vv])) := Ex.new ht
          have w6 := w5.trans (Ex.new hl2 (o := .lst [.ref t]))
          have ht6 : (upd (upd H4 t (.tup [.str name, .int vv])) l2 (.lst [.ref t])) t = some (.tup [.str name, .int vv]) := by rw [upd_ne (ne_of_none upd_same hl2), upd_same]
          have hl6 : (upd (upd H4 t (.tup [.str name, .int vv])) l2 (.lst [.ref t])) l2 = some (.lst [.ref t]) := upd_same
          generalize (upd (upd H4 t (.tup [.str name, .int vv])) l2 (.lst [.ref t])) = H6 at w6 ht6 hl6
          have hcl := dk.cl
          simp only at hcl
          have tsl : ts.length = cn.length := by rw [hts4.length, cK_len]
          refine ⟨Lq, l2, _, _, rfl, rfl, w6 _ _ hL4, hl6, by rw [List.length_map, sizeLine_eq]; simp only [List.length_cons, List.length_nil]; omega, fun C hC => ?_⟩
          have w7 : Ex H6 (upd H6 C (.lst (ts.map V.ref ++ [.ref t]))) := Ex.new hC
          have hC7 : (upd H6 C (.lst (ts.map V.ref ++ [.ref t]))) C = some (.lst ((ts ++ [t]).map V.ref)) := by rw [upd_same, List.map_append]; rfl
          have pr7 : Paired (fun p kv => (upd H6 C (.lst (ts.map V.ref ++ [.ref t]))) p = some (.tup [kV kv.1, kv.2])) (ts ++ [t]) (cK (cn ++ [(name, vv)])) := by
            rw [cK_app]
            exact Paired.app (Paired.imp (fun p kv h => w7 _ _ (w6 _ _ h)) hts4) (.cons (w7 _ _ ht6) .nil)
          generalize (upd H6 C (.lst (ts.map V.ref ++ [.ref t]))) = H7 at w7 hC7 pr7
          have nd2 : (keys (cn ++ [(name, vv)])).Nodup := by
            rw [keys_app, List.nodup_append]
            exact ⟨cnd, by simp [keys], fun x hx y hy e => hnk (by rw [show y = name by simpa [keys] using hy] at e; rw [← e]; exact hx)⟩
          refine ⟨C, ts ++ [t], cK (cn ++ [(name, vv)]), rfl, hC7, pr7, cK_nodup nd2, fun ad had => ?_⟩
          have w8 : Ex H7 (upd H7 ad (.dK (cK (cn ++ [(name, vv)])))) := Ex.new had
          have had8 : (upd H7 ad (.dK (cK (cn ++ [(name, vv)])))) ad = some (.dK (cK (cn ++ [(name, vv)]))) := upd_same
          have e38 : Ex H3' (upd H7 ad (.dK (cK (cn ++ [(name, vv)])))) := ((e4.trans w6).trans w7).trans w8
          generalize (upd H7 ad (.dK (cK (cn ++ [(name, vv)])))) = H8 at w8 had8 e38
          dsimp only [gName]
          refine seq_split4 (fun σ' H' => ∃ (b : Bool) (y5 : Option V), σ' = [some (.ref l), some (.str name), some (.ref nd), some v, some (.ref S), y5, some (.int vv), some (.ref ad), some (.bl b), x9, x10] ∧ H' = H8 ∧ (b = true ↔ Sol name cn tss vv)) (fun nx hnx => ?_) ?_
          · have e08 : Ex H H8 := e03.trans e38
            match ans, hv, hR with
            | none, hv, hR =>
              have hv : v = .non := hv
              subst hv
              refine ⟨_, rfl, rfl, _, rfl, iteF ?_⟩
              refine ⟨_, rfl, _, rfl, iteF (iteF ?_)⟩
              exact ⟨_, rfl, _, rfl, iteF (hnx _ _ ⟨false, _, rfl, rfl, ⟨fun h => (by cases h), fun h => (hR vv h).elim⟩⟩)⟩
            | some (lo, hi, p, r), hv, hR =>
              obtain ⟨b1, b2, pp⟩ := right_ends hts hcb L0 L12 hR
              obtain ⟨tq, rfl, htq⟩ := hv
              have hq8 := e08 _ _ htq
              refine ⟨_, rfl, rfl, _, rfl, iteT ⟨_, rfl, .inl ⟨_, rfl, _, rfl, tq, _, 2, _, rfl, rfl, SqQ.t hq8, at2, _, _, rfl, rfl, pp, _, rfl, tq, _, 3, _, rfl, rfl, SqQ.t hq8, atN (i := 3) rfl, rfl, ?_⟩⟩⟩
              rcases hR with ⟨x, rfl, rfl, rfl, rfl, hx⟩ | ⟨R, h1, h2, h3⟩
              · have e1v : decide (V.int (vv % 1) = V.int 0) = true := decide_eq_true (by rw [Int.emod_one])
                dsimp only
                rw [e1v]
                refine ⟨_, rfl, _, rfl, iteT ⟨_, rfl, tq, _, 0, _, rfl, rfl, SqQ.t hq8, at0, rfl, _, rfl, iteT ⟨_, rfl, tq, _, 0, _, rfl, rfl, SqQ.t hq8, at0, _, rfl, tq, _, 1, _, rfl, rfl, SqQ.t hq8, at1, rfl, _, rfl, ?_⟩⟩⟩
                rw [decide_eq_true (rfl : optI (some x) = optI (some x))]
                refine iteT ⟨_, rfl, _, rfl, tq, _, 0, _, rfl, rfl, SqQ.t hq8, at0, rfl, ?_⟩
                refine nrEnd_ok (b2 := decide (V.int vv = optI (some x))) hq8 (hnx _ _ ⟨_, _, rfl, rfl, ?_⟩)
                rw [hx, Bool.and_eq_true, Bool.and_eq_true, decide_eq_true_eq]
                show V.int vv = V.int x ∧ decide (x ≤ vv) = true ∧ decide (vv ≤ x) = true ↔ vv = x
                rw [decide_eq_true_eq, decide_eq_true_eq]
                exact ⟨fun h => V.int.inj h.1, fun h => ⟨by rw [h], by omega, by omega⟩⟩
              · have hne : ¬ (lo ≠ none ∧ lo = hi) := by
                  rintro ⟨n, e⟩
                  cases lo with
                  | none => exact n rfl
                  | some l => have := h3 l l rfl e.symm; omega
                have hfin : (decide (V.int (vv % p) = V.int r) && (loB lo vv && hiB hi vv)) = true ↔ Sol name cn tss vv := by
                  rw [R.iff, Bool.and_eq_true, Bool.and_eq_true, decide_eq_true_eq]
                  have hw : (loB lo vv = true ∧ hiB hi vv = true) ↔ within lo hi vv := by
                    unfold within
                    refine and_congr ?_ ?_
                    · cases lo with
                      | none => exact ⟨fun _ l h => (by cases h), fun _ => rfl⟩
                      | some l => show decide (l ≤ vv) = true ↔ _; rw [decide_eq_true_eq]; exact ⟨fun h l' e => by cases e; exact h, fun h => h l rfl⟩
                    · cases hi with
                      | none => exact ⟨fun _ l h => (by cases h), fun _ => rfl⟩
                      | some l => show decide (vv ≤ l) = true ↔ _; rw [decide_eq_true_eq]; exact ⟨fun h l' e => by cases e; exact h, fun h => h l rfl⟩
                  rw [hw]
                  exact ⟨fun ⟨a, b⟩ => ⟨b, V.int.inj a⟩, fun ⟨a, b⟩ => ⟨by rw [b], a⟩⟩
                dsimp only
                generalize decide (V.int (vv % p) = V.int r) = b0 at hfin
                have done : ∀ En : Ends, En.nx = nx → nrEnd K En [some (.ref l), some (.str name), some (.ref nd), some (.ref tq), some (.ref S), x5, some (.int vv), some (.ref ad), some (.bl b0), x9, x10] H8 := fun En hE => nrEnd_ok hq8 (by rw [hE]; exact hnx _ _ ⟨_, _, rfl, rfl, hfin⟩)
                refine ⟨_, rfl, _, rfl, ?_⟩
                cases b0 with
                | false => exact iteF (iteF (done _ rfl))
                | true =>
                  refine iteT ⟨_, rfl, tq, _, 0, _, rfl, rfl, SqQ.t hq8, at0, rfl, _, rfl, ?_⟩
                  cases lo with
                  | none => exact iteF (iteF (done _ rfl))
                  | some l0 =>
                    refine iteT ⟨_, rfl, tq, _, 0, _, rfl, rfl, SqQ.t hq8, at0, _, rfl, tq, _, 1, _, rfl, rfl, SqQ.t hq8, at1, by cases hi <;> rfl, _, rfl, ?_⟩
                    have : decide (optI (some l0) = optI hi) = false := decide_eq_false fun z => hne ⟨nofun, by
                      cases hi with
                      | none => cases z
                      | some h0 => have := V.int.inj z; rw [this]⟩
                    rw [this]
                    exact iteF (done _ rfl)
          · rintro σ' H9 ⟨b, y5, rfl, rfl, hbs⟩
            refine ⟨_, rfl, ?_⟩
            dsimp only [tCB, tCons, tNil]
            refine tLc_of ?_
            have e09 : Ex H H9 := e03.trans e38
            refine ⟨_, rfl, l, rfl, ⟨_, SqL.of (e09 _ _ hl)⟩, ?_⟩
            have hul := hus.len
            rw [List.length_map] at hul
            have hlen := dk.len
            simp only at hlen
            refine lc_val (walk_list (xs := us)) (fun i => ((tss.take i).map (so (cn ++ [(name, vv)]))).map V.bl) (by omega) rfl (fun H' e => SqL.of (e _ _ (e09 _ _ hl))) ?_ ?_
            · rintro i x H10 H10' R R' hi' e10 ⟨rfl, hx⟩ k1 _
              obtain ⟨dt, hdt, st⟩ := hus.getV hx
              rw [List.getElem?_map] at hdt
              cases hts' : tss[i]? with
              | none => rw [hts'] at hdt; cases hdt
              | some ts =>
              rw [hts'] at hdt
              cases hdt
              have cg := hts ts (List.mem_of_getElem? hts')
              have hmo : mOk ts := by
                have := cg.lot
                cases ts with
                | div m c k => exact ⟨this.1, by have := Int.le_of_dvd L0 this.2; omega⟩
                | row c k => trivial
                | same c k => trivial
              refine ⟨rfl, yesT ⟨_, rfl, _, rfl, x, ts, ad, cn ++ [(name, vv)], rfl, st.mono (e09.trans e10), e10 _ _ had8, by have := cg.len; omega, cg.told.nd, fun p hp => by have := (cg.mem p hp).2; omega, hmo, nd2, fun p hp => ?_, fun H11 e11 => k1 _ _ e11 ?_⟩⟩
              · rw [keys_app]
                rcases List.mem_cons.mp (cg.mem p hp).1 with h | h
                · exact List.mem_append.mpr (.inr (by rw [h]; simp [keys]))
                · exact List.mem_append.mpr (.inl h)
              · rw [List.take_add_one, hts', List.map_append, List.map_append]; rfl
            · intro D H10 hD e10 hDH
              rw [List.take_of_length_le (by omega)] at hDH
              refine ⟨D, _, rfl, SqL.of hDH, rfl, _, rfl, ?_⟩
              have hall : ((tss.map (so (cn ++ [(name, vv)]))).all id) = b := by
                have h1 : ((tss.map (so (cn ++ [(name, vv)]))).all id) = true ↔ Sol name cn tss vv := by
                  rw [List.all_map, List.all_eq_true]
                  unfold Sol
                  exact ⟨fun h ts hm => (so_ok hnk (hts ts hm).told.nd).mp (h ts hm), fun h ts hm => (so_ok hnk (hts ts hm).told.nd).mpr (h ts hm)⟩
                cases hb' : b with
                | true => exact h1.mpr (hbs.mp hb')
                | false =>
                  cases hz' : ((tss.map (so (cn ++ [(name, vv)]))).all id) with
                  | false => rfl
                  | true => have := hbs.mpr (h1.mp hz'); rw [hb'] at this; cases this
              rw [hall]
              rw [show decide (V.bl b = V.bl b) = true from decide_eq_true rfl]
              exact iteF ⟨⟨_, _, _, _, _, _, rfl⟩, (e3.trans e38).trans e10⟩
        · rintro σ H3 ⟨⟨x5, x6, x7, x8, x9, x10, rfl⟩, e3⟩
          exact ⟨⟨_, _, _, _, _, _, rfl⟩, e3⟩
      · rintro σ H2 ⟨⟨x5, x6, x7, x8, x9, x10, rfl⟩, e2⟩
        exact q _ (e1.trans e2)
end
end K8

set_option Elab.async false
set_option linter.all false
set_option maxRecDepth 100000
set_option maxHeartbeats 4000000
namespace K8
open PySem PySem.Spec PyProof.Rows L2 M8
/-! repr of a body in whatever lists and tuples -/
def keyPy : Key → PyData | .inl i => .int i | .inr s => .str s
mutual
def toPy : Dat → PyData
  | .non => .none | .bl b => .bool b | .int i => .int i | .str s => .str s
  | .lst ds => .list (toPys ds) | .tup ds => .tuple (toPys ds)
  | .dct kds => .dict (toPyK kds) | .fn _ => .none
def toPys : List Dat → List PyData
  | [] => []
  | d :: ds => toPy d :: toPys ds
def toPyK : List (Key × Dat) → List (PyData × PyData)
  | [] => []
  | (k, d) :: ds => (keyPy k, toPy d) :: toPyK ds
end
mutual
def nfD : Dat → Bool
  | .non => true | .bl _ => true | .int _ => true | .str _ => true
  | .lst ds => nfDs ds | .tup ds => nfDs ds
  | .dct kds => noFnK kds | .fn _ => false
def nfDs : List Dat → Bool
  | [] => true
  | d :: ds => nfD d && nfDs ds
def noFnK : List (Key × Dat) → Bool
  | [] => true
  | (_, d) :: ds => nfD d && noFnK ds
end
mutual
theorem reads_see {P : Program} {w : World} {F : Fk} {H : Hp} {h : Heap} (ok : HOk P w H h) : ∀ {v : V} {d : Dat} {u : Value}, See F H v d → nfD d = true → RelV v u → ∃ as, Reads h u (toPy d) as ∧ ∀ a ∈ as, H a ≠ none
  | _, _, u, .non, _, r => by
    obtain rfl : u = Value.none := r
    rw [toPy]; exact ⟨[], .none, by simp⟩
  | _, _, u, .bl b, _, r => by
    obtain rfl : u = Value.bool b := r
    rw [toPy]; exact ⟨[], .bool b, by simp⟩
  | _, _, u, .int i, _, r => by
    obtain ⟨t, rfl⟩ := (show ∃ t, u = Value.int i t from r)
    rw [toPy]; exact ⟨[], .int i t, by simp⟩
  | _, _, u, .str z, _, r => by
    obtain ⟨t, rfl⟩ := (show ∃ t, u = Value.str z t from r)
    rw [toPy]; exact ⟨[], .str z t, by simp⟩
  | _, _, u, .lst (a := a) (xs := xs) e hx, f, r => by
    obtain rfl : u = Value.ref a := r
    obtain ⟨z, its, n, rr, g⟩ := (show ObjOk P w H h a (.lst xs) from ok a _ e)
    rw [nfD] at f
    obtain ⟨as, h1, h2⟩ := reads_seeL ok hx f rr
    rw [toPy]
    exact ⟨a :: as, .list g rfl rfl (by simpa using h1), fun b hb => by rcases List.mem_cons.mp hb with rfl | hb; rw [e]; simp; exact h2 b hb⟩
  | _, _, u, .tup (a := a) (xs := xs) e hx, f, r => by
    obtain rfl : u = Value.ref a := r
    obtain ⟨z, its, rr, o, h1, h2, n, h3⟩ := (show ObjOk P w H h a (.tup xs) from ok a _ e)
    rw [nfD] at f
    obtain ⟨as, j1, j2⟩ := reads_seeL ok hx f rr
    rw [toPy]
    exact ⟨as, .tuple h1 h2 h3 (by simpa using j1), j2⟩
  | _, _, u, .dct (a := a) e hx, f, r => by
    obtain rfl : u = Value.ref a := r
    obtain ⟨_, hsys, vs, kv, o, es, ep, ho, ex, hdat, _, hp, _⟩ := dk_of ok e
    rw [nfD] at f
    obtain ⟨as, j1, j2, j3⟩ := reads_seeK ok hx f kv hp
    rw [toPy]
    exact ⟨a :: [] ++ as, .dict ho ex.1 hdat j1 j2, fun b hb => by rcases List.mem_cons.mp hb with rfl | hb; rw [e]; simp; exact j3 b (by simpa using hb)⟩
  | _, _, _, .fn _, f, _ => by rw [nfD] at f; cases f
theorem reads_seeL {P : Program} {w : World} {F : Fk} {H : Hp} {h : Heap} (ok : HOk P w H h) : ∀ {vs : List V} {ds : List Dat} {us : List Value}, SeeL F H vs ds → nfDs ds = true → Vals vs us → ∃ as, ReadsAll h us (toPys ds) as ∧ ∀ a ∈ as, H a ≠ none
  | _, _, _, .nil, _, .nil => by rw [toPys]; exact ⟨[], .nil, by simp⟩
  | _, _, _, .cons x xs, f, .cons r rs => by
    rw [nfDs, Bool.and_eq_true] at f
    obtain ⟨a1, h1, h2⟩ := reads_see ok x f.1 r
    obtain ⟨a2, h3, h4⟩ := reads_seeL ok xs f.2 rs
    rw [toPys]
    exact ⟨a1 ++ a2, .cons h1 h3, fun b hb => (List.mem_append.mp hb).elim (h2 b) (h4 b)⟩
theorem reads_seeK {P : Program} {w : World} {F : Fk} {H : Hp} {h : Heap} (ok : HOk P w H h) : ∀ {kvs : List (Key × V)} {kds : List (Key × Dat)} {vs : List (Key × Value)} {es : List DictEntry}, SeeK F H kvs kds → noFnK kds = true → KV kvs vs → Pairs (mixKind P w) es vs →
    ∃ as, ReadsAll h (es.map (·.key)) ((toPyK kds).map (·.1)) [] ∧ ReadsAll h (es.map (·.val)) ((toPyK kds).map (·.2)) as ∧ ∀ a ∈ as, H a ≠ none
  | _, _, _, _, .nil, _, .nil, .nil => by rw [toPyK]; exact ⟨[], .nil, .nil, by simp⟩
  | _, _, _, _, .cons (k := k) x xs, f, .cons r rs, .cons (e := e) h1 h2 hp => by
    rw [noFnK, Bool.and_eq_true] at f
    obtain ⟨r1, r2⟩ := r
    obtain ⟨a1, j1, j2⟩ := reads_see ok x f.1 (u := e.val) (by rw [h2]; exact r2)
    obtain ⟨a2, j3, j4, j5⟩ := reads_seeK ok xs f.2 rs hp
    have hk : RelV (kV k) e.key := relV_key (k := k) (by rw [show k = _ from r1]; exact h1)
    have kr : Reads h e.key (keyPy k) [] := by
      cases k with
      | inl i => obtain ⟨t, ek⟩ := (show ∃ t, e.key = Value.int i t from hk); rw [ek]; exact .int i t
      | inr z => obtain ⟨t, ek⟩ := (show ∃ t, e.key = Value.str z t from hk); rw [ek]; exact .str z t
    rw [toPyK]
    exact ⟨a1 ++ a2, ReadsAll.cons (as := []) (bs := []) kr j3, .cons j1 j4, fun b hb => (List.mem_append.mp hb).elim (j2 b) (j5 b)⟩
end
theorem entries_more {P : Program} {w : World} {h : Heap} {as as' : List Addr} {d d' : Nat} (hsub : ∀ b ∈ as, b ∈ as') (hd : d ≤ d') : ∀ {es : List DictEntry} {ts : List Str}, ReprEntriesK P w as h d es ts → ReprEntriesK P w as' h d' es ts
  | _, _, .nil => .nil
  | _, _, .cons a b r => .cons ((a.more hsub).level_le hd) ((b.more hsub).level_le hd) (entries_more hsub hd r)
/-- what a shown thing asks -/
def shw (d : Dat) : Prop := (toPy d).showable = true ∧ (toPy d).shown.length ≤ sizeLine ∧ (toPy d).depth ≤ 100 ∧ nfD d = true
mutual
theorem reprK_see {P : Program} {w : World} {F : Fk} {H : Hp} {h : Heap} (ok : HOk P w H h) : ∀ {v : V} {d : Dat} {u : Value}, See F H v d → nfD d = true → (toPy d).showable = true → (toPy d).shown.length ≤ sizeLine → RelV v u → ∃ bs, ReadAtMost h (toPy d).depth bs ∧ ReprK P w bs h (toPy d).depth u (toPy d).shown
  | _, _, u, .non, _, _, _, r => by
    obtain rfl : u = Value.none := r
    exact ⟨[], (fun _ h => nomatch h), by rw [toPy, PyData.shown]; exact .of_is ReprIs.none _ _ _⟩
  | _, _, u, .bl b, _, _, _, r => by
    obtain rfl : u = Value.bool b := r
    exact ⟨[], (fun _ h => nomatch h), by rw [toPy, PyData.shown]; exact .of_is (ReprIs.bool b) _ _ _⟩
  | _, _, u, .int i, _, s1, _, r => by
    obtain ⟨t, rfl⟩ := (show ∃ t, u = Value.int i t from r)
    rw [toPy, PyData.showable] at s1
    exact ⟨[], (fun _ h => nomatch h), by rw [toPy, PyData.shown]; exact .of_is (ReprIs.int t (by simpa using s1)) _ _ _⟩
  | _, _, u, .str z, _, _, s2, r => by
    obtain ⟨t, rfl⟩ := (show ∃ t, u = Value.str z t from r)
    rw [toPy, PyData.shown] at s2
    exact ⟨[], (fun _ h => nomatch h), by rw [toPy, PyData.shown]; exact .of_is (ReprIs.str z t s2) _ _ _⟩
  | _, _, u, .lst (a := a) (xs := xs) (ds := ds) e hx, f, s1, s2, r => by
    have whole := reads_see ok (See.lst e hx) f r
    obtain rfl : u = Value.ref a := r
    obtain ⟨z, its, n, rr, g⟩ := (show ObjOk P w H h a (.lst xs) from ok a _ e)
    rw [nfD] at f
    rw [toPy, PyData.showable] at s1
    rw [toPy, PyData.shown] at s2
    obtain ⟨as, whole, _⟩ := whole
    rw [toPy] at whole
    obtain ⟨bs, hb, hk⟩ := reprK_seeL ok hx f s1 (fun t ht => Nat.le_trans (listText_mem_le ht) s2) rr
    have hna : a ∉ bs := not_mem_of_deeper whole (by simp only [PyData.depth]; omega) hb
    rw [toPy, PyData.shown]
    refine ⟨a :: bs, ReadAtMost.cons whole (by simp only [PyData.depth]; omega) hb, ?_⟩
    simp only [PyData.depth]
    cases its with
    | nil =>
      cases rr
      cases hx
      rw [toPys, PyData.shownAll, listText_nil]
      exact ReprK.listEmpty g rfl rfl
    | cons x l => exact ReprK.list g rfl rfl hna (by simpa using hk.length_eq) (fun i y e => hk.item i y (by simpa using e))
  | _, _, u, .tup (a := a) (xs := xs) (ds := ds) e hx, f, s1, s2, r => by
    have whole := reads_see ok (See.tup e hx) f r
    obtain rfl : u = Value.ref a := r
    obtain ⟨z, its, rr, o, h1, h2, n, h3⟩ := (show ObjOk P w H h a (.tup xs) from ok a _ e)
    rw [nfD] at f
    rw [toPy, PyData.showable] at s1
    rw [toPy, PyData.shown] at s2
    obtain ⟨as, whole, _⟩ := whole
    rw [toPy] at whole
    obtain ⟨bs, hb, hk⟩ := reprK_seeL ok hx f s1 (fun t ht => Nat.le_trans (tupleText_mem_le ht) s2) rr
    have hna : a ∉ bs := not_mem_of_deeper whole (by simp only [PyData.depth]; omega) hb
    rw [toPy, PyData.shown]
    refine ⟨a :: bs, ReadAtMost.cons whole (by simp only [PyData.depth]; omega) hb, ?_⟩
    simp only [PyData.depth]
    exact ReprK.tuple h1 h2 h3 hna (by simpa using hk)
  | _, _, u, .dct (a := a) (kds := kds) e hx, f, s1, s2, r => by
    have whole := reads_see ok (See.dct e hx) f r
    obtain rfl : u = Value.ref a := r
    obtain ⟨_, hsys, vs, kv, o, es, ep, ho, ex, hdat, _, hp, _⟩ := dk_of ok e
    rw [nfD] at f
    rw [toPy, PyData.showable] at s1
    rw [toPy, PyData.shown] at s2
    obtain ⟨as, whole, _⟩ := whole
    rw [toPy] at whole
    obtain ⟨bs, hb, hk⟩ := reprK_seeK ok hx f s1 (fun t ht => Nat.le_trans (dictText_mem_le ht) s2) kv hp
    have hna : a ∉ bs := not_mem_of_deeper whole (by simp only [PyData.depth]; omega) hb
    rw [toPy, PyData.shown]
    refine ⟨a :: bs, ReadAtMost.cons whole (by simp only [PyData.depth]; omega) hb, ?_⟩
    simp only [PyData.depth]
    exact ReprK.dict ho ex.1 hdat hsys hna hk
  | _, _, _, .fn _, f, _, _, _ => by rw [nfD] at f; cases f
theorem reprK_seeL {P : Program} {w : World} {F : Fk} {H : Hp} {h : Heap} (ok : HOk P w H h) : ∀ {vs : List V} {ds : List Dat} {us : List Value}, SeeL F H vs ds → nfDs ds = true → PyData.showableAll (toPys ds) = true → (∀ t ∈ PyData.shownAll (toPys ds), t.length ≤ sizeLine) → Vals vs us → ∃ bs, ReadAtMost h (PyData.depthAll (toPys ds)) bs ∧ ReprAllK P w bs h (PyData.depthAll (toPys ds)) us (PyData.shownAll (toPys ds))
  | _, _, _, .nil, _, _, _, .nil => ⟨[], (fun _ h => nomatch h), by rw [toPys, PyData.shownAll]; exact .nil⟩
  | _, _, _, .cons (d := d) (ds := ds) x xs, f, s1, s2, .cons r rs => by
    rw [nfDs, Bool.and_eq_true] at f
    rw [toPys, PyData.showableAll, Bool.and_eq_true] at s1
    rw [toPys, PyData.shownAll] at s2
    obtain ⟨b1, hb1, k1⟩ := reprK_see ok x f.1 s1.1 (s2 _ (by simp)) r
    obtain ⟨b2, hb2, k2⟩ := reprK_seeL ok xs f.2 s1.2 (fun t ht => s2 t (by simp [ht])) rs
    rw [toPys, PyData.shownAll, PyData.depthAll]
    exact ⟨b1 ++ b2, (hb1.mono (Nat.le_max_left _ _)).append (hb2.mono (Nat.le_max_right _ _)), .cons ((k1.more fun b hb => List.mem_append_left _ hb).level_le (Nat.le_max_left _ _)) (k2.more_le (fun b hb => List.mem_append_right _ hb) (Nat.le_max_right _ _))⟩
theorem reprK_seeK {P : Program} {w : World} {F : Fk} {H : Hp} {h : Heap} (ok : HOk P w H h) : ∀ {kvs : List (Key × V)} {kds : List (Key × Dat)} {vs : List (Key × Value)} {es : List DictEntry}, SeeK F H kvs kds → noFnK kds = true → PyData.showableKv (toPyK kds) = true → (∀ t ∈ PyData.shownKv (toPyK kds), t.length ≤ sizeLine) → KV kvs vs → Pairs (mixKind P w) es vs →
    ∃ bs, ReadAtMost h (PyData.depthKv (toPyK kds)) bs ∧ ReprEntriesK P w bs h (PyData.depthKv (toPyK kds)) es (PyData.shownKv (toPyK kds))
  | _, _, _, _, .nil, _, _, _, .nil, .nil => ⟨[], (fun _ h => nomatch h), by rw [toPyK, PyData.shownKv]; exact .nil⟩
  | _, _, _, _, .cons (k := k) (d := d) x xs, f, s1, s2, .cons r rs, .cons (e := e) h1 h2 hp => by
    rw [noFnK, Bool.and_eq_true] at f
    rw [toPyK, PyData.showableKv, Bool.and_eq_true, Bool.and_eq_true] at s1
    rw [toPyK, PyData.shownKv] at s2
    obtain ⟨r1, r2⟩ := r
    have s0 := s2 _ (by simp : ((keyPy k).shown ++ ": " ++ (toPy d).shown) ∈ _)
    rw [strLen_append, strLen_append] at s0
    obtain ⟨b1, hb1, k1⟩ := reprK_see ok x f.1 s1.1.2 (by omega) (u := e.val) (by rw [h2]; exact r2)
    obtain ⟨b2, hb2, k2⟩ := reprK_seeK ok xs f.2 s1.2 (fun t ht => s2 t (by simp [ht])) rs hp
    have hk : RelV (kV k) e.key := relV_key (k := k) (by rw [show k = _ from r1]; exact h1)
    have kk : ∀ as n, ReprK P w as h n e.key (keyPy k).shown := by
      intro as n
      cases k with
      | inl i => obtain ⟨t, ek⟩ := (show ∃ t, e.key = Value.int i t from hk); rw [ek, keyPy, PyData.shown]; exact .of_is (ReprIs.int t (by have := s1.1.1; rw [keyPy, PyData.showable] at this; simpa using this)) _ _ _
      | inr z => obtain ⟨t, ek⟩ := (show ∃ t, e.key = Value.str z t from hk); rw [ek, keyPy, PyData.shown]; exact .of_is (ReprIs.str z t (by have h9 : (keyPy (.inr z)).shown.length ≤ sizeLine := (by omega); simpa only [keyPy, PyData.shown] using h9)) _ _ _
    have kd : (keyPy k).depth = 0 := by cases k <;> rfl
    rw [toPyK, PyData.shownKv, PyData.depthKv]
    refine ⟨b1 ++ b2, (hb1.mono (by omega)).append (hb2.mono (by omega)), .cons (kk _ _) ((k1.more fun b hb => List.mem_append_left _ hb).level_le (by omega)) (entries_more (fun b hb => List.mem_append_right _ hb) (by omega) k2)⟩
end
def rReprB : List V → Hp → VK → Prop := fun xs H Q => ∃ (F : Fk) (v : V) (d : Dat), xs = [v] ∧ See F H v d ∧ isSq d = true ∧ items d ≠ [] ∧ shw d ∧ Q (.str (toPy d).shown) H
theorem call_reprB {X : Cx} (hA : X.A.guards = some []) (hu : X.A.units + 200 < cLine) : CallR X (.builtin "repr") rReprB := by
  intro pins s σ H xs us Q I r h
  obtain ⟨F, v, d, rfl, hs, hq, hne, ⟨s1, s2, s3, f⟩, qq⟩ := h
  obtain ⟨u, rfl, rx⟩ := vals1 r
  have fin : ∀ h' u tk, (∀ b o, s.heap.get? b = some o → h'.get? b = some o) → ∃ v H', Inv X pins σ H' { s with heap := h', toks := tk } ∧ RelV v (.str (toPy d).shown u) ∧ Q v H' := fun h' u tk hk => ⟨.str _, H, I.kept (t' := tk) hk, ⟨u, rfl⟩, qq⟩
  cases hs with
  | @lst a vs ds e hx =>
    have whole := reads_see I.hok (See.lst e hx) f rx
    obtain rfl : u = Value.ref a := rx
    obtain ⟨z, its, n, rr, g⟩ := (show ObjOk X.prog X.w H s.heap a (.lst vs) from I.hok a _ e)
    rw [nfD] at f
    rw [toPy, PyData.showable] at s1
    rw [toPy, PyData.shown] at s2
    rw [toPy] at s3
    rw [toPy, PyData.shown] at fin
    obtain ⟨as, whole, _⟩ := whole
    rw [toPy] at whole
    obtain ⟨bs, hb, hk⟩ := reprK_seeL I.hok hx f s1 (fun t ht => Nat.le_trans (listText_mem_le ht) s2) rr
    have hna : a ∉ bs := not_mem_of_deeper whole (by simp only [PyData.depth]; omega) hb
    simp only [PyData.depth] at s3
    cases its with
    | nil =>
      cases rr
      cases hx
      exact absurd rfl hne
    | cons x l =>
      refine call_repr_slot (by omega) ⟨_, g, rfl⟩ PySem.F.slot_list_repr.toG ?_
      refine call_list_reprK g rfl rfl hna (by simpa using hk.length_eq) (fun i y e => hk.item i y (by simpa using e)) (g := []) hA (fun b _ => Clear.nil b) (by show X.A.units + 1 + _ < cLine; omega) (fun _ _ e => e) (fun h' u tk hk => ⟨_, _, rfl, fin h' u tk hk⟩) s2
  | @tup a vs ds e hx =>
    have whole := reads_see I.hok (See.tup e hx) f rx
    obtain rfl : u = Value.ref a := rx
    obtain ⟨z, its, rr, o, h1, h2, n, h3⟩ := (show ObjOk X.prog X.w H s.heap a (.tup vs) from I.hok a _ e)
    rw [nfD] at f
    rw [toPy, PyData.showable] at s1
    rw [toPy, PyData.shown] at s2
    rw [toPy] at s3
    rw [toPy, PyData.shown] at fin
    obtain ⟨as, whole, _⟩ := whole
    rw [toPy] at whole
    obtain ⟨bs, hb, hk⟩ := reprK_seeL I.hok hx f s1 (fun t ht => Nat.le_trans (tupleText_mem_le ht) s2) rr
    have hna : a ∉ bs := not_mem_of_deeper whole (by simp only [PyData.depth]; omega) hb
    simp only [PyData.depth] at s3
    refine call_repr_slot (by omega) ⟨_, h1, h2⟩ PySem.F.slot_tuple_repr ?_
    exact call_tuple_reprK h1 h2 h3 hna (by simpa using hk) (g := []) hA (fun b _ => Clear.nil b) (by show X.A.units + 1 + _ < cLine; omega) (fun _ _ e => e) (fun h' u tk hk => ⟨_, _, rfl, fin h' u tk hk⟩) s2
  | non => cases hq
  | bl b => cases hq
  | int i => cases hq
  | str z => cases hq
  | dct _ _ => cases hq
  | fn _ => cases hq
end K8

set_option Elab.async false
set_option linter.all false
set_option maxRecDepth 100000
set_option maxHeartbeats 4000000
namespace K8
open PySem PySem.Spec PyProof.Rows L2 M8
/-! a promise where nothing around is being shown -/
section
variable {P : Program} {w : World} {K : PySem.W.Frag} {mg : Str → Option Value} {base : Heap}
structure OkG (P : Program) (w : World) (K : PySem.W.Frag) (mg : Str → Option Value) (base : Heap) (k : Nat) (x : Str) (ps : List Str) (sp : Sp) : Prop where
  ex : ∃ f fd, mg x = some (.ref f) ∧ PySem.W.keepIn K (.ref f) = true ∧ L2.Binds K fd ps [] ∧ (∀ vs H Q E, sp vs H Q E → vs.length = ps.length) ∧
    ∀ (A : Around) (outer : List Env) (s : Shared) (H : Hp) (args : Args) (us : List Value) (vs : List V) (Q : VK) (E : XK), A.guards = some [] → Room k A → Env0 P w K mg base A outer s H → BindsTo s fd args (ps.zip us) → Vals vs us → sp vs H Q E →
      codeAny (model P w) A (.call (.ref f) args) (CR CX0 outer P w H s Q E) s
theorem OkG.of {x : Str} {st : Stmt} {N ps : List Str} {k : Nat} {sp : Sp} (a : At K mg x st ps) (S : FnScope N ps (defScope st)) (len : ∀ vs H Q E, sp vs H Q E → vs.length = ps.length)
    (hbody : ∀ (f : Addr) (cdv : Value) (A : Around) (outer : List Env) (s : Shared) (H : Hp) (vs : List V) (Q : VK) (E : XK), A.guards = some [] → Room k (A.deeper (envOfC x (defScope st) s.heap.objs.size f cdv)) → sp vs H Q E →
      ∃ t, PSs (cxOf CX0 P w K mg base N x (defScope st) f cdv A outer s H E).nox (defBody st) t ∧ t { nx := fun _ H' => Q .non H', rt := Q } (L2.start N vs) H) : OkG P w K mg base (k + 1) x ps sp := by
  obtain ⟨f, fd, hm, F, b⟩ := a.ex
  obtain ⟨oc, od, kV, doc, pm, an, cdv, ct, osl, rfl, lk, hcd⟩ := F.ex
  refine ⟨f, _, hm, F.kp, b, len, fun A outer s H args us vs Q E hA hr e0 hb hv hs => ?_⟩
  refine LamX.run_ofS lk hcd S hr e0 hb hv (len _ _ _ _ hs) fun hr' => ?_
  obtain ⟨t, h, q⟩ := hbody f cdv A outer s H vs Q E hA hr' hs
  exact ⟨t, h.nox, q⟩
theorem pe_callGd {X : Cx} {x : Str} {ps : List Str} {k : Nat} {sp : Sp} {e : Expr} {es : List Expr} {t : TA} {p pos : Pos} (O : OkG X.prog X.w X.K X.mg X.base k x ps sp) (hA : X.A.guards = some []) (hr : Room k X.A) (hg : Gl X x) (ha : PA X (e :: es) t)
    (hdb : (x == ("__debug__" : Str)) = false := by decide) (he : starEach (e :: es) X.env = (false, eval e X.env) :: starEach es X.env := by rfl) (hpl : (backTo pos (starEach es X.env)).any (·.1) = false := by rfl) : PE X (.Call (.Name x p) (e :: es) [] pos) (tC0 sp t) := by
  obtain ⟨f, fd, hm, hk, b, len, F⟩ := O.ex
  constructor
  intro pins s σ H Q I h
  apply wpAny_Call_Name_kw
  apply ld_glob I hg hm (hd := hdb)
  have step : ∀ us s1 vs H1, Inv X pins σ H1 s1 → Vals vs us → sp vs H1 Q E0 → wpAny (model X.prog X.w) X.A (call (.ref f) us) (EP X pins σ Q) X.xe s1 := by
    intro us s1 vs H1 I1 r q
    have hl : us.length = ps.length := by rw [← r.length]; exact len _ _ _ _ q
    have hb := b s1 us I1.kIn (by simpa using hl)
    rw [List.append_nil] at hb
    apply wpAny_call
    apply codeAny_mono (F X.A X.stack s1 H1 ⟨us, []⟩ us vs Q E0 hA hr I1.env0 hb r q)
    intro r2 s2 hq
    match r2, hq with
    | .error e, hq => exact (show False from hq).elim
    | .ok (.ret u), hq => exact I1.after hq
  apply PySem.W.callWith_K (h₀ := X.base) I.ok.mod.kin hk _ he hpl
  exact thn (ha.run pos pins s σ H _ I h) fun us s1 ⟨vs, H1, I1, r, q⟩ => ⟨I1.kIn, step us s1 vs H1 I1 r q⟩
end
/-! how long the text of a handed body is, at most -/
theorem sum_le {B : Nat} : ∀ {l : List Str}, (∀ t ∈ l, t.length ≤ B) → (l.map (·.length)).sum ≤ B * l.length
  | [], _ => by simp
  | t :: l, h => by
    have h1 := h t (by simp)
    have h2 := sum_le (l := l) fun x hx => h x (by simp [hx])
    rw [List.map_cons, List.sum_cons, List.length_cons, Nat.mul_succ]
    omega
theorem int_le {i : Int} {k : Nat} (hk : 0 < k) (h : i.natAbs < 10 ^ k) : (Str.ofString (toString i)).length ≤ k + 1 := by
  rw [PySem.ofString_length]; exact int_text_length_le10 hk h
theorem log_ok {i : Int} (h : i.natAbs ≤ 10000000000000000) : i.natAbs.log2 < 1920 := by
  by_cases z : i.natAbs = 0
  · rw [z]; decide
  · exact Nat.lt_trans ((Nat.log2_lt z).mpr (show i.natAbs < 2 ^ 60 by omega)) (by decide)
structure Sh (T k : Nat) (d : Dat) : Prop where
  s : (toPy d).showable = true
  l : (toPy d).shown.length ≤ T
  k : (toPy d).depth ≤ k
  f : nfD d = true
theorem Sh.up {T T' k k' : Nat} {d : Dat} (h : Sh T k d) (h1 : T ≤ T') (h2 : k ≤ k') : Sh T' k' d := ⟨h.s, Nat.le_trans h.l h1, Nat.le_trans h.k h2, h.f⟩
theorem sh_str {z : Str} (h : (reprText z).length ≤ 20) (k : Nat) : Sh 20 k (.str z) := ⟨rfl, h, Nat.zero_le _, rfl⟩
theorem sh_int {i : Int} (h : i.natAbs ≤ 10000000000000000) (k : Nat) : Sh 30 k (.int i) := ⟨by rw [toPy, PyData.showable]; exact decide_eq_true (log_ok h), by rw [toPy, PyData.shown]; have := int_le (i := i) (k := 20) (by decide) (by omega); omega, Nat.zero_le _, rfl⟩
theorem sh_all {T k : Nat} : ∀ {ds : List Dat}, (∀ d ∈ ds, Sh T k d) → PyData.showableAll (toPys ds) = true ∧ (∀ t ∈ PyData.shownAll (toPys ds), t.length ≤ T) ∧ PyData.depthAll (toPys ds) ≤ k ∧ nfDs ds = true ∧ (PyData.shownAll (toPys ds)).length = ds.length
  | [], _ => by rw [toPys, PyData.showableAll, PyData.shownAll, PyData.depthAll, nfDs]; simp
  | d :: ds, h => by
    have h1 := h d List.mem_cons_self
    obtain ⟨j1, j2, j3, j4, j5⟩ := sh_all (ds := ds) fun c hc => h c (List.mem_cons_of_mem _ hc)
    rw [toPys, PyData.showableAll, PyData.shownAll, PyData.depthAll, nfDs, h1.s, j1, h1.f, j4]
    refine ⟨rfl, fun t ht => ?_, ?_, rfl, by rw [List.length_cons, List.length_cons, j5]⟩
    · rcases List.mem_cons.mp ht with rfl | ht
      · exact h1.l
      · exact j2 t ht
    · have := h1.k; omega
theorem sh_sq {T k : Nat} {d : Dat} (hq : isSq d = true) (h : ∀ x ∈ items d, Sh T k x) : Sh (T * (items d).length + 2 * (items d).length + 3) (k + 1) d := by
  cases d with
  | lst ds =>
    obtain ⟨j1, j2, j3, j4, j5⟩ := sh_all (ds := ds) h
    have := listText_len_le (PyData.shownAll (toPys ds))
    have := sum_le j2
    refine ⟨by rw [toPy, PyData.showable]; exact j1, ?_, by rw [toPy, PyData.depth]; omega, by rw [nfD]; exact j4⟩
    rw [toPy, PyData.shown]
    show _ ≤ T * ds.length + 2 * ds.length + 3
    rw [j5] at *
    omega
  | tup ds =>
    obtain ⟨j1, j2, j3, j4, j5⟩ := sh_all (ds := ds) h
    have := tupleText_len_le (PyData.shownAll (toPys ds))
    have := sum_le j2
    refine ⟨by rw [toPy, PyData.showable]; exact j1, ?_, by rw [toPy, PyData.depth]; omega, by rw [nfD]; exact j4⟩
    rw [toPy, PyData.shown]
    show _ ≤ T * ds.length + 2 * ds.length + 3
    rw [j5] at *
    omega
  | _ => cases hq
theorem toPyK_cD : ∀ c : Coef, toPyK (cD c) = c.map fun p => (PyData.str p.1, PyData.int p.2)
  | [] => by show toPyK [] = []; rw [toPyK]
  | p :: c => by
    show toPyK ((.inr p.1, .int p.2) :: cD c) = _
    rw [toPyK, toPyK_cD c]; rfl
theorem sh_dct {c : Coef} (hl : c.length ≤ 20) (hc : ∀ p ∈ c, (reprText p.1).length ≤ 20 ∧ p.2.natAbs ≤ 10000000000000000) : Sh 1100 1 (.dct (cD c)) := by
  have all : ∀ c : Coef, (∀ p ∈ c, (reprText p.1).length ≤ 20 ∧ p.2.natAbs ≤ 10000000000000000) → PyData.showableKv (c.map fun p => (PyData.str p.1, PyData.int p.2)) = true ∧ (∀ t ∈ PyData.shownKv (c.map fun p => (PyData.str p.1, PyData.int p.2)), t.length ≤ 50) ∧ PyData.depthKv (c.map fun p => (PyData.str p.1, PyData.int p.2)) = 0 ∧ noFnK (cD c) = true ∧ (PyData.shownKv (c.map fun p => (PyData.str p.1, PyData.int p.2))).length = c.length := by
    intro c
    induction c with
    | nil => intro _; simp [PyData.showableKv, PyData.shownKv, PyData.depthKv, cD, noFnK]
    | cons p c ih =>
      intro h
      obtain ⟨j1, j2, j3, j4, j5⟩ := ih fun q hq => h q (List.mem_cons_of_mem _ hq)
      obtain ⟨h1, h2⟩ := h p List.mem_cons_self
      rw [List.map_cons, PyData.showableKv, PyData.shownKv, PyData.depthKv, j1, j3]
      refine ⟨by rw [PyData.showable, PyData.showable, decide_eq_true (log_ok (by omega))]; rfl, fun t ht => ?_, rfl, by show noFnK ((.inr p.1, .int p.2) :: cD c) = true; rw [noFnK, nfD, j4]; rfl, by rw [List.length_cons, List.length_cons, j5]⟩
      rcases List.mem_cons.mp ht with rfl | ht
      · rw [PyData.shown, PyData.shown, strLen_append, strLen_append]
        have := h1
        have := int_le (i := p.2) (k := 20) (by decide) (by omega)
        have : ((": " : String) : Str).length = 2 := rfl
        omega
      · exact j2 t ht
  obtain ⟨j1, j2, j3, j4, j5⟩ := all c hc
  refine ⟨by rw [toPy, toPyK_cD, PyData.showable]; exact j1, ?_, by rw [toPy, toPyK_cD, PyData.depth, j3]; omega, by rw [nfD]; exact j4⟩
  rw [toPy, toPyK_cD, PyData.shown]
  have := dictText_len_le (PyData.shownKv (c.map fun p => (PyData.str p.1, PyData.int p.2)))
  have := sum_le j2
  rw [j5] at *
  omega
end K8

set_option Elab.async false
set_option linter.all false
set_option maxRecDepth 100000
set_option maxHeartbeats 4000000
namespace K8
open PySem PySem.Spec PyProof.Rows L2 M8
/-! a case handed over says the same -/
def other5 : Str := "other"
theorem pool_nm : ∀ n ∈ nought :: other5 :: pool, isNameS n = true ∧ n.cps.size ≤ 1000000 ∧ (reprText n).length ≤ 20 := by decide +kernel
theorem pool_no : nought ∉ pool ∧ other5 ∉ pool := by decide +kernel
theorem cD_inj : ∀ {c c' : Coef}, cD c = cD c' → c = c'
  | [], [], _ => rfl
  | [], _ :: _, h => by cases h
  | _ :: _, [], h => by cases h
  | (n, i) :: c, (m, j) :: c', h => by
    have h1 : (Sum.inr n, Dat.int i) :: cD c = (Sum.inr m, Dat.int j) :: cD c' := h
    injection h1 with h2 h3
    injection h2 with h4 h5
    injection h4 with h4
    injection h5 with h5
    rw [h4, h5, cD_inj h3]
/-- a dict of a term, handed -/
structure HC (c c' : Coef) : Prop where
  nd : (keys c').Nodup
  co : ∀ n, co c' n = co c n
  lin : ∀ x, lin c' x = lin c x
  len : c'.length ≤ c.length + 1
  mem : ∀ p ∈ c', p ∈ c ∨ p = (nought, 0)
theorem lin_perm {c c' : Coef} (h : c'.Perm c) (x : Coef) : lin c' x = lin c x := by
  unfold lin
  induction h with
  | nil => rfl
  | cons p _ ih => rw [List.map_cons, List.map_cons, List.sum_cons, List.sum_cons, ih]
  | swap p q l => rw [List.map_cons, List.map_cons, List.map_cons, List.map_cons, List.sum_cons, List.sum_cons, List.sum_cons, List.sum_cons]; omega
  | trans _ _ i1 i2 => rw [i1, i2]
theorem lin_app (c d x : Coef) : lin (c ++ d) x = lin c x + lin d x := by unfold lin; rw [List.map_append, List.sum_append]
theorem co_perm {c c' : Coef} (h : c'.Perm c) (nd : (keys c).Nodup) (n : Str) : co c' n = co c n := by
  have nd' : (keys c').Nodup := (keys_perm h).nodup_iff.mpr nd
  by_cases hm : n ∈ keys c
  · obtain ⟨p, hp, rfl⟩ := List.mem_map.mp hm
    rw [co_of_mem (n := p.1) (i := p.2) nd hp, co_of_mem (n := p.1) (i := p.2) nd' (h.mem_iff.mpr hp)]
  · rw [co_notin hm, co_notin fun z => hm ((keys_perm h).mem_iff.mp z)]
theorem HcR.hc {c c' : Coef} (h : HcR c c') (nd : (keys c).Nodup) (hn : nought ∉ keys c) : HC c c' := by
  rcases h with h | h
  · exact ⟨(keys_perm h).nodup_iff.mpr nd, co_perm h nd, lin_perm h, by rw [h.length_eq]; omega, fun p hp => .inl (h.mem_iff.mp hp)⟩
  · have nd2 : (keys (c ++ [(nought, 0)])).Nodup := by
      rw [keys_app, List.nodup_append]
      exact ⟨nd, by simp [keys], fun x hx y hy e => hn (by rw [show y = nought by simpa [keys] using hy] at e; rw [← e]; exact hx)⟩
    refine ⟨(keys_perm h).nodup_iff.mpr nd2, fun n => ?_, fun x => ?_, by rw [h.length_eq]; simp, fun p hp => ?_⟩
    · rw [co_perm h nd2]
      by_cases e : n = nought
      · rw [e, (co_snoc hn).1, co_notin hn]
      · rw [(co_snoc (v := 0) hn).2 n e]
    · rw [lin_perm h, lin_app]
      have : lin [(nought, (0 : Int))] x = 0 := by unfold lin; simp
      omega
    · rcases List.mem_append.mp (h.mem_iff.mp hp) with h1 | h1
      · exact .inl h1
      · exact .inr (by simpa using h1)
theorem HC.refl {c : Coef} (nd : (keys c).Nodup) : HC c c := ⟨nd, fun _ => rfl, fun _ => rfl, by omega, fun p h => .inl h⟩
def withC (ts : Tst) (c : Coef) : Tst := match ts with | .row _ k => .row c k | .same _ k => .same c k | .div m _ k => .div m c k
theorem withC_coef (ts : Tst) (c : Coef) : coef (withC ts c) = c := by cases ts <;> rfl
theorem withC_kst (ts : Tst) (c : Coef) : kst (withC ts c) = kst ts := by cases ts <;> rfl
theorem withC_self (ts : Tst) : withC ts (coef ts) = ts := by cases ts <;> rfl
theorem alOf_withC (ts : Tst) (c : Coef) (x b : Int) : alOf (withC ts c) x b = alOf ts x b := by cases ts <;> rfl
theorem lotOk_withC {L : Int} (ts : Tst) (c : Coef) (h : lotOk L ts) : lotOk L (withC ts c) := by cases ts <;> exact h
theorem mOk_withC (ts : Tst) (c : Coef) (h : mOk ts) : mOk (withC ts c) := by cases ts <;> exact h
def HTst (ts ts' : Tst) : Prop := ∃ c', ts' = withC ts c' ∧ HC (coef ts) c'
theorem HTst.refl {ts : Tst} (nd : (keys (coef ts)).Nodup) : HTst ts ts := ⟨coef ts, (withC_self ts).symm, HC.refl nd⟩
/-- along a name, with numbers that say the same for the others -/
theorem alW_hand {name : Str} {cn cn2 : Coef} {ts ts' : Tst} (h : HTst ts ts') (nd : (keys (coef ts)).Nodup) (hc : ∀ p ∈ coef ts, p.1 ≠ name → co cn2 p.1 = co cn p.1) : alW name cn2 ts' = alW name cn ts := by
  obtain ⟨c', rfl, hC⟩ := h
  unfold alW
  rw [alOf_withC, withC_coef, withC_kst, hC.co, worth_lin, worth_lin]
  have h1 := lin_drop1 (n := name) (cn := cn2) hC.nd
  have h2 := lin_drop1 (n := name) (cn := cn2) nd
  rw [hC.lin, hC.co] at h1
  have h3 : lin (drop1 name (coef ts)) cn2 = lin (drop1 name (coef ts)) cn := by
    unfold lin
    congr 1
    refine List.map_congr_left fun p hp => ?_
    have hp' := List.mem_filter.mp hp
    rw [hc p hp'.1 (by simpa using hp'.2)]
  congr 2
  omega
/-- all along two lists -/
theorem Pair2.mem_l {α : Type} {R : α → α → Prop} : ∀ {xs ys : List α}, Pair2 R xs ys → ∀ x ∈ xs, ∃ y ∈ ys, R x y
  | _, _, .nil, x, h => by cases h
  | _, _, .cons a t, x, h => by
    rcases List.mem_cons.mp h with rfl | h
    · exact ⟨_, List.mem_cons_self, a⟩
    · obtain ⟨y, hy, r⟩ := Pair2.mem_l t x h; exact ⟨y, List.mem_cons_of_mem _ hy, r⟩
theorem Pair2.mem_r {α : Type} {R : α → α → Prop} : ∀ {xs ys : List α}, Pair2 R xs ys → ∀ y ∈ ys, ∃ x ∈ xs, R x y
  | _, _, .nil, x, h => by cases h
  | _, _, .cons a t, x, h => by
    rcases List.mem_cons.mp h with rfl | h
    · exact ⟨_, List.mem_cons_self, a⟩
    · obtain ⟨y, hy, r⟩ := Pair2.mem_r t x h; exact ⟨y, List.mem_cons_of_mem _ hy, r⟩
theorem Pair2.length {α : Type} {R : α → α → Prop} : ∀ {xs ys : List α}, Pair2 R xs ys → xs.length = ys.length
  | _, _, .nil => rfl
  | _, _, .cons _ t => by rw [List.length_cons, List.length_cons, Pair2.length t]
def HCase (tss tss' : List Tst) : Prop := Pair2 HTst tss tss'
theorem sol_hand {name : Str} {cn cn2 : Coef} {tss tss' : List Tst} (h : HCase tss tss') (nd : ∀ ts ∈ tss, (keys (coef ts)).Nodup) (hc : ∀ ts ∈ tss, ∀ p ∈ coef ts, p.1 ≠ name → co cn2 p.1 = co cn p.1) : Sol name cn2 tss' = Sol name cn tss := by
  funext y
  refine propext ⟨fun s ts hm => ?_, fun s ts' hm => ?_⟩
  · obtain ⟨ts', hm', r⟩ := h.mem_l ts hm
    rw [← alW_hand r (nd ts hm) (hc ts hm)]; exact s ts' hm'
  · obtain ⟨ts, hm', r⟩ := h.mem_r ts' hm
    rw [alW_hand r (nd ts hm') (hc ts hm')]; exact s ts hm'
/-- a handed test, a handed case -/
theorem hand_term {c : Coef} {k : Int} {t : Dat} (h : RH 2 (.tup [.dct (cD c), .int k]) t) : ∃ c', IsTerm t c' k ∧ HcR c c' := by
  obtain ⟨h1, h2⟩ : isSq t = true ∧ Pair2 (RH 1) [.dct (cD c), .int k] (items t) := h
  cases hi : items t with
  | nil => rw [hi] at h2; cases h2
  | cons a r =>
    rw [hi] at h2
    cases h2 with
    | cons ha hr =>
      cases hr with
      | cons hb hn =>
        cases hn
        obtain ⟨c0, c', e0, e1, hc⟩ : ∃ c0 c', Dat.dct (cD c) = .dct (cD c0) ∧ a = .dct (cD c') ∧ HcR c0 c' := ha
        have e0 := cD_inj (Dat.dct.inj e0)
        subst e0
        have hb : _ = Dat.int k := hb
        exact ⟨c', ⟨h1, by rw [hi, e1, hb]⟩, hc⟩
theorem hand_tst {ts : Tst} {x : Dat} (h : RH 3 (tstD ts) x) : ∃ c', IsTst x (withC ts c') ∧ HcR (coef ts) c' := by
  cases ts with
  | row c k =>
    obtain ⟨h1, h2⟩ : isSq x = true ∧ Pair2 (RH 2) [.str "row", .tup [.dct (cD c), .int k]] (items x) := h
    cases hi : items x with
    | nil => rw [hi] at h2; cases h2
    | cons a r =>
      rw [hi] at h2
      cases h2 with
      | cons ha hr =>
        cases hr with
        | cons hb hn =>
          cases hn
          have ha : a = Dat.str "row" := ha
          obtain ⟨c', ht, hc⟩ := hand_term hb
          exact ⟨c', ⟨h1, _, by rw [hi, ha], ht⟩, hc⟩
  | same c k =>
    obtain ⟨h1, h2⟩ : isSq x = true ∧ Pair2 (RH 2) [.str "same", .tup [.dct (cD c), .int k]] (items x) := h
    cases hi : items x with
    | nil => rw [hi] at h2; cases h2
    | cons a r =>
      rw [hi] at h2
      cases h2 with
      | cons ha hr =>
        cases hr with
        | cons hb hn =>
          cases hn
          have ha : a = Dat.str "same" := ha
          obtain ⟨c', ht, hc⟩ := hand_term hb
          exact ⟨c', ⟨h1, _, by rw [hi, ha], ht⟩, hc⟩
  | div m c k =>
    obtain ⟨h1, h2⟩ : isSq x = true ∧ Pair2 (RH 2) [.str "by", .int m, .tup [.dct (cD c), .int k]] (items x) := h
    cases hi : items x with
    | nil => rw [hi] at h2; cases h2
    | cons a r =>
      rw [hi] at h2
      cases h2 with
      | cons ha hr =>
        cases hr with
        | cons hb hr2 =>
          cases hr2 with
          | cons hb2 hn =>
            cases hn
            have ha : a = Dat.str "by" := ha
            have hb : _ = Dat.int m := hb
            obtain ⟨c', ht, hc⟩ := hand_term hb2
            exact ⟨c', ⟨h1, _, by rw [hi, ha, hb], ht⟩, hc⟩
theorem hand_tests : ∀ {tss : List Tst} {ds : List Dat}, (∀ ts ∈ tss, (keys (coef ts)).Nodup ∧ nought ∉ keys (coef ts)) → Pair2 (RH 3) (tss.map tstD) ds → ∃ tss', All2 IsTst ds tss' ∧ HCase tss tss'
  | [], _, _, h => by cases h; exact ⟨[], .nil, .nil⟩
  | ts :: tss, _, hn, h => by
    rw [List.map_cons] at h
    cases h with
    | cons a t =>
      obtain ⟨c', hi, hc⟩ := hand_tst a
      obtain ⟨tss', h1, h2⟩ := hand_tests (fun x hx => hn x (List.mem_cons_of_mem _ hx)) t
      obtain ⟨n1, n2⟩ := hn ts List.mem_cons_self
      exact ⟨withC ts c' :: tss', .cons hi h1, .cons ⟨c', rfl, hc.hc n1 n2⟩ h2⟩
theorem hand_case {tss : List Tst} {d' : Dat} (hn : ∀ ts ∈ tss, (keys (coef ts)).Nodup ∧ nought ∉ keys (coef ts)) (h : RH 4 (.lst (tss.map tstD)) d') : isSq d' = true ∧ ∃ tss', All2 IsTst (items d') tss' ∧ HCase tss tss' := by
  obtain ⟨h1, h2⟩ : isSq d' = true ∧ Pair2 (RH 3) (tss.map tstD) (items d') := h
  exact ⟨h1, hand_tests hn h2⟩
theorem case_same {tss : List Tst} (hn : ∀ ts ∈ tss, (keys (coef ts)).Nodup) : All2 IsTst (tss.map tstD) tss ∧ HCase tss tss := by
  induction tss with
  | nil => exact ⟨.nil, .nil⟩
  | cons ts tss ih =>
    obtain ⟨h1, h2⟩ := ih fun x hx => hn x (List.mem_cons_of_mem _ hx)
    exact ⟨.cons (tstD_is ts) h1, .cons (HTst.refl (hn ts List.mem_cons_self)) h2⟩
theorem allC' {p : Dat → Prop} {a : Dat} {l : List Dat} (h : p a) (h2 : ∀ d ∈ l, p d) : ∀ d ∈ a :: l, p d := fun d hd => by
  rcases List.mem_cons.mp hd with rfl | hd
  · exact h
  · exact h2 d hd
/-- the dicts of what may be handed -/
theorem gh_case {tss : List Tst} (hl : tss.length ≤ 8) (h : ∀ ts ∈ tss, (coef ts).length ≤ 12 ∧ (keys (coef ts)).Nodup ∧ nought ∉ keys (coef ts)) : GH 4 (.lst (tss.map tstD)) := by
  refine ⟨by rw [List.length_map]; exact hl, fun d hd => ?_⟩
  obtain ⟨ts, hm, rfl⟩ := List.mem_map.mp hd
  obtain ⟨h1, h2, h3⟩ := h ts hm
  have ht : ∀ c k, (c = coef ts) → GH 2 (.tup [.dct (cD c), .int k]) := fun c k e => by
    subst e
    refine ⟨by simp, allC' ?_ (allC' ?_ fun x h => by cases h)⟩
    · exact ⟨_, rfl, h1, h2, h3⟩
    · exact trivial
  cases ts with
  | row c k => exact ⟨by simp, allC' trivial (allC' (ht c k rfl) fun x h => by cases h)⟩
  | same c k => exact ⟨by simp, allC' trivial (allC' (ht c k rfl) fun x h => by cases h)⟩
  | div m c k => exact ⟨by simp, allC' trivial (allC' trivial (allC' (ht c k rfl) fun x h => by cases h))⟩
end K8

set_option Elab.async false
set_option linter.all false
set_option maxRecDepth 100000
set_option maxHeartbeats 4000000
namespace K8
open PySem PySem.Spec PyProof.Rows L2 M8
/-! calls that raise nothing, one with keywords -/
theorem hu200 {A : Around} {k : Nat} (hr : Room k A) : A.units + 200 < cLine := by have := hr.un; omega
theorem valsC {a b c : V} {us : List Value} (h : Vals [a, b, c] us) : ∃ u v w, us = [u, v, w] ∧ L2.RelV a u ∧ L2.RelV b v ∧ L2.RelV c w := by
  cases h with
  | cons h1 t =>
    obtain ⟨v, w, rfl, h2, h3⟩ := L2.vals2 t
    exact ⟨_, _, _, rfl, h1, h2, h3⟩
section
variable {X : Cx}
theorem pass_E0 : Passes (L2.CX X.prog X.w) X E0 := fun pins σ H s e s' I h => by
  obtain ⟨_, _, _, _, _, _, _, _, _, _, _, _, z⟩ := h
  exact z.elim
theorem pe_callX {x : Str} {ps : List Str} {k : Nat} {sp sp' : Sp} {e : Expr} {es : List Expr} {t : TA} {p pos : Pos} (O : Ok X.prog X.w X.K X.mg X.base (L2.CX X.prog X.w) k x ps sp) (hi : ∀ vs H Q E, sp' vs H Q E → sp vs H Q E) (hr : Room k X.A) (hg : Gl X x) (ha : PA X (e :: es) t)
    (hdb : (x == ("__debug__" : Str)) = false := by decide) (he : starEach (e :: es) X.env = (false, eval e X.env) :: starEach es X.env := by rfl) (hpl : (backTo pos (starEach es X.env)).any (·.1) = false := by rfl) : PE X (.Call (.Name x p) (e :: es) [] pos) (tC0 sp' t) := by
  obtain ⟨f, fd, hm, hk, b, F⟩ := O.ex
  have h := pe_call (p := p) (pos := pos) (F.imp (sp' := sp') hi) hr hg hm hk b .nil pass_E0 ha hdb he hpl
  refine ⟨fun pins s σ H Q I q => h.run pins s σ H Q I ?_⟩
  show t σ H fun vs H1 => sp' (vs ++ []) H1 Q E0
  have e1 : (fun (vs : List V) (H1 : Hp) => sp' (vs ++ []) H1 Q E0) = fun vs H1 => sp' vs H1 Q E0 := by funext vs H1; rw [List.append_nil]
  rw [e1]
  exact q
theorem pe_callK3 {CX : CXT} {x y z m : Str} {st : Stmt} {k : Nat} {sp sp' : Sp} {e1 e2 e3 : Expr} {t1 t2 t3 : TE} {p kp kp2 kp3 pos : Pos} (a : At X.K X.mg x st [y, z, m]) (FT : ∀ {f : Addr} {fd : FuncData}, Fun X.K x x st f fd → FnOk X.prog X.w X.K X.mg X.base CX k f fd [y, z, m] sp) (hi : ∀ v u w H Q E, sp' [v, u, w] H Q E → sp [w, u, v] H Q E) (hl : ∀ vs H Q E, sp' vs H Q E → ∃ v u w, vs = [v, u, w]) (hp : Passes CX X E0) (hr : Room k X.A) (hg : Gl X x) (he1 : PE X e1 t1) (he2 : PE X e2 t2) (he3 : PE X e3 t3)
    (bt : ∀ {f : Addr} {fd : FuncData}, Fun X.K x x st f fd → ∀ (s : Shared) (u v w : Value), BindsTo s fd ⟨[], [(m, w), (z, v), (y, u)]⟩ [(y, u), (z, v), (m, w)]) (hdb : (x == ("__debug__" : Str)) = false := by decide) :
    PE X (.Call (.Name x p) [] [⟨some m, e1, kp⟩, ⟨some z, e2, kp2⟩, ⟨some y, e3, kp3⟩] pos) (tC0 sp' (tCons t1 (tCons t2 (tCons t3 tNil)))) := by
  obtain ⟨f, fd, hm, F, b⟩ := a.ex
  have G := FT F
  have bt := bt F
  constructor
  intro pins s σ H Q I h
  apply wpAny_Call_Name_kw
  apply ld_glob I hg hm (hd := hdb)
  have step : ∀ us s1 vs H1, Inv X pins σ H1 s1 → Vals vs us → sp' vs H1 Q E0 → wpAny (model X.prog X.w) X.A (call (.ref f) [] ([m, z, y].zip us)) (EP X pins σ Q) X.xe s1 := by
    intro us s1 vs H1 I1 r q
    obtain ⟨v, v2, v3, rfl⟩ := hl _ _ _ _ q
    obtain ⟨u, u2, u3, rfl, ru, ru2, ru3⟩ := valsC r
    apply wpAny_call
    apply codeAny_mono (G.run X.A X.stack s1 H1 ⟨[], [(m, u), (z, u2), (y, u3)]⟩ [u3, u2, u] [v3, v2, v] Q E0 hr I1.env0 (bt s1 u3 u2 u) (.cons ru3 (.cons ru2 (.cons ru .nil))) (hi _ _ _ _ _ _ q))
    intro r2 s2 hq
    match r2, hq with
    | .error e, hq => exact hp pins σ H1 s1 e s2 I1 hq
    | .ok (.ret u), hq => exact I1.after hq
  apply PySem.W.callWith_KW0 (h₀ := X.base) I.ok.mod.kin F.kp (by rfl) _ (by rfl)
  exact thn ((pk_cons he1 (pk_cons he2 (pk_cons he3 pk_nil))).run pos pins s σ H _ I h) fun us s1 ⟨vs, H1, I1, r, q⟩ => ⟨I1.kIn, step us s1 vs H1 I1 r q⟩
end
theorem bt_set_of {K : PySem.W.Frag} {f : Addr} {fd : FuncData} (F : Fun K "set_of" "set_of" s_set_of f fd) (s : Shared) (u v w : Value) : BindsTo s fd ⟨[], [(("numbers" : Str), w), (("name" : Str), v), (("case" : Str), u)]⟩ [(("case" : Str), u), (("name" : Str), v), (("numbers" : Str), w)] := by
  obtain ⟨oc, od, kV, doc, pm, an, cdv, ct, osl, rfl, lk, hcd⟩ := F.ex
  exact BindsTo.of_eq (by rfl)
/-- told of a good case -/
structure CaseS (L : Int) (ns : List Str) (ts : Tst) : Prop where
  good : Good (coef ts)
  lot : lotOk L ts
  nz : ∀ y ∈ nz (coef ts), y ∈ ns
structure NumS (cn : Coef) : Prop where
  nd : (keys cn).Nodup
  len : cn.length ≤ 1000
  nm : ∀ n ∈ keys cn, isNameS n = true ∧ n.cps.size ≤ 1000000
theorem NumS.dct {cn : Coef} (h : NumS cn) : dctOk (.dct (cD cn)) ∧ isNumbers (.dct (cD cn)) = true := by
  have mem : ∀ p ∈ cD cn, ∃ q ∈ cn, p = (Sum.inr q.1, .int q.2) := fun p hp => by
    unfold cD at hp
    obtain ⟨q, hq, rfl⟩ := List.mem_map.mp hp
    exact ⟨q, hq, rfl⟩
  refine ⟨⟨by unfold cD; rw [List.length_map]; exact h.len, fun p hp => ?_, ?_⟩, ?_⟩
  · obtain ⟨q, hq, rfl⟩ := mem p hp
    exact ⟨rfl, (h.nm q.1 (List.mem_map.mpr ⟨q, hq, rfl⟩)).2⟩
  · have : (cD cn).map (·.1) = (cK cn).map (·.1) := by unfold cD cK; rw [List.map_map, List.map_map]; rfl
    rw [this]
    exact cK_nodup h.nd
  · unfold isNumbers
    refine List.all_eq_true.mpr fun p hp => ?_
    obtain ⟨q, hq, rfl⟩ := mem p hp
    have := (h.nm q.1 (List.mem_map.mpr ⟨q, hq, rfl⟩)).1
    simp only [keyD, isName, this, Bool.true_and]
    rfl
structure AskG (K : PySem.W.Frag) (v uv : V) (name : Str) (S : Int → Prop) (H : Hp) (Q : VK) : Prop where
  ex : ∃ dd cn tss L ns, SeeF K H v dd ∧ SeeF K H uv (.dct (cD cn)) ∧ isSq dd = true ∧ All2 IsTst (items dd) tss ∧ tss.length ≤ 1000 ∧ (∀ ts ∈ tss, CaseS L ns ts) ∧ ns.length ≤ 1000 ∧ 0 < L ∧ L ≤ 12 ∧ isNameS name = true ∧ name.cps.size ≤ 1000000 ∧ NumS cn ∧ (∀ ts ∈ tss, ∀ p ∈ coef ts, p.1 ≠ name → p.2 ≠ 0 → p.1 ∈ keys cn) ∧ S = Sol name cn tss
  q : ∀ ans v H', Right S ans → Ex H H' → ansV H' v ans → (∀ q, v = .ref q → H q = none) → Q v H'
def spSetG (K : PySem.W.Frag) : Sp := fun vs H Q _ => ∃ v uv name S, vs = [v, .str name, uv] ∧ AskG K v uv name S H Q
def spSetK (K : PySem.W.Frag) : Sp := fun vs H Q _ => ∃ v uv name S, vs = [uv, .str name, v] ∧ AskG K v uv name S H Q
theorem lotOk.mOk {L : Int} {ts : Tst} (h : lotOk L ts) (L0 : 0 < L) (L12 : L ≤ 12) : mOk ts := by
  cases ts with
  | div m c k => exact ⟨h.1, by have := Int.le_of_dvd L0 h.2; omega⟩
  | row c k => trivial
  | same c k => trivial
theorem tests_ok : ∀ {ds : List Dat} {tss : List Tst}, All2 IsTst ds tss → (∀ ts ∈ tss, Good (coef ts) ∧ mOk ts) → (∀ x ∈ ds, testOk x) ∧ ∀ i, tcBad ds i = none
  | _, _, .nil, _ => ⟨fun x h => (by cases h), fun _ => rfl⟩
  | _, _, .cons (x := x) (y := y) a t, h => by
    obtain ⟨h1, h2⟩ := tests_ok t fun ts hm => h ts (List.mem_cons_of_mem _ hm)
    obtain ⟨g, m⟩ := h y List.mem_cons_self
    obtain ⟨i1, i2⟩ := isTst_of a g m
    refine ⟨fun z hz => ?_, fun i => ?_⟩
    · rcases List.mem_cons.mp hz with rfl | hz
      · exact i2
      · exact h1 z hz
    · show (if isTest x = true then tcBad _ (i + 1) else some i) = none
      rw [if_pos i1]; exact h2 _
theorem AskG.of {K : PySem.W.Frag} {CCa CNa CNu : Addr} {v uv : V} {name : Str} {S : Int → Prop} {H : Hp} {Q : VK} {E : XK} (h : AskG K v uv name S H Q) : spSetOf K CCa CNa CNu [v, .str name, uv] H Q E := by
  obtain ⟨⟨dd, cn, tss, L, ns, h1, h2, h3, h4, h5, h6, h7, h8, h9, h10, h11, h12, h13, rfl⟩, q⟩ := h
  obtain ⟨t1, t2⟩ := tests_ok h4 fun ts hm => ⟨(h6 ts hm).good, (h6 ts hm).lot.mOk h8 h9⟩
  obtain ⟨d1, d2⟩ := h12.dct
  have hb : caseBad dd = none := by unfold caseBad; rw [if_pos h3]; exact t2 0
  refine ⟨v, dd, .str name, .str name, uv, .dct (cD cn), rfl, h1, .str _, h2, by rw [h4.len]; exact h5, t1, h11, d1, ?_⟩
  rw [hb]
  exact ⟨tss, L, ns, h4, fun ts hm => ⟨(h6 ts hm).good.few, (h6 ts hm).good.lim, (h6 ts hm).lot, (h6 ts hm).nz⟩, h7, h8, h9, .inr ⟨name, rfl, h10, .inr ⟨cn, rfl, d2, fun ts hm => ⟨h12.nd, fun p hp h0 => by
    obtain ⟨m1, m2⟩ := List.mem_filter.mp hp
    exact h13 ts hm p m1 (by simpa using m2) h0⟩, q⟩⟩⟩
theorem setG_imp {K : PySem.W.Frag} {CCa CNa CNu : Addr} : ∀ vs H Q E, spSetG K vs H Q E → spSetOf K CCa CNa CNu vs H Q E := fun vs H Q E h => by
  obtain ⟨v, uv, name, S, rfl, h⟩ := h
  exact h.of
theorem setK_imp {K : PySem.W.Frag} {CCa CNa CNu : Addr} : ∀ v u w H Q E, spSetK K [v, u, w] H Q E → spSetOf K CCa CNa CNu [w, u, v] H Q E := fun v u w H Q E h => by
  obtain ⟨v', uv, name, S, e, h⟩ := h
  injection e with e1 e
  injection e with e2 e
  injection e with e3 e
  subst e1; subst e2; subst e3
  exact h.of
/-- what is told, as data -/
def optD : Option Int → Dat | none => .non | some i => .int i
def ansD : Ans → Dat | none => .non | some (lo, hi, p, r) => .tup [optD lo, optD hi, .int p, .int r]
theorem see_opt {F : Fk} {H : Hp} (o : Option Int) : See F H (optI o) (optD o) := by cases o <;> constructor
theorem ans_see {K : PySem.W.Frag} {H : Hp} {v : V} {ans : Ans} (h : ansV H v ans) : SeeF K H v (ansD ans) := by
  match ans, h with
  | none, h => have h : v = .non := h; subst h; exact .non
  | some (lo, hi, p, r), h =>
    obtain ⟨q, rfl, hq⟩ := h
    exact .tup hq (.cons (see_opt _) (.cons (see_opt _) (.cons (.int _) (.cons (.int _) .nil))))
theorem ansV.mono {H H' : Hp} {v : V} {ans : Ans} (h : ansV H v ans) (e : ∀ b o, v = .ref b → H b = some o → H' b = some o) : ansV H' v ans := by
  match ans, h with
  | none, h => exact h
  | some (lo, hi, p, r), h =>
    obtain ⟨q, rfl, hq⟩ := h
    exact ⟨q, rfl, e _ _ rfl hq⟩
theorem dep_flat {d : Dat} (h : flatD d = true) (n : Nat) : Dep n d := by cases n <;> cases d <;> first | trivial | cases h
theorem Dep.up : ∀ (n : Nat) (d : Dat), Dep n d → Dep (n + 1) d
  | 0, d, h => Step.imp (fun _ z => z.elim) d h
  | n + 1, d, h => Step.imp (fun d z => Dep.up n d z) d h
theorem Dep.le {n m : Nat} (h : n ≤ m) {d : Dat} (z : Dep n d) : Dep m d := by
  induction h with
  | refl => exact z
  | step _ ih => exact Dep.up _ _ ih
theorem dep_lst {n : Nat} {ds : List Dat} (h : ds.length ≤ 1000) (hd : ∀ d ∈ ds, Dep n d) : Dep (n + 1) (.lst ds) := ⟨h, hd⟩
theorem dep_tup {n : Nat} {ds : List Dat} (h : ds.length ≤ 1000) (hd : ∀ d ∈ ds, Dep n d) : Dep (n + 1) (.tup ds) := ⟨h, hd⟩
theorem dep_opt (o : Option Int) (n : Nat) : Dep n (optD o) := by cases o <;> exact dep_flat rfl n
theorem dep_ans (ans : Ans) : Dep 1 (ansD ans) := by
  match ans with
  | none => exact dep_flat rfl 1
  | some (lo, hi, p, r) => exact dep_tup (n := 0) (by simp) (allC' (dep_opt _ 0) (allC' (dep_opt _ 0) (allC' (dep_flat rfl 0) (allC' (dep_flat rfl 0) fun d h => by cases h))))
/-! what is drawn, handed -/
theorem DrOk.good {d : Dr} (h : DrOk d) {ts : Tst} (hm : ts ∈ d.tss) : (keys (coef ts)).Nodup ∧ nought ∉ keys (coef ts) ∧ (coef ts).length ≤ 12 ∧ ∀ p ∈ coef ts, p.1 ∈ pool ∧ p.2.natAbs ≤ 10 ∧ (p.1 ≠ d.name → p.1 ∈ keys d.cn) := by
  have g := h.ok ts hm
  have pl : ∀ p ∈ coef ts, p.1 ∈ pool ∧ p.2.natAbs ≤ 10 ∧ (p.1 ≠ d.name → p.1 ∈ keys d.cn) := fun p hp => by
    obtain ⟨h1, h2⟩ := g.mem p hp
    rcases List.mem_cons.mp h1 with e | h1
    · exact ⟨by rw [e]; exact h.nm, h2, fun z => (z e).elim⟩
    · exact ⟨h.pl _ h1, h2, fun _ => h1⟩
  exact ⟨g.told.nd, fun z => by obtain ⟨p, hp, e⟩ := List.mem_map.mp z; exact pool_no.1 (e ▸ (pl p hp).1), g.len, pl⟩
theorem DrOk.gh {d : Dr} (h : DrOk d) : GH 4 (.lst (d.tss.map tstD)) := gh_case (by have := h.len; omega) fun ts hm => ⟨(h.good hm).2.2.1, (h.good hm).1, (h.good hm).2.1⟩
theorem DrOk.hand {d : Dr} {d' : Dat} (h : DrOk d) (r : RH 4 (.lst (d.tss.map tstD)) d') : isSq d' = true ∧ ∃ tss', All2 IsTst (items d') tss' ∧ HCase d.tss tss' := hand_case (fun ts hm => ⟨(h.good hm).1, (h.good hm).2.1⟩) r
/-- numbers that say the same -/
structure NumsOf (d : Dr) (cn2 : Coef) : Prop where
  nd : (keys cn2).Nodup
  len : cn2.length ≤ 14
  co : ∀ n, n ≠ d.name → n ≠ other5 → co cn2 n = co d.cn n
  has : ∀ n ∈ keys d.cn, n ∈ keys cn2
  pl : ∀ p ∈ cn2, p.1 ∈ nought :: other5 :: pool ∧ p.2.natAbs ≤ 10000000000000000
theorem DrOk.numb {d : Dr} (h : DrOk d) : ∀ p ∈ d.cn, p.2.natAbs ≤ 10000000000000000 := fun p hp => by
  have h1 := h.cb p.1
  rw [co_of_mem (n := p.1) (i := p.2) h.nd hp] at h1
  omega
theorem DrOk.nums {d : Dr} (h : DrOk d) : NumsOf d d.cn := ⟨h.nd, by have := h.cl; omega, fun _ _ _ => rfl, fun _ h => h, fun p hp => ⟨List.mem_cons_of_mem _ (List.mem_cons_of_mem _ (h.pl _ (List.mem_map.mpr ⟨p, hp, rfl⟩))), h.numb p hp⟩⟩
theorem DrOk.more {d : Dr} (h : DrOk d) {z : Int} (z0 : 0 ≤ z) (z1 : z < 99) : NumsOf d (d.cn ++ [(d.name, z), (other5, 5)]) := by
  have ho : other5 ∉ keys d.cn := fun m => pool_no.2 (h.pl _ m)
  have hne : d.name ≠ other5 := fun e => pool_no.2 (e ▸ h.nm)
  have hk : keys [(d.name, z), (other5, (5 : Int))] = [d.name, other5] := rfl
  refine ⟨?_, by rw [List.length_append]; have := h.cl; simp; omega, fun n h1 h2 => ?_, fun n hn => by rw [keys_app]; exact List.mem_append.mpr (.inl hn), fun p hp => ?_⟩
  · rw [keys_app, List.nodup_append, hk]
    refine ⟨h.nd, by simp [hne], fun x hx y hy e => ?_⟩
    subst e
    simp only [List.mem_cons, List.not_mem_nil, or_false] at hy
    rcases hy with rfl | rfl
    · exact h.nk hx
    · exact ho hx
  · have e1 : d.cn ++ [(d.name, z), (other5, 5)] = (d.cn ++ [(d.name, z)]) ++ [(other5, 5)] := by rw [List.append_assoc]; rfl
    have h3 : other5 ∉ keys (d.cn ++ [(d.name, z)]) := by
      rw [keys_app]
      exact fun m => (List.mem_append.mp m).elim ho fun m => hne (by rw [show other5 = d.name by simpa [keys] using m])
    rw [e1, (co_snoc h3).2 n h2, (co_snoc h.nk).2 n h1]
  · rcases List.mem_append.mp hp with hp | hp
    · exact h.nums.pl p hp
    · simp only [List.mem_cons, List.not_mem_nil, or_false] at hp
      rcases hp with rfl | rfl
      · exact ⟨List.mem_cons_of_mem _ (List.mem_cons_of_mem _ h.nm), by show z.natAbs ≤ _; omega⟩
      · exact ⟨by decide +kernel, by decide⟩
theorem HC.good {c c' : Coef} (h : HC c c') (hl : c.length ≤ 12) (hp : ∀ p ∈ c, p.1 ∈ pool ∧ p.2.natAbs ≤ 10) : Good c' := by
  have m : ∀ p ∈ c', p.1 ∈ nought :: other5 :: pool ∧ p.2.natAbs ≤ 10 := fun p hm => by
    rcases h.mem p hm with h1 | rfl
    · exact ⟨List.mem_cons_of_mem _ (List.mem_cons_of_mem _ (hp p h1).1), (hp p h1).2⟩
    · exact ⟨List.mem_cons_self, by decide⟩
  refine ⟨⟨h.nd, by have := h.len; omega⟩, fun p hm => by have := (m p hm).2; omega, fun n hn => ?_⟩
  obtain ⟨p, hm, rfl⟩ := List.mem_map.mp hn
  exact ⟨(pool_nm _ (m p hm).1).1, (pool_nm _ (m p hm).1).2.1⟩
/-- asked of what is drawn, by what was handed for it -/
theorem DrOk.ask {K : PySem.W.Frag} {d : Dr} (h : DrOk d) {v uv : V} {dd : Dat} {cn2 : Coef} {tss' : List Tst} {H : Hp} {Q : VK} (h1 : SeeF K H v dd) (h2 : SeeF K H uv (.dct (cD cn2))) (sq : isSq dd = true) (h3 : All2 IsTst (items dd) tss') (h4 : HCase d.tss tss') (n : NumsOf d cn2)
    (q : ∀ ans v H', Right (Sol d.name d.cn d.tss) ans → Ex H H' → ansV H' v ans → (∀ q, v = .ref q → H q = none) → Q v H') : AskG K v uv d.name (Sol d.name d.cn d.tss) H Q := by
  have rel : ∀ ts' ∈ tss', ∃ ts ∈ d.tss, ∃ c', ts' = withC ts c' ∧ HC (coef ts) c' := fun ts' hm => by
    obtain ⟨ts, hm', r⟩ := h4.mem_r ts' hm; exact ⟨ts, hm', r⟩
  refine ⟨⟨dd, cn2, tss', d.L, d.name :: keys d.cn, h1, h2, sq, h3, by rw [← h4.length]; have := h.len; omega, fun ts' hm => ?_, ?_, h.L0, h.L12, (pool_nm _ (List.mem_cons_of_mem _ (List.mem_cons_of_mem _ h.nm))).1, (pool_nm _ (List.mem_cons_of_mem _ (List.mem_cons_of_mem _ h.nm))).2.1, ⟨n.nd, by have := n.len; omega, fun m hm => ?_⟩, fun ts' hm p hp hne h0 => ?_, ?_⟩, q⟩
  · obtain ⟨ts, hm', c', rfl, hc⟩ := rel ts' hm
    obtain ⟨g1, g2, g3, g4⟩ := h.good hm'
    refine ⟨by rw [withC_coef]; exact hc.good g3 fun p hp => ⟨(g4 p hp).1, (g4 p hp).2.1⟩, lotOk_withC ts c' (h.ok ts hm').lot, fun y hy => ?_⟩
    rw [withC_coef] at hy
    have h0 := (mem_nz hc.nd).mp hy
    rw [hc.co] at h0
    exact ((h.ok ts hm').mem _ (co_mem h0)).1
  · rw [List.length_cons]; unfold keys; rw [List.length_map]; have := h.cl; omega
  · obtain ⟨p, hp, rfl⟩ := List.mem_map.mp hm
    exact ⟨(pool_nm _ (n.pl p hp).1).1, (pool_nm _ (n.pl p hp).1).2.1⟩
  · obtain ⟨ts, hm', c', rfl, hc⟩ := rel ts' hm
    rw [withC_coef] at hp
    rcases hc.mem p hp with hp | rfl
    · exact n.has _ (((h.good hm').2.2.2 p hp).2.2 hne)
    · exact (h0 rfl).elim
  · exact (sol_hand h4 (fun ts hm => (h.good hm).1) fun ts hm p hp hne => n.co p.1 hne fun e => pool_no.2 (e ▸ ((h.good hm).2.2.2 p hp).1)).symm
end K8

set_option Elab.async false
set_option linter.all false
set_option maxRecDepth 100000
set_option maxHeartbeats 8000000
namespace K8
open PySem PySem.Spec PyProof.Rows L2 M8
/-! the text of a handed case is short -/
theorem sh_term {d : Dat} {c : Coef} {k : Int} (h : IsTerm d c k) (hl : c.length ≤ 20) (hc : ∀ p ∈ c, (reprText p.1).length ≤ 20 ∧ p.2.natAbs ≤ 10000000000000000) (hk : k.natAbs ≤ 10000000000000000) : Sh 2300 2 d := by
  have := sh_sq (T := 1100) (k := 1) h.1 (fun x hx => by
    rw [h.2] at hx
    rcases List.mem_cons.mp hx with rfl | hx
    · exact sh_dct hl hc
    · rw [show x = .int k by simpa using hx]; exact (sh_int hk 1).up (by decide) (by decide))
  rw [h.2] at this
  exact this.up (by show 1100 * 2 + 2 * 2 + 3 ≤ 2300; decide) (Nat.le_refl _)
theorem sh_tst {d : Dat} {ts : Tst} (h : IsTst d ts) (hl : (coef ts).length ≤ 20) (hc : ∀ p ∈ coef ts, (reprText p.1).length ≤ 20 ∧ p.2.natAbs ≤ 10000000000000000) (hk : (kst ts).natAbs ≤ 10000000000000000) (hm : mOk ts) : Sh 7000 3 d := by
  have s1 : (reprText "row").length ≤ 20 := by decide +kernel
  have s2 : (reprText "same").length ≤ 20 := by decide +kernel
  have s3 : (reprText "by").length ≤ 20 := by decide +kernel
  have fin : ∀ {d : Dat}, isSq d = true → (items d).length ≤ 3 → (∀ x ∈ items d, Sh 2300 2 x) → Sh 7000 3 d := fun {d} h1 h2 h3 => by
    refine (sh_sq h1 h3).up ?_ (Nat.le_refl _)
    have : 2300 * (items d).length ≤ 2300 * 3 := Nat.mul_le_mul_left _ h2
    omega
  cases ts with
  | row c k =>
    obtain ⟨h1, t, h2, h3⟩ := h
    exact fin h1 (by rw [h2]; simp) (by rw [h2]; exact allC' ((sh_str s1 2).up (by decide) (Nat.le_refl _)) (allC' (sh_term h3 hl hc hk) fun x h => by cases h))
  | same c k =>
    obtain ⟨h1, t, h2, h3⟩ := h
    exact fin h1 (by rw [h2]; simp) (by rw [h2]; exact allC' ((sh_str s2 2).up (by decide) (Nat.le_refl _)) (allC' (sh_term h3 hl hc hk) fun x h => by cases h))
  | div m c k =>
    obtain ⟨h1, t, h2, h3⟩ := h
    have hm : 0 < m ∧ m ≤ 1000 := hm
    exact fin h1 (by rw [h2]; simp) (by rw [h2]; exact allC' ((sh_str s3 2).up (by decide) (Nat.le_refl _)) (allC' ((sh_int (by omega) 2).up (by decide) (Nat.le_refl _)) (allC' (sh_term h3 hl hc hk) fun x h => by cases h)))
theorem All2.mem_l {α β : Type} {R : α → β → Prop} : ∀ {xs : List α} {ys : List β}, All2 R xs ys → ∀ x ∈ xs, ∃ y ∈ ys, R x y
  | _, _, .nil, x, h => by cases h
  | _, _, .cons a t, x, h => by
    rcases List.mem_cons.mp h with rfl | h
    · exact ⟨_, List.mem_cons_self, a⟩
    · obtain ⟨y, hy, r⟩ := All2.mem_l t x h; exact ⟨y, List.mem_cons_of_mem _ hy, r⟩
theorem DrOk.shw {d : Dr} (h : DrOk d) {dd : Dat} {tss' : List Tst} {cn2 : Coef} (sq : isSq dd = true) (a : All2 IsTst (items dd) tss') (hc : HCase d.tss tss') (n : NumsOf d cn2) : shw (.lst [dd, .dct (cD cn2)]) := by
  have rp : ∀ n ∈ nought :: other5 :: pool, (reprText n).length ≤ 20 := fun n hn => (pool_nm n hn).2.2
  have h1 : ∀ x ∈ items dd, Sh 7000 3 x := fun x hx => by
    obtain ⟨ts', hm', hi⟩ := a.mem_l x hx
    obtain ⟨ts, hm, c', rfl, hC⟩ := hc.mem_r ts' hm'
    obtain ⟨g1, g2, g3, g4⟩ := h.good hm
    refine sh_tst hi (by rw [withC_coef]; have := hC.len; omega) (fun p hp => ?_) (by rw [withC_kst]; have := (h.ok ts hm).kb; omega) (mOk_withC ts c' ((h.ok ts hm).lot.mOk h.L0 h.L12))
    rw [withC_coef] at hp
    rcases hC.mem p hp with hp | rfl
    · exact ⟨rp _ (List.mem_cons_of_mem _ (List.mem_cons_of_mem _ (g4 p hp).1)), by have := (g4 p hp).2.1; omega⟩
    · exact ⟨rp _ List.mem_cons_self, by decide⟩
  have hl : (items dd).length ≤ 7 := by rw [a.len, ← hc.length]; exact h.len
  have h2 : Sh 60000 4 dd := (sh_sq sq h1).up (by
    have : 7000 * (items dd).length ≤ 7000 * 7 := Nat.mul_le_mul_left _ hl
    omega) (Nat.le_refl _)
  have h3 : Sh 60000 4 (.dct (cD cn2)) := (sh_dct (by have := n.len; omega) fun p hp => ⟨rp _ (n.pl p hp).1, (n.pl p hp).2⟩).up (by decide) (by decide)
  have h4 := sh_sq (d := .lst [dd, .dct (cD cn2)]) (T := 60000) (k := 4) rfl (allC' h2 (allC' h3 fun x h => by cases h))
  refine ⟨h4.s, Nat.le_trans h4.l ?_, Nat.le_trans h4.k (by decide), h4.f⟩
  show 60000 * 2 + 2 * 2 + 3 ≤ sizeLine
  rw [sizeLine_eq]; decide
/-- what stays of tuples -/
def TupK (H H' : Hp) : Prop := ∀ b xs, H b = some (.tup xs) → H' b = some (.tup xs)
theorem TupK.trans {H H1 H2 : Hp} (a : TupK H H1) (b : TupK H1 H2) : TupK H H2 := fun x xs h => b x xs (a x xs h)
theorem Ex.tupk {H H' : Hp} (e : Ex H H') : TupK H H' := fun b xs h => e b _ h
theorem TupK.spr {H H' : Hp} {a : Addr} {B : Nat} (e : Exo [a] H H') (s : Spr H a B) : TupK H H' := fun b xs h => e.at1 (fun z => by
  obtain ⟨c, m, n, e, _⟩ := s
  rw [z, e] at h; cases h) h
theorem TupK.upd {H : Hp} {p : Addr} {o : HO} (h : ∀ xs, H p ≠ some (.tup xs)) : TupK H (upd H p o) := fun b xs hb => by
  rw [upd_ne fun z => h xs (by rw [← z]; exact hb)]; exact hb
theorem ansV.tup {H H' : Hp} {v : V} {ans : Ans} (h : ansV H v ans) (e : TupK H H') : ansV H' v ans := by
  match ans, h with
  | none, h => exact h
  | some (lo, hi, p, r), h =>
    obtain ⟨q, rfl, hq⟩ := h
    exact ⟨q, rfl, e _ _ hq⟩
theorem Exo.more {S S' : List Addr} {H H' : Hp} (e : Exo S H H') (h : ∀ b ∈ S, b ∈ S') : Exo S' H H' := fun b o nb hb => e b o (fun z => nb (h b z)) hb
/-! told values of two cases, in turns -/
section
variable {P : Program} {w : World} {K : PySem.W.Frag} {mg : Str → Option Value} {base : Heap}
def spCaseR : Sp := fun vs H Q _ => ∃ a B, vs = [.ref a] ∧ Spr H a B ∧ B + 60000 < lot ∧ ∀ H', Exo [a] H H' → Spr H' a (B + 40000) → Q (.bl true) H'
abbrev s__law_case_right : Stmt := top 59
theorem sc__law_case_right : FnScope ["source", "rows", "held", "name", "case", "numbers", "due", "more", "passed", "was", "found", "k"] ["source"] (defScope s__law_case_right) := ⟨rfl, rfl, rfl, by decide +kernel, rfl, by decide +kernel, by decide +kernel⟩
theorem ok__law_case_right (T : Txt K mg) {CCa CNa CNu : Addr} (a : At K mg "_law_case_right" s__law_case_right ["source"]) (h_set_of : At K mg "set_of" s_set_of ["case", "name", "numbers"]) (FTs : ∀ {f : Addr} {fd : FuncData}, Fun K "set_of" "set_of" s_set_of f fd → FnOk P w K mg base (L2.CX P w) 7 f fd ["case", "name", "numbers"] (spSetOf K CCa CNa CNu))
    (Oset_of : Ok P w K mg base (L2.CX P w) 7 "set_of" ["case", "name", "numbers"] (spSetOf K CCa CNa CNu)) (O_law_drawn : Ok P w K mg base CX0 4 "_law_drawn" ["source"] (spDrawn K)) (O_law_v_values : Ok P w K mg base CX0 2 "_law_v_values" ["case", "name", "numbers"] (spVValues K)) (O_law_draw : Ok P w K mg base CX0 1 "_law_draw" ["source", "many"] spDraw) (O_law_pick : Ok P w K mg base CX0 2 "_law_pick" ["source", "some"] (spPick K))
    (O_law_q_handed : Ok P w K mg base CX0 6 "_law_q_handed" ["source", "thing"] (spHand K (bH 4) (GH 4) (RH 4))) (O_law_q_put : Ok P w K mg base CX0 1 "_law_q_put" ["held", "other"] spPut) (O_law_same : Ok P w K mg base CX0 4 "_law_same" ["found", "wanted"] (spSameG K (Dep 2))) (O_law_near_right : Ok P w K mg base CX0 3 "_law_near_right" ["case", "name", "numbers", "told"] (spNear K)) : OkG P w K mg base 8 "_law_case_right" ["source"] spCaseR := by
  refine OkG.of a sc__law_case_right (fun vs H Q E h => ?_) (fun f cdv A outer s H vs Q E hA hr h => ?_)
  · obtain ⟨a, B, rfl, _⟩ := h; rfl
  · obtain ⟨a, B, rfl, hs, hB, q⟩ := h
    refine ⟨_, (pss_cons (ps_par (i := 1) (j := 2) rfl sc__law_case_right.nd rfl rfl (by decide) rfl rfl (pa_cons (pe_lc (own := [("k", 11)]) (g := gName 11) (tt := tYes) rfl sc__law_case_right.nd (pi_range1 rfl T.n_range (pa_cons pe_int pa_nil)) (blkOk_by (N := ["source", "rows", "held", "name", "case", "numbers", "due", "more", "passed", "was", "found", "k"]) (sc := defScope s__law_case_right) (by decide +kernel)) (fun _ _ _ _ _ => (pg_name (i := 11) sc__law_case_right.nd rfl (Or.inl rfl))) (fun _ _ _ _ _ => pts_nil) (fun _ _ _ _ _ => (pe_callO O_law_drawn (hr.mono (by first | decide | omega)) rfl (pa_cons (pv 0) pa_nil)))) (pa_cons (pe_lst (pa_cons (pe_lst pa_nil) (pa_cons pe_dnewK pa_nil))) pa_nil)) rfl)
      (pss_cons (ps_for PassesOwn.never rfl (pi_tup (pe_tup (pa_cons (pe_ix (ix_qK (K := K) rfl) (pv 1) pe_int (fun _ _ => rfl)) (pa_cons (pe_ix (ix_qK (K := K) rfl) (pv 1) pe_int (fun _ _ => rfl)) (pa_cons (pe_ix (ix_qK (K := K) rfl) (pv 1) pe_int (fun _ _ => rfl)) pa_nil))))) (pg_tup rfl (pgs_cons (pg_name (i := 3) sc__law_case_right.nd rfl (Or.inl rfl)) (pgs_cons (pg_name (i := 4) sc__law_case_right.nd rfl (Or.inl rfl)) (pgs_cons (pg_name (i := 5) sc__law_case_right.nd rfl (Or.inl rfl)) pgs_nil)))) (pss_cons (ps_set (i := 6) sc__law_case_right.nd rfl (Or.inl rfl) (pe_callO O_law_v_values (hr.mono (by first | decide | omega)) rfl (pa_cons (pv 4) (pa_cons (pv 3) (pa_cons (pv 5) pa_nil)))))
      (pss_cons (ps_set (i := 7) sc__law_case_right.nd rfl (Or.inl rfl) (pe_callTy (call_dictC (K := K) rfl rfl) rfl T.n_dict rfl (pa_cons (pe_op op_cat (LiI.pe_listItems rfl (pv 5) rfl T.n_list rfl) (pe_lst (pa_cons (pe_tup (pa_cons (pv 3) (pa_cons (pe_callO O_law_draw (hr.mono (by first | decide | omega)) rfl (pa_cons (pv 0) (pa_cons pe_int pa_nil))) pa_nil))) (pa_cons (pe_tup (pa_cons pe_str (pa_cons pe_int pa_nil))) pa_nil)))) pa_nil)))
      (pss_cons (ps_set (i := 8) sc__law_case_right.nd rfl (Or.inl rfl) (pe_lst (pa_cons (pe_callO O_law_q_handed (hr.mono (by first | decide | omega)) rfl (pa_cons (pv 0) (pa_cons (pv 4) pa_nil))) (pa_cons (pe_callO O_law_pick (hr.mono (by first | decide | omega)) rfl (pa_cons (pv 0) (pa_cons (pe_lst (pa_cons (pv 5) (pa_cons (pv 7) pa_nil))) pa_nil))) pa_nil))))
      (pss_cons (ps_par (i := 9) (j := 10) rfl sc__law_case_right.nd rfl rfl (by decide) rfl rfl (pa_cons (pe_callB (call_reprB hA (hu200 hr)) rfl T.n_repr rfl (pa_cons (pv 8) pa_nil)) (pa_cons (pe_lst (pa_cons (pe_callX Oset_of setG_imp (hr.mono (by first | decide | omega)) rfl (pa_cons (pe_ix (ix_qK (K := K) rfl) (pv 8) pe_int (fun _ _ => rfl)) (pa_cons (pv 3) (pa_cons (pe_ix (ix_qK (K := K) rfl) (pv 8) pe_int (fun _ _ => rfl)) pa_nil)))) pa_nil)) pa_nil)) rfl)
      (pss_cons (ps_expr (pe_bmK (K := K) rfl (pe_bm PySem.F.plainAttrs_list PySem.F.slot_list_append PySem.F.type_list_append mt_append (pv 10) (pa_cons (pe_callK3 (sp' := spSetK K) h_set_of FTs setK_imp (fun vs H Q E h => by obtain ⟨v, u, n, S, h, _⟩ := h; exact ⟨u, _, v, h⟩) pass_E0 (hr.mono (by first | decide | omega)) rfl (pe_ix (ix_qK (K := K) rfl) (pv 8) pe_int (fun _ _ => rfl)) (pv 3) (pe_ix (ix_qK (K := K) rfl) (pv 8) pe_int (fun _ _ => rfl)) bt_set_of) pa_nil))))
      (pss_cons (ps_expr (pe_bmK (K := K) rfl (pe_bm PySem.F.plainAttrs_list PySem.F.slot_list_append PySem.F.type_list_append mt_append (pv 10) (pa_cons (pe_callX Oset_of setG_imp (hr.mono (by first | decide | omega)) rfl (pa_cons (pe_callO O_law_q_put (hr.mono (by first | decide | omega)) rfl (pa_cons (pe_ix (ix_qK (K := K) rfl) (pv 2) pe_int (fun _ _ => rfl)) (pa_cons (pv 4) pa_nil))) (pa_cons (pv 3) (pa_cons (pe_callO O_law_q_put (hr.mono (by first | decide | omega)) rfl (pa_cons (pe_ix (ix_qK (K := K) rfl) (pv 2) pe_int (fun _ _ => rfl)) (pa_cons (pv 5) pa_nil))) pa_nil)))) pa_nil))))
      (pss_one (ps_if (PW.pt (pw_or (pt_not (pt_val (pe_callO O_law_same (hr.mono (by first | decide | omega)) rfl (pa_cons (pv 10) (pa_cons (pe_op op_rep (pe_lst (pa_cons (pv 6) pa_nil)) pe_int) pa_nil))))) (pw_or (pt_cmpR op_ne (pe_callB (call_reprB hA (hu200 hr)) rfl T.n_repr rfl (pa_cons (pv 8) pa_nil)) (pv 9) (nomark _)) (pw_or1 (pt_not (pt_val (pe_callO O_law_near_right (hr.mono (by first | decide | omega)) rfl (pa_cons (pv 4) (pa_cons (pv 3) (pa_cons (pv 5) (pa_cons (pv 6) pa_nil))))))))))) (pss_one (ps_ret pe_bl)) pss_nil)))))))))
      (pss_one (ps_ret pe_bl)))), ?_⟩
    dsimp only [tSeq, tPar]
    rw [tCons]
    refine tLc_of ?_
    refine ⟨2, rfl, by decide, by decide, ?_⟩
    refine lc_genD (walk_range (lo := 0) (n := 2)) [a] (fun i H' => Spr H' a (B + i * 600)) (fun D i acc H' => ∃ rs : List Dr, rs.length = i ∧ (∀ d ∈ rs, DrOk d) ∧ SeeL (FKK K) (sansL [D, a] H') acc (rs.map drD)) (by decide) (fun b hb => by rw [List.mem_singleton.mp hb]; exact hs.ne) (fun _ _ => trivial) (fun i H' H'' h s => s.at (h a (by simp))) ?_ (by simpa using hs) (fun D hD => ⟨[], rfl, by simp, .nil⟩) ?_ ?_
    · rintro i acc H1 D l0 l hD hN1 ⟨rs, h1, h2, h3⟩
      exact ⟨rs, h1, h2, SeeL.mono (sansL_mono fun b o nb hb => ⟨nb, by rw [upd_ne fun z => nb (by simp [z])]; exact hb⟩) h3⟩
    · rintro i x H1 H2 D acc R1 R2 hi e m hD hDH ⟨rs, h1, h2, h3⟩ hacc ⟨rfl, rfl⟩ k1 _
      have nDa : D ≠ a := fun z => hs.ne (z ▸ hD)
      refine ⟨rfl, yesT ⟨_, rfl, a, B + i * 600, [D, a], rfl, m, by omega, by simp, fun b hb => ?_, fun d v H4 dok e4 s4 sv => k1 v H4 e4 (s4.mono (by omega)) ⟨rs ++ [d], by rw [List.length_append, h1]; rfl, fun d' hd' => ?_, ?_⟩⟩⟩
      · simp only [List.mem_cons, List.not_mem_nil, or_false] at hb
        rcases hb with rfl | rfl
        · rw [hDH]; simp
        · exact m.ne
      · rcases List.mem_append.mp hd' with h | h
        · exact h2 _ h
        · rw [List.mem_singleton.mp h]; exact dok
      · rw [List.map_append]
        exact SeeL.append (SeeL.mono (sansL_mono fun b o nb hb => ⟨nb, e4.at1 (fun z => nb (by simp [z])) hb⟩) h3) (.cons sv .nil)
    · rintro D acc H3 hD e3 s3 ⟨rs, h1, h2, h3⟩ hDH hacc
      match rs, h1, h2, h3 with
      | [d0, d1], _, h2, h3 =>
      have ok0 := h2 d0 (by simp)
      have ok1 := h2 d1 (by simp)
      obtain ⟨v0, v1, rfl, sv0, sv1⟩ : ∃ v0 v1, acc = [v0, v1] ∧ SeeF K (sansL [D, a] H3) v0 (drD d0) ∧ SeeF K (sansL [D, a] H3) v1 (drD d1) := by
        cases h3 with
        | cons x1 t => cases t with
          | cons x2 t => cases t; exact ⟨_, _, rfl, x1, x2⟩
      have nDa : D ≠ a := fun z => hs.ne (by rw [← z]; exact hD)
      refine ⟨Nat.zero_le _, fun h0 hh0 => ?_⟩
      have x1 : Ex H3 (upd H3 h0 (.lst [])) := Ex.new hh0
      have g0 : (upd H3 h0 (.lst [])) h0 = some (.lst []) := upd_same
      generalize upd H3 h0 (.lst []) = H4 at x1 g0
      refine fun h1 hh1 => ?_
      have x2 : Ex H4 (upd H4 h1 (.dK [])) := Ex.new hh1
      have g1 : (upd H4 h1 (.dK [])) h1 = some (.dK []) := upd_same
      generalize upd H4 h1 (.dK []) = H5 at x2 g1
      refine ⟨by show 2 ≤ sizeLine; decide, fun hl hhl => ⟨_, _, rfl, ?_⟩⟩
      have x3 : Ex H5 (upd H5 hl (.lst [.ref h0, .ref h1])) := Ex.new hhl
      have g2 : (upd H5 hl (.lst [.ref h0, .ref h1])) hl = some (.lst [.ref h0, .ref h1]) := upd_same
      generalize upd H5 hl (.lst [.ref h0, .ref h1]) = Hb at x3 g2
      have x13 : Ex H3 Hb := (x1.trans x2).trans x3
      have n01 : h0 ≠ h1 := fun z => by rw [← z, g0] at hh1; cases hh1
      have n0a : h0 ≠ a := fun z => s3.ne (by rw [← z]; exact hh0)
      have n1a : h1 ≠ a := fun z => (s3.ex x1).ne (by rw [← z]; exact hh1)
      have sb : Spr Hb a (B + 1200) := s3.ex x13
      have hD3 := x13 _ _ hDH
      have g0b := x3 _ _ (x2 _ _ g0)
      have g1b := x3 _ _ g1
      have nD0 : D ≠ h0 := ne_of_none hDH hh0
      have nD1 : D ≠ h1 := ne_of_none (x1 _ _ hDH) hh1
      have nl0 : hl ≠ h0 := fun z => by rw [z, x2 _ _ g0] at hhl; cases hhl
      have nl1 : hl ≠ h1 := fun z => by rw [z, g1] at hhl; cases hhl
      have nla : hl ≠ a := fun z => ((s3.ex x1).ex x2).ne (by rw [← z]; exact hhl)
      have toB : Ex (sansL [D, a] H3) (sansL [a, h0, h1] Hb) := sansL_mono fun b o nb hb => ⟨fun z => by
        simp only [List.mem_cons, List.not_mem_nil, or_false] at z nb
        rcases z with rfl | rfl | rfl
        · exact nb (.inr rfl)
        · rw [hh0] at hb; exact (nomatch hb)
        · rw [x1 _ _ hb] at hh1; exact (nomatch hh1), x13 _ _ hb⟩
      have sv0 := See.mono toB sv0
      have sv1 := See.mono toB sv1
      have e0b : Exo [a] H Hb := e3.trans (x13.exo _)
      refine tFor_of ?_
      refine ⟨_, rfl, D, _, 0, _, rfl, rfl, SqQ.l hD3, at0, _, rfl, D, _, 1, _, rfl, rfl, SqQ.l hD3, at1, _, rfl, D, _, 0, _, rfl, rfl, SqQ.l hD3, at0, by show 3 ≤ sizeLine; decide, fun tp htp => ?_⟩
      have x4 : Ex Hb (upd Hb tp (.tup [v0, v1, v0])) := Ex.new htp
      have htp4 : (upd Hb tp (.tup [v0, v1, v0])) tp = some (.tup [v0, v1, v0]) := upd_same
      have ntp : tp ∉ [a, h0, h1] := fun z => by
        simp only [List.mem_cons, List.not_mem_nil, or_false] at z
        rcases z with rfl | rfl | rfl
        · exact sb.ne htp
        · rw [htp] at g0b; cases g0b
        · rw [htp] at g1b; cases g1b
      generalize upd Hb tp (.tup [v0, v1, v0]) = Hc at x4 htp4
      refine ⟨tp, rfl, ⟨_, SqT.of htp4⟩, ?_⟩
      refine for_itB (walk_tup (xs := [v0, v1, v0])) (fun i σ H' => (∃ z3 z4 z5 z6 z7 z8 z9 z10 z11, σ = [some (.ref a), some (.ref D), some (.ref hl), z3, z4, z5, z6, z7, z8, z9, z10, z11]) ∧ Exo [a, h0, h1] Hc H' ∧ Spr H' a (B + 1200 + 12000 * i) ∧ (∃ us, H' h0 = some (.lst us)) ∧ ∃ kvs, H' h1 = some (.dK kvs)) ⟨⟨_, _, _, _, _, _, _, _, _, rfl⟩, Exo.refl _ _, sb.ex x4, ⟨_, x4 _ _ g0b⟩, ⟨_, x4 _ _ g1b⟩⟩ (fun i σ H' _ I => SqT.of (I.2.1 _ _ ntp htp4)) ?_ ?_
      · rintro i x σ H6 H6' iN ⟨⟨z3, z4, z5, z6, z7, z8, z9, z10, z11, rfl⟩, e6, s6, ⟨us0, q0⟩, ⟨kvs0, q1⟩⟩ ⟨rfl, hx⟩
        obtain ⟨d, dok, sv⟩ : ∃ d, DrOk d ∧ SeeF K (sansL [a, h0, h1] Hb) x (drD d) := by
          have hi3 : i < 3 := iN
          match i, hi3, hx with
          | 0, _, hx => obtain rfl : v0 = x := by simpa using hx
                        exact ⟨d0, ok0, sv0⟩
          | 1, _, hx => obtain rfl : v1 = x := by simpa using hx
                        exact ⟨d1, ok1, sv1⟩
          | 2, _, hx => obtain rfl : v0 = x := by simpa using hx
                        exact ⟨d0, ok0, sv0⟩
        have eb6 : Exo [a, h0, h1] Hb H6' := (x4.exo _).trans e6
        have sv := See.mono eb6.sansL sv
        obtain ⟨tq, l, us, nd, kx, rfl, hq, hl6, hus, hnd, rfl⟩ : ∃ tq l us nd kx, x = .ref tq ∧ sansL [a, h0, h1] H6' tq = some (.tup [.str d.name, .ref l, .ref nd]) ∧ sansL [a, h0, h1] H6' l = some (.lst us) ∧ SeeL (FKK K) (sansL [a, h0, h1] H6') us (d.tss.map tstD) ∧ sansL [a, h0, h1] H6' nd = some (.dK kx) ∧ kx = cK d.cn := by
          cases sv with
          | tup h t => cases t with
            | cons a1 t => cases a1; cases t with
              | cons a2 t => cases a2 with
                | lst h2 u2 => cases t with
                  | cons a3 t => cases a3 with
                    | dct h3 k3 => cases t; exact ⟨_, _, _, _, _, rfl, h, h2, u2, h3, cK_of k3⟩
        obtain ⟨nql, hq⟩ := sansL_get hq
        obtain ⟨nll, hl6⟩ := sansL_get hl6
        obtain ⟨nndl, hnd⟩ := sansL_get hnd
        have hl6b := eb6 hl (.lst [.ref h0, .ref h1]) (by simp only [List.mem_cons, List.not_mem_nil, or_false, not_or]; exact ⟨nla, nl0, nl1⟩) g2
        have big : B + 1200 + 12000 * i + 12000 + 20000 < lot := by
          have : i ≤ 2 := by have : i < 3 := iN; omega
          have : 12000 * i ≤ 12000 * 2 := Nat.mul_le_mul_left _ this
          omega
        have hBs : B + 1200 + 12000 * (i + 1) = B + 1200 + 12000 * i + 12000 := by omega
        rw [hBs]
        generalize B + 1200 + 12000 * i = Bi at s6 big
        have ul := hus.len
        rw [List.length_map] at ul
        have husx := SeeL.mono (sansL_ex _ _) hus
        have nda : nd ≠ a := fun z => nndl (by simp [z])
        have nla' : l ≠ a := fun z => nll (by simp [z])
        refine ⟨tq, _, rfl, SqT.of hq, rfl, _, _, rfl, _, _, rfl, _, _, rfl, rfl, ?_⟩
        dsimp only [gName, tSeq]
        refine ⟨_, rfl, _, rfl, _, rfl, l, nd, us, d.tss, d.name, d.cn, d.L, d.name :: keys d.cn, rfl, SqL.of hl6, husx, by have := dok.len; omega, dok.ok, dok.L0, dok.L12, hnd, dok.nd, fun n hn hne => (List.mem_cons.mp hn).elim (fun e => (hne e).elim) id, fun ans vd H7 R e7 hvd nvd => ?_⟩
        have s7 := s6.ex e7
        have hnd7 := e7 _ _ hnd
        dsimp only [gName, tAsg]
        refine ⟨_, rfl, nd, cK d.cn, rfl, hnd7, fun H8 Lq ts e8 hL _ _ hL8 hts8 => ?_⟩
        have e8 : Ex H7 H8 := e8
        have s8 := s7.ex e8
        refine ⟨_, rfl, _, rfl, a, 99, Bi, rfl, s8, by omega, by decide, by decide, fun z H9 z0 z1 e9 s9 => ?_⟩
        have hL9 := e9.at1 (fun z => s7.ne (by rw [← z]; exact hL)) hL8
        have hts9 : Paired (fun p kv => H9 p = some (.tup [kV kv.1, kv.2])) ts (cK d.cn) := Paired.imp (fun p kv h => TupK.spr e9 s8 _ _ h) hts8
        have e69 : Exo [a] H6' H9 := ((e7.trans e8).exo _).trans e9
        refine ⟨by show 2 ≤ sizeLine; decide, fun t1 ht1 => ?_⟩
        have w10 : Ex H9 (upd H9 t1 (.tup [.str d.name, .int z])) := Ex.new ht1
        have g10 : (upd H9 t1 (.tup [.str d.name, .int z])) t1 = some (.tup [.str d.name, .int z]) := upd_same
        generalize upd H9 t1 (.tup [.str d.name, .int z]) = H10 at w10 g10
        refine ⟨by show 2 ≤ sizeLine; decide, fun t2 ht2 => ?_⟩
        have w11 : Ex H10 (upd H10 t2 (.tup [.str "other", .int 5])) := Ex.new ht2
        have g11 : (upd H10 t2 (.tup [.str "other", .int 5])) t2 = some (.tup [.str other5, .int 5]) := upd_same
        generalize upd H10 t2 (.tup [.str "other", .int 5]) = H11 at w11 g11
        refine ⟨by show 2 ≤ sizeLine; decide, fun l2 hl2 => ?_⟩
        have w12 : Ex H11 (upd H11 l2 (.lst [.ref t1, .ref t2])) := Ex.new hl2
        have g12 : (upd H11 l2 (.lst [.ref t1, .ref t2])) l2 = some (.lst [.ref t1, .ref t2]) := upd_same
        generalize upd H11 l2 (.lst [.ref t1, .ref t2]) = H12 at w12 g12
        have w912 := (w10.trans w11).trans w12
        have tsl : ts.length = d.cn.length := by rw [hts8.length, cK_len]
        refine ⟨Lq, l2, _, _, rfl, rfl, w912 _ _ hL9, g12, by rw [List.length_map, sizeLine_eq, tsl]; have := dok.cl; simp only [List.length_cons, List.length_nil]; omega, fun C hC => ?_⟩
        have w13 : Ex H12 (upd H12 C (.lst (ts.map V.ref ++ [.ref t1, .ref t2]))) := Ex.new hC
        have g13 : (upd H12 C (.lst (ts.map V.ref ++ [.ref t1, .ref t2]))) C = some (.lst ((ts ++ [t1, t2]).map V.ref)) := by rw [upd_same, List.map_append]; rfl
        generalize upd H12 C (.lst (ts.map V.ref ++ [.ref t1, .ref t2])) = H13 at w13 g13
        have w913 := w912.trans w13
        have pr13 : Paired (fun p kv => H13 p = some (.tup [kV kv.1, kv.2])) (ts ++ [t1, t2]) (cK (d.cn ++ [(d.name, z), (other5, 5)])) := by
          rw [cK_app]
          exact Paired.app (Paired.imp (fun p kv h => w913 _ _ h) hts9) (.cons (((w11.trans w12).trans w13) _ _ g10) (.cons ((w12.trans w13) _ _ g11) .nil))
        have numM := dok.more z0 z1
        refine ⟨C, ts ++ [t1, t2], _, rfl, g13, pr13, cK_nodup numM.nd, fun ad had => ?_⟩
        generalize hcm : d.cn ++ [(d.name, z), (other5, 5)] = cm at numM had ⊢
        have w14 : Ex H13 (upd H13 ad (.dK (cK cm))) := Ex.new had
        have g14 : (upd H13 ad (.dK (cK cm))) ad = some (.dK (cK cm)) := upd_same
        generalize upd H13 ad (.dK (cK cm)) = H14 at w14 g14
        have e613 : Exo [a] H6' H13 := e69.trans (w913.exo _)
        have e614 : Exo [a] H6' H14 := e613.trans (w14.exo _)
        have s14 := s9.ex (w913.trans w14)
        have q0d := e613.at1 n0a q0
        have q1d := e613.at1 n1a q1
        have na0 : ad ≠ h0 := fun z => by rw [z, q0d] at had; cases had
        have na1 : ad ≠ h1 := fun z => by rw [z, q1d] at had; cases had
        have naa : ad ≠ a := fun z => (s9.ex w913).ne (by rw [← z]; exact had)
        have q0e := w14 _ _ q0d
        have q1e := w14 _ _ q1d
        have sub3 : ∀ b ∈ [a], b ∈ [a, h0, h1] := fun b h => by simp [List.mem_singleton.mp h]
        have b4 : bH 4 = 11700 := rfl
        dsimp only [gName]
        refine ⟨_, rfl, _, rfl, a, .ref l, .lst (d.tss.map tstD), Bi + 1, [a, h0, h1], rfl, s14, by rw [b4]; omega, by simp, fun b hb => ?_, .lst (sansL_at nll (e614.at1 nla' hl6)) (hus.mono (e614.more sub3).sansL), dok.gh, fun v' d' H15 e15 s15 sv15 rh => ?_⟩
        · simp only [List.mem_cons, List.not_mem_nil, or_false] at hb
          rcases hb with rfl | rfl | rfl
          · exact s14.ne
          · rw [q0e]; simp
          · rw [q1e]; simp
        rw [b4] at s15
        obtain ⟨sq, tss', al, hcs⟩ := dok.hand rh
        refine ⟨_, rfl, _, rfl, _, rfl, by show 2 ≤ sizeLine; decide, fun lq hlq => ?_⟩
        have w16 : Ex H15 (upd H15 lq (.lst [.ref nd, .ref ad])) := Ex.new hlq
        have nlqa : lq ≠ a := fun z => s15.ne (by rw [← z]; exact hlq)
        refine ⟨a, lq, _, _, rfl, s15.ex w16, by omega, nlqa, SqQ.l upd_same, by simp, by simp, fun j y H16 hy e16 s16 => ?_⟩
        have e1516 : Exo [a] H15 H16 := (w16.exo _).trans e16
        have e1416 : Exo [a] H14 H16 := e15.trans e1516
        obtain ⟨r, cn2, rfl, num, hr16, nra, nr0, nr1⟩ : ∃ r cn2, y = .ref r ∧ NumsOf d cn2 ∧ H16 r = some (.dK (cK cn2)) ∧ r ≠ a ∧ r ≠ h0 ∧ r ≠ h1 := by
          have hm := List.mem_of_getElem? hy
          simp only [List.mem_cons, List.not_mem_nil, or_false] at hm nndl
          rcases hm with rfl | rfl
          · exact ⟨nd, d.cn, rfl, dok.nums, e1416.at1 nda (e614.at1 nda hnd), nda, fun z => nndl (.inr (.inl z)), fun z => nndl (.inr (.inr z))⟩
          · exact ⟨ad, cm, rfl, numM, e1416.at1 naa g14, naa, na0, na1⟩
        have e616 : Exo [a] H6' H16 := e614.trans e1416
        have sv16 := See.mono ((e1516.more sub3).sansL) sv15
        refine ⟨by show 2 ≤ sizeLine; decide, fun pp hpp => ?_⟩
        have w17 : Ex H16 (upd H16 pp (.lst [v', .ref r])) := Ex.new hpp
        have g17 : (upd H16 pp (.lst [v', .ref r])) pp = some (.lst [v', .ref r]) := upd_same
        generalize upd H16 pp (.lst [v', .ref r]) = H17 at w17 g17
        have s17 := s16.ex w17
        have npa : pp ≠ a := fun z => s16.ne (by rw [← z]; exact hpp)
        have np0 : pp ≠ h0 := fun z => by rw [z, e1416.at1 n0a q0e] at hpp; cases hpp
        have np1 : pp ≠ h1 := fun z => by rw [z, e1416.at1 n1a q1e] at hpp; cases hpp
        have sv17 := See.mono ((w17.exo _).sansL) sv16
        have sr17 : SeeF K (sansL [a, h0, h1] H17) (.ref r) (.dct (cD cn2)) := .dct (sansL_at (by simp [nra, nr0, nr1]) (w17 _ _ hr16)) (seeK_c _)
        have e617 : Exo [a] H6' H17 := e616.trans (w17.exo _)
        have hvd17 : ansV H17 vd ans := ((hvd.tup e8.tupk).tup (TupK.spr e9 s8)).tup ((((w913.trans w14).tupk.trans (TupK.spr e15 s14)).trans (TupK.spr e1516 s15)).trans w17.tupk)
        dsimp only [gName, tPar]
        have hsh := dok.shw sq al hcs num
        refine ⟨_, rfl, FKK K, .ref pp, .lst [d', .dct (cD cn2)], rfl, .lst g17 (.cons (See.mono (sansL_ex _ _) sv17) (.cons (See.mono (sansL_ex _ _) sr17) .nil)), rfl, List.cons_ne_nil _ _, hsh, ?_⟩
        generalize hwas : (toPy (.lst [d', .dct (cD cn2)])).shown = was
        refine ⟨_, rfl, pp, _, 0, _, rfl, rfl, SqQ.l g17, at0, _, rfl, _, rfl, pp, _, 1, _, rfl, rfl, SqQ.l g17, at1, v', .ref r, d.name, _, rfl, dok.ask (See.mono (sansL_ex _ _) sv17) (See.mono (sansL_ex _ _) sr17) sq al hcs num fun ans1 u1 H18 R1 w18 hu1 _ => ?_⟩
        obtain rfl := (right_unique R1 R).symm
        refine ⟨by show 1 ≤ sizeLine; decide, fun F hF => ⟨_, _, rfl, ?_⟩⟩
        have w19 : Ex H18 (upd H18 F (.lst [u1])) := Ex.new hF
        have g19 : (upd H18 F (.lst [u1])) F = some (.lst [u1]) := upd_same
        have w1719 : Ex H17 (upd H18 F (.lst [u1])) := w18.trans w19
        have s19 := s17.ex w1719
        have g17' := w1719 _ _ g17
        have hu1' := hu1.tup w19.tupk
        have hF17 : H17 F = none := w18.free hF
        generalize upd H18 F (.lst [u1]) = H19 at w19 g19 w1719 s19 g17' hu1'
        have sv19 := See.mono ((w1719.exo _).sansL) sv17
        have sr19 := See.mono ((w1719.exo _).sansL) sr17
        refine ⟨_, rfl, .inl ⟨rfl, _, SqL.of g19⟩, _, rfl, pp, _, 1, _, rfl, rfl, SqQ.l g17', at1, _, rfl, _, rfl, pp, _, 0, _, rfl, rfl, SqQ.l g17', at0, v', .ref r, d.name, _, rfl, dok.ask (See.mono (sansL_ex _ _) sv19) (See.mono (sansL_ex _ _) sr19) sq al hcs num fun ans2 u2 H20 R2 w20 hu2 _ => ?_⟩
        obtain rfl := (right_unique R2 R).symm
        refine ⟨F, [u1], u2, rfl, rfl, w20 _ _ g19, by rw [sizeLine_eq]; simp, ?_⟩
        have tF : TupK H20 (upd H20 F (.lst ([u1] ++ [u2]))) := TupK.upd fun xs h => by rw [w20 _ _ g19] at h; cases h
        have g21 : (upd H20 F (.lst ([u1] ++ [u2]))) F = some (.lst [u1, u2]) := upd_same
        have e1721 : Ex H17 (upd H20 F (.lst ([u1] ++ [u2]))) := fun b o hb => by
          rw [upd_ne fun z => by rw [z, hF17] at hb; cases hb]; exact (w1719.trans w20) _ _ hb
        have hu1'' := (hu1'.tup w20.tupk).tup tF
        have hu2' := hu2.tup tF
        generalize upd H20 F (.lst ([u1] ++ [u2])) = H21 at tF g21 e1721 hu1'' hu2'
        have e621 : Exo [a] H6' H21 := e617.trans (e1721.exo _)
        have s21 := s17.ex e1721
        have q0f := e621.at1 n0a q0
        have q1f := e621.at1 n1a q1
        have hl21 := e621.at1 nla hl6b
        have nl0' : l ≠ h0 := fun z => nll (by simp [z])
        have nl1' : l ≠ h1 := fun z => nll (by simp [z])
        have nnd0 : nd ≠ h0 := fun z => nndl (by simp [z])
        have nnd1 : nd ≠ h1 := fun z => nndl (by simp [z])
        refine ⟨_, rfl, .inl ⟨rfl, _, SqL.of g21⟩, _, rfl, hl, _, 0, _, rfl, rfl, SqQ.l hl21, at0, _, rfl, h0, l, rfl, nl0'.symm, .inl ⟨_, us, q0f, e621.at1 nla' hl6, by rw [ul]; have := dok.len; omega, ?_⟩⟩
        have ep0 : Exo [a, h0, h1] H21 (upd H21 h0 (.lst us)) := (Exo.refl _ _).own (by simp)
        have hp0 : (upd H21 h0 (.lst us)) h0 = some (.lst us) := upd_same
        have hp1 : (upd H21 h0 (.lst us)) h1 = some (.dK kvs0) := by rw [upd_ne n01.symm]; exact q1f
        have spA := s21.at (H' := upd H21 h0 (.lst us)) (upd_ne n0a.symm)
        have tp0 : TupK H21 (upd H21 h0 (.lst us)) := TupK.upd fun xs h => by rw [q0f] at h; cases h
        generalize upd H21 h0 (.lst us) = H22 at ep0 hp0 hp1 spA tp0
        have e622 : Exo [a, h0, h1] H6' H22 := (e621.more sub3).trans ep0
        refine ⟨_, rfl, _, rfl, hl, _, 1, _, rfl, rfl, SqQ.l (ep0 _ _ (by simp only [List.mem_cons, List.not_mem_nil, or_false, not_or]; exact ⟨nla, nl0, nl1⟩) hl21), at1, _, rfl, h1, nd, rfl, nnd1.symm, .inr ⟨_, cK d.cn, hp1, e622 _ _ (by simp only [List.mem_cons, List.not_mem_nil, or_false, not_or]; exact ⟨nda, nnd0, nnd1⟩) hnd, cK_nodup dok.nd, ?_⟩⟩
        have ep1 : Exo [a, h0, h1] H22 (upd H22 h1 (.dK (cK d.cn))) := (Exo.refl _ _).own (by simp)
        have hq0 : (upd H22 h1 (.dK (cK d.cn))) h0 = some (.lst us) := by rw [upd_ne n01]; exact hp0
        have hq1 : (upd H22 h1 (.dK (cK d.cn))) h1 = some (.dK (cK d.cn)) := upd_same
        have spB := spA.at (H' := upd H22 h1 (.dK (cK d.cn))) (upd_ne n1a.symm)
        have tp1 : TupK H22 (upd H22 h1 (.dK (cK d.cn))) := TupK.upd fun xs h => by rw [hp1] at h; cases h
        generalize upd H22 h1 (.dK (cK d.cn)) = H23 at ep1 hq0 hq1 spB tp1
        have e2123 : Exo [a, h0, h1] H21 H23 := ep0.trans ep1
        have e623 : Exo [a, h0, h1] H6' H23 := e622.trans ep1
        obtain ⟨cs1, cs2⟩ := case_same (tss := d.tss) fun ts hm => (dok.good hm).1
        refine ⟨.ref h0, .ref h1, d.name, _, rfl, dok.ask (dd := .lst (d.tss.map tstD)) (.lst hq0 (SeeL.mono (sansL_ex _ _) (hus.mono e623.sansL))) (.dct hq1 (seeK_c _)) rfl cs1 cs2 dok.nums fun ans3 u3 H24 R3 w24 hu3 _ => ?_⟩
        obtain rfl := (right_unique R3 R).symm
        have nF : F ∉ [a, h0, h1] := fun z => by
          simp only [List.mem_cons, List.not_mem_nil, or_false] at z
          rcases z with rfl | rfl | rfl
          · exact s17.ne hF17
          · rw [e617.at1 n0a q0] at hF17; cases hF17
          · rw [e617.at1 n1a q1] at hF17; cases hF17
        have g23 := e2123 _ _ nF g21
        refine ⟨F, [u1, u2], u3, rfl, rfl, w24 _ _ g23, by rw [sizeLine_eq]; simp, ?_⟩
        have tF2 : TupK H24 (upd H24 F (.lst ([u1, u2] ++ [u3]))) := TupK.upd fun xs h => by rw [w24 _ _ g23] at h; cases h
        have t1724 : TupK H21 (upd H24 F (.lst ([u1, u2] ++ [u3]))) := (((tp0.trans tp1).trans w24.tupk)).trans tF2
        have g25 : (upd H24 F (.lst ([u1, u2] ++ [u3]))) F = some (.lst [u1, u2, u3]) := upd_same
        have e1725 : Exo [a, h0, h1] H17 (upd H24 F (.lst ([u1, u2] ++ [u3]))) := fun b o nb hb => by
          rw [upd_ne fun z => by rw [z, hF17] at hb; cases hb]
          exact w24 _ _ (e2123 _ _ nb (e1721 _ _ hb))
        have kF : ∀ b o, b ≠ F → H23 b = some o → (upd H24 F (.lst ([u1, u2] ++ [u3]))) b = some o := fun b o nb hb => by rw [upd_ne nb]; exact w24 _ _ hb
        have v1e := hu1''.tup t1724
        have v2e := hu2'.tup t1724
        have v3e := hu3.tup tF2
        have vde := ((hvd17.tup e1721.tupk).tup t1724)
        have spE : Spr (upd H24 F (.lst ([u1, u2] ++ [u3]))) a (Bi + 11703) := ((spB.ex w24).at (upd_ne fun z => nF (by simp [z]))).mono (by omega)
        generalize upd H24 F (.lst ([u1, u2] ++ [u3])) = H25 at tF2 t1724 g25 e1725 kF v1e v2e v3e vde spE
        have e625 : Exo [a, h0, h1] H6' H25 := (e617.more sub3).trans e1725
        have hl25 := e625 _ _ (by simp only [List.mem_cons, List.not_mem_nil, or_false, not_or] at nll ⊢; exact nll) hl6
        have hnd25 := e625 _ _ (by simp only [List.mem_cons, List.not_mem_nil, or_false, not_or] at nndl ⊢; exact nndl) hnd
        have hus25 := SeeL.mono (sansL_ex _ _) (hus.mono e625.sansL)
        have sv25 := See.mono (sansL_ex _ _) (See.mono e1725.sansL sv17)
        have sr25 := See.mono (sansL_ex _ _) (See.mono e1725.sansL sr17)
        have g17e := e1725 _ _ (by simp only [List.mem_cons, List.not_mem_nil, or_false, not_or]; exact ⟨npa, np0, np1⟩) g17
        have nF0 : h0 ≠ F := fun z => nF (by simp [← z])
        have nF1 : h1 ≠ F := fun z => nF (by simp [← z])
        have r0e := kF _ _ nF0 hq0
        have r1e := kF _ _ nF1 hq1
        dsimp only [tIfS, tOr, tNot, tB]
        refine ⟨_, rfl, _, rfl, by show 1 ≤ sizeLine; decide, fun dl hdl => ?_⟩
        have w26 : Ex H25 (upd H25 dl (.lst [vd])) := Ex.new hdl
        have g26 : (upd H25 dl (.lst [vd])) dl = some (.lst [vd]) := upd_same
        generalize upd H25 dl (.lst [vd]) = H26 at w26 g26
        refine ⟨dl, 3, [vd], rfl, rfl, g26, by decide, by decide, by show 3 ≤ sizeLine; decide, fun d3 hd3 => ?_⟩
        have w27 : Ex H26 (upd H26 d3 (.lst [vd, vd, vd])) := Ex.new hd3
        have g27 : (upd H26 d3 (.lst [vd, vd, vd])) d3 = some (.lst [vd, vd, vd]) := upd_same
        have er : (List.replicate (3 : Int).toNat [vd]).flatten = [vd, vd, vd] := rfl
        rw [er]
        generalize upd H26 d3 (.lst [vd, vd, vd]) = H27 at w27 g27
        have w2527 := w26.trans w27
        have vd27 := ans_see (K := K) (vde.tup w2527.tupk)
        refine ⟨.ref F, .ref d3, .lst [ansD ans, ansD ans, ansD ans], rfl, .lst (w2527 _ _ g25) (.cons (ans_see (v1e.tup w2527.tupk)) (.cons (ans_see (v2e.tup w2527.tupk)) (.cons (ans_see (v3e.tup w2527.tupk)) .nil))), .lst g27 (.cons vd27 (.cons vd27 (.cons vd27 .nil))), dep_lst (by simp) (allC' (dep_ans _) (allC' (dep_ans _) (allC' (dep_ans _) fun x h => by cases h))), fun H28 w28 => ⟨_, rfl, iteF ?_⟩⟩
        have w2528 := w2527.trans w28
        refine ⟨_, rfl, FKK K, .ref pp, _, rfl, .lst (w2528 _ _ g17e) (.cons (sv25.mono w2528) (.cons (sr25.mono w2528) .nil)), rfl, List.cons_ne_nil _ _, hsh, ?_⟩
        rw [hwas]
        refine ⟨_, rfl, rfl, _, rfl, ?_⟩
        rw [show decide (V.str was = V.str was) = true from decide_eq_true rfl]
        refine iteF ?_
        refine ⟨_, rfl, _, rfl, _, rfl, _, rfl, l, nd, us, d, vd, ans, rfl, w2528 _ _ hl25, SeeL.mono w2528 hus25, dok, w2528 _ _ hnd25, vde.tup w2528.tupk, R, fun H29 w29 => ⟨_, rfl, iteF ?_⟩⟩
        have w2529 := w2528.trans w29
        exact ⟨⟨_, _, _, _, _, _, _, _, _, rfl⟩, e6.trans (e625.trans (w2529.exo _)), (spE.ex w2529).mono (by omega), ⟨_, w2529 _ _ r0e⟩, ⟨_, w2529 _ _ r1e⟩⟩
      · rintro σ H6 ⟨⟨z3, z4, z5, z6, z7, z8, z9, z10, z11, rfl⟩, e6, s6, _, _⟩
        refine q _ (fun b o nb hb => ?_) (s6.mono (by show B + 1200 + 12000 * 3 ≤ _; omega))
        have hb3 := e3 b o nb hb
        refine e6 b o ?_ (x4 _ _ (x13 _ _ hb3))
        intro z
        simp only [List.mem_cons, List.not_mem_nil, or_false] at z
        rcases z with rfl | rfl | rfl
        · exact nb (by simp)
        · rw [hh0] at hb3; cases hb3
        · rw [x1 _ _ hb3] at hh1; cases hh1
end
end K8

set_option Elab.async false
set_option linter.all false
set_option maxRecDepth 100000
set_option maxHeartbeats 4000000
namespace K8
open PySem PySem.Spec PyProof.Rows L2 M8 LamX
/-! many except clauses, each with the error's name -/
abbrev TH := Addr → Value → Option Addr → TS
/-- how a clause's suite ends: the name is gone -/
def gone (i : Nat) (D : Ends) : Ends := ⟨fun τ G => D.nx (τ.set i none) G, D.rt, fun τ G => D.bk (τ.set i none) G, fun τ G => D.ct (τ.set i none) G⟩
/-- the first clause that takes it -/
def wMany (K : PySem.W.Frag) (i : Nat) (D : Ends) : List (Value × TH) → WX
  | [] => fun _ _ _ _ => False
  | (c, t) :: r => fun cls d σ H => ∃ b, PySem.W.exmOne K cls c = some b ∧ (b = false → wMany K i D r cls d σ H) ∧ (b = true → ∀ a, H a = none → t a cls d (gone i D) (σ.set i (some (.ref a))) H)
inductive Hds (X : Cx) (n : Str) : List ExceptHandler → List (Value × TH) → Prop
  | nil : Hds X n [] []
  | cons {x : Str} {c : Value} {k : Stmt} {u : List Stmt} {np p : Pos} {t : TH} {r : List ExceptHandler} {rs : List (Value × TH)} : Names X x c →
      (∀ (a : Addr) (ob : Obj) (cls : Value) (d : Option Addr) (pn : List (Addr × Obj)), Zc cls d ob → (∃ vs, ob.data = .fields vs) → PSs (X.suite a ((a, ob) :: pn)) (k :: u) (t a cls d)) → Hds X n r rs →
      Hds X n (.ExceptHandler (some (.Name x np)) (some n) (k :: u) p :: r) ((c, t) :: rs)
section
variable {X : Cx} {n : Str} {i : Nat} {body : List Stmt} {pos : Pos} {tb : WX → TS}
theorem ps_try_many {h0 : ExceptHandler} {hs0 : List ExceptHandler} {cts : List (Value × TH)} (hst : X.stack = X.env :: X.outer) (hfr : X.env.frame = some X.env.locals) (nd : X.N.Nodup) (hni : X.N[i]? = some n) (hloc : X.env.kindOf n = some .local) (hh : Hds X n (h0 :: hs0) cts)
    (hbody : ∀ (W : WX) (pn : List (Addr × Obj)) (xe : Value → Shared → Prop), Takes (X.tr pn xe) W → PSs (X.tr pn xe) body (tb W)) :
    PS X (.Try body (h0 :: hs0) [] [] pos) (fun D σ H => tb (wMany X.K i D cts) D σ H) := by
  constructor
  intro pins s σ H D I hw
  have iok := I.ok
  have hAfr : X.A.frames = some (X.env :: X.outer) := by rw [iok.frames, hst]
  apply wpAny_Try_except
  refine wpAny_mono ((hbody (wMany X.K i D cts) (X.pn ++ pins) _ (fun u sA thrown => ?_)).run [] s σ H D (I.toTry _) hw) (fun fl sB done => ?_) (fun _ _ z => z)
  · obtain ⟨a, Bq, sI, pins', τ, G, cls, d, rfl, JT, bare, upA, skyA, gon, eos, egs, both⟩ := thrown
    have J0 := JT.ofTry iok
    rw [hst] at skyA
    show wpAny (model X.prog X.w) X.A (noteFrame (.ref a) X.env) _ _ _
    apply Sky.land Zc.steady hAfr hfr skyA
    intro h1 fly1 upB
    have J1 : Inv X pins τ G { sA with heap := h1 } := J0.landed bare fly1.1 (upA.trans upB) eos egs
    obtain ⟨ob1, ws1, at1', zc1, data1⟩ := fly1.there
    have notIn : a ∉ frs (X.env :: X.outer) := by
      intro hm
      obtain ⟨_, ob', e', hno⟩ := fly1.2.2.1.mem hm
      cases at1'.symm.trans e'
      exact hno _ data1
    have aL : a ≠ X.env.locals := by
      intro z
      exact notIn (List.mem_filterMap.mpr ⟨_, List.mem_cons_self, by rw [hfr, z]⟩)
    have aF : a ∉ X.fs := by
      intro hm
      obtain ⟨en, hen, hq⟩ := List.mem_filterMap.mp hm
      exact notIn (List.mem_filterMap.mpr ⟨en, List.mem_cons_of_mem _ hen, hq⟩)
    clear hbody hw
    generalize h0 :: hs0 = hds at hh
    induction hh with
    | nil => exact both.elim
    | @cons x c k u np pp t r rs nm hsu hr ih =>
      obtain ⟨bb, hm, no, yes⟩ := both
      have S1 := J1.suite at1' data1 gon aL aF
      apply wpAny_handleBy_cons (hnb := by intro z; cases z)
      apply codeAny_handlers_test
      have lk : PySem.W.Looks (model X.prog X.w) h1 (typeOf (.ref a)) cls := by
        intro A Q E s' kk q
        exact wpAny_typeOf_ref (kk _ _ at1') (by rw [zc1.1]; exact q)
      have ex1 := PySem.W.exm_one (M := model X.prog X.w) J1.kIn lk hm
      have named : ∀ {Q : Value → Shared → Prop} {E : Value → Shared → Prop}, Q c { sA with heap := h1 } → wpAny (model X.prog X.w) (X.A.mark (some (.ref a))) (eval (.Name x np) X.env) Q E { sA with heap := h1 } := by
        intro Q E q
        obtain ⟨n1, n2, n3 | ⟨n3, n4, n5⟩⟩ := nm
        · exact ld_glob (X := X.suite a ((a, ob1) :: (X.pn ++ pins))) S1 n1 n3 q n2
        · exact ld_blt (X := X.suite a ((a, ob1) :: (X.pn ++ pins))) S1 n1 n3 n4 q n5 n2
      apply named
      apply ex1.here
      cases bb with
      | false => exact ih (no rfl)
      | true =>
        apply codeAny_handlers_suite_as
        apply HandSPX.lands_againZ fly1
        intro h2 fly2 upC
        have J2 : Inv X pins τ G { sA with heap := h2 } := J0.landed bare fly2.1 ((upA.trans upB).trans upC) eos egs
        obtain ⟨ob2, ws2, at2', zc2, data2⟩ := fly2.there
        have S2 := J2.suite at2' data2 gon aL aF
        apply store_ok (X := X.suite a ((a, ob2) :: (X.pn ++ pins))) (v := .ref a) S2 nd hni (.inl hloc) rfl (hf := .inr hloc)
        intro s5 S5
        refine wpAny_mono ((hsu a ob2 cls d (X.pn ++ pins) zc2 ⟨_, data2⟩).run [] s5 _ G _ S5 (yes rfl a gon)) (fun fl s6 got => ?_) (fun _ _ z => z.elim)
        have close : ∀ {σ6 : L2.St} {H6 : Hp} {Q : Shared → Prop}, Inv (X.suite a ((a, ob2) :: (X.pn ++ pins))) [] σ6 H6 s6 → (∀ s7, Inv X pins (σ6.set i none) H6 s7 → Q s7) → wpAny (model X.prog X.w) X.A (do bindName X.env n .none; unbindBehindTheSuite X.env n pp) (fun _ s7 => Q s7) X.xe s6 := by
          intro σ6 H6 Q S6 hq
          exact gone_ok (S6.unsuite iok) nd hni hloc hq
        rcases fl with _ | _ | _ | u
        · obtain ⟨σ6, H6, S6, q6⟩ := got; exact close S6 fun s7 J7 => ⟨_, _, J7, q6⟩
        · obtain ⟨σ6, H6, S6, q6⟩ := got; exact close S6 fun s7 J7 => ⟨_, _, J7, q6⟩
        · obtain ⟨σ6, H6, S6, q6⟩ := got; exact close S6 fun s7 J7 => ⟨_, _, J7, q6⟩
        · obtain ⟨v6, σ6, H6, S6, r6, q6⟩ := got; exact close S6 fun s7 J7 => ⟨_, _, _, J7, r6, q6⟩
  · rcases fl with _ | _ | _ | u
    · obtain ⟨τ, G, J, q⟩ := done; exact wpAny_execs_nil ⟨τ, G, J.ofTry iok, q⟩
    · obtain ⟨τ, G, J, q⟩ := done; exact ⟨τ, G, J.ofTry iok, q⟩
    · obtain ⟨τ, G, J, q⟩ := done; exact ⟨τ, G, J.ofTry iok, q⟩
    · obtain ⟨v, τ, G, J, r, q⟩ := done; exact ⟨v, τ, G, J.ofTry iok, r, q⟩
end
end K8

set_option Elab.async false
set_option linter.all false
set_option maxRecDepth 100000
set_option maxHeartbeats 4000000
namespace K8
open PySem PySem.Spec PyProof.Rows L2 M8 LamX
/-! what a call is met with: three errors -/
/-- an error of class C with its one field, told under a tag -/
def ToldE (C : Addr) (f tag : Str) (Q : VK) (cls : Value) (d : Option Addr) (H' : Hp) : Prop := cls = .ref C ∧ ∃ (dd : Addr) (fs : List (Str × V)) (v : V), d = some dd ∧ H' dd = some (.xd fs) ∧ fs.lookup f = some v ∧ ∀ p, H' p = none → Q (.ref p) (upd H' p (.tup [.str tag, v]))
structure ErrC (K : PySem.W.Frag) (mg : Str → Option Value) (CCa CNa CNu : Addr) : Prop where
  bCa : BadCa K mg CCa
  bNa : BadNa K mg CNa
  bNu : BadNu K mg CNu
  ne : List.Pairwise (fun a b : Addr => PySem.W.exmOne K (.ref b) (.ref a) = some false) [CCa, CNa, CNu]
def TTmet (CCa CNa CNu : Addr) : (XK → Hp → VK → Prop) → Hp → VK → Prop := fun tl H Q =>
  tl (fun cls d H' => ToldE CCa "index" "case" Q cls d H' ∨ ToldE CNa "name" "name" Q cls d H' ∨ ToldE CNu "numbers" "numbers" Q cls d H')
    H (fun v H1 => [V.str "told", v].length ≤ sizeLine ∧ ∀ p, H1 p = none → Q (.ref p) (upd H1 p (.tup [.str "told", v])))
abbrev s__law_met : Stmt := top 56
theorem sc__law_met : FnScope ["ask", "e"] ["ask"] (defScope s__law_met) := ⟨rfl, rfl, rfl, by decide +kernel, rfl, by decide +kernel, by decide +kernel⟩
theorem pss_ex {X : Cx} {b : List Stmt} {ε : Type} {p : ε → Prop} {t : ε → TS} (h : ∀ e, p e → PSs X b (t e)) : PSs X b (fun D σ H => ∃ e, p e ∧ t e D σ H) := ⟨fun pins s σ H D I q => by
  obtain ⟨e, pe, q⟩ := q
  exact (h e pe).run pins s σ H D I q⟩
theorem pvL {X : Cx} (i n : Nat) {x : Str} {pos : Pos} (hN : X.N[i]? = some x := by rfl) (hn : X.N.length = n := by rfl) (hv : Vis X.env.scope x := by first | exact Or.inl rfl | exact Or.inr (Or.inl rfl) | exact Or.inr (Or.inr rfl)) (hd : (x == ("__debug__" : Str)) = false := by decide)
    (hcd : (x == ("__classdict__" : Str)) = false := by decide) : PE X (.Name x pos) (fun σ H Q => σ.length = n → tVar i σ H Q) := ⟨fun pins s σ H Q I q => (pe_var hN hv hd hcd).run pins s σ H Q I (q (by rw [← hn]; exact I.len))⟩
theorem met_gives {X : Cx} {CCa CNa CNu g : Addr} {cdg : Value} {q : Str} (B : ErrC X.K X.mg CCa CNa CNu) : GivesTo X ["ask", "e"] "_law_met" (defScope s__law_met) g cdg (defBody s__law_met) "ask" q (TTmet CCa CNa CNu) := by
  intro f c' s H Q tl act hc h
  refine ⟨_, pss_one (ps_try_many (X := (cxOf C8.CX0 X.prog X.w X.K X.mg X.base ["ask", "e"] "_law_met" (defScope s__law_met) g cdg X.A X.stack s H C8.E0).nox) (i := 1)
      (tb := fun W D σ H => ∃ Ech : XK, (∀ cls d σ' H', Ech cls d H' → W cls d σ' H') ∧ tRet (tTup (tCons (tC (.str "told")) (tCons (fun σZ HZ Q => σZ[0]? = some (some (.ref f)) ∧ HZ c' = some (CodeO c' q) ∧ tl Ech HZ Q) tNil))) D σ H)
      rfl rfl sc__law_met.nd rfl rfl (.cons ⟨rfl, rfl, .inl B.bCa.gC⟩ (fun a oe cls d pn hz hf => pss_one (ps_ret (pe_tup (pa_cons pe_str (pa_cons (pe_xf B.bCa.xf B.bCa.no hz hf (pvL 1 2)) pa_nil))))) (.cons ⟨rfl, rfl, .inl B.bNa.gC⟩ (fun a oe cls d pn hz hf => pss_one (ps_ret (pe_tup (pa_cons pe_str (pa_cons (pe_xf B.bNa.xf B.bNa.no hz hf (pvL 1 2)) pa_nil))))) (.cons ⟨rfl, rfl, .inl B.bNu.gC⟩ (fun a oe cls d pn hz hf => pss_one (ps_ret (pe_tup (pa_cons pe_str (pa_cons (pe_xf B.bNu.xf B.bNu.no hz hf (pvL 1 2)) pa_nil))))) .nil)))
      (fun W pn xe tk => ?_)), ?_⟩
  · exact pss_ex fun Ech hW => pss_one (ps_ret (pe_tup (pa_cons pe_str (pa_cons (act W pn xe Ech _ _ tk hW) pa_nil))))
  · refine ⟨fun cls d H' => ToldE CCa "index" "case" Q cls d H' ∨ ToldE CNa "name" "name" Q cls d H' ∨ ToldE CNu "numbers" "numbers" Q cls d H', ?_, rfl, hc, h⟩
    have ne := List.pairwise_iff_getElem.mp B.ne
    rintro cls d σ' H' (⟨h1, dd, fs, v, h2, h3, h4, h5⟩ | ⟨h1, dd, fs, v, h2, h3, h4, h5⟩ | ⟨h1, dd, fs, v, h2, h3, h4, h5⟩)
    · refine ⟨true, (by rw [h1]; exact B.bCa.te), (fun z => by cases z), fun _ a ha hl => ?_⟩
      have hl2 : (σ'.set 1 (some (V.ref a))).length = 2 := hl
      rw [List.length_set] at hl2
      exact ⟨.ref a, List.getElem?_set_self (by omega), rfl, h1, dd, fs, v, h2, h3, h4, by show 2 ≤ sizeLine; decide, fun p hp => h5 p hp⟩
    · refine ⟨false, (by rw [h1]; exact ne 0 1 (by simp) (by simp) (by decide)), (fun _ => ⟨true, (by rw [h1]; exact B.bNa.te), (fun z => by cases z), fun _ a ha hl => ?_⟩), (fun z => by cases z)⟩
      have hl2 : (σ'.set 1 (some (V.ref a))).length = 2 := hl
      rw [List.length_set] at hl2
      exact ⟨.ref a, List.getElem?_set_self (by omega), rfl, h1, dd, fs, v, h2, h3, h4, by show 2 ≤ sizeLine; decide, fun p hp => h5 p hp⟩
    · refine ⟨false, (by rw [h1]; exact ne 0 2 (by simp) (by simp) (by decide)), (fun _ => ⟨false, (by rw [h1]; exact ne 1 2 (by simp) (by simp) (by decide)), (fun _ => ⟨true, (by rw [h1]; exact B.bNu.te), (fun z => by cases z), fun _ a ha hl => ?_⟩), (fun z => by cases z)⟩), (fun z => by cases z)⟩
      have hl2 : (σ'.set 1 (some (V.ref a))).length = 2 := hl
      rw [List.length_set] at hl2
      exact ⟨.ref a, List.getElem?_set_self (by omega), rfl, h1, dd, fs, v, h2, h3, h4, by show 2 ≤ sizeLine; decide, fun p hp => h5 p hp⟩
/-! the table of a def's lambdas -/
def T0 (P : Addr) : List (Addr × Str) := [(P, ("_law_refused_right.<locals>." : Str) ++ "<lambda>")]
def ExoN (a : Addr) (H H' : Hp) : Prop := ∀ b o, b ≠ a → H b = some o → (∀ ps, o ≠ .tbl ps) → H' b = some o
theorem ExoN.ext {a : Addr} {H H1 H2 : Hp} (h : ExoN a H H1) (e : ExtN H1 H2) : ExoN a H H2 := fun b o nb hb nt => e _ _ (h b o nb hb nt) nt
theorem Exo.exoN {a : Addr} {H H' : Hp} (e : Exo [a] H H') : ExoN a H H' := fun b o nb hb _ => e.at1 nb hb
/-- only lists and dicts are changed: tables stay -/
def Soft (H H' : Hp) : Prop := ∀ b o, H b = some o → (∀ xs, o ≠ .lst xs) → (∀ kvs, o ≠ .dK kvs) → H' b = some o
theorem tabs_soft {T : List (Addr × Str)} {H H' : Hp} (t : Tabs T H) (s : Soft H H') : Tabs T H' := fun p hp => by
  obtain ⟨ps, h1, h2, h3⟩ := t p hp
  refine ⟨ps, s _ _ h1 (fun xs z => by cases z) (fun xs z => by cases z), h2, fun pos cv hc => ?_⟩
  obtain ⟨c2, h4, h5⟩ := h3 pos cv hc
  exact ⟨c2, h4, s _ _ h5 (fun xs z => by cases z) (fun xs z => by cases z)⟩
theorem soft_of {M : List Addr} {H H' : Hp} (m : ∀ b ∈ M, ∃ o, H b = some o ∧ ((∃ xs, o = .lst xs) ∨ ∃ kvs, o = .dK kvs)) (k : ∀ b o, b ∉ M → H b = some o → H' b = some o) : Soft H H' := fun b o hb n1 n2 => by
  by_cases z : b ∈ M
  · obtain ⟨o2, h2, h3⟩ := m b z
    rw [hb] at h2
    cases h2
    rcases h3 with ⟨xs, rfl⟩ | ⟨kvs, rfl⟩
    · exact absurd rfl (n1 xs)
    · exact absurd rfl (n2 kvs)
  · exact k b o z hb
theorem SqL.keepN {K : PySem.W.Frag} {H H' : Hp} {l : Addr} {xs : List V} (h : SqL K H l xs) (e : ∀ o, H l = some o → (∀ ps, o ≠ .tbl ps) → H' l = some o) : SqL K H' l xs := by
  rcases h with (h | ⟨o, h⟩) | h
  · exact .inl (.inl (e _ h fun ps z => by cases z))
  · exact .inl (.inr ⟨o, e _ h fun ps z => by cases z⟩)
  · exact .inr h
theorem tabs_exo {T : List (Addr × Str)} {a : Addr} {B : Nat} {H H' : Hp} (e : Exo [a] H H') (s : Spr H a B) (t : Tabs T H) : Tabs T H' := tabs_soft t (soft_of (M := [a]) (fun b hb => by
  obtain ⟨x1, x2, x3, x4, x5⟩ := s
  rw [show b = a by simpa using hb]; exact ⟨_, x4, .inl ⟨_, rfl⟩⟩) fun b o nb h => e b o nb h)
mutual
theorem see_ext {F : Fk} {H H' : Hp} (e : ExtN H H') : ∀ {v : V} {d : Dat}, See F H v d → See F H' v d
  | _, _, .non => .non
  | _, _, .bl b => .bl b
  | _, _, .int i => .int i
  | _, _, .str s => .str s
  | _, _, .lst h t => .lst (e _ _ h (fun ps z => by cases z)) (seeL_ext e t)
  | _, _, .tup h t => .tup (e _ _ h (fun ps z => by cases z)) (seeL_ext e t)
  | _, _, .dct h t => .dct (e _ _ h (fun ps z => by cases z)) (seeK_ext e t)
  | _, _, .fn h => .fn (F.mono (fun b o n h => e b o h n) h)
theorem seeL_ext {F : Fk} {H H' : Hp} (e : ExtN H H') : ∀ {vs : List V} {ds : List Dat}, SeeL F H vs ds → SeeL F H' vs ds
  | _, _, .nil => .nil
  | _, _, .cons h t => .cons (see_ext e h) (seeL_ext e t)
theorem seeK_ext {F : Fk} {H H' : Hp} (e : ExtN H H') : ∀ {vs : List (Key × V)} {ds : List (Key × Dat)}, SeeK F H vs ds → SeeK F H' vs ds
  | _, _, .nil => .nil
  | _, _, .cons h t => .cons (see_ext e h) (seeK_ext e t)
end/-- a def whose code object is known -/
structure AtC (K : PySem.W.Frag) (mg : Str → Option Value) (x : Str) (st : Stmt) (ps : List Str) (c : Addr) : Prop where
  ex : ∃ (f : Addr) (oc : Value) (od : Option Addr) (kV doc pm : Value) (an : Option Addr) (ct : Value) (osl : Array (Option Value)), mg x = some (.ref f) ∧ K.lookup f = some ⟨oc, od, .func (PySem.W.fnOf x x (defArgs st) (defBody st) (defScope st) .none kV doc pm an (.ref c) ct), osl⟩ ∧
    PySem.W.codeIn K (.ref c) x = true ∧ PySem.W.keepIn K (.ref f) = true ∧ L2.Binds K (PySem.W.fnOf x x (defArgs st) (defBody st) (defScope st) .none kV doc pm an (.ref c) ct) ps []
section
variable {P : Program} {w : World} {K : PySem.W.Frag} {mg : Str → Option Value} {base : Heap}
theorem AtC.ok {x : Str} {st : Stmt} {N ps : List Str} {k : Nat} {sp : Sp} {c : Addr} (a : AtC K mg x st ps c) (S : FnScope N ps (defScope st)) (len : ∀ vs H Q E, sp vs H Q E → vs.length = ps.length)
    (hbody : ∀ (f : Addr) (A : Around) (outer : List Env) (s : Shared) (H : Hp) (vs : List V) (Q : VK) (E : XK), Room k (A.deeper (envOfC x (defScope st) s.heap.objs.size f (.ref c))) → sp vs H Q E →
      ∃ t, PSs (cxOf CX0 P w K mg base N x (defScope st) f (.ref c) A outer s H E).nox (defBody st) t ∧ t { nx := fun _ H' => Q .non H', rt := Q } (L2.start N vs) H) : Ok P w K mg base CX0 (k + 1) x ps sp := by
  obtain ⟨f, oc, od, kV, doc, pm, an, ct, osl, hm, lk, hcd, hk, b⟩ := a.ex
  refine ⟨f, _, hm, hk, b, fn_of lk hcd S len fun A outer s H vs Q E hr hsp => ?_⟩
  obtain ⟨t, h, q⟩ := hbody f A outer s H vs Q E hr hsp
  exact ⟨t, h.nox, q⟩
/-- the def that calls what it gets, as the lambda's rule takes it -/
structure MetF (K : PySem.W.Frag) (mg : Str → Option Value) (g : Addr) (oc cdv kV doc pm : Value) (od an : Option Addr) (ct : Value) (osl : Array (Option Value)) : Prop where
  m : mg "_law_met" = some (.ref g)
  k : PySem.W.keepIn K (.ref g) = true
  lk : K.lookup g = some ⟨oc, od, .func (PySem.W.fnOf "_law_met" "_law_met" (defArgs s__law_met) (defBody s__law_met) (defScope s__law_met) .none kV doc pm an cdv ct), osl⟩
  cd : PySem.W.codeIn K cdv "_law_met" = true
  b : L2.Binds K (PySem.W.fnOf "_law_met" "_law_met" (defArgs s__law_met) (defBody s__law_met) (defScope s__law_met) .none kV doc pm an cdv ct) ["ask"] []
end
end K8

set_option Elab.async false
set_option linter.all false
set_option maxRecDepth 100000
set_option maxHeartbeats 4000000
namespace K8
open PySem PySem.Spec PyProof.Rows L2 M8
/-! what is written in the text, with names of which it is known what they show; variable 0 is a text -/
structure GamS (K : PySem.W.Frag) (N : List Addr) (U : List Nat) (Γ : Nat → Dat) (σ : L2.St) (H : Hp) : Prop where
  al : ∀ b ∈ N, H b ≠ none
  vr : ∀ i ∈ U, ∃ v, σ[i]? = some (some v) ∧ SeeF K (sansL N H) v (Γ i)
  zr : 0 ∈ U → ∃ z, Γ 0 = .str z
theorem GamS.ex {K : PySem.W.Frag} {N : List Addr} {U : List Nat} {Γ : Nat → Dat} {σ : L2.St} {H H' : Hp} (g : GamS K N U Γ σ H) (e : Ex H H') : GamS K N U Γ σ H' := by
  refine ⟨fun b hb => ?_, fun i hi => ?_, g.zr⟩
  · cases q : H b with
    | none => exact absurd q (g.al b hb)
    | some o => rw [e _ _ q]; simp
  · obtain ⟨v, h1, h2⟩ := g.vr i hi
    exact ⟨v, h1, h2.mono (sansL_mono fun b o n h => ⟨n, e _ _ h⟩)⟩
def tM (K : PySem.W.Frag) (U : List Nat) (F : (Nat → Dat) → Dat) : TE := fun σ H Q => ∃ N Γ, GamS K N U Γ σ H ∧ ∀ v H', Ex H H' → SeeF K (sansL N H') v (F Γ) → Q v H'
def tMs (K : PySem.W.Frag) (U : List Nat) (n : Nat) (F : (Nat → Dat) → List Dat) : TA := fun σ H Q => ∃ N Γ, GamS K N U Γ σ H ∧ ∀ vs H', vs.length = n → Ex H H' → SeeL (FKK K) (sansL N H') vs (F Γ) → Q vs H'
theorem newLM {N : List Addr} {H : Hp} {p : Addr} (al : ∀ b ∈ N, H b ≠ none) (hp : H p = none) : p ∉ N := fun z => al p z hp
section
variable {X : Cx} {K : PySem.W.Frag} {U : List Nat}
theorem litEM {e : Expr} {F : (Nat → Dat) → Dat} (h : PE X e (tM K U F)) : PE X e (tM K U F) := h
theorem litAM {es : List Expr} {n : Nat} {F : (Nat → Dat) → List Dat} (h : PA X es (tMs K U n F)) : PA X es (tMs K U n F) := h
theorem PE.mC {e : Expr} {v : V} {d : Dat} (h : PE X e (tC v)) (hs : ∀ H, SeeF K H v d) : PE X e (tM K U fun _ => d) := ⟨fun pins s σ H Q I q => by
  obtain ⟨N, Γ, g, q⟩ := q
  exact h.run pins s σ H Q I (q _ _ (Ex.refl _) (hs _))⟩
theorem PE.mV {e : Expr} {i : Nat} (h : PE X e (tVar i)) (hi : i ∈ U) : PE X e (tM K U fun Γ => Γ i) := ⟨fun pins s σ H Q I q => h.run pins s σ H Q I (by
  obtain ⟨N, Γ, g, q⟩ := q
  obtain ⟨v, h1, h2⟩ := g.vr i hi
  exact ⟨v, h1, q _ _ (Ex.refl _) h2⟩)⟩
theorem mz_neg {i : Int} {p1 : Pos} {k : Nat} {pos : Pos} : PE X (.UnaryOp .USub (.Constant (.int i) k p1) pos) (tM K U fun _ => .int (-i)) := ⟨fun pins s σ H Q I q => by
  obtain ⟨N, Γ, g, q⟩ := q
  exact (pe_un un_neg pe_int).run pins s σ H Q I ⟨i, rfl, q _ _ (Ex.refl _) (.int _)⟩⟩
theorem mz_nil : PA X [] (tMs K U 0 fun _ => []) := ⟨fun pos pins s σ H Q I q => by
  obtain ⟨N, Γ, g, q⟩ := q
  exact pa_nil.run pos pins s σ H Q I (q _ _ rfl (Ex.refl _) .nil)⟩
theorem mz_cons {e : Expr} {es : List Expr} {d : (Nat → Dat) → Dat} {ds : (Nat → Dat) → List Dat} (h : PE X e (tM K U d)) {n : Nat} (hr : PA X es (tMs K U n ds)) (hs : starEach (e :: es) X.env = (false, eval e X.env) :: starEach es X.env := by rfl) : PA X (e :: es) (tMs K U (n + 1) fun Γ => d Γ :: ds Γ) :=
  ⟨fun pos pins s σ H Q I q => by
    obtain ⟨N, Γ, g, q⟩ := q
    exact (pa_cons h hr hs).run pos pins s σ H Q I ⟨N, Γ, g, fun v H1 e1 s1 => ⟨N, Γ, g.ex e1, fun vs H2 hl e2 s2 => q _ _ (by rw [List.length_cons, hl]) (e1.trans e2) (.cons (s1.mono (sansL_mono fun b o n h => ⟨n, e2 _ _ h⟩)) s2)⟩⟩⟩
theorem big6M (n : Nat) (h : n ≤ 1000000) : n ≤ sizeLine := by rw [sizeLine_eq]; omega
theorem mz_tup {es : List Expr} {ds : (Nat → Dat) → List Dat} {x1} {pos : Pos} {n : Nat} (h : PA X es (tMs K U n ds)) (hn : n ≤ 1000000 := by decide) : PE X (.Tuple es x1 pos) (tM K U fun Γ => .tup (ds Γ)) :=
  ⟨fun pins s σ H Q I q => by
    obtain ⟨N, Γ, g, q⟩ := q
    exact (pe_tup h).run pins s σ H Q I ⟨N, Γ, g, fun vs H1 hl e1 s1 => ⟨by rw [hl]; exact big6M _ hn, fun p hp => q _ _ (e1.mut (e1.free hp)) (.tup (sansL_at (newLM (g.ex e1).al hp) upd_same) (SeeL.mono (sansL_mono fun b o n h => ⟨n, by rw [upd_ne (ne_of_none h hp)]; exact h⟩) s1))⟩⟩⟩
theorem mz_lst {es : List Expr} {ds : (Nat → Dat) → List Dat} {pos : Pos} {n : Nat} (h : PA X es (tMs K U n ds)) (hn : n ≤ 1000000 := by decide) : PE X (.List es pos) (tM K U fun Γ => .lst (ds Γ)) :=
  ⟨fun pins s σ H Q I q => by
    obtain ⟨N, Γ, g, q⟩ := q
    exact (pe_lst h).run pins s σ H Q I ⟨N, Γ, g, fun vs H1 hl e1 s1 => ⟨by rw [hl]; exact big6M _ hn, fun p hp => q _ _ (e1.mut (e1.free hp)) (.lst (sansL_at (newLM (g.ex e1).al hp) upd_same) (SeeL.mono (sansL_mono fun b o n h => ⟨n, by rw [upd_ne (ne_of_none h hp)]; exact h⟩) s1))⟩⟩⟩
theorem mz_dnil {pos : Pos} : PE X (.Dict [] [] pos) (tM K U fun _ => .dct []) := ⟨fun pins s σ H Q I q => by
  obtain ⟨N, Γ, g, q⟩ := q
  exact pe_dnewK.run pins s σ H Q I (fun p hp => q _ _ (Ex.new hp) (.dct (sansL_at (newLM g.al hp) upd_same) .nil))⟩
theorem mz_d1 {pos : Pos} {k e : Expr} {key : Key} {v : V} {d : Dat} (hk : PE X k (tC (kV key))) (hv : PE X e (tC v)) (hs : ∀ H, SeeF K H v d) : PE X (.Dict [some k] [e] pos) (tM K U fun _ => .dct [(key, d)]) := by
  refine ⟨fun pins s σ H Q I q => (pe_disp (pps_cons hk hv pps_nil) rfl rfl (by simp) (by simp)).run pins s σ H Q I ?_⟩
  obtain ⟨N, Γ, g, q⟩ := q
  intro p hp
  refine ⟨upd_same, [(key, v)], rfl, by simp, q _ _ ((Ex.new hp).mut hp) (.dct (sansL_at (newLM g.al hp) upd_same) (.cons (hs _) .nil))⟩
def kOf : Dat → Key | .str z => .inr z | _ => .inl 0
/-- a dict with the name's own key -/
theorem mz_dv {pos : Pos} {k e : Expr} {v : V} {d : Dat} (h0 : 0 ∈ U) (hk : PE X k (tVar 0)) (hv : PE X e (tC v)) (hs : ∀ H, SeeF K H v d) : PE X (.Dict [some k] [e] pos) (tM K U fun Γ => .dct [(kOf (Γ 0), d)]) := by
  refine ⟨fun pins s σ H Q I q => (pe_disp (pps_cons hk hv pps_nil) rfl rfl (by simp) (by simp)).run pins s σ H Q I ?_⟩
  obtain ⟨N, Γ, g, q⟩ := q
  obtain ⟨v0, h1, h2⟩ := g.vr 0 h0
  obtain ⟨z, hz⟩ := g.zr h0
  have q : ∀ v H', Ex H H' → SeeF K (sansL N H') v (.dct [(kOf (Γ 0), d)]) → Q v H' := q
  rw [hz] at h2 q
  cases h2
  intro p hp
  refine ⟨_, h1, upd_same, [(.inr z, v)], rfl, by simp, q _ _ ((Ex.new hp).mut hp) (.dct (sansL_at (newLM g.al hp) upd_same) (.cons (hs _) .nil))⟩
end
end K8

set_option Elab.async false
set_option linter.all false
set_option maxRecDepth 100000
set_option maxHeartbeats 4000000
namespace K8
open PySem PySem.Spec PyProof.Rows L2 M8
/-! things that are no tests -/
def oddsT (z : Str) : List Dat :=
  let t : Dat := .tup [.dct [(.inr z, .int 1)], .int 0]
  ([.non, .int 5, .str "row", .lst [], .tup [], .dct [], .bl true, .tup [.str "row"], .tup [.str "row", t, .int 1], .tup [.str "rows", t], .tup [.str "by", t]] ++
   [.tup [.str "by", .int 0, t], .tup [.str "by", .bl true, t], .tup [.str "not", .tup [.str "row", t]], .tup [.str "all", .lst []], .tup [.lst [.str "row"], t]]) ++
   [.tup [.str "row", .tup [.dct [(.inr z, .bl true)], .int 0]], .tup [.str "row", .tup [.dct [(.inr z, .int 1)], .non]], .tup [.str "row", .tup [.dct [(.inr "A", .int 1)], .int 0]], .tup [.str "same", .dct [(.inr z, .int 1)]]] ++
   [.tup [.str "row", .tup [.dct [(.inr z, .int 1)]]], .tup [.str "by", .int (-3), t], .tup [.str "row", .tup [.dct [(.inl 5, .int 1)], .int 0]]]
theorem oddsT_no (z : Str) : ∀ d ∈ oddsT z, isTest d = false := by
  have hA : isNameS "A" = false := by decide +kernel
  intro d hd
  simp only [oddsT, List.cons_append, List.nil_append, List.append_nil, List.mem_cons, List.not_mem_nil, or_false] at hd
  rcases hd with rfl | rfl | rfl | rfl | rfl | rfl | rfl | rfl | rfl | rfl | rfl | rfl | rfl | rfl | rfl | rfl | rfl | rfl | rfl | rfl | rfl | rfl | rfl <;>
    first | rfl | (simp [isTest, isSq, isLst, isTup, items, isTerm, isNumbers, isName, keyD, isWhole, isInt, isBool, headRS, headBy, isS, hA]; done) | skip
theorem oddsT_ok {z : Str} (hz : z.cps.size ≤ 1000000) : ∀ d ∈ oddsT z, testOk d := by
  have hA : keyOk (.inr "A") := by show (("A" : Str)).cps.size ≤ 1000000; decide +kernel
  have dk : ∀ (k : Key) (v : Dat), valOk v = true → keyOk k → dctOk (.dct [(k, v)]) := fun k v h1 h2 => ⟨by simp, fun p hp => by rw [show p = (k, v) by simpa using hp]; exact ⟨h1, h2⟩, by simp⟩
  have tk : ∀ (a b : Dat), dctOk a → dctOk b → termOk (.tup [a, b]) := fun a b h1 h2 x hx => by
    have hx : x = a ∨ x = b := by simpa [items] using hx
    rcases hx with rfl | rfl
    · exact h1
    · exact h2
  intro d hd
  simp only [oddsT, List.cons_append, List.nil_append, List.append_nil, List.mem_cons, List.not_mem_nil, or_false] at hd
  rcases hd with rfl | rfl | rfl | rfl | rfl | rfl | rfl | rfl | rfl | rfl | rfl | rfl | rfl | rfl | rfl | rfl | rfl | rfl | rfl | rfl | rfl | rfl | rfl <;>
    first | trivial | exact ⟨rfl, tk _ _ (dk _ _ rfl hz) trivial⟩ | exact ⟨rfl, tk _ _ (dk _ _ rfl trivial) trivial⟩ | (refine ⟨rfl, fun x hx => ?_⟩; simp [items] at hx; done) | exact ⟨rfl, tk _ _ trivial trivial⟩ | exact ⟨rfl, tk _ _ (dk _ _ rfl hA) trivial⟩ | (refine ⟨rfl, fun x hx => ?_⟩; obtain rfl : x = _ := List.mem_singleton.mp hx; exact dk _ _ rfl hz)
section
variable {P : Program} {w : World} {K : PySem.W.Frag} {mg : Str → Option Value} {base : Heap}
def spOddT (K : PySem.W.Frag) : Sp := fun vs H Q _ => ∃ z, vs = [.str z] ∧ ∀ R xs H', H R = none → Ex H H' → H' R = some (.lst xs) → SeeL (FKK K) (sansL [R] H') xs (oddsT z) → Q (.ref R) H'
abbrev s__law_odd_tests : Stmt := top 60
theorem sc__law_odd_tests : FnScope ["one", "term", "found"] ["one"] (defScope s__law_odd_tests) := ⟨rfl, rfl, rfl, by decide +kernel, rfl, by decide +kernel, by decide +kernel⟩
theorem ok__law_odd_tests (T : Txt K mg) (a : At K mg "_law_odd_tests" s__law_odd_tests ["one"]) : Ok P w K mg base CX0 1 "_law_odd_tests" ["one"] (spOddT K) := a.ok fun f fd F => by
  refine F.ok sc__law_odd_tests (fun vs H Q E h => ?_) (fun cdv A outer s H vs Q E hr h => ?_)
  · obtain ⟨z, rfl, _⟩ := h; rfl
  · obtain ⟨z, rfl, q⟩ := h
    refine ⟨_, (pss_cons (ps_set (i := 1) sc__law_odd_tests.nd rfl (Or.inl rfl) (pe_tup (pa_cons (pe_disp (pps_cons (pv 0) pe_int pps_nil) rfl rfl (by simp) (by decide)) (pa_cons pe_int pa_nil))))
      (pss_cons (ps_set (i := 2) sc__law_odd_tests.nd rfl (Or.inl rfl) (pe_lst (litAM (K := K) (U := [0, 1]) (mz_cons (PE.mC pe_non (fun _ => .non)) (mz_cons (PE.mC pe_int (fun _ => .int _)) (mz_cons (PE.mC pe_str (fun _ => .str _)) (mz_cons (mz_lst mz_nil) (mz_cons (mz_tup mz_nil) (mz_cons mz_dnil (mz_cons (PE.mC pe_bl (fun _ => .bl _)) (mz_cons (mz_tup (mz_cons (PE.mC pe_str (fun _ => .str _)) mz_nil)) (mz_cons (mz_tup (mz_cons (PE.mC pe_str (fun _ => .str _)) (mz_cons (PE.mV (U := [0, 1]) (pv 1) (by decide)) (mz_cons (PE.mC pe_int (fun _ => .int _)) mz_nil)))) (mz_cons (mz_tup (mz_cons (PE.mC pe_str (fun _ => .str _)) (mz_cons (PE.mV (U := [0, 1]) (pv 1) (by decide)) mz_nil))) (mz_cons (mz_tup (mz_cons (PE.mC pe_str (fun _ => .str _)) (mz_cons (PE.mV (U := [0, 1]) (pv 1) (by decide)) mz_nil))) mz_nil))))))))))))))
      (pss_cons (ps_expr (pe_bmK (K := K) rfl (pe_bm PySem.F.plainAttrs_list PySem.F.slot_list_extend PySem.F.type_list_extend mt_extend (pv 2) (pa_cons (pe_lst (litAM (K := K) (U := [0, 1]) (mz_cons (mz_tup (mz_cons (PE.mC pe_str (fun _ => .str _)) (mz_cons (PE.mC pe_int (fun _ => .int _)) (mz_cons (PE.mV (U := [0, 1]) (pv 1) (by decide)) mz_nil)))) (mz_cons (mz_tup (mz_cons (PE.mC pe_str (fun _ => .str _)) (mz_cons (PE.mC pe_bl (fun _ => .bl _)) (mz_cons (PE.mV (U := [0, 1]) (pv 1) (by decide)) mz_nil)))) (mz_cons (mz_tup (mz_cons (PE.mC pe_str (fun _ => .str _)) (mz_cons (mz_tup (mz_cons (PE.mC pe_str (fun _ => .str _)) (mz_cons (PE.mV (U := [0, 1]) (pv 1) (by decide)) mz_nil))) mz_nil))) (mz_cons (mz_tup (mz_cons (PE.mC pe_str (fun _ => .str _)) (mz_cons (mz_lst mz_nil) mz_nil))) (mz_cons (mz_tup (mz_cons (mz_lst (mz_cons (PE.mC pe_str (fun _ => .str _)) mz_nil)) (mz_cons (PE.mV (U := [0, 1]) (pv 1) (by decide)) mz_nil))) mz_nil))))))) pa_nil))))
      (pss_cons (ps_expr (pe_bmK (K := K) rfl (pe_bm PySem.F.plainAttrs_list PySem.F.slot_list_extend PySem.F.type_list_extend mt_extend (pv 2) (pa_cons (pe_lst (litAM (K := K) (U := [0, 1]) (mz_cons (mz_tup (mz_cons (PE.mC pe_str (fun _ => .str _)) (mz_cons (mz_tup (mz_cons (mz_dv (by decide) (pv 0) pe_bl (fun _ => .bl _)) (mz_cons (PE.mC pe_int (fun _ => .int _)) mz_nil))) mz_nil))) (mz_cons (mz_tup (mz_cons (PE.mC pe_str (fun _ => .str _)) (mz_cons (mz_tup (mz_cons (mz_dv (by decide) (pv 0) pe_int (fun _ => .int _)) (mz_cons (PE.mC pe_non (fun _ => .non)) mz_nil))) mz_nil))) (mz_cons (mz_tup (mz_cons (PE.mC pe_str (fun _ => .str _)) (mz_cons (mz_tup (mz_cons (mz_d1 (key := .inr "A") pe_str pe_int (fun _ => .int _)) (mz_cons (PE.mC pe_int (fun _ => .int _)) mz_nil))) mz_nil))) (mz_cons (mz_tup (mz_cons (PE.mC pe_str (fun _ => .str _)) (mz_cons (mz_dv (by decide) (pv 0) pe_int (fun _ => .int _)) mz_nil))) mz_nil)))))) pa_nil))))
      (pss_one (ps_ret (pe_op op_cat (pv 2) (pe_lst (litAM (K := K) (U := [0, 1]) (mz_cons (mz_tup (mz_cons (PE.mC pe_str (fun _ => .str _)) (mz_cons (mz_tup (mz_cons (mz_dv (by decide) (pv 0) pe_int (fun _ => .int _)) mz_nil)) mz_nil))) (mz_cons (mz_tup (mz_cons (PE.mC pe_str (fun _ => .str _)) (mz_cons (mz_neg) (mz_cons (PE.mV (U := [0, 1]) (pv 1) (by decide)) mz_nil)))) (mz_cons (mz_tup (mz_cons (PE.mC pe_str (fun _ => .str _)) (mz_cons (mz_tup (mz_cons (mz_d1 (key := .inl 5) pe_int pe_int (fun _ => .int _)) (mz_cons (PE.mC pe_int (fun _ => .int _)) mz_nil))) mz_nil))) mz_nil)))))))))))), ?_⟩
    refine fun p hp => ⟨_, rfl, upd_same, [(.inr z, .int 1)], rfl, by simp, ?_⟩
    have x1 : Ex H (upd (upd H p (.dK [])) p (.dK (mergeK [] [(.inr z, .int 1)]))) := (Ex.new hp).mut hp
    have g1 : (upd (upd H p (.dK [])) p (.dK (mergeK [] [(.inr z, .int 1)]))) p = some (.dK [(.inr z, .int 1)]) := upd_same
    generalize (upd (upd H p (.dK [])) p (.dK (mergeK [] [(.inr z, .int 1)]))) = H1 at x1 g1
    refine ⟨by show 2 ≤ sizeLine; decide, fun t ht => ?_⟩
    have x2 : Ex H1 (upd H1 t (.tup [.ref p, .int 0])) := Ex.new ht
    have st : SeeF K (upd H1 t (.tup [.ref p, .int 0])) (.ref t) (.tup [.dct [(.inr z, .int 1)], .int 0]) := .tup upd_same (.cons (.dct (x2 _ _ g1) (.cons (.int _) .nil)) (.cons (.int _) .nil))
    generalize upd H1 t (.tup [.ref p, .int 0]) = H2 at x2 st
    have gam : ∀ {N : List Addr} {H' : Hp} {y : Option V}, (∀ b ∈ N, H' b ≠ none) → SeeF K (sansL N H') (.ref t) (.tup [.dct [(.inr z, .int 1)], .int 0]) → GamS K N [0, 1] (fun i => match i with | 0 => .str z | _ => .tup [.dct [(.inr z, .int 1)], .int 0]) [some (.str z), some (.ref t), y] H' := fun h s => ⟨h, fun i hi => by
      simp only [List.mem_cons, List.not_mem_nil, or_false] at hi
      rcases hi with rfl | rfl
      · exact ⟨_, rfl, .str z⟩
      · exact ⟨_, rfl, s⟩, fun _ => ⟨z, rfl⟩⟩
    dsimp only [gName]
    refine ⟨[], _, gam (fun b hb => nomatch hb) (See.mono (fun b o h => by simpa [sansL] using h) st), fun vs H3 hl3 e3 s3 => ⟨by rw [hl3]; exact big6 _ (by decide), fun R hR => ?_⟩⟩
    have x4 : Ex H3 (upd H3 R (.lst vs)) := Ex.new hR
    have g4 : (upd H3 R (.lst vs)) R = some (.lst vs) := upd_same
    have toR : ∀ {H' : Hp}, Ex H3 H' → Ex (sansL [] H3) (sansL [R] H') := fun e => sansL_mono fun b o _ h => ⟨fun z => (by rw [List.mem_singleton.mp z, hR] at h; cases h), e _ _ h⟩
    have s4 := SeeL.mono (toR x4) s3
    have st4 : SeeF K (sansL [R] (upd H3 R (.lst vs))) (.ref t) _ := See.mono (fun b o h => sansL_at (fun z => by rw [List.mem_singleton.mp z, e3.free hR] at h; cases h) (x4 _ _ (e3 _ _ h))) st
    have hRH : H R = none := (x1.trans (x2.trans e3)).free hR
    have e04 : Ex H (upd H3 R (.lst vs)) := (x1.trans (x2.trans e3)).trans x4
    generalize upd H3 R (.lst vs) = H4 at x4 g4 s4 st4 e04
    refine ⟨_, rfl, .inl ⟨rfl, _, SqL.of g4⟩, ?_⟩
    refine ⟨[R], _, gam (fun b hb => by rw [List.mem_singleton.mp hb, g4]; simp) st4, fun ws H5 hl5 e5 s5 => ⟨by rw [hl5]; exact big6 _ (by decide), fun R2 hR2 => ?_⟩⟩
    have x6 : Ex H5 (upd H5 R2 (.lst ws)) := Ex.new hR2
    have g6 : (upd H5 R2 (.lst ws)) R2 = some (.lst ws) := upd_same
    generalize upd H5 R2 (.lst ws) = H6 at x6 g6
    have e46 := e5.trans x6
    refine ⟨R, R2, vs, ws, rfl, rfl, e46 _ _ g4, g6, by rw [hl3, hl5, sizeLine_eq]; decide, ?_⟩
    have keepR : ∀ {H' H'' : Hp} {o : HO}, Ex H' H'' → Ex (sansL [R] H') (sansL [R] (upd H'' R o)) := fun e => sansL_mono fun b o n h => ⟨n, by rw [upd_ne (by simpa using n)]; exact e _ _ h⟩
    have s7 : SeeL (FKK K) (sansL [R] (upd H6 R (.lst (vs ++ ws)))) (vs ++ ws) _ := SeeL.append (SeeL.mono (keepR e46) s4) (SeeL.mono (keepR x6) s5)
    have g7 : (upd H6 R (.lst (vs ++ ws))) R = some (.lst (vs ++ ws)) := upd_same
    have st7 := See.mono (keepR (o := .lst (vs ++ ws)) e46) st4
    have e07 : Ex H (upd H6 R (.lst (vs ++ ws))) := fun b o h => by
      rw [upd_ne fun z => by rw [z, hRH] at h; cases h]; exact e46 _ _ (e04 _ _ h)
    generalize upd H6 R (.lst (vs ++ ws)) = H7 at s7 g7 st7 e07
    have vl : (vs ++ ws).length = 16 := by rw [List.length_append, hl3, hl5]
    generalize vs ++ ws = vw at s7 g7 vl
    refine ⟨_, rfl, .inl ⟨rfl, _, SqL.of g7⟩, ?_⟩
    refine ⟨[R], _, gam (fun b hb => by rw [List.mem_singleton.mp hb, g7]; simp) st7, fun us H8 hl8 e8 s8 => ⟨by rw [hl8]; exact big6 _ (by decide), fun R3 hR3 => ?_⟩⟩
    have x9 : Ex H8 (upd H8 R3 (.lst us)) := Ex.new hR3
    have g9 : (upd H8 R3 (.lst us)) R3 = some (.lst us) := upd_same
    generalize upd H8 R3 (.lst us) = H9 at x9 g9
    have e79 := e8.trans x9
    refine ⟨R, R3, vw, us, rfl, rfl, e79 _ _ g7, g9, by rw [vl, hl8, sizeLine_eq]; decide, ?_⟩
    have s10 : SeeL (FKK K) (sansL [R] (upd H9 R (.lst (vw ++ us)))) (vw ++ us) _ := SeeL.append (SeeL.mono (keepR e79) s7) (SeeL.mono (keepR x9) s8)
    have g10 : (upd H9 R (.lst (vw ++ us))) R = some (.lst (vw ++ us)) := upd_same
    have st10 := See.mono (keepR (o := .lst (vw ++ us)) e79) st7
    have e010 : Ex H (upd H9 R (.lst (vw ++ us))) := fun b o h => by
      rw [upd_ne fun z => by rw [z, hRH] at h; cases h]; exact e79 _ _ (e07 _ _ h)
    generalize upd H9 R (.lst (vw ++ us)) = H10 at s10 g10 st10 e010
    have vl2 : (vw ++ us).length = 20 := by rw [List.length_append, vl, hl8]
    generalize vw ++ us = vu at s10 g10 vl2
    refine ⟨_, rfl, ?_⟩
    refine ⟨[R], _, gam (fun b hb => by rw [List.mem_singleton.mp hb, g10]; simp) st10, fun os H11 hl11 e11 s11 => ⟨by rw [hl11]; exact big6 _ (by decide), fun R4 hR4 => ?_⟩⟩
    have x12 : Ex H11 (upd H11 R4 (.lst os)) := Ex.new hR4
    have g12 : (upd H11 R4 (.lst os)) R4 = some (.lst os) := upd_same
    generalize upd H11 R4 (.lst os) = H12 at x12 g12
    have e1012 := e11.trans x12
    refine ⟨R, R4, vu, os, rfl, rfl, e1012 _ _ g10, g12, by rw [vl2, hl11, sizeLine_eq]; decide, fun C hC => ?_⟩
    have e013 := (e010.trans e1012).trans (Ex.new hC (o := .lst (vu ++ os)))
    refine q C (vu ++ os) _ ((e010.trans e1012).free hC) e013 upd_same ?_
    have toC : ∀ {H' : Hp}, Ex H' H12 → Ex (sansL [R] H') (sansL [C] (upd H12 C (.lst (vu ++ os)))) := fun e => sansL_mono fun b o n h => ⟨fun z => (by
      have := e _ _ h
      rw [List.mem_singleton.mp z, hC] at this; cases this), by rw [upd_ne (ne_of_none (e _ _ h) hC)]; exact e _ _ h⟩
    exact SeeL.append (SeeL.mono (toC e1012) s10) (SeeL.mono (toC x12) s11)
end
end K8

set_option Elab.async false
set_option linter.all false
set_option maxRecDepth 100000
set_option maxHeartbeats 4000000
namespace K8
open PySem PySem.Spec PyProof.Rows L2 M8 LamX
/-! dicts with something odd -/
def putD (kds : List (Key × Dat)) (k : Key) (d : Dat) : List (Key × Dat) := if (kds.any fun p => decide (p.1 = k)) = true then kds.map (fun p => if p.1 = k then (p.1, d) else p) else kds ++ [(k, d)]
theorem seeK_any {F : Fk} {H : Hp} {k : Key} : ∀ {vs : List (Key × V)} {ds : List (Key × Dat)}, SeeK F H vs ds → (vs.any fun p => decide (p.1 = k)) = (ds.any fun p => decide (p.1 = k))
  | _, _, .nil => rfl
  | _, _, .cons _ t => by rw [List.any_cons, List.any_cons, seeK_any t]
theorem seeK_put {F : Fk} {H : Hp} {k : Key} {v : V} {d : Dat} (hd : See F H v d) {vs : List (Key × V)} {ds : List (Key × Dat)} (h : SeeK F H vs ds) : SeeK F H (putK vs k v) (putD ds k d) := by
  unfold putK putD
  rw [seeK_any h]
  have m : ∀ {vs : List (Key × V)} {ds : List (Key × Dat)}, SeeK F H vs ds → SeeK F H (vs.map (fun p => if p.1 = k then (p.1, v) else p)) (ds.map (fun p => if p.1 = k then (p.1, d) else p)) := by
    intro vs
    induction vs with
    | nil => intro ds h; cases h; exact .nil
    | cons q vs ih =>
      intro ds h
      cases h with
      | @cons k' v' _ d' _ h1 t =>
        rw [List.map_cons, List.map_cons]
        by_cases e : k' = k
        · rw [if_pos e, if_pos e]; exact .cons hd (ih t)
        · rw [if_neg e, if_neg e]; exact .cons h1 (ih t)
  have ap : ∀ {vs : List (Key × V)} {ds : List (Key × Dat)}, SeeK F H vs ds → SeeK F H (vs ++ [(k, v)]) (ds ++ [(k, d)]) := by
    intro vs
    induction vs with
    | nil => intro ds h; cases h; exact .cons hd .nil
    | cons q vs ih => intro ds h; cases h with | cons h1 t => exact .cons h1 (ih t)
  split
  · exact m h
  · exact ap h
theorem see_cK {F : Fk} {H : Hp} : ∀ {cn : Coef}, SeeK F H (cK cn) (cD cn)
  | [] => .nil
  | _ :: r => .cons (.int _) (see_cK (cn := r))
theorem nums_bad {kds : List (Key × Dat)} {p : Key × Dat} (hp : p ∈ kds) (h : (isName (keyD p.1) && isWhole p.2) = false) : isNumbers (.dct kds) = false := by
  unfold isNumbers
  exact List.all_eq_false.mpr ⟨p, hp, by rw [h]; simp⟩
theorem nums_no {d : Dat} (h : ∀ kds, d ≠ .dct kds) : isNumbers d = false := by
  cases d <;> first | exact absurd rfl (h _) | rfl
theorem dep_nil (n : Nat) : Dep n (.lst []) := by cases n <;> exact ⟨by simp, fun d hd => by cases hd⟩
theorem dep_val {n : Nat} {v : Dat} (h : valOk v = true) (hl : ∀ ds, v = .lst ds → ds.length ≤ 1000) : Dep (n + 1) v := by
  cases v with
  | lst ds => exact dep_lst (hl _ rfl) fun d hd => dep_flat (List.all_eq_true.mp h d hd) n
  | dct kds =>
    cases kds with
    | nil => exact dep_nil n
    | cons _ _ => cases h
  | tup _ => cases h
  | non => exact dep_flat rfl _
  | bl _ => exact dep_flat rfl _
  | int _ => exact dep_flat rfl _
  | str _ => exact dep_flat rfl _
  | fn _ => cases h
theorem dep_dct {n : Nat} {kds : List (Key × Dat)} (hl : kds.length ≤ 1000) (h : ∀ p ∈ kds, valOk p.2 = true ∧ ∀ ds, p.2 = .lst ds → ds.length ≤ 1000) : Dep (n + 4) (.dct kds) := by
  show Dep (n + 3) (rows kds)
  refine dep_lst (n := n + 2) (by rw [List.length_map]; exact hl) fun d hd => ?_
  obtain ⟨⟨k, v⟩, hp, rfl⟩ := List.mem_map.mp hd
  refine dep_tup (n := n + 1) (by simp) (allC' (by cases k <;> exact dep_flat rfl _) (allC' (dep_val (h _ hp).1 (h _ hp).2) fun x hx => by cases hx))
theorem dep_cD {c : Coef} (h : c.length ≤ 1000) (n : Nat) : Dep (n + 4) (.dct (cD c)) := dep_dct (by unfold cD; rw [List.length_map]; exact h) fun p hp => by
  unfold cD at hp
  obtain ⟨q, _, rfl⟩ := List.mem_map.mp hp
  exact ⟨rfl, fun ds z => by cases z⟩
theorem putD_self {kds : List (Key × Dat)} {k : Key} {d : Dat} : (k, d) ∈ putD kds k d := by
  unfold putD
  by_cases h : (kds.any fun p => decide (p.1 = k)) = true
  · rw [if_pos h]
    obtain ⟨p, hp, e⟩ := List.any_eq_true.mp h
    have e : p.1 = k := of_decide_eq_true e
    exact List.mem_map.mpr ⟨p, hp, by rw [if_pos e, e]⟩
  · rw [if_neg h]; simp
theorem putD_mem {kds : List (Key × Dat)} {k : Key} {d : Dat} {p : Key × Dat} (h : p ∈ putD kds k d) : p ∈ kds ∨ (p.2 = d ∧ p.1 = k) := by
  unfold putD at h
  split at h
  · obtain ⟨q, hq, e⟩ := List.mem_map.mp h
    by_cases z : q.1 = k
    · rw [if_pos z] at e; rw [← e]; exact .inr ⟨rfl, z⟩
    · rw [if_neg z] at e; rw [← e]; exact .inl hq
  · rcases List.mem_append.mp h with h | h
    · exact .inl h
    · rw [show p = (k, d) by simpa using h]; exact .inr ⟨rfl, rfl⟩
theorem putD_len {kds : List (Key × Dat)} {k : Key} {d : Dat} : (putD kds k d).length ≤ kds.length + 1 := by
  unfold putD
  split
  · rw [List.length_map]; omega
  · rw [List.length_append]; simp
theorem putD_nodup {kds : List (Key × Dat)} {k : Key} {d : Dat} (h : (kds.map (·.1)).Nodup) : ((putD kds k d).map (·.1)).Nodup := by
  unfold putD
  split
  · have : (kds.map fun p => if p.1 = k then (p.1, d) else p).map (·.1) = kds.map (·.1) := by
      rw [List.map_map]
      refine List.map_congr_left fun p _ => ?_
      show (if p.1 = k then (p.1, d) else p).1 = p.1
      split <;> rfl
    rw [this]; exact h
  · rename_i z
    rw [List.map_append, List.nodup_append]
    refine ⟨h, by simp, fun x hx y hy e => z ?_⟩
    obtain ⟨p, hp, rfl⟩ := List.mem_map.mp hx
    rw [show y = k by simpa using hy] at e
    exact List.any_eq_true.mpr ⟨p, hp, decide_eq_true e⟩
/-- a dict that is small, with values that may be looked at -/
structure SmallD (kds : List (Key × Dat)) : Prop where
  len : kds.length ≤ 500
  val : ∀ p ∈ kds, valOk p.2 = true ∧ (∀ ds, p.2 = .lst ds → ds.length ≤ 1000) ∧ keyOk p.1
  nd : (kds.map (·.1)).Nodup
theorem SmallD.ok {kds : List (Key × Dat)} (h : SmallD kds) : dctOk (.dct kds) := ⟨by have := h.len; omega, fun p hp => ⟨(h.val p hp).1, (h.val p hp).2.2⟩, h.nd⟩
theorem SmallD.dep {kds : List (Key × Dat)} (h : SmallD kds) (n : Nat) : Dep (n + 4) (.dct kds) := dep_dct (by have := h.len; omega) fun p hp => ⟨(h.val p hp).1, (h.val p hp).2.1⟩
theorem smallD_cD {c : Coef} (hl : c.length ≤ 100) (nd : (keys c).Nodup) (hk : ∀ y ∈ keys c, keyOk (.inr y)) : SmallD (cD c) := by
  refine ⟨by unfold cD; rw [List.length_map]; omega, fun p hp => ?_, ?_⟩
  · unfold cD at hp
    obtain ⟨q, hq, rfl⟩ := List.mem_map.mp hp
    exact ⟨rfl, fun ds z => (by cases z), hk _ (List.mem_map.mpr ⟨q, hq, rfl⟩)⟩
  · have : (cD c).map (·.1) = (cK c).map (·.1) := by unfold cD cK; rw [List.map_map, List.map_map]; rfl
    rw [this]
    exact cK_nodup nd
theorem SmallD.put {kds : List (Key × Dat)} (h : SmallD kds) (hl : kds.length ≤ 400) {k : Key} {d : Dat} (hv : valOk d = true) (hd : ∀ ds, d = .lst ds → ds.length ≤ 1000) (hk : keyOk k) : SmallD (putD kds k d) := by
  refine ⟨by have := putD_len (kds := kds) (k := k) (d := d); omega, fun p hp => ?_, putD_nodup h.nd⟩
  rcases putD_mem hp with hp | ⟨h1, h2⟩
  · exact h.val p hp
  · rw [h1, h2]; exact ⟨hv, hd, hk⟩
theorem nums_put {kds : List (Key × Dat)} {k : Key} {d : Dat} (h : (isName (keyD k) && isWhole d) = false) : isNumbers (.dct (putD kds k d)) = false := nums_bad putD_self h
section
variable {K : PySem.W.Frag}
theorem pairLen {α β : Type} {R : α → β → Prop} : ∀ {as : List α} {bs : List β}, Paired R as bs → as.length = bs.length
  | _, _, .nil => rfl
  | _, _, .cons _ t => by rw [List.length_cons, List.length_cons, pairLen t]
/-- numbers with one more, or another, value -/
theorem dict_more {σ : L2.St} {H : Hp} {Q : VK} {Nu : Addr} {c : Coef} {k : Key} {v : V} {tk tv : TE} (hσ : σ[7]? = some (some (.ref Nu))) (hNu : H Nu = some (.dK (cK c))) (hl : c.length ≤ 100) (nd : (keys c).Nodup)
    (hk : ∀ H' R, R (kV k) H' → tk σ H' R) (hv : ∀ H' R, R v H' → tv σ H' R)
    (q : ∀ p H', H p = none → Ex H H' → H' p = some (.dK (putK (cK c) k v)) → Q (.ref p) H') :
    tCB rDictM (tCons (tOp rCat (LiI.tListItems (tVar 7)) (tLst (tCons (tTup (tCons tk (tCons tv tNil))) tNil))) tNil) σ H Q := by
  refine ⟨_, hσ, Nu, _, rfl, hNu, ?_⟩
  intro H6 Ip ts x56 hIp hts hpts hIp6 hpr
  refine hk _ _ (hv _ _ ⟨by show 2 ≤ sizeLine; decide, fun t ht => ⟨by show 1 ≤ sizeLine; decide, fun Lp hLp => ?_⟩⟩)
  have x67 : Ex H6 (upd H6 t (.tup [kV k, v])) := Ex.new ht
  have ct : upd H6 t (.tup [kV k, v]) t = some (.tup [kV k, v]) := upd_same
  generalize upd H6 t (.tup [kV k, v]) = H7 at x67 ct hLp
  have x78 : Ex H7 (upd H7 Lp (.lst [.ref t])) := Ex.new hLp
  have cL : upd H7 Lp (.lst [.ref t]) Lp = some (.lst [.ref t]) := upd_same
  have ct := x78 _ _ ct
  generalize upd H7 Lp (.lst [.ref t]) = H8 at x78 cL ct
  have hts2 : ts.length = c.length := by rw [pairLen hpr]; exact cK_len c
  refine ⟨Ip, Lp, _, _, rfl, rfl, x78 _ _ (x67 _ _ hIp6), cL, by rw [sizeLine_eq, List.length_map, hts2]; simp; omega, fun C hC => ?_⟩
  have x89 : Ex H8 (upd H8 C (.lst (ts.map V.ref ++ [.ref t]))) := Ex.new hC
  have cC : upd H8 C (.lst (ts.map V.ref ++ [.ref t])) C = some (.lst (ts.map V.ref ++ [.ref t])) := upd_same
  have ct := x89 _ _ ct
  have x69 := (x67.trans x78).trans x89
  generalize upd H8 C (.lst (ts.map V.ref ++ [.ref t])) = H9 at x89 cC ct x69
  refine ⟨C, ts ++ [t], cK c ++ [(k, v)], rfl, by rw [cC]; simp, Paired.app (Paired.imp (fun _ _ h => x69 _ _ h) hpr) (.cons ct .nil), fun p hp => ?_⟩
  rw [merge_put (cK_nodup nd)]
  have x59 : Ex H H9 := Ex.trans x56 x69
  exact q p _ (x59.free hp) (x59.mut (x59.free hp)) upd_same
end
/-! cases with something odd -/
theorem tcBad_app {d : Dat} (hd : isTest d = false) : ∀ {ds r : List Dat} {i : Nat}, (∀ x ∈ ds, isTest x = true) → tcBad (ds ++ d :: r) i = some (i + ds.length)
  | [], r, i, _ => by show (if isTest d = true then tcBad r (i + 1) else some i) = some i; rw [hd]; rfl
  | x :: ds, r, i, h => by
    show (if isTest x = true then tcBad (ds ++ d :: r) (i + 1) else some i) = _
    rw [if_pos (h x (by simp)), tcBad_app hd (fun y hy => h y (by simp [hy]))]
    simp only [List.length_cons]; congr 1; omega
theorem isTest_all : ∀ {ds : List Dat} {tss : List Tst}, All2 IsTst ds tss → (∀ ts ∈ tss, Good (coef ts) ∧ mOk ts) → ∀ x ∈ ds, isTest x = true
  | _, _, .nil, _ => fun x h => by cases h
  | _, _, .cons a t, h => fun z hz => by
    rcases List.mem_cons.mp hz with rfl | hz
    · exact (isTst_of a (h _ List.mem_cons_self).1 (h _ List.mem_cons_self).2).1
    · exact isTest_all t (fun ts hm => h ts (List.mem_cons_of_mem _ hm)) z hz
/-- a case that is drawn -/
theorem DrOk.good2 {d : Dr} (h : DrOk d) {ts : Tst} (hm : ts ∈ d.tss) : Good (coef ts) ∧ mOk ts := by
  obtain ⟨g1, g2, g3, g4⟩ := h.good hm
  exact ⟨(HC.refl g1).good g3 fun p hp => ⟨(g4 p hp).1, (g4 p hp).2.1⟩, (h.ok ts hm).lot.mOk h.L0 h.L12⟩
theorem DrOk.caseT {d : Dr} (h : DrOk d) {ts : Tst} (hm : ts ∈ d.tss) : CaseT d.L (d.name :: keys d.cn) ts := by
  obtain ⟨g, m⟩ := h.good2 hm
  refine ⟨g.few, g.lim, (h.ok ts hm).lot, fun y hy => ?_⟩
  have h0 := (mem_nz g.few.nd).mp hy
  exact ((h.ok ts hm).mem _ (co_mem h0)).1
theorem DrOk.nsl {d : Dr} (h : DrOk d) : (d.name :: keys d.cn).length ≤ 13 := by
  rw [List.length_cons]; unfold keys; rw [List.length_map]; have := h.cl; omega
/-- what the call is met with -/
theorem met_ca {K : PySem.W.Frag} {CCa CNa CNu : Addr} {v nv uv : V} {d dn du : Dat} {i : Nat} {H : Hp} {Q R : VK} (h1 : SeeF K H v d) (h2 : SeeF K H nv dn) (h3 : SeeF K H uv du) (hl : (items d).length ≤ 1000) (ht : ∀ x ∈ items d, testOk x) (hn : strOk dn) (hu : dctOk du) (hc : caseBad d = some i)
    (k : ∀ p H', H p = none → Ex H H' → H' p = some (.tup [.str "case", .int (i : Nat)]) → R (.ref p) H') : spSetOf K CCa CNa CNu [v, nv, uv] H Q (fun cls d H' => ToldE CCa "index" "case" R cls d H' ∨ ToldE CNa "name" "name" R cls d H' ∨ ToldE CNu "numbers" "numbers" R cls d H') := by
  refine ⟨v, d, nv, dn, uv, du, rfl, h1, h2, h3, hl, ht, hn, hu, ?_⟩
  rw [hc]
  exact fun dd H6 hdd e6 hx => .inl ⟨rfl, dd, _, _, rfl, hx, rfl, fun p hp => k p _ (e6.free hp) (e6.mut (e6.free hp)) upd_same⟩
theorem met_na {K : PySem.W.Frag} {CCa CNa CNu : Addr} {v nv uv : V} {d : Dr} {dn du : Dat} {H : Hp} {Q R : VK} (ok : DrOk d) (h1 : SeeF K H v (.lst (d.tss.map tstD))) (h2 : SeeF K H nv dn) (h3 : SeeF K H uv du) (hn : strOk dn) (hu : dctOk du) (hb : isName dn = false)
    (k : ∀ p H', H p = none → Ex H H' → H' p = some (.tup [.str "name", nv]) → R (.ref p) H') : spSetOf K CCa CNa CNu [v, nv, uv] H Q (fun cls d H' => ToldE CCa "index" "case" R cls d H' ∨ ToldE CNa "name" "name" R cls d H' ∨ ToldE CNu "numbers" "numbers" R cls d H') := by
  obtain ⟨cs1, _⟩ := case_same (tss := d.tss) fun ts hm => (ok.good hm).1
  obtain ⟨t1, t2⟩ := tests_ok cs1 fun ts hm => ok.good2 hm
  have hc : caseBad (.lst (d.tss.map tstD)) = none := by unfold caseBad; rw [if_pos (show isSq (.lst (d.tss.map tstD)) = true from rfl)]; exact t2 0
  refine ⟨v, _, nv, dn, uv, du, rfl, h1, h2, h3, by show (d.tss.map tstD).length ≤ _; rw [List.length_map]; have := ok.len; omega, t1, hn, hu, ?_⟩
  rw [hc]
  refine ⟨d.tss, d.L, d.name :: keys d.cn, cs1, fun ts hm => ok.caseT hm, by have := ok.nsl; omega, ok.L0, ok.L12, .inl ⟨hb, ?_⟩⟩
  exact fun dd H6 hdd e6 hx => .inr (.inl ⟨rfl, dd, _, _, rfl, hx, rfl, fun p hp => k p _ (e6.free hp) (e6.mut (e6.free hp)) upd_same⟩)
/-- one test more, of other names -/
def moreC (n : Str) : Coef := [("a1", 1), ("b1", -1), (n, 1)]
def moreT (n : Str) : Tst := .row (moreC n) 0
theorem pool_ab : ("a1" : Str) ∉ pool ∧ ("b1" : Str) ∉ pool := by decide +kernel
theorem ab_nm : (isNameS "a1" = true ∧ ("a1" : Str).cps.size ≤ 1000000) ∧ (isNameS "b1" = true ∧ ("b1" : Str).cps.size ≤ 1000000) := by decide +kernel
theorem moreC_good {n : Str} (h : n ∈ pool) : Good (moreC n) ∧ ("b1" : Str) ∈ nz (moreC n) := by
  have na : ("a1" : Str) ≠ n := fun e => pool_ab.1 (e ▸ h)
  have nb : ("b1" : Str) ≠ n := fun e => pool_ab.2 (e ▸ h)
  have nd : (keys (moreC n)).Nodup := by
    show (["a1", "b1", n] : List Str).Nodup
    simp only [List.nodup_cons, List.mem_cons, List.not_mem_nil, or_false, not_or, List.nodup_nil, and_true, not_false_eq_true]
    exact ⟨⟨by decide, na⟩, nb⟩
  refine ⟨⟨⟨nd, by simp [moreC]⟩, fun p hp => ?_, fun m hm => ?_⟩, (mem_nz nd).mpr ?_⟩
  · simp only [moreC, List.mem_cons, List.not_mem_nil, or_false] at hp
    rcases hp with rfl | rfl | rfl <;> simp
  · have hm : m ∈ (["a1", "b1", n] : List Str) := hm
    simp only [List.mem_cons, List.not_mem_nil, or_false] at hm
    rcases hm with rfl | rfl | rfl
    · exact ab_nm.1
    · exact ab_nm.2
    · exact ⟨(pool_nm _ (List.mem_cons_of_mem _ (List.mem_cons_of_mem _ h))).1, (pool_nm _ (List.mem_cons_of_mem _ (List.mem_cons_of_mem _ h))).2.1⟩
  · rw [co_of_mem (n := "b1") (i := -1) nd (by simp [moreC])]; decide
/-- numbers for these are none: no numbers, or none for b1 -/
def NumB (d : Dat) : Prop := isNumbers d = false ∨ hasK d "b1" = false
theorem met_nu {K : PySem.W.Frag} {CCa CNa CNu : Addr} {v uv : V} {d : Dr} {du : Dat} {H : Hp} {Q R : VK} (ok : DrOk d) (h1 : SeeF K H v (.lst (d.tss.map tstD ++ [tstD (moreT d.name)]))) (h3 : SeeF K H uv du) (hu : dctOk du) (hb : NumB du)
    (k : ∀ p H', H p = none → Ex H H' → H' p = some (.tup [.str "numbers", uv]) → R (.ref p) H') : spSetOf K CCa CNa CNu [v, .str d.name, uv] H Q (fun cls d H' => ToldE CCa "index" "case" R cls d H' ∨ ToldE CNa "name" "name" R cls d H' ∨ ToldE CNu "numbers" "numbers" R cls d H') := by
  obtain ⟨mg, mb⟩ := moreC_good ok.nm
  have good : ∀ ts ∈ d.tss ++ [moreT d.name], Good (coef ts) ∧ mOk ts := fun ts hm => by
    rcases List.mem_append.mp hm with hm | hm
    · exact ok.good2 hm
    · rw [List.mem_singleton.mp hm]; exact ⟨mg, trivial⟩
  obtain ⟨cs1, _⟩ := case_same (tss := d.tss ++ [moreT d.name]) fun ts hm => (good ts hm).1.few.nd
  rw [List.map_append] at cs1
  obtain ⟨t1, t2⟩ := tests_ok cs1 good
  have hc : caseBad (.lst (d.tss.map tstD ++ [tstD (moreT d.name)])) = none := by unfold caseBad; rw [if_pos (show isSq (.lst (d.tss.map tstD ++ [tstD (moreT d.name)])) = true from rfl)]; exact t2 0
  refine ⟨v, _, .str d.name, .str d.name, uv, du, rfl, h1, .str _, h3, by show (d.tss.map tstD ++ [_]).length ≤ _; rw [List.length_append, List.length_map]; have := ok.len; simp; omega, t1, (pool_nm _ (List.mem_cons_of_mem _ (List.mem_cons_of_mem _ ok.nm))).2.1, hu, ?_⟩
  rw [hc]
  refine ⟨d.tss ++ [moreT d.name], d.L, "a1" :: "b1" :: d.name :: keys d.cn, cs1, fun ts hm => ?_, by have := ok.nsl; simp only [List.length_cons] at this ⊢; omega, ok.L0, ok.L12, .inr ⟨d.name, rfl, (pool_nm _ (List.mem_cons_of_mem _ (List.mem_cons_of_mem _ ok.nm))).1, .inl ⟨fun ys hys => ?_, ?_⟩⟩⟩
  · rcases List.mem_append.mp hm with hm | hm
    · obtain ⟨c1, c2, c3, c4⟩ := ok.caseT hm
      exact ⟨c1, c2, c3, fun y hy => List.mem_cons_of_mem _ (List.mem_cons_of_mem _ (c4 y hy))⟩
    · rw [List.mem_singleton.mp hm]
      refine ⟨mg.few, mg.lim, trivial, fun y hy => ?_⟩
      have h0 := (mem_nz mg.few.nd).mp hy
      have : y ∈ keys (moreC d.name) := List.mem_map.mpr ⟨_, co_mem h0, rfl⟩
      have : y ∈ (["a1", "b1", d.name] : List Str) := this
      simp only [List.mem_cons, List.not_mem_nil, or_false] at this ⊢
      rcases this with h | h | h
      · exact .inl h
      · exact .inr (.inl h)
      · exact .inr (.inr (.inl h))
  · rcases hb with hb | hb
    · rw [hb]; rfl
    · have hin : ("b1" : Str) ∈ ys := by
        refine (hys.2.2 _).mpr ⟨.t (canonT (moreT d.name)), List.mem_map.mpr ⟨canonT (moreT d.name), List.mem_map.mpr ⟨moreT d.name, by simp, rfl⟩, rfl⟩, canonT (moreT d.name), by rw [tl]; simp, ?_⟩
        rw [coef_canonT]
        refine (mem_nz (canon_nodup mg.few.nd)).mpr ?_
        rw [co_canon mg.few.nd]
        exact (mem_nz mg.few.nd).mp mb
      have nb : ("b1" : Str) ≠ d.name := fun e => pool_ab.2 (e ▸ ok.nm)
      have hf : (ys.filter fun y => decide (y ≠ d.name)).all (hasK du) = false := List.all_eq_false.mpr ⟨("b1" : Str), List.mem_filter.mpr ⟨hin, decide_eq_true nb⟩, by rw [hb]; simp⟩
      rw [hf, Bool.and_false]
  · exact fun dd H6 hdd e6 hx => .inr (.inr ⟨rfl, dd, _, _, rfl, hx, rfl, fun p hp => k p _ (e6.free hp) (e6.mut (e6.free hp)) upd_same⟩)
end K8

set_option Elab.async false
set_option linter.all false
set_option maxRecDepth 100000
set_option maxHeartbeats 8000000
namespace K8
open PySem PySem.Spec PyProof.Rows L2 M8 LamX
/-! what is refused -/
theorem SeeL.take {F : Fk} {H : Hp} : ∀ (n : Nat) {vs : List V} {ds : List Dat}, SeeL F H vs ds → SeeL F H (vs.take n) (ds.take n)
  | 0, _, _, _ => by rw [List.take_zero, List.take_zero]; exact .nil
  | _ + 1, _, _, .nil => .nil
  | n + 1, _, _, .cons a t => by rw [List.take_succ_cons, List.take_succ_cons]; exact .cons a (SeeL.take n t)
theorem SeeL.drop {F : Fk} {H : Hp} : ∀ (n : Nat) {vs : List V} {ds : List Dat}, SeeL F H vs ds → SeeL F H (vs.drop n) (ds.drop n)
  | 0, _, _, h => h
  | _ + 1, _, _, .nil => .nil
  | n + 1, _, _, .cons a t => SeeL.drop n t
theorem cut_from {xs : List V} {n : Nat} (h : n ≤ xs.length) : cutV xs (some (n : Int)) none = xs.drop n := by
  have h1 : HT.sIx xs.length 0 (some (n : Int)) = n := by
    have h0 := HT.sIx_nat xs.length 0 n
    rw [h0]; omega
  have h2 : HT.sIx xs.length xs.length none = xs.length := rfl
  unfold cutV
  rw [h1, h2]
  exact List.take_of_length_le (by rw [List.length_drop]; omega)
theorem Spr.keepN {H H' : Hp} {a : Addr} {B : Nat} (h : Spr H a B) (e : ExtN H H') : Spr H' a B := by
  obtain ⟨c, m, n, e1, h⟩ := h
  exact ⟨c, m, n, e _ _ e1 (fun ps z => by cases z), h⟩
theorem extN_mut {H H1 H2 : Hp} {p : Addr} {o : HO} (e : ExtN H H1) (hp : H1 p = none) (e2 : ExtN H H2) : ExtN H (upd H2 p o) := fun b ob h nt => by
  rw [upd_ne fun z => by have := e b ob h nt; rw [z, hp] at this; cases this]; exact e2 b ob h nt
theorem tabs_lst {T : List (Addr × Str)} {H : Hp} {p : Addr} {xs : List V} {o : HO} (t : Tabs T H) (h : H p = some (.lst xs)) : Tabs T (upd H p o) := tabs_soft t (soft_of (M := [p]) (fun b hb => by rw [List.mem_singleton.mp hb]; exact ⟨_, h, .inl ⟨_, rfl⟩⟩) fun b ob nb hb => by rw [upd_ne (by simpa using nb)]; exact hb)
theorem tabs_dk {T : List (Addr × Str)} {H : Hp} {p : Addr} {kvs : List (Key × V)} {o : HO} (t : Tabs T H) (h : H p = some (.dK kvs)) : Tabs T (upd H p o) := tabs_soft t (soft_of (M := [p]) (fun b hb => by rw [List.mem_singleton.mp hb]; exact ⟨_, h, .inr ⟨_, rfl⟩⟩) fun b ob nb hb => by rw [upd_ne (by simpa using nb)]; exact hb)
theorem see_two {K : PySem.W.Frag} {H : Hp} {p : Addr} {w : Str} {v : V} {d : Dat} (h : H p = some (.tup [.str w, v])) (s : SeeF K H v d) : SeeF K H (.ref p) (.tup [.str w, d]) := .tup h (.cons (.str _) (.cons s .nil))
/-- numbers for all names -/
def goodC (d : Dr) : Coef := (d.cn ++ [(("a1" : Str), (1 : Int))]) ++ [(("b1" : Str), (2 : Int))]
theorem DrOk.goodN {d : Dr} (h : DrOk d) : (keys (goodC d)).Nodup ∧ (keys (d.cn ++ [(("a1" : Str), (1 : Int))])).Nodup ∧ ("b1" : Str) ∉ keys (d.cn ++ [(("a1" : Str), (1 : Int))]) := by
  have na : ("a1" : Str) ∉ keys d.cn := fun m => pool_ab.1 (h.pl _ m)
  have nb : ("b1" : Str) ∉ keys d.cn := fun m => pool_ab.2 (h.pl _ m)
  have h1 : keys [(("a1" : Str), (1 : Int))] = [("a1" : Str)] := rfl
  have h2 : keys [(("b1" : Str), (2 : Int))] = [("b1" : Str)] := rfl
  have n2 : ("b1" : Str) ∉ keys (d.cn ++ [(("a1" : Str), (1 : Int))]) := by
    rw [keys_app, h1]
    exact fun m => (List.mem_append.mp m).elim nb fun m => absurd (List.mem_singleton.mp m) (by decide)
  have n1 : (keys (d.cn ++ [(("a1" : Str), (1 : Int))])).Nodup := by
    rw [keys_app, h1, List.nodup_append]
    exact ⟨h.nd, by simp, fun x hx y hy e => na (by rw [List.mem_singleton.mp hy] at e; exact e ▸ hx)⟩
  refine ⟨?_, n1, n2⟩
  unfold goodC
  rw [keys_app, h2, List.nodup_append]
  exact ⟨n1, by simp, fun x hx y hy e => n2 (by rw [List.mem_singleton.mp hy] at e; exact e ▸ hx)⟩
theorem DrOk.goodL {d : Dr} (h : DrOk d) : (goodC d).length ≤ 14 := by
  unfold goodC; rw [List.length_append, List.length_append]; have := h.cl; simp; omega
theorem DrOk.goodK {d : Dr} (h : DrOk d) : ∀ y ∈ keys (goodC d), keyOk (.inr y) := fun y hy => by
  unfold goodC at hy
  rw [keys_app, keys_app] at hy
  rcases List.mem_append.mp hy with hy | hy
  · rcases List.mem_append.mp hy with hy | hy
    · exact (pool_nm _ (List.mem_cons_of_mem _ (List.mem_cons_of_mem _ (h.pl _ hy)))).2.1
    · rw [show y = "a1" by simpa [keys] using hy]; exact ab_nm.1.2
  · rw [show y = "b1" by simpa [keys] using hy]; exact ab_nm.2.2
theorem DrOk.goodS {d : Dr} (h : DrOk d) : SmallD (cD (goodC d)) := smallD_cD (by have := h.goodL; omega) h.goodN.1 h.goodK
structure GoodOdd (d : Dat) : Prop where
  ok : dctOk d
  dep : Dep 6 d
  no : NumB d
theorem goodOdd_put {kds : List (Key × Dat)} (h : SmallD kds) (hl : kds.length ≤ 400) {k : Key} {d : Dat} (hv : valOk d = true) (hd : ∀ ds, d = .lst ds → ds.length ≤ 1000) (hk : keyOk k) (hb : (isName (keyD k) && isWhole d) = false) : GoodOdd (.dct (putD kds k d)) :=
  have s := h.put hl hv hd hk
  ⟨s.ok, s.dep 2, .inl (nums_put hb)⟩
theorem cut_last {xs : List V} {x : V} : cutV (xs ++ [x]) none (some (-1)) = xs := by
  have h1 : HT.sIx (xs ++ [x]).length 0 none = 0 := rfl
  have h2 : HT.sIx (xs ++ [x]).length (xs ++ [x]).length (some (-1)) = xs.length := by
    show (if (-1 : Int) < 0 then ((-1 : Int) + ((xs ++ [x]).length : Int)).toNat else min (-1 : Int).toNat (xs ++ [x]).length) = _
    rw [if_pos (by decide), List.length_append]; simp; omega
  unfold cutV
  rw [h1, h2, List.drop_zero, Nat.sub_zero, List.take_left]
theorem paired_last {α β : Type} {F : α → β → Prop} {b : β} : ∀ {l2 : List β} {l1 : List α}, Paired F l1 (l2 ++ [b]) → ∃ l a, l1 = l ++ [a] ∧ Paired F l l2 ∧ F a b
  | [], _, h => by
    cases h with
    | cons h t => cases t; exact ⟨[], _, rfl, .nil, h⟩
  | x :: l2, _, h => by
    cases h with
    | @cons a' _ l' _ h t =>
      obtain ⟨l, a, rfl, h1, h2⟩ := paired_last t
      exact ⟨a' :: l, a, rfl, .cons h h1, h2⟩
theorem hasK_notin {c : Coef} {y : Str} (h : y ∉ keys c) : hasK (.dct (cD c)) y = false := by
  refine List.any_eq_false.mpr fun p hp => ?_
  unfold cD at hp
  obtain ⟨q, hq, rfl⟩ := List.mem_map.mp hp
  simp only [decide_eq_true_eq]
  exact fun e => h (by rw [← Sum.inr.inj e]; exact List.mem_map.mpr ⟨q, hq, rfl⟩)
theorem rows_odd {c : Coef} (hl : c.length ≤ 100) : GoodOdd (.lst ((cD c).map fun p => .tup [keyD p.1, p.2])) := by
  refine ⟨trivial, dep_lst (n := 5) (by unfold cD; rw [List.length_map, List.length_map]; omega) fun d hd => ?_, .inl rfl⟩
  obtain ⟨p, hp, rfl⟩ := List.mem_map.mp hd
  unfold cD at hp
  obtain ⟨q, _, rfl⟩ := List.mem_map.mp hp
  exact dep_tup (n := 4) (by simp) (allC' (dep_flat rfl _) (allC' (dep_flat rfl _) fun x h => by cases h))
theorem sl_listK {X : Cx} {K : PySem.W.Frag} (hK : X.K = K) : SlR X (rSlL K) := hK ▸ sl_list
section
variable {P : Program} {w : World} {K : PySem.W.Frag} {mg : Str → Option Value} {base : Heap}
def spRefused (TP : Addr) : Sp := fun vs H Q _ => ∃ a B, vs = [.ref a] ∧ Spr H a B ∧ B + 10000 < lot ∧ Tabs (T0 TP) H ∧ ∀ H', ExoN a H H' → Spr H' a (B + 700) → Tabs (T0 TP) H' → Q (.bl true) H'
abbrev s__law_refused_right : Stmt := top 61
theorem sc__law_refused_right : FnScope ["source", "name", "case", "numbers", "at", "odd", "tests", "good", "odds", "key", "value", "held", "known", "listed", "found"] ["source"] (defScope s__law_refused_right) := ⟨rfl, rfl, rfl, by decide +kernel, rfl, by decide +kernel, by decide +kernel⟩
theorem ok__law_refused_right (T : Txt K mg) {CCa CNa CNu TP c : Addr} (B : ErrC K mg CCa CNa CNu) (a : AtC K mg "_law_refused_right" s__law_refused_right ["source"] c) (TB : TabB base mg c TP) {g : Addr} {oc cdv kV doc pm : Value} {od an : Option Addr} {ct : Value} {osl : Array (Option Value)} (M : MetF K mg g oc cdv kV doc pm od an ct osl)
    (Oset_of : Ok P w K mg base (L2.CX P w) 7 "set_of" ["case", "name", "numbers"] (spSetOf K CCa CNa CNu)) (O_law_drawn : Ok P w K mg base CX0 4 "_law_drawn" ["source"] (spDrawn K)) (O_law_draw : Ok P w K mg base CX0 1 "_law_draw" ["source", "many"] spDraw) (O_law_odd_tests : Ok P w K mg base CX0 1 "_law_odd_tests" ["one"] (spOddT K)) (O_law_same : Ok P w K mg base CX0 9 "_law_same" ["found", "wanted"] (spSameG K (Dep 7))) : Ok P w K mg base CX0 14 "_law_refused_right" ["source"] (spRefused TP) := by
  obtain ⟨hmM, hkM, lkM, hcM, hbM⟩ := M
  refine a.ok sc__law_refused_right (fun vs H Q E h => ?_) (fun f A outer s H vs Q E hr h => ?_)
  · obtain ⟨a, Bn, rfl, _⟩ := h; rfl
  · obtain ⟨a, Bn, rfl, hs, hB, hTab, q⟩ := h
    refine ⟨_, (pss_cons (ps_asg (pe_callO O_law_drawn (hr.mono (by first | decide | omega)) rfl (pa_cons (pv 0) pa_nil)) (pg_tup rfl (pgs_cons (pg_name (i := 1) sc__law_refused_right.nd rfl (Or.inr rfl)) (pgs_cons (pg_name (i := 2) sc__law_refused_right.nd rfl (Or.inr rfl)) (pgs_cons (pg_name (i := 3) sc__law_refused_right.nd rfl (Or.inl rfl)) pgs_nil)))))
      (pss_cons (ps_set (i := 4) sc__law_refused_right.nd rfl (Or.inr rfl) (pe_callO O_law_draw (hr.mono (by first | decide | omega)) rfl (pa_cons (pv 0) (pa_cons (pe_op op_add (pe_callB (len_qK (K := K) rfl) rfl T.n_len rfl (pa_cons (pv 2) pa_nil)) pe_int) pa_nil))))
      (pss_cons (ps_for PassesOwn.never rfl (pi_list (pe_callO O_law_odd_tests (hr.mono (by first | decide | omega)) rfl (pa_cons (pv 1) pa_nil))) (pg_name (i := 5) sc__law_refused_right.nd rfl (Or.inr rfl)) (pss_one (ps_if (pt_not (pt_val (pe_callO O_law_same (hr.mono (by first | decide | omega)) rfl (pa_cons (pe_lamcall (T := T0 TP) (TT := TTmet CCa CNa CNu) (t := _) (k := 8) rfl hmM hkM lkM hcM hbM sc__law_met rfl (.inl rfl) (met_gives B) TB rfl (List.mem_singleton.mpr rfl) (fun p hp _ => by rw [List.mem_singleton.mp hp]; rfl) (hr.mono (by omega)) (lamS_by (sc := defScope s__law_refused_right) (by decide +kernel)) rfl (fun _ _ _ _ _ => rfl) (fun A outer s H E f c1 hr2 => (pe_callE Oset_of (passes_call (takes_of rfl rfl rfl rfl) (fun _ _ _ _ h => h)) (hr2.mono (by first | decide | omega)) rfl (pa_cons (pe_op op_cat (pe_op op_cat (pe_slice (sl_listK (K := K) rfl) (pv 2) po_none (po_some (pv 4))) (pe_lst (pa_cons (pv 5) (pa_cons pe_non pa_nil)))) (pe_slice (sl_listK (K := K) rfl) (pv 2) (po_some (pv 4)) po_none)) (pa_cons pe_int (pa_cons pe_non pa_nil)))))) (pa_cons (pe_tup (pa_cons pe_str (pa_cons (pv 4) pa_nil))) pa_nil))))) (pss_one (ps_ret pe_bl)) pss_nil)))
      (pss_cons (ps_for PassesOwn.never rfl (pi_tup (pe_tup (pa_cons pe_non (pa_cons pe_int (pa_cons pe_str (pa_cons pe_dnewK (pa_cons pe_bl pa_nil))))))) (pg_name (i := 5) sc__law_refused_right.nd rfl (Or.inr rfl)) (pss_one (ps_if (pt_not (pt_val (pe_callO O_law_same (hr.mono (by first | decide | omega)) rfl (pa_cons (pe_lamcall (T := T0 TP) (TT := TTmet CCa CNa CNu) (t := _) (k := 8) rfl hmM hkM lkM hcM hbM sc__law_met rfl (.inl rfl) (met_gives B) TB rfl (List.mem_singleton.mpr rfl) (fun p hp _ => by rw [List.mem_singleton.mp hp]; rfl) (hr.mono (by omega)) (lamS_by (sc := defScope s__law_refused_right) (by decide +kernel)) rfl (fun _ _ _ _ _ => rfl) (fun A outer s H E f c1 hr2 => (pe_callE Oset_of (passes_call (takes_of rfl rfl rfl rfl) (fun _ _ _ _ h => h)) (hr2.mono (by first | decide | omega)) rfl (pa_cons (pv 5) (pa_cons pe_int (pa_cons pe_non pa_nil)))))) (pa_cons (pe_tup (pa_cons pe_str (pa_cons pe_int pa_nil))) pa_nil))))) (pss_one (ps_ret pe_bl)) pss_nil)))
      (pss_cons (ps_for PassesOwn.never rfl (pi_tup (pe_tup (pa_cons pe_non (pa_cons pe_int (pa_cons pe_str (pa_cons pe_str (pa_cons pe_str (pa_cons pe_str (pa_cons pe_str (pa_cons pe_str (pa_cons pe_bl (pa_cons (pe_lst (pa_cons (pv 1) pa_nil)) (pa_cons (pe_tup (pa_cons (pv 1) pa_nil)) (pa_cons pe_dnewK pa_nil)))))))))))))) (pg_name (i := 5) sc__law_refused_right.nd rfl (Or.inr rfl)) (pss_one (ps_if (pt_not (pt_val (pe_callO O_law_same (hr.mono (by first | decide | omega)) rfl (pa_cons (pe_lamcall (T := T0 TP) (TT := TTmet CCa CNa CNu) (t := _) (k := 8) rfl hmM hkM lkM hcM hbM sc__law_met rfl (.inl rfl) (met_gives B) TB rfl (List.mem_singleton.mpr rfl) (fun p hp _ => by rw [List.mem_singleton.mp hp]; rfl) (hr.mono (by omega)) (lamS_by (sc := defScope s__law_refused_right) (by decide +kernel)) rfl (fun _ _ _ _ _ => rfl) (fun A outer s H E f c1 hr2 => (pe_callE Oset_of (passes_call (takes_of rfl rfl rfl rfl) (fun _ _ _ _ h => h)) (hr2.mono (by first | decide | omega)) rfl (pa_cons (pv 2) (pa_cons (pv 5) (pa_cons pe_non pa_nil)))))) (pa_cons (pe_tup (pa_cons pe_str (pa_cons (pv 5) pa_nil))) pa_nil))))) (pss_one (ps_ret pe_bl)) pss_nil)))
      (pss_cons (ps_set (i := 6) sc__law_refused_right.nd rfl (Or.inr rfl) (pe_op op_cat (pv 2) (pe_lst (pa_cons (pe_tup (pa_cons pe_str (pa_cons (pe_tup (pa_cons (pe_disp (pps_cons pe_str pe_int (pps_cons pe_str (pe_un un_neg pe_int) (pps_cons (pv 1) pe_int pps_nil))) rfl rfl (by simp) (by decide)) (pa_cons pe_int pa_nil))) pa_nil))) pa_nil))))
      (pss_cons (ps_set (i := 7) sc__law_refused_right.nd rfl (Or.inr rfl) (pe_callTy (call_dictM (K := K) rfl rfl) rfl T.n_dict rfl (pa_cons (pe_op op_cat (LiI.pe_listItems rfl (pv 3) rfl T.n_list rfl) (pe_lst (pa_cons (pe_tup (pa_cons pe_str (pa_cons pe_int pa_nil))) (pa_cons (pe_tup (pa_cons pe_str (pa_cons pe_int pa_nil))) pa_nil)))) pa_nil)))
      (pss_cons (ps_set (i := 8) sc__law_refused_right.nd rfl (Or.inl rfl) (pe_lst (pa_cons pe_non (pa_cons pe_int (pa_cons pe_str (pa_cons (pe_lst pa_nil) (pa_cons (LiI.pe_listItems rfl (pv 7) rfl T.n_list rfl) (pa_cons pe_bl (pa_cons pe_dnewK (pa_cons (pe_callTy (call_dictM (K := K) rfl rfl) rfl T.n_dict rfl (pa_cons (pe_slice sl_list (LiI.pe_listItems rfl (pv 7) rfl T.n_list rfl) po_none (po_some (pe_un un_neg pe_int))) pa_nil)) pa_nil))))))))))
      (pss_cons (ps_for PassesOwn.never rfl (pi_tup (pe_tup (pa_cons (pe_tup (pa_cons pe_str (pa_cons pe_non pa_nil))) (pa_cons (pe_tup (pa_cons pe_str (pa_cons pe_bl pa_nil))) (pa_cons (pe_tup (pa_cons pe_str (pa_cons pe_str pa_nil))) (pa_cons (pe_tup (pa_cons pe_str (pa_cons pe_int pa_nil))) (pa_cons (pe_tup (pa_cons pe_int (pa_cons pe_int pa_nil))) (pa_cons (pe_tup (pa_cons pe_str (pa_cons (pe_lst (pa_cons pe_int pa_nil)) pa_nil))) pa_nil)))))))) (pg_tup rfl (pgs_cons (pg_name (i := 9) sc__law_refused_right.nd rfl (Or.inl rfl)) (pgs_cons (pg_name (i := 10) sc__law_refused_right.nd rfl (Or.inl rfl)) pgs_nil))) (pss_one (ps_expr (pe_bmK (K := K) rfl (pe_bm PySem.F.plainAttrs_list PySem.F.slot_list_append PySem.F.type_list_append mt_append (pv 8) (pa_cons (pe_callTy (call_dictM (K := K) rfl rfl) rfl T.n_dict rfl (pa_cons (pe_op op_cat (LiI.pe_listItems rfl (pv 7) rfl T.n_list rfl) (pe_lst (pa_cons (pe_tup (pa_cons (pv 9) (pa_cons (pv 10) pa_nil))) pa_nil))) pa_nil)) pa_nil))))))
      (pss_cons (ps_expr (pe_bmK (K := K) rfl (pe_bm PySem.F.plainAttrs_list PySem.F.slot_list_extend PySem.F.type_list_extend mt_extend (pv 8) (pa_cons (pe_lc (own := [("value", 10)]) (g := gName 10) (tt := tYes) rfl sc__law_refused_right.nd (pi_tup (pe_tup (pa_cons pe_non (pa_cons pe_bl (pa_cons pe_str (pa_cons (pe_lst (pa_cons pe_int pa_nil)) pa_nil)))))) (blkOk_by (N := ["source", "name", "case", "numbers", "at", "odd", "tests", "good", "odds", "key", "value", "held", "known", "listed", "found"]) (sc := defScope s__law_refused_right) (by decide +kernel)) (fun _ _ _ _ _ => (pg_name (i := 10) sc__law_refused_right.nd rfl (Or.inl rfl))) (fun _ _ _ _ _ => pts_nil) (fun _ _ _ _ _ => (pe_callTy (call_dictM (K := K) rfl rfl) rfl T.n_dict rfl (pa_cons (pe_op op_cat (LiI.pe_listItems rfl (pv 7) rfl T.n_list rfl) (pe_lst (pa_cons (pe_tup (pa_cons (pv 1) (pa_cons (pv 10) pa_nil))) pa_nil))) pa_nil)))) pa_nil))))
      (pss_cons (ps_for PassesOwn.never rfl (pi_list (pv 8)) (pg_name (i := 5) sc__law_refused_right.nd rfl (Or.inr rfl)) (pss_one (ps_if (pt_not (pt_val (pe_callO O_law_same (hr.mono (by first | decide | omega)) rfl (pa_cons (pe_lamcall (T := T0 TP) (TT := TTmet CCa CNa CNu) (t := _) (k := 8) rfl hmM hkM lkM hcM hbM sc__law_met rfl (.inl rfl) (met_gives B) TB rfl (List.mem_singleton.mpr rfl) (fun p hp _ => by rw [List.mem_singleton.mp hp]; rfl) (hr.mono (by omega)) (lamS_by (sc := defScope s__law_refused_right) (by decide +kernel)) rfl (fun _ _ _ _ _ => rfl) (fun A outer s H E f c1 hr2 => (pe_callE Oset_of (passes_call (takes_of rfl rfl rfl rfl) (fun _ _ _ _ h => h)) (hr2.mono (by first | decide | omega)) rfl (pa_cons (pv 6) (pa_cons (pv 1) (pa_cons (pv 5) pa_nil)))))) (pa_cons (pe_tup (pa_cons pe_str (pa_cons (pv 5) pa_nil))) pa_nil))))) (pss_one (ps_ret pe_bl)) pss_nil)))
      (pss_cons (ps_asg (pe_tup (pa_cons (pe_lst (pa_cons (pv 1) pa_nil)) (pa_cons (pe_disp (pps_cons pe_str pe_int pps_nil) rfl rfl (by simp) (by decide)) (pa_cons (pe_lst (pa_cons pe_str pa_nil)) pa_nil)))) (pg_tup rfl (pgs_cons (pg_name (i := 11) sc__law_refused_right.nd rfl (Or.inr rfl)) (pgs_cons (pg_name (i := 12) sc__law_refused_right.nd rfl (Or.inr rfl)) (pgs_cons (pg_name (i := 13) sc__law_refused_right.nd rfl (Or.inr rfl)) pgs_nil)))))
      (pss_cons (ps_set (i := 14) sc__law_refused_right.nd rfl (Or.inl rfl) (pe_lst (pa_cons (pe_lamcall (T := T0 TP) (TT := TTmet CCa CNa CNu) (t := _) (k := 8) rfl hmM hkM lkM hcM hbM sc__law_met rfl (.inl rfl) (met_gives B) TB rfl (List.mem_singleton.mpr rfl) (fun p hp _ => by rw [List.mem_singleton.mp hp]; rfl) (hr.mono (by omega)) (lamS_by (sc := defScope s__law_refused_right) (by decide +kernel)) rfl (fun _ _ _ _ _ => rfl) (fun A outer s H E f c1 hr2 => (pe_callE Oset_of (passes_call (takes_of rfl rfl rfl rfl) (fun _ _ _ _ h => h)) (hr2.mono (by first | decide | omega)) rfl (pa_cons (pv 2) (pa_cons (pv 11) (pa_cons pe_non pa_nil)))))) pa_nil)))
      (pss_cons (ps_expr (pe_bmK (K := K) rfl (pe_bm PySem.F.plainAttrs_list PySem.F.slot_list_append PySem.F.type_list_append mt_append (pv 14) (pa_cons (pe_lamcall (T := T0 TP) (TT := TTmet CCa CNa CNu) (t := _) (k := 8) rfl hmM hkM lkM hcM hbM sc__law_met rfl (.inl rfl) (met_gives B) TB rfl (List.mem_singleton.mpr rfl) (fun p hp _ => by rw [List.mem_singleton.mp hp]; rfl) (hr.mono (by omega)) (lamS_by (sc := defScope s__law_refused_right) (by decide +kernel)) rfl (fun _ _ _ _ _ => rfl) (fun A outer s H E f c1 hr2 => (pe_callE Oset_of (passes_call (takes_of rfl rfl rfl rfl) (fun _ _ _ _ h => h)) (hr2.mono (by first | decide | omega)) rfl (pa_cons (pv 6) (pa_cons (pv 1) (pa_cons (pv 12) pa_nil)))))) pa_nil))))
      (pss_cons (ps_expr (pe_bmK (K := K) rfl (pe_bm PySem.F.plainAttrs_list PySem.F.slot_list_append PySem.F.type_list_append mt_append (pv 14) (pa_cons (pe_lamcall (T := T0 TP) (TT := TTmet CCa CNa CNu) (t := _) (k := 8) rfl hmM hkM lkM hcM hbM sc__law_met rfl (.inl rfl) (met_gives B) TB rfl (List.mem_singleton.mpr rfl) (fun p hp _ => by rw [List.mem_singleton.mp hp]; rfl) (hr.mono (by omega)) (lamS_by (sc := defScope s__law_refused_right) (by decide +kernel)) rfl (fun _ _ _ _ _ => rfl) (fun A outer s H E f c1 hr2 => (pe_callE Oset_of (passes_call (takes_of rfl rfl rfl rfl) (fun _ _ _ _ h => h)) (hr2.mono (by first | decide | omega)) rfl (pa_cons (pv 6) (pa_cons (pv 1) (pa_cons (pv 13) pa_nil)))))) pa_nil))))
      (pss_cons (ps_expr (pe_bmK (K := K) rfl (pe_bm PySem.F.plainAttrs_list PySem.F.slot_list_append PySem.F.type_list_append mt_append (pv 11) (pa_cons pe_str pa_nil))))
      (pss_cons (ps_dput (hu_of hr) (pv 12) pe_str pe_int rfl)
      (pss_cons (ps_expr (pe_bmK (K := K) rfl (pe_bm PySem.F.plainAttrs_list PySem.F.slot_list_append PySem.F.type_list_append mt_append (pv 13) (pa_cons pe_str pa_nil))))
      (pss_one (ps_ret (pe_callO O_law_same (hr.mono (by first | decide | omega)) rfl (pa_cons (pv 14) (pa_cons (pe_lst (pa_cons (pe_tup (pa_cons pe_str (pa_cons (pv 11) pa_nil))) (pa_cons (pe_tup (pa_cons pe_str (pa_cons (pv 12) pa_nil))) (pa_cons (pe_tup (pa_cons pe_str (pa_cons (pv 13) pa_nil))) pa_nil)))) pa_nil))))))))))))))))))))))), ?_⟩
    refine ⟨_, rfl, a, Bn, [a], rfl, hs, by omega, by simp, fun b hb => by rw [List.mem_singleton.mp hb]; exact hs.ne, fun d v H1 dok e1 s1 sv => ?_⟩
    obtain ⟨tq, l, us, nd, kx, rfl, hq, hl1, hus1, hnd1, rfl⟩ : ∃ tq l us nd kx, v = .ref tq ∧ sansL [a] H1 tq = some (.tup [.str d.name, .ref l, .ref nd]) ∧ sansL [a] H1 l = some (.lst us) ∧ SeeL (FKK K) (sansL [a] H1) us (d.tss.map tstD) ∧ sansL [a] H1 nd = some (.dK kx) ∧ kx = cK d.cn := by
      cases sv with
      | tup h t => cases t with
        | cons a1 t => cases a1; cases t with
          | cons a2 t => cases a2 with
            | lst h2 u2 => cases t with
              | cons a3 t => cases a3 with
                | dct h3 k3 => cases t; exact ⟨_, _, _, _, _, rfl, h, h2, u2, h3, cK_of k3⟩
    obtain ⟨_, hq⟩ := sansL_get hq
    obtain ⟨nla, hl1⟩ := sansL_get hl1
    obtain ⟨nna, hnd1⟩ := sansL_get hnd1
    have nla : l ≠ a := by simpa using nla
    have nna : nd ≠ a := by simpa using nna
    have ul := hus1.len
    rw [List.length_map] at ul
    have ul7 := dok.len
    refine ⟨tq, _, rfl, SqT.of hq, rfl, _, _, rfl, _, _, rfl, _, _, rfl, rfl, ?_⟩
    dsimp only [gName, tSeq]
    refine ⟨_, rfl, _, rfl, l, us, rfl, .inl (SqL.of hl1), _, _, rfl, rfl, a, _, _, rfl, s1, by omega, by omega, by omega, fun z H2 z0 z1 e2 s2 => ?_⟩
    have hl2 := e2.at1 nla hl1
    have hnd2 := e2.at1 nna hnd1
    have hus2 : SeeL (FKK K) H2 us (d.tss.map tstD) := SeeL.mono (sansL_ex _ _) (hus1.mono e2.sansL)
    have T2 : Tabs (T0 TP) H2 := tabs_exo e2 s1 (tabs_exo e1 hs hTab)
    have e02 : Exo [a] H H2 := e1.trans e2
    obtain ⟨n, rfl⟩ : ∃ n : Nat, z = (n : Int) := ⟨z.toNat, by omega⟩
    have hn : n ≤ us.length := by omega
    have sq : (1000000 : Nat) < sizeLine := by rw [sizeLine_eq]; decide
    clear e1 e2 hus1 hl1 hnd1 s1 hq hTab
    dsimp only [gName]
    -- things that are no tests, in a case
    refine seq_split (fun σ' H' => (∃ z5, σ' = [some (.ref a), some (.str d.name), some (.ref l), some (.ref nd), some (.int n), z5, none, none, none, none, none, none, none, none, none]) ∧ ExtN H2 H' ∧ Tabs (T0 TP) H') (fun nx hnx => ?_) ?_
    · refine tFor_of ?_
      refine ⟨_, rfl, d.name, rfl, fun R xs H3 hR e3 hRH sx => ⟨R, rfl, ⟨_, SqL.of hRH⟩, ?_⟩⟩
      have sx := SeeL.mono (sansL_ex _ _) sx
      have xl := sx.len
      refine for_itB (walk_list (xs := xs)) (fun i σ H' => (∃ z5, σ = [some (.ref a), some (.str d.name), some (.ref l), some (.ref nd), some (.int n), z5, none, none, none, none, none, none, none, none, none]) ∧ ExtN H3 H' ∧ Tabs (T0 TP) H') ⟨⟨_, rfl⟩, ExtN.refl _, T2.ext e3⟩ (fun i σ H' _ I => SqL.of (I.2.1 _ _ hRH (fun ps z => by cases z))) ?_ ?_
      · rintro i x σ H4 H4' iN ⟨⟨z5, rfl⟩, e4, T4⟩ ⟨rfl, hx⟩
        obtain ⟨od, hod, sod⟩ := sx.getV hx
        have hod := List.mem_of_getElem? hod
        have ono := oddsT_no _ _ hod
        have ook := oddsT_ok (pool_nm _ (List.mem_cons_of_mem _ (List.mem_cons_of_mem _ dok.nm))).2.1 _ hod
        dsimp only [gName]
        refine ⟨T4, fun H5 e5 T5 => ?_⟩
        have e25 : ExtN H2 H5 := ((ExtN.of e3).trans e4).trans e5
        have hl5 := e25 _ _ hl2 (fun ps z => by cases z)
        have hus5 := seeL_ext e25 hus2
        have sod5 := see_ext (e4.trans e5) sod
        refine ⟨_, rfl, _, rfl, _, rfl, l, us, rfl, SqL.of hl5, fun p1 hp1 => ⟨_, rfl, by show 2 ≤ sizeLine; decide, fun p2 hp2 => ?_⟩⟩
        have y1 : Ex H5 (upd H5 p1 (.lst (cutV us none (some (n : Int))))) := Ex.new hp1
        have c1 : (upd H5 p1 (.lst (cutV us none (some (n : Int))))) p1 = some (.lst (us.take n)) := by rw [upd_same, cut_first (by omega)]; rfl
        generalize upd H5 p1 (.lst (cutV us none (some (n : Int)))) = K1 at y1 c1 hp2
        have y2 : Ex K1 (upd K1 p2 (.lst [x, .non])) := Ex.new hp2
        have c2 : (upd K1 p2 (.lst [x, .non])) p2 = some (.lst [x, .non]) := upd_same
        generalize upd K1 p2 (.lst [x, .non]) = K2 at y2 c2
        have lt : (us.take n).length ≤ 7 := by rw [List.length_take]; omega
        have ld : (us.drop n).length ≤ 7 := by rw [List.length_drop]; omega
        refine ⟨p1, p2, _, _, rfl, rfl, y2 _ _ c1, c2, by simp only [List.length_cons, List.length_nil]; omega, fun p3 hp3 => ?_⟩
        have y3 : Ex K2 (upd K2 p3 (.lst (us.take n ++ [x, .non]))) := Ex.new hp3
        have c3 : (upd K2 p3 (.lst (us.take n ++ [x, .non]))) p3 = some (.lst (us.take n ++ [x, .non])) := upd_same
        generalize upd K2 p3 (.lst (us.take n ++ [x, .non])) = K3 at y3 c3
        have e53 := (y1.trans y2).trans y3
        refine ⟨_, rfl, _, rfl, _, rfl, l, us, rfl, SqL.of (e53 _ _ hl5), fun p4 hp4 => ?_⟩
        have y4 : Ex K3 (upd K3 p4 (.lst (cutV us (some (n : Int)) none))) := Ex.new hp4
        have c4 : (upd K3 p4 (.lst (cutV us (some (n : Int)) none))) p4 = some (.lst (us.drop n)) := by rw [upd_same, cut_from hn]
        generalize upd K3 p4 (.lst (cutV us (some (n : Int)) none)) = K4 at y4 c4
        refine ⟨p3, p4, _, _, rfl, rfl, y4 _ _ c3, c4, by rw [List.length_append]; simp only [List.length_cons, List.length_nil]; omega, fun p5 hp5 => ?_⟩
        have y5 : Ex K4 (upd K4 p5 (.lst (us.take n ++ [x, .non] ++ us.drop n))) := Ex.new hp5
        have c5 : (upd K4 p5 (.lst (us.take n ++ [x, .non] ++ us.drop n))) p5 = some (.lst (us.take n ++ [x, .non] ++ us.drop n)) := upd_same
        generalize upd K4 p5 (.lst (us.take n ++ [x, .non] ++ us.drop n)) = K5 at y5 c5
        have e55 := (e53.trans y4).trans y5
        have husK := SeeL.mono e55 hus5
        obtain ⟨cs1, _⟩ := case_same (tss := d.tss) fun ts hm => (dok.good hm).1
        obtain ⟨t1, _⟩ := tests_ok cs1 fun ts hm => dok.good2 hm
        have tall := isTest_all cs1 fun ts hm => dok.good2 hm
        generalize hds : d.tss.map tstD = ds at husK t1 tall
        have dl : ds.length = us.length := by rw [← hds, List.length_map]; exact ul.symm
        have seeK5 : SeeF K K5 (.ref p5) (.lst (ds.take n ++ [od, .non] ++ ds.drop n)) := .lst c5 (SeeL.append (SeeL.append (SeeL.take n husK) (.cons (See.mono e55 sod5) (.cons .non .nil))) (SeeL.drop n husK))
        refine met_ca (i := n) seeK5 (.int 5) .non ?_ ?_ trivial trivial ?_ fun p H6 hp e6 hp6 => ?_
        · show (ds.take n ++ [od, .non] ++ ds.drop n).length ≤ 1000
          rw [List.length_append, List.length_append, List.length_take, List.length_drop]
          simp only [List.length_cons, List.length_nil]; omega
        · intro y hy
          have hy : y ∈ ds.take n ++ [od, .non] ++ ds.drop n := hy
          rcases List.mem_append.mp hy with hy | hy
          · rcases List.mem_append.mp hy with hy | hy
            · exact t1 _ (List.mem_of_mem_take hy)
            · simp only [List.mem_cons, List.not_mem_nil, or_false] at hy
              rcases hy with rfl | rfl
              · exact ook
              · trivial
          · exact t1 _ (List.mem_of_mem_drop hy)
        · have e1 : ds.take n ++ [od, .non] ++ ds.drop n = ds.take n ++ od :: (.non :: ds.drop n) := by rw [List.append_assoc]; rfl
          unfold caseBad
          rw [if_pos (show isSq (.lst (ds.take n ++ [od, .non] ++ ds.drop n)) = true from rfl)]
          show tcBad (ds.take n ++ [od, .non] ++ ds.drop n) 0 = some n
          rw [e1, tcBad_app ono fun y hy => tall y (List.mem_of_mem_take hy), List.length_take]
          congr 1; omega
        · refine ⟨_, rfl, by show 2 ≤ sizeLine; decide, fun p7 hp7 => ?_⟩
          have y7 : Ex H6 (upd H6 p7 (.tup [.str "case", .int n])) := Ex.new hp7
          have e57 : Ex H5 (upd H6 p7 (.tup [.str "case", .int n])) := (e55.trans e6).trans y7
          refine ⟨.ref p, .ref p7, .tup [.str "case", .int n], rfl, see_two (y7 _ _ hp6) (.int _), see_two upd_same (.int _), dep_tup (by simp) (allC' (dep_flat rfl _) (allC' (dep_flat rfl _) fun x h => by cases h)), fun H8 e8 => ⟨_, rfl, iteF ?_⟩⟩
          exact ⟨⟨_, rfl⟩, (e4.trans e5).trans (ExtN.of (e57.trans e8)), T5.ext (e57.trans e8)⟩
      · rintro σ H4 ⟨⟨z5, rfl⟩, e4, T4⟩
        exact hnx _ _ ⟨⟨_, rfl⟩, (ExtN.of e3).trans e4, T4⟩
    rintro σ H3 ⟨⟨z5, rfl⟩, e23, T3⟩
    -- what are no lists
    refine seq_split (fun σ' H' => (∃ z5, σ' = [some (.ref a), some (.str d.name), some (.ref l), some (.ref nd), some (.int n), z5, none, none, none, none, none, none, none, none, none]) ∧ ExtN H2 H' ∧ Tabs (T0 TP) H') (fun nx hnx => ?_) ?_
    · refine tFor_of ?_
      refine fun dd hdd => ⟨by show 5 ≤ sizeLine; decide, fun tp htp => ⟨tp, rfl, ⟨_, SqT.of upd_same⟩, ?_⟩⟩
      have y1 : Ex H3 (upd H3 dd (.dK [])) := Ex.new hdd
      have c1 : (upd H3 dd (.dK [])) dd = some (.dK []) := upd_same
      generalize upd H3 dd (.dK []) = K1 at y1 c1 htp
      have y2 : Ex K1 (upd K1 tp (.tup [.non, .int 5, .str "row", .ref dd, .bl true])) := Ex.new htp
      have c2 : (upd K1 tp (.tup [.non, .int 5, .str "row", .ref dd, .bl true])) tp = some (.tup [.non, .int 5, .str "row", .ref dd, .bl true]) := upd_same
      generalize upd K1 tp (.tup [.non, .int 5, .str "row", .ref dd, .bl true]) = K2 at y2 c2
      refine for_itB (walk_tup (xs := [.non, .int 5, .str "row", .ref dd, .bl true])) (fun i σ H' => (∃ z5, σ = [some (.ref a), some (.str d.name), some (.ref l), some (.ref nd), some (.int n), z5, none, none, none, none, none, none, none, none, none]) ∧ ExtN K2 H' ∧ Tabs (T0 TP) H') ⟨⟨_, rfl⟩, ExtN.refl _, T3.ext (y1.trans y2)⟩ (fun i σ H' _ I => SqT.of (I.2.1 _ _ c2 (fun ps z => by cases z))) ?_ ?_
      · rintro i x σ H4 H4' iN ⟨⟨z5, rfl⟩, e4, T4⟩ ⟨rfl, hx⟩
        obtain ⟨od, sod, hsq, hit⟩ : ∃ od, SeeF K K2 x od ∧ isSq od = false ∧ items od = [] := by
          have hm := List.mem_of_getElem? hx
          simp only [List.mem_cons, List.not_mem_nil, or_false] at hm
          rcases hm with rfl | rfl | rfl | rfl | rfl
          · exact ⟨_, .non, rfl, rfl⟩
          · exact ⟨_, .int 5, rfl, rfl⟩
          · exact ⟨_, .str "row", rfl, rfl⟩
          · exact ⟨.dct [], .dct (y2 _ _ c1) .nil, rfl, rfl⟩
          · exact ⟨_, .bl true, rfl, rfl⟩
        dsimp only [gName]
        refine ⟨T4, fun H5 e5 T5 => ?_⟩
        have sod5 := see_ext (e4.trans e5) sod
        refine ⟨_, rfl, ?_⟩
        refine met_ca (i := 0) sod5 (.int 5) .non (by rw [hit]; simp) (by rw [hit]; intro x h; cases h) trivial trivial (by unfold caseBad; rw [if_neg (by rw [hsq]; decide)]) fun p H6 hp e6 hp6 => ?_
        refine ⟨by show 2 ≤ sizeLine; decide, fun p7 hp7 => ?_⟩
        have y7 : Ex H6 (upd H6 p7 (.tup [.str "case", .int 0])) := Ex.new hp7
        have e57 : Ex H5 (upd H6 p7 (.tup [.str "case", .int 0])) := e6.trans y7
        refine ⟨.ref p, .ref p7, .tup [.str "case", .int 0], rfl, see_two (y7 _ _ hp6) (.int _), see_two upd_same (.int _), dep_tup (by simp) (allC' (dep_flat rfl _) (allC' (dep_flat rfl _) fun x h => by cases h)), fun H8 e8 => ⟨_, rfl, iteF ?_⟩⟩
        exact ⟨⟨_, rfl⟩, (e4.trans e5).trans (ExtN.of (e57.trans e8)), T5.ext (e57.trans e8)⟩
      · rintro σ H4 ⟨⟨z5, rfl⟩, e4, T4⟩
        exact hnx _ _ ⟨⟨_, rfl⟩, (e23.trans (ExtN.of (y1.trans y2))).trans e4, T4⟩
    clear z5 T3 e23 H3
    rintro σ H3 ⟨⟨z5, rfl⟩, e23, T3⟩
    -- what are no names
    refine seq_split (fun σ' H' => (∃ z5, σ' = [some (.ref a), some (.str d.name), some (.ref l), some (.ref nd), some (.int n), z5, none, none, none, none, none, none, none, none, none]) ∧ ExtN H2 H' ∧ Tabs (T0 TP) H') (fun nx hnx => ?_) ?_
    · refine tFor_of ?_
      refine ⟨_, rfl, by show 1 ≤ sizeLine; decide, fun q1 hq1 => ⟨_, rfl, by show 1 ≤ sizeLine; decide, fun q2 hq2 => fun q3 hq3 => ⟨by show 12 ≤ sizeLine; decide, fun tp htp => ⟨tp, rfl, ⟨_, SqT.of upd_same⟩, ?_⟩⟩⟩⟩
      have y1 : Ex H3 (upd H3 q1 (.lst [.str d.name])) := Ex.new hq1
      have c1 : (upd H3 q1 (.lst [.str d.name])) q1 = some (.lst [.str d.name]) := upd_same
      generalize upd H3 q1 (.lst [.str d.name]) = K1 at y1 c1 hq2 hq3 htp
      have y2 : Ex K1 (upd K1 q2 (.tup [.str d.name])) := Ex.new hq2
      have c2 : (upd K1 q2 (.tup [.str d.name])) q2 = some (.tup [.str d.name]) := upd_same
      generalize upd K1 q2 (.tup [.str d.name]) = K2 at y2 c2 hq3 htp
      have y3 : Ex K2 (upd K2 q3 (.dK [])) := Ex.new hq3
      have c3 : (upd K2 q3 (.dK [])) q3 = some (.dK []) := upd_same
      generalize upd K2 q3 (.dK []) = K3 at y3 c3 htp
      generalize hLL : ([.non, .int 5, .str "", .str "A", .str "ninesigns", .str "a b", .str "1a", .str "not", .bl true, .ref q1, .ref q2, .ref q3] : List V) = LL
      have y4 : Ex K3 (upd K3 tp (.tup LL)) := Ex.new htp
      have c4 : (upd K3 tp (.tup LL)) tp = some (.tup LL) := upd_same
      generalize upd K3 tp (.tup LL) = K4 at y4 c4
      refine for_itB (walk_tup (xs := LL)) (fun i σ H' => (∃ z5, σ = [some (.ref a), some (.str d.name), some (.ref l), some (.ref nd), some (.int n), z5, none, none, none, none, none, none, none, none, none]) ∧ ExtN K4 H' ∧ Tabs (T0 TP) H') ⟨⟨_, rfl⟩, ExtN.refl _, T3.ext (((y1.trans y2).trans y3).trans y4)⟩ (fun i σ H' _ I => SqT.of (I.2.1 _ _ c4 (fun ps z => by cases z))) ?_ ?_
      · rintro i x σ H4 H4' iN ⟨⟨z5, rfl⟩, e4, T4⟩ ⟨rfl, hx⟩
        obtain ⟨od, sod, hnm, hok, hdp⟩ : ∃ od, SeeF K K4 x od ∧ isName od = false ∧ strOk od ∧ Dep 6 od := by
          have hm := List.mem_of_getElem? hx
          rw [← hLL] at hm
          have st : ∀ z : Str, isNameS z = false → z.cps.size ≤ 1000000 → ∃ od, SeeF K K4 (.str z) od ∧ isName od = false ∧ strOk od ∧ Dep 6 od := fun z h1 h2 => ⟨.str z, .str z, h1, h2, dep_flat rfl 6⟩
          simp only [List.mem_cons, List.not_mem_nil, or_false] at hm
          rcases hm with rfl | rfl | rfl | rfl | rfl | rfl | rfl | rfl | rfl | rfl | rfl | rfl
          · exact ⟨_, .non, rfl, trivial, dep_flat rfl 6⟩
          · exact ⟨_, .int 5, rfl, trivial, dep_flat rfl 6⟩
          · exact st _ (by decide +kernel) (by decide +kernel)
          · exact st _ (by decide +kernel) (by decide +kernel)
          · exact st _ (by decide +kernel) (by decide +kernel)
          · exact st _ (by decide +kernel) (by decide +kernel)
          · exact st _ (by decide +kernel) (by decide +kernel)
          · exact st _ (by decide +kernel) (by decide +kernel)
          · exact ⟨_, .bl true, rfl, trivial, dep_flat rfl 6⟩
          · exact ⟨.lst [.str d.name], .lst (((y2.trans y3).trans y4) _ _ c1) (.cons (.str _) .nil), rfl, trivial, dep_lst (by simp) (allC' (dep_flat rfl _) fun x h => by cases h)⟩
          · exact ⟨.tup [.str d.name], .tup ((y3.trans y4) _ _ c2) (.cons (.str _) .nil), rfl, trivial, dep_tup (by simp) (allC' (dep_flat rfl _) fun x h => by cases h)⟩
          · exact ⟨.dct [], .dct (y4 _ _ c3) .nil, rfl, trivial, dep_nil 5⟩
        dsimp only [gName]
        refine ⟨T4, fun H5 e5 T5 => ?_⟩
        have sod5 := see_ext (e4.trans e5) sod
        have e25 : ExtN H2 H5 := ((e23.trans (ExtN.of (((y1.trans y2).trans y3).trans y4))).trans e4).trans e5
        refine ⟨_, rfl, _, rfl, ?_⟩
        refine met_na dok (.lst (e25 _ _ hl2 (fun ps z => by cases z)) (seeL_ext e25 hus2)) sod5 .non hok trivial hnm fun p H6 hp e6 hp6 => ?_
        refine ⟨_, rfl, by show 2 ≤ sizeLine; decide, fun p7 hp7 => ?_⟩
        have y7 : Ex H6 (upd H6 p7 (.tup [.str "name", x])) := Ex.new hp7
        have e57 : Ex H5 (upd H6 p7 (.tup [.str "name", x])) := e6.trans y7
        refine ⟨.ref p, .ref p7, .tup [.str "name", od], rfl, see_two (y7 _ _ hp6) (See.mono e57 sod5), see_two upd_same (See.mono e57 sod5), dep_tup (by simp) (allC' (dep_flat rfl _) (allC' hdp fun x h => by cases h)), fun H8 e8 => ⟨_, rfl, iteF ?_⟩⟩
        exact ⟨⟨_, rfl⟩, (e4.trans e5).trans (ExtN.of (e57.trans e8)), T5.ext (e57.trans e8)⟩
      · rintro σ H4 ⟨⟨z5, rfl⟩, e4, T4⟩
        exact hnx _ _ ⟨⟨_, rfl⟩, (e23.trans (ExtN.of (((y1.trans y2).trans y3).trans y4))).trans e4, T4⟩
    clear z5 T3 e23 H3
    rintro σ H3 ⟨⟨z5, rfl⟩, e23, T3⟩
    -- one test more, numbers for all
    refine seq_split (fun σ' H' => ∃ p6, σ' = [some (.ref a), some (.str d.name), some (.ref l), some (.ref nd), some (.int n), z5, some (.ref p6), none, none, none, none, none, none, none, none] ∧ ExtN H2 H' ∧ Tabs (T0 TP) H' ∧ SeeF K H' (.ref p6) (.lst (d.tss.map tstD ++ [tstD (moreT d.name)]))) (fun nx hnx => ?_) ?_
    · have hl3 := e23 _ _ hl2 (fun ps z => by cases z)
      have hus3 := seeL_ext e23 hus2
      refine ⟨_, rfl, fun p1 hp1 => ⟨_, rfl, _, rfl, upd_same, [(.inr "a1", .int 1), (.inr "b1", .int (-1)), (.inr d.name, .int 1)], rfl, by simp, ?_⟩⟩
      have em : mergeK [] [((.inr "a1" : Key), V.int 1), (.inr "b1", .int (-1)), (.inr d.name, .int 1)] = cK (moreC d.name) := mergeK_nil (by
        have := cK_nodup (moreC_good dok.nm).1.few.nd
        exact this)
      rw [em]
      have y1 : Ex H3 (upd (upd H3 p1 (.dK [])) p1 (.dK (cK (moreC d.name)))) := (Ex.new hp1).mut hp1
      have c1 : (upd (upd H3 p1 (.dK [])) p1 (.dK (cK (moreC d.name)))) p1 = some (.dK (cK (moreC d.name))) := upd_same
      generalize upd (upd H3 p1 (.dK [])) p1 (.dK (cK (moreC d.name))) = K1 at y1 c1
      refine ⟨by show 2 ≤ sizeLine; decide, fun p2 hp2 => ?_⟩
      have y2 : Ex K1 (upd K1 p2 (.tup [.ref p1, .int 0])) := Ex.new hp2
      have c2 : (upd K1 p2 (.tup [.ref p1, .int 0])) p2 = some (.tup [.ref p1, .int 0]) := upd_same
      generalize upd K1 p2 (.tup [.ref p1, .int 0]) = K2 at y2 c2
      refine ⟨by show 2 ≤ sizeLine; decide, fun p3 hp3 => ?_⟩
      have y3 : Ex K2 (upd K2 p3 (.tup [.str "row", .ref p2])) := Ex.new hp3
      have c3 : (upd K2 p3 (.tup [.str "row", .ref p2])) p3 = some (.tup [.str "row", .ref p2]) := upd_same
      generalize upd K2 p3 (.tup [.str "row", .ref p2]) = K3 at y3 c3
      refine ⟨by show 1 ≤ sizeLine; decide, fun p4 hp4 => ?_⟩
      have y4 : Ex K3 (upd K3 p4 (.lst [.ref p3])) := Ex.new hp4
      have c4 : (upd K3 p4 (.lst [.ref p3])) p4 = some (.lst [.ref p3]) := upd_same
      generalize upd K3 p4 (.lst [.ref p3]) = K4 at y4 c4
      have e34 := ((y1.trans y2).trans y3).trans y4
      refine ⟨l, p4, us, [.ref p3], rfl, rfl, e34 _ _ hl3, c4, by simp only [List.length_cons, List.length_nil]; omega, fun p5 hp5 => hnx _ _ ⟨p5, rfl, ?_⟩⟩
      have y5 : Ex K4 (upd K4 p5 (.lst (us ++ [.ref p3]))) := Ex.new hp5
      have e35 := e34.trans y5
      refine ⟨e23.trans (ExtN.of e35), T3.ext e35, .lst upd_same (SeeL.append (SeeL.mono e35 hus3) (.cons ?_ .nil))⟩
      exact .tup ((y4.trans y5) _ _ c3) (.cons (.str _) (.cons (.tup (((y3.trans y4).trans y5) _ _ c2) (.cons (.dct ((((y2.trans y3).trans y4).trans y5) _ _ c1) (seeK_c _)) (.cons (.int _) .nil))) .nil))
    clear T3 e23 H3
    rintro σ H3 ⟨p6, rfl, e23, T3, st3⟩
    refine seq_split (fun σ' H' => ∃ gd, σ' = [some (.ref a), some (.str d.name), some (.ref l), some (.ref nd), some (.int n), z5, some (.ref p6), some (.ref gd), none, none, none, none, none, none, none] ∧ ExtN H3 H' ∧ Tabs (T0 TP) H' ∧ H' gd = some (.dK (cK (goodC d)))) (fun nx hnx => ?_) ?_
    · have hnd3 := e23 _ _ hnd2 (fun ps z => by cases z)
      refine ⟨_, rfl, nd, cK d.cn, rfl, hnd3, fun K1 Lq ts e1 hL _ _ hL1 hts1 => ?_⟩
      have e1 : Ex H3 K1 := e1
      refine ⟨by show 2 ≤ sizeLine; decide, fun t1 ht1 => ?_⟩
      have w1 : Ex K1 (upd K1 t1 (.tup [.str "a1", .int 1])) := Ex.new ht1
      have g1 : (upd K1 t1 (.tup [.str "a1", .int 1])) t1 = some (.tup [.str "a1", .int 1]) := upd_same
      generalize upd K1 t1 (.tup [.str "a1", .int 1]) = K2 at w1 g1
      refine ⟨by show 2 ≤ sizeLine; decide, fun t2 ht2 => ?_⟩
      have w2 : Ex K2 (upd K2 t2 (.tup [.str "b1", .int 2])) := Ex.new ht2
      have g2 : (upd K2 t2 (.tup [.str "b1", .int 2])) t2 = some (.tup [.str "b1", .int 2]) := upd_same
      generalize upd K2 t2 (.tup [.str "b1", .int 2]) = K3 at w2 g2
      refine ⟨by show 2 ≤ sizeLine; decide, fun l2 hl2' => ?_⟩
      have w3 : Ex K3 (upd K3 l2 (.lst [.ref t1, .ref t2])) := Ex.new hl2'
      have g3 : (upd K3 l2 (.lst [.ref t1, .ref t2])) l2 = some (.lst [.ref t1, .ref t2]) := upd_same
      generalize upd K3 l2 (.lst [.ref t1, .ref t2]) = K4 at w3 g3
      have w13 := (w1.trans w2).trans w3
      have tsl : ts.length = d.cn.length := by rw [hts1.length, cK_len]
      refine ⟨Lq, l2, _, _, rfl, rfl, w13 _ _ hL1, g3, by rw [List.length_map, tsl]; have := dok.cl; simp only [List.length_cons, List.length_nil]; omega, fun C hC => ?_⟩
      have w4 : Ex K4 (upd K4 C (.lst (ts.map V.ref ++ [.ref t1, .ref t2]))) := Ex.new hC
      have g4 : (upd K4 C (.lst (ts.map V.ref ++ [.ref t1, .ref t2]))) C = some (.lst ((ts ++ [t1, t2]).map V.ref)) := by rw [upd_same, List.map_append]; rfl
      generalize upd K4 C (.lst (ts.map V.ref ++ [.ref t1, .ref t2])) = K5 at w4 g4
      have w14 := w13.trans w4
      have eg : goodC d = d.cn ++ [(("a1" : Str), (1 : Int)), (("b1" : Str), (2 : Int))] := by unfold goodC; rw [List.append_assoc]; rfl
      have pr5 : Paired (fun p kv => K5 p = some (.tup [L2.kV kv.1, kv.2])) (ts ++ [t1, t2]) (cK (goodC d)) := by
        rw [eg, cK_app]
        exact Paired.app (Paired.imp (fun p kv h => w14 _ _ h) hts1) (.cons (((w2.trans w3).trans w4) _ _ g1) (.cons ((w3.trans w4) _ _ g2) .nil))
      refine ⟨C, ts ++ [t1, t2], cK (goodC d), rfl, g4, pr5, fun gd hgd => ?_⟩
      rw [mergeK_nil (cK_nodup dok.goodN.1)]
      have w5 : Ex H3 (upd K5 gd (.dK (cK (goodC d)))) := (e1.trans w14).trans (Ex.new hgd)
      exact hnx _ _ ⟨gd, rfl, ExtN.of w5, T3.ext w5, upd_same⟩
    rintro σ H4 ⟨gd, rfl, e34, T4, hgd4⟩
    have st4 := see_ext e34 st3
    have e24 := e23.trans e34
    clear st3 T3 e34 e23 H3
    -- the odd ones, gathered
    refine seq_split (fun σ' H' => ∃ (R : Addr) (xs : List V) (ds : List Dat), σ' = [some (.ref a), some (.str d.name), some (.ref l), some (.ref nd), some (.int n), z5, some (.ref p6), some (.ref gd), some (.ref R), none, none, none, none, none, none] ∧ H4 R = none ∧ Ex H4 H' ∧ H' R = some (.lst xs) ∧ SeeL (FKK K) (sansL [R] H') xs ds ∧ (∀ od ∈ ds, GoodOdd od) ∧ xs.length ≤ 8) (fun nx hnx => ?_) ?_
    · refine ⟨Nat.zero_le _, fun Pe hPe => ?_⟩
      have y1 : Ex H4 (upd H4 Pe (.lst [])) := Ex.new hPe
      have c1 : (upd H4 Pe (.lst [])) Pe = some (.lst []) := upd_same
      generalize upd H4 Pe (.lst []) = K1 at y1 c1
      refine ⟨_, rfl, gd, _, rfl, y1 _ _ hgd4, fun K2 Ip ts y2 hIp hts _ c2 hpr => ?_⟩
      have y2 : Ex K1 K2 := y2
      refine fun q3 hq3 => ?_
      have y3 : Ex K2 (upd K2 q3 (.dK [])) := Ex.new hq3
      have c3 : (upd K2 q3 (.dK [])) q3 = some (.dK []) := upd_same
      generalize upd K2 q3 (.dK []) = K3 at y3 c3
      have y13 := (y1.trans y2).trans y3
      refine ⟨_, rfl, gd, _, rfl, y13 _ _ hgd4, fun K4 Lq ts2 y4 hLq _ _ c4 hpr2 => ?_⟩
      have y4 : Ex K3 K4 := y4
      obtain ⟨tsA, tb, rfl, prA, _⟩ : ∃ tsA tb, ts2 = tsA ++ [tb] ∧ Paired (fun p kv => K4 p = some (.tup [L2.kV kv.1, kv.2])) tsA (cK (d.cn ++ [(("a1" : Str), (1 : Int))])) ∧ K4 tb = some (.tup [.str "b1", .int 2]) := by
        unfold goodC at hpr2
        rw [cK_app] at hpr2
        exact paired_last hpr2
      refine ⟨_, rfl, _, rfl, Lq, _, rfl, SqL.of c4, fun p5 hp5 => ?_⟩
      have y5 : Ex K4 (upd K4 p5 (.lst (cutV ((tsA ++ [tb]).map V.ref) none (some (-1))))) := Ex.new hp5
      have c5 : (upd K4 p5 (.lst (cutV ((tsA ++ [tb]).map V.ref) none (some (-1))))) p5 = some (.lst (tsA.map V.ref)) := by rw [upd_same, List.map_append, List.map_cons, List.map_nil, cut_last]
      generalize upd K4 p5 (.lst (cutV ((tsA ++ [tb]).map V.ref) none (some (-1)))) = K5 at y5 c5
      refine ⟨p5, tsA, _, rfl, c5, Paired.imp (fun p kv h => y5 _ _ h) prA, fun q6 hq6 => ?_⟩
      rw [mergeK_nil (cK_nodup dok.goodN.2.1)]
      have y6 : Ex K5 (upd K5 q6 (.dK (cK (d.cn ++ [(("a1" : Str), (1 : Int))])))) := Ex.new hq6
      have c6 : (upd K5 q6 (.dK (cK (d.cn ++ [(("a1" : Str), (1 : Int))])))) q6 = some (.dK (cK (d.cn ++ [(("a1" : Str), (1 : Int))]))) := upd_same
      generalize upd K5 q6 (.dK (cK (d.cn ++ [(("a1" : Str), (1 : Int))]))) = K6 at y6 c6
      refine ⟨by show 8 ≤ sizeLine; decide, fun R hR => ?_⟩
      have y46 := (y4.trans y5).trans y6
      have y16 := y13.trans y46
      have smA : SmallD (cD (d.cn ++ [(("a1" : Str), (1 : Int))])) := smallD_cD (by rw [List.length_append]; have := dok.cl; simp; omega) dok.goodN.2.1 fun y hy => dok.goodK y (by unfold goodC; rw [keys_app]; exact List.mem_append.mpr (.inl hy))
      refine hnx _ _ ⟨R, [.non, .int 5, .str "a1", .ref Pe, .ref Ip, .bl true, .ref q3, .ref q6], [.non, .int 5, .str "a1", .lst [], .lst ((cD (goodC d)).map fun p => .tup [keyD p.1, p.2]), .bl true, .dct [], .dct (cD (d.cn ++ [(("a1" : Str), (1 : Int))]))], rfl, y16.free hR, y16.trans (Ex.new hR), upd_same, ?_, ?_, by simp⟩
      · refine SeeL.mono (H := K6) (fun b o h => sansL_at (by simpa using ne_of_none h hR) (by rw [upd_ne (ne_of_none h hR)]; exact h)) ?_
        exact .cons .non (.cons (.int 5) (.cons (.str "a1") (.cons (.lst (((y2.trans y3).trans y46) _ _ c1) .nil) (.cons (.lst ((y3.trans y46) _ _ c2) (see_rows (Paired.imp (fun t q h => (y3.trans y46) _ _ h) hpr) see_cK)) (.cons (.bl true) (.cons (.dct (y46 _ _ c3) .nil) (.cons (.dct c6 see_cK) .nil)))))))
      · intro od hod
        simp only [List.mem_cons, List.not_mem_nil, or_false] at hod
        rcases hod with rfl | rfl | rfl | rfl | rfl | rfl | rfl | rfl
        · exact ⟨trivial, dep_flat rfl 6, .inl rfl⟩
        · exact ⟨trivial, dep_flat rfl 6, .inl rfl⟩
        · exact ⟨trivial, dep_flat rfl 6, .inl rfl⟩
        · exact ⟨trivial, dep_nil 6, .inl rfl⟩
        · exact rows_odd (by have := dok.goodL; omega)
        · exact ⟨trivial, dep_flat rfl 6, .inl rfl⟩
        · exact ⟨⟨by simp, (fun p hp => by cases hp), by simp⟩, dep_nil 5, .inr rfl⟩
        · exact ⟨smA.ok, smA.dep 2, .inr (hasK_notin dok.goodN.2.2)⟩
    rintro σ H5 ⟨R, xs0, ds0, rfl, hRH4, e45, hR5, sx5, go5, xl5⟩
    have T5 : Tabs (T0 TP) H5 := T4.ext e45
    have hgd5 := e45 _ _ hgd4
    have st5 := See.mono (show Ex H4 (sansL [R] H5) from fun b o h => sansL_at (by simpa using fun z => by rw [z, hRH4] at h; cases h) (e45 _ _ h)) st4
    have e25 : ExtN H2 (sansL [R] H5) := fun b o h nt => sansL_at (fun z => by
      have := e24 b o h nt
      rw [List.mem_singleton.mp z, hRH4] at this; cases this) (e45 _ _ (e24 b o h nt))
    clear st4 T4 e24 hgd4
    have ngR : gd ≠ R := fun z => by rw [z, hR5] at hgd5; cases hgd5
    -- a bad pair more
    refine seq_split (fun σ' H' => ∃ (xs : List V) (ds : List Dat) (z9 z10 : Option V), σ' = [some (.ref a), some (.str d.name), some (.ref l), some (.ref nd), some (.int n), z5, some (.ref p6), some (.ref gd), some (.ref R), z9, z10, none, none, none, none] ∧ Exo [R] H5 H' ∧ H' R = some (.lst xs) ∧ SeeL (FKK K) (sansL [R] H') xs ds ∧ (∀ od ∈ ds, GoodOdd od) ∧ xs.length ≤ 14) (fun nx hnx => ?_) ?_
    · refine tFor_of ?_
      refine ⟨by show 2 ≤ sizeLine; decide, fun t1 ht1 => ⟨by show 2 ≤ sizeLine; decide, fun t2 ht2 => ⟨by show 2 ≤ sizeLine; decide, fun t3 ht3 => ⟨by show 2 ≤ sizeLine; decide, fun t4 ht4 => ⟨by show 2 ≤ sizeLine; decide, fun t5 ht5 => ⟨by show 1 ≤ sizeLine; decide, fun li hli => ⟨by show 2 ≤ sizeLine; decide, fun t6 ht6 => ⟨by show 6 ≤ sizeLine; decide, fun tp htp => ⟨tp, rfl, ⟨_, SqT.of upd_same⟩, ?_⟩⟩⟩⟩⟩⟩⟩⟩⟩
      have y1 : Ex H5 (upd H5 t1 (.tup [.str "a1", .non])) := Ex.new ht1
      have c1 : (upd H5 t1 (.tup [.str "a1", .non])) t1 = some (.tup [.str "a1", .non]) := upd_same
      generalize upd H5 t1 (.tup [.str "a1", .non]) = K1 at y1 c1 ht2 ht3 ht4 ht5 hli ht6 htp
      have y2 : Ex K1 (upd K1 t2 (.tup [.str "b1", .bl true])) := Ex.new ht2
      have c2 : (upd K1 t2 (.tup [.str "b1", .bl true])) t2 = some (.tup [.str "b1", .bl true]) := upd_same
      generalize upd K1 t2 (.tup [.str "b1", .bl true]) = K2 at y2 c2 ht3 ht4 ht5 hli ht6 htp
      have y3 : Ex K2 (upd K2 t3 (.tup [.str "a1", .str "1"])) := Ex.new ht3
      have c3 : (upd K2 t3 (.tup [.str "a1", .str "1"])) t3 = some (.tup [.str "a1", .str "1"]) := upd_same
      generalize upd K2 t3 (.tup [.str "a1", .str "1"]) = K3 at y3 c3 ht4 ht5 hli ht6 htp
      have y4 : Ex K3 (upd K3 t4 (.tup [.str "A", .int 1])) := Ex.new ht4
      have c4 : (upd K3 t4 (.tup [.str "A", .int 1])) t4 = some (.tup [.str "A", .int 1]) := upd_same
      generalize upd K3 t4 (.tup [.str "A", .int 1]) = K4 at y4 c4 ht5 hli ht6 htp
      have y5 : Ex K4 (upd K4 t5 (.tup [.int 5, .int 1])) := Ex.new ht5
      have c5 : (upd K4 t5 (.tup [.int 5, .int 1])) t5 = some (.tup [.int 5, .int 1]) := upd_same
      generalize upd K4 t5 (.tup [.int 5, .int 1]) = K5 at y5 c5 hli ht6 htp
      have y6 : Ex K5 (upd K5 li (.lst [.int 1])) := Ex.new hli
      have c6 : (upd K5 li (.lst [.int 1])) li = some (.lst [.int 1]) := upd_same
      generalize upd K5 li (.lst [.int 1]) = K6 at y6 c6 ht6 htp
      have y7 : Ex K6 (upd K6 t6 (.tup [.str "c1", .ref li])) := Ex.new ht6
      have c7 : (upd K6 t6 (.tup [.str "c1", .ref li])) t6 = some (.tup [.str "c1", .ref li]) := upd_same
      generalize upd K6 t6 (.tup [.str "c1", .ref li]) = K7 at y7 c7 htp
      have y15 := (((y1.trans y2).trans y3).trans y4).trans y5
      have nliR : li ≠ R := fun z => by rw [z, y15 _ _ hR5] at hli; cases hli
      have y17 := (y15.trans y6).trans y7
      have ntR : tp ≠ R := fun z => by rw [z, y17 _ _ hR5] at htp; cases htp
      generalize hLL : ([.ref t1, .ref t2, .ref t3, .ref t4, .ref t5, .ref t6] : List V) = LL
      have l6 : LL.length = 6 := by rw [← hLL]; rfl
      have y8 : Ex K7 (upd K7 tp (.tup LL)) := Ex.new htp
      have c8 : (upd K7 tp (.tup LL)) tp = some (.tup LL) := upd_same
      generalize upd K7 tp (.tup LL) = K8 at y8 c8
      have y18 := y17.trans y8
      have ups : Ex (sansL [R] H5) (sansL [R] K8) := sansL_mono fun b o nb h => ⟨nb, y18 _ _ h⟩
      refine for_itB (walk_tup (xs := LL)) (fun i σ H' => (∃ z9 z10, σ = [some (.ref a), some (.str d.name), some (.ref l), some (.ref nd), some (.int n), z5, some (.ref p6), some (.ref gd), some (.ref R), z9, z10, none, none, none, none]) ∧ Exo [R] K8 H' ∧ ∃ xs ds, H' R = some (.lst xs) ∧ SeeL (FKK K) (sansL [R] H') xs ds ∧ (∀ od ∈ ds, GoodOdd od) ∧ xs.length ≤ 8 + i) ⟨⟨_, _, rfl⟩, Exo.refl _ _, xs0, ds0, y18 _ _ hR5, SeeL.mono ups sx5, go5, by omega⟩ (fun i σ H' _ I => SqT.of (I.2.1 _ _ (by simpa using ntR) c8)) ?_ ?_
      · rintro i x σ H6 H6' iN ⟨⟨z9, z10, rfl⟩, e6, xs, ds, hR6, sx6, go6, xl6⟩ ⟨rfl, hx⟩
        obtain ⟨t, k, v, dv, rfl, ht, sv, hv, hvl, hk, hb⟩ : ∃ t k v dv, x = .ref t ∧ K8 t = some (.tup [L2.kV k, v]) ∧ SeeF K (sansL [R] K8) v dv ∧ valOk dv = true ∧ (∀ ds, dv = .lst ds → ds.length ≤ 1000) ∧ keyOk k ∧ (isName (keyD k) && isWhole dv) = false := by
          have hm := List.mem_of_getElem? hx
          rw [← hLL] at hm
          simp only [List.mem_cons, List.not_mem_nil, or_false] at hm
          rcases hm with rfl | rfl | rfl | rfl | rfl | rfl
          · exact ⟨t1, .inr "a1", .non, .non, rfl, (((((((y2.trans y3).trans y4).trans y5).trans y6).trans y7)).trans y8) _ _ c1, .non, rfl, fun ds z => (by cases z), ab_nm.1.2, by rw [show isWhole .non = false from rfl, Bool.and_false]⟩
          · exact ⟨t2, .inr "b1", .bl true, .bl true, rfl, ((((((y3.trans y4).trans y5).trans y6).trans y7)).trans y8) _ _ c2, .bl true, rfl, fun ds z => (by cases z), ab_nm.2.2, by rw [show isWhole (.bl true) = false from rfl, Bool.and_false]⟩
          · exact ⟨t3, .inr "a1", .str "1", .str "1", rfl, (((((y4.trans y5).trans y6).trans y7)).trans y8) _ _ c3, .str "1", rfl, fun ds z => (by cases z), ab_nm.1.2, by rw [show isWhole (.str "1") = false from rfl, Bool.and_false]⟩
          · exact ⟨t4, .inr "A", .int 1, .int 1, rfl, ((((y5.trans y6).trans y7)).trans y8) _ _ c4, .int 1, rfl, fun ds z => (by cases z), (by show ("A" : Str).cps.size ≤ 1000000; decide +kernel), by rw [show isName (keyD (.inr "A")) = false from by decide +kernel]; rfl⟩
          · exact ⟨t5, .inl 5, .int 1, .int 1, rfl, (((y6.trans y7)).trans y8) _ _ c5, .int 1, rfl, fun ds z => (by cases z), trivial, rfl⟩
          · exact ⟨t6, .inr "c1", .ref li, .lst [.int 1], rfl, y8 _ _ c7, .lst (sansL_at (by simpa using nliR) ((y7.trans y8) _ _ c6)) (.cons (.int 1) .nil), rfl, fun ds z => (by cases z; simp), (by show ("c1" : Str).cps.size ≤ 1000000; decide +kernel), by rw [show isWhole (.lst [.int 1]) = false from rfl, Bool.and_false]⟩
        have ht6 := e6 t _ (fun z => by
          rw [List.mem_singleton.mp z, y18 _ _ hR5] at ht; cases ht) ht
        refine ⟨t, _, rfl, SqT.of ht6, rfl, _, _, rfl, _, _, rfl, rfl, ?_⟩
        dsimp only [gName]
        refine ⟨_, rfl, .inl ⟨rfl, _, SqL.of hR6⟩, dict_more (Nu := gd) (c := goodC d) (k := k) (v := v) rfl (e6 _ _ (by simpa using ngR) (y18 _ _ hgd5)) (by have := dok.goodL; omega) dok.goodN.1 (fun H' R h => ⟨_, rfl, h⟩) (fun H' R h => ⟨_, rfl, h⟩) fun p H7 hp e7 hp7 => ?_⟩
        have npR : p ≠ R := fun z => by rw [z, hR6] at hp; cases hp
        refine ⟨R, xs, .ref p, rfl, rfl, e7 _ _ hR6, by omega, ⟨_, _, rfl⟩, (e6.trans (e7.exo _)).own (by simp), xs ++ [.ref p], ds ++ [.dct (putD (cD (goodC d)) k dv)], upd_same, ?_, fun od hod => ?_, by rw [List.length_append]; simp; omega⟩
        · have up : ∀ {b : Addr} {o : HO}, b ∉ [R] → H7 b = some o → (sansL [R] (upd H7 R (.lst (xs ++ [.ref p])))) b = some o := fun nb h => sansL_at nb (by rw [upd_ne (by simpa using nb)]; exact h)
          refine SeeL.append (SeeL.mono (sansL_mono fun b o nb h => ⟨nb, by rw [upd_ne (by simpa using nb)]; exact e7 _ _ h⟩) sx6) (.cons (.dct (up (by simpa using npR) hp7) (seeK_put (See.mono (sansL_mono fun b o nb h => ⟨nb, by rw [upd_ne (by simpa using nb)]; exact e7 _ _ (e6 _ _ nb h)⟩) sv) see_cK)) .nil)
        · rcases List.mem_append.mp hod with h | h
          · exact go6 _ h
          · rw [List.mem_singleton.mp h]; exact goodOdd_put dok.goodS (by unfold cD; rw [List.length_map]; have := dok.goodL; omega) hv hvl hk hb
      · rintro σ H6 ⟨⟨z9, z10, rfl⟩, e6, xs, ds, hR6, sx6, go6, xl6⟩
        exact hnx _ _ ⟨xs, ds, z9, z10, rfl, (y18.exo _).trans e6, hR6, sx6, go6, by omega⟩
    rintro σ H6 ⟨xs1, ds1, z9, z10, rfl, e56, hR6, sx6, go6, xl6⟩
    have hgd6 := e56 _ _ (by simpa using ngR) hgd5
    refine seq_split (fun σ' H' => ∃ (xs : List V) (ds : List Dat) (z9 z10 : Option V), σ' = [some (.ref a), some (.str d.name), some (.ref l), some (.ref nd), some (.int n), z5, some (.ref p6), some (.ref gd), some (.ref R), z9, z10, none, none, none, none] ∧ Exo [R] H5 H' ∧ H' R = some (.lst xs) ∧ SeeL (FKK K) (sansL [R] H') xs ds ∧ (∀ od ∈ ds, GoodOdd od) ∧ xs.length ≤ 18) (fun nx hnx => ?_) ?_
    · refine ⟨_, rfl, .inl ⟨rfl, _, SqL.of hR6⟩, ?_⟩
      dsimp only [tCons, tNil, gName]
      refine tLc_of ?_
      refine ⟨by show 1 ≤ sizeLine; decide, fun li hli => ⟨by show 4 ≤ sizeLine; decide, fun tp htp => ⟨tp, rfl, ⟨_, SqT.of upd_same⟩, ?_⟩⟩⟩
      have y1 : Ex H6 (upd H6 li (.lst [.int 1])) := Ex.new hli
      have c1 : (upd H6 li (.lst [.int 1])) li = some (.lst [.int 1]) := upd_same
      have nliR : li ≠ R := fun z => by rw [z, hR6] at hli; cases hli
      generalize upd H6 li (.lst [.int 1]) = K1 at y1 c1 htp
      generalize hLL : ([.non, .bl true, .str "7", .ref li] : List V) = LL
      have l4 : LL.length = 4 := by rw [← hLL]; rfl
      have y2 : Ex K1 (upd K1 tp (.tup LL)) := Ex.new htp
      have c2 : (upd K1 tp (.tup LL)) tp = some (.tup LL) := upd_same
      generalize upd K1 tp (.tup LL) = K2 at y2 c2
      have y12 := y1.trans y2
      refine lc_genD (walk_tup (xs := LL)) [] (fun _ _ => True) (fun D i acc H' => ∃ ds, SeeL (FKK K) (sansL [R, D] H') acc ds ∧ ∀ od ∈ ds, GoodOdd od) (by omega) (fun b hb => by cases hb) (fun H' e => SqT.of (e _ _ (by simp) c2)) (fun _ _ _ _ _ => trivial) ?_ trivial (fun D hD => ⟨[], .nil, by simp⟩) ?_ ?_
      · rintro i acc H1 D l0 l hD hN1 ⟨ds, h1, h2⟩
        exact ⟨ds, SeeL.mono (sansL_mono fun b o nb hb => ⟨nb, by rw [upd_ne fun z => nb (by simp [z])]; exact hb⟩) h1, h2⟩
      · rintro i x H7 H7' D acc R1 R2 hi e7 m hD hDH ⟨ds, h1, h2⟩ hacc ⟨rfl, hx⟩ k1 _
        have e7 : Ex K2 H7' := e7.ex
        have nDR : D ≠ R := fun z => by rw [z, y12 _ _ hR6] at hD; cases hD
        obtain ⟨dv, sv, hv, hvl, hb⟩ : ∃ dv, SeeF K (sansL [R, D] H7') x dv ∧ valOk dv = true ∧ (∀ ds, dv = .lst ds → ds.length ≤ 1000) ∧ isWhole dv = false := by
          have hm := List.mem_of_getElem? hx
          rw [← hLL] at hm
          simp only [List.mem_cons, List.not_mem_nil, or_false] at hm
          rcases hm with rfl | rfl | rfl | rfl
          · exact ⟨.non, .non, rfl, fun ds z => (by cases z), rfl⟩
          · exact ⟨.bl true, .bl true, rfl, fun ds z => (by cases z), rfl⟩
          · exact ⟨.str "7", .str "7", rfl, fun ds z => (by cases z), rfl⟩
          · exact ⟨.lst [.int 1], .lst (sansL_at (by simp only [List.mem_cons, List.not_mem_nil, or_false, not_or]; exact ⟨nliR, fun z => by rw [← z, y2 _ _ c1] at hD; cases hD⟩) (e7 _ _ (y2 _ _ c1))) (.cons (.int 1) .nil), rfl, fun ds z => (by cases z; simp), rfl⟩
        refine ⟨rfl, yesT (dict_more (Nu := gd) (c := goodC d) (k := .inr d.name) (v := x) rfl (e7 _ _ (y12 _ _ hgd6)) (by have := dok.goodL; omega) dok.goodN.1 (fun H' R h => ⟨_, rfl, h⟩) (fun H' R h => ⟨_, rfl, h⟩) fun p H8 hp e8 hp8 => ?_)⟩
        have npR : p ≠ R := fun z => by rw [z, e7 _ _ (y12 _ _ hR6)] at hp; cases hp
        have npD : p ≠ D := fun z => by rw [z, hDH] at hp; cases hp
        refine k1 (.ref p) H8 (e8.exo _) trivial ⟨ds ++ [.dct (putD (cD (goodC d)) (.inr d.name) dv)], SeeL.append (SeeL.mono (sansL_mono fun b o nb h => ⟨nb, e8 _ _ h⟩) h1) (.cons (.dct (sansL_at (by simp [npR, npD]) hp8) (seeK_put (See.mono (sansL_mono fun b o nb h => ⟨nb, e8 _ _ h⟩) sv) see_cK)) .nil), fun od hod => ?_⟩
        rcases List.mem_append.mp hod with h | h
        · exact h2 _ h
        · rw [List.mem_singleton.mp h]
          exact goodOdd_put dok.goodS (by unfold cD; rw [List.length_map]; have := dok.goodL; omega) hv hvl (pool_nm _ (List.mem_cons_of_mem _ (List.mem_cons_of_mem _ dok.nm))).2.1 (by rw [hb, Bool.and_false])
      · rintro D acc H8 hD e8 _ ⟨ds, h1, h2⟩ hDH hacc
        have e8 : Ex H6 H8 := y12.trans e8.ex
        have nDR : D ≠ R := fun z => by rw [z, y12 _ _ hR6] at hD; cases hD
        refine ⟨R, D, xs1, acc, rfl, rfl, e8 _ _ hR6, hDH, by omega, ?_⟩
        have up : ∀ {b : Addr} {o : HO}, b ∉ [R] → H8 b = some o → (upd H8 R (.lst (xs1 ++ acc))) b = some o := fun nb h => by rw [upd_ne (by simpa using nb)]; exact h
        refine hnx _ _ ⟨xs1 ++ acc, ds1 ++ ds, z9, z10, rfl, (e56.trans (e8.exo _)).own (by simp), upd_same, SeeL.append (SeeL.mono (sansL_mono fun b o nb h => ⟨nb, up nb (e8 _ _ h)⟩) sx6) (SeeL.mono (sansL_mono fun b o nb h => ⟨fun z => nb (by simp [List.mem_singleton.mp z]), up (fun z => nb (by simp [List.mem_singleton.mp z])) h⟩) h1), fun od hod => ?_, by rw [List.length_append]; omega⟩
        rcases List.mem_append.mp hod with h | h
        · exact go6 _ h
        · exact h2 _ h
    clear hgd6 xl6 go6 sx6 hR6 e56 H6 xs1 ds1 z9 z10
    rintro σ H6 ⟨xs, ds, z9, z10, rfl, e56, hR6, sx6, go6, xl6⟩
    have T6 : Tabs (T0 TP) H6 := tabs_soft T5 (soft_of (M := [R]) (fun b hb => by rw [List.mem_singleton.mp hb]; exact ⟨_, hR5, .inl ⟨_, rfl⟩⟩) fun b o nb h => e56 b o nb h)
    have st6 : SeeF K H6 (.ref p6) _ := See.mono (fun b o h => by obtain ⟨nb, h⟩ := sansL_get h; exact e56 _ _ nb h) st5
    have e26 : ExtN H2 H6 := fun b o h nt => by obtain ⟨nb, h⟩ := sansL_get (e25 b o h nt); exact e56 _ _ nb h
    have sx6 := SeeL.mono (sansL_ex _ _) sx6
    clear T5 st5 e25 e56 hgd5 hR5 sx5 go5
    -- what are no numbers
    refine seq_split (fun σ' H' => (∃ z5, σ' = [some (.ref a), some (.str d.name), some (.ref l), some (.ref nd), some (.int n), z5, some (.ref p6), some (.ref gd), some (.ref R), z9, z10, none, none, none, none]) ∧ ExtN H6 H' ∧ Tabs (T0 TP) H') (fun nx hnx => ?_) ?_
    · refine tFor_of ?_
      refine ⟨_, rfl, R, rfl, ⟨_, SqL.of hR6⟩, ?_⟩
      refine for_itB (walk_list (xs := xs)) (fun i σ H' => (∃ z5, σ = [some (.ref a), some (.str d.name), some (.ref l), some (.ref nd), some (.int n), z5, some (.ref p6), some (.ref gd), some (.ref R), z9, z10, none, none, none, none]) ∧ ExtN H6 H' ∧ Tabs (T0 TP) H') ⟨⟨_, rfl⟩, ExtN.refl _, T6⟩ (fun i σ H' _ I => SqL.of (I.2.1 _ _ hR6 (fun ps z => by cases z))) ?_ ?_
      · rintro i x σ H7 H7' iN ⟨⟨z5, rfl⟩, e7, T7⟩ ⟨rfl, hx⟩
        obtain ⟨od, hod, sod⟩ := sx6.getV hx
        have god := go6 _ (List.mem_of_getElem? hod)
        dsimp only [gName]
        refine ⟨T7, fun H8 e8 T8 => ?_⟩
        have sod8 := see_ext (e7.trans e8) sod
        refine ⟨_, rfl, _, rfl, _, rfl, ?_⟩
        refine met_nu dok (see_ext (e7.trans e8) st6) sod8 god.ok god.no fun p H9 hp e9 hp9 => ?_
        refine ⟨_, rfl, by show 2 ≤ sizeLine; decide, fun p7 hp7 => ?_⟩
        have y7 : Ex H9 (upd H9 p7 (.tup [.str "numbers", x])) := Ex.new hp7
        have e97 := e9.trans y7
        refine ⟨.ref p, .ref p7, .tup [.str "numbers", od], rfl, see_two (y7 _ _ hp9) (See.mono e97 sod8), see_two upd_same (See.mono e97 sod8), dep_tup (by simp) (allC' (dep_flat rfl _) (allC' god.dep fun x h => by cases h)), fun H10 e10 => ⟨_, rfl, iteF ?_⟩⟩
        exact ⟨⟨_, rfl⟩, (e7.trans e8).trans (ExtN.of (e97.trans e10)), T8.ext (e97.trans e10)⟩
      · rintro σ H7 ⟨⟨z5, rfl⟩, e7, T7⟩
        exact hnx _ _ ⟨⟨_, rfl⟩, e7, T7⟩
    clear z5
    rintro σ H7 ⟨⟨z5, rfl⟩, e67, T7⟩
    have st7 := see_ext e67 st6
    have e27 := e26.trans e67
    clear st6 e26 e67 T6
    -- the very objects
    dsimp only [tSeq]
    refine ⟨_, rfl, by show 1 ≤ sizeLine; decide, fun hd hhd => ?_⟩
    have y1 : Ex H7 (upd H7 hd (.lst [.str d.name])) := Ex.new hhd
    have c1 : (upd H7 hd (.lst [.str d.name])) hd = some (.lst [.str d.name]) := upd_same
    generalize upd H7 hd (.lst [.str d.name]) = K1 at y1 c1
    refine fun kd hkd => ⟨upd_same, [(.inr "a1", .int 1)], rfl, by simp, ?_⟩
    have y2 : Ex K1 (upd (upd K1 kd (.dK [])) kd (.dK (mergeK [] [(.inr "a1", .int 1)]))) := (Ex.new hkd).mut hkd
    have c2 : (upd (upd K1 kd (.dK [])) kd (.dK (mergeK [] [(.inr "a1", .int 1)]))) kd = some (.dK [(.inr "a1", .int 1)]) := upd_same
    generalize upd (upd K1 kd (.dK [])) kd (.dK (mergeK [] [(.inr "a1", .int 1)])) = K2 at y2 c2
    refine ⟨by show 1 ≤ sizeLine; decide, fun ld hld => ?_⟩
    have nhl : hd ≠ ld := fun z => by rw [← z, y2 _ _ c1] at hld; cases hld
    have nkl : kd ≠ ld := fun z => by rw [← z, c2] at hld; cases hld
    have nhk : hd ≠ kd := fun z => by rw [← z, c1] at hkd; cases hkd
    have y3 : Ex K2 (upd K2 ld (.lst [.str "x"])) := Ex.new hld
    have c3 : (upd K2 ld (.lst [.str "x"])) ld = some (.lst [.str "x"]) := upd_same
    generalize upd K2 ld (.lst [.str "x"]) = K3 at y3 c3
    refine ⟨by show 3 ≤ sizeLine; decide, fun tt htt => ?_⟩
    have y4 : Ex K3 (upd K3 tt (.tup [.ref hd, .ref kd, .ref ld])) := Ex.new htt
    have c4 : (upd K3 tt (.tup [.ref hd, .ref kd, .ref ld])) tt = some (.tup [.ref hd, .ref kd, .ref ld]) := upd_same
    generalize upd K3 tt (.tup [.ref hd, .ref kd, .ref ld]) = K4 at y4 c4
    refine ⟨tt, _, rfl, SqT.of c4, rfl, _, _, rfl, _, _, rfl, _, _, rfl, rfl, ?_⟩
    dsimp only [gName]
    have y74 := ((y1.trans y2).trans y3).trans y4
    have c1 := (((y2.trans y3).trans y4)) _ _ c1
    have c2 := ((y3.trans y4)) _ _ c2
    have c3 := y4 _ _ c3
    have T4' := T7.ext y74
    have e24 := e27.trans (ExtN.of y74)
    have st4 := See.mono y74 st7
    refine ⟨T4', fun H5 e5 T5 => ?_⟩
    have e25 := e24.trans e5
    have k1 : H5 hd = some (.lst [.str d.name]) := e5 _ _ c1 (fun ps z => by cases z)
    refine ⟨_, rfl, _, rfl, ?_⟩
    refine met_na dok (dn := .lst [.str d.name]) (.lst (e25 _ _ hl2 (fun ps z => by cases z)) (seeL_ext e25 hus2)) (.lst k1 (.cons (.str _) .nil)) .non trivial trivial rfl fun m1 H6 hm1 e6 hm16 => ?_
    refine ⟨by show 1 ≤ sizeLine; decide, fun F hF => ?_⟩
    have eF0 : ExtN K4 H6 := e5.trans (ExtN.of e6)
    have z1 : Ex H6 (upd H6 F (.lst [.ref m1])) := Ex.new hF
    have f1 : (upd H6 F (.lst [.ref m1])) F = some (.lst [.ref m1]) := upd_same
    have m1a := z1 _ _ hm16
    have eA : ExtN K4 (upd H6 F (.lst [.ref m1])) := eF0.trans (ExtN.of z1)
    have TA := T5.ext (e6.trans z1)
    generalize upd H6 F (.lst [.ref m1]) = HA at z1 f1 m1a eA TA
    dsimp only [gName]
    refine ⟨_, rfl, .inl ⟨rfl, _, SqL.of f1⟩, TA, fun H7 e7 T7 => ?_⟩
    refine ⟨_, rfl, _, rfl, _, rfl, ?_⟩
    have eA7 := eA.trans e7
    refine met_nu dok (du := .dct [(.inr "a1", .int 1)]) (see_ext eA7 st4) (.dct (eA7 _ _ c2 (fun ps z => by cases z)) (.cons (.int 1) .nil)) ⟨by simp, (fun p hp => by rw [List.mem_singleton.mp hp]; exact ⟨rfl, ab_nm.1.2⟩), by simp⟩ (.inr (by decide)) fun m2 H8 hm2 e8 hm28 => ?_
    have f8 := e8 _ _ (e7 _ _ f1 (fun ps z => by cases z))
    have m18 := e8 _ _ (e7 _ _ m1a (fun ps z => by cases z))
    refine ⟨F, [.ref m1], .ref m2, rfl, rfl, f8, by simp; omega, ?_⟩
    have n1F : m1 ≠ F := fun z => by rw [z, f8] at m18; cases m18
    have n2F : m2 ≠ F := fun z => by rw [z, f8] at hm28; cases hm28
    have f2 : (upd H8 F (.lst ([.ref m1] ++ [.ref m2]))) F = some (.lst [.ref m1, .ref m2]) := upd_same
    have m1b : (upd H8 F (.lst ([.ref m1] ++ [.ref m2]))) m1 = _ := (upd_ne n1F).trans m18
    have m2b : (upd H8 F (.lst ([.ref m1] ++ [.ref m2]))) m2 = _ := (upd_ne n2F).trans hm28
    have eB : ExtN K4 (upd H8 F (.lst ([.ref m1] ++ [.ref m2]))) := extN_mut eF0 hF (eA7.trans (ExtN.of e8))
    have TB' : Tabs (T0 TP) (upd H8 F (.lst ([.ref m1] ++ [.ref m2]))) := tabs_lst (T7.ext e8) f8
    generalize upd H8 F (.lst ([.ref m1] ++ [.ref m2])) = HB at f2 m1b m2b eB TB'
    refine ⟨_, rfl, .inl ⟨rfl, _, SqL.of f2⟩, TB', fun H9 e9 T9 => ?_⟩
    refine ⟨_, rfl, _, rfl, _, rfl, ?_⟩
    have eB9 := eB.trans e9
    refine met_nu dok (du := .lst [.str "x"]) (see_ext eB9 st4) (.lst (eB9 _ _ c3 (fun ps z => by cases z)) (.cons (.str _) .nil)) trivial (.inl rfl) fun m3 H10 hm3 e10 hm310 => ?_
    have f10 := e10 _ _ (e9 _ _ f2 (fun ps z => by cases z))
    have m110 := e10 _ _ (e9 _ _ m1b (fun ps z => by cases z))
    have m210 := e10 _ _ (e9 _ _ m2b (fun ps z => by cases z))
    refine ⟨F, [.ref m1, .ref m2], .ref m3, rfl, rfl, f10, by simp; omega, ?_⟩
    have n3F : m3 ≠ F := fun z => by rw [z, f10] at hm310; cases hm310
    have f3 : (upd H10 F (.lst ([.ref m1, .ref m2] ++ [.ref m3]))) F = some (.lst [.ref m1, .ref m2, .ref m3]) := upd_same
    have m1c : (upd H10 F (.lst ([.ref m1, .ref m2] ++ [.ref m3]))) m1 = _ := (upd_ne n1F).trans m110
    have m2c : (upd H10 F (.lst ([.ref m1, .ref m2] ++ [.ref m3]))) m2 = _ := (upd_ne n2F).trans m210
    have m3c : (upd H10 F (.lst ([.ref m1, .ref m2] ++ [.ref m3]))) m3 = _ := (upd_ne n3F).trans hm310
    have eC : ExtN K4 (upd H10 F (.lst ([.ref m1, .ref m2] ++ [.ref m3]))) := extN_mut eF0 hF (eB9.trans (ExtN.of e10))
    have TC : Tabs (T0 TP) (upd H10 F (.lst ([.ref m1, .ref m2] ++ [.ref m3]))) := tabs_lst (T9.ext e10) f10
    generalize upd H10 F (.lst ([.ref m1, .ref m2] ++ [.ref m3])) = HC at f3 m1c m2c m3c eC TC
    have h1c := eC _ _ c1 (fun ps z => by cases z)
    have h2c := eC _ _ c2 (fun ps z => by cases z)
    have h3c := eC _ _ c3 (fun ps z => by cases z)
    have n1h : F ≠ hd := fun z => by
      have := eF0 _ _ c1 (fun ps z => by cases z); rw [← z, hF] at this; cases this
    have n1k : F ≠ kd := fun z => by
      have := eF0 _ _ c2 (fun ps z => by cases z); rw [← z, hF] at this; cases this
    have n1l : F ≠ ld := fun z => by
      have := eF0 _ _ c3 (fun ps z => by cases z); rw [← z, hF] at this; cases this
    have ntup : ∀ {m : Addr} {ys : List V}, HC m = some (.tup ys) → m ≠ hd ∧ m ≠ kd ∧ m ≠ ld := fun {m ys} h => ⟨fun z => (by rw [z, h1c] at h; cases h), fun z => (by rw [z, h2c] at h; cases h), fun z => (by rw [z, h3c] at h; cases h)⟩
    refine ⟨_, rfl, .inl ⟨rfl, _, SqL.of h1c⟩, hd, _, _, rfl, rfl, h1c, by simp; omega, ?_⟩
    have TD : Tabs (T0 TP) (upd HC hd (.lst ([.str d.name] ++ [.str "late"]))) := tabs_lst TC h1c
    have d1 : (upd HC hd (.lst ([.str d.name] ++ [.str "late"]))) hd = some (.lst [.str d.name, .str "late"]) := upd_same
    have kD : ∀ b, b ≠ hd → (upd HC hd (.lst ([.str d.name] ++ [.str "late"]))) b = HC b := fun b h => upd_ne h
    generalize upd HC hd (.lst ([.str d.name] ++ [.str "late"])) = HD at TD d1 kD
    have d2 : HD kd = some (.dK [(.inr "a1", .int 1)]) := (kD _ nhk.symm).trans h2c
    refine ⟨_, rfl, kd, _, rfl, .inl ⟨_, .inr "late", d2, rfl, by simp; omega, rfl⟩, ?_⟩
    have TE : Tabs (T0 TP) (upd HD kd (.dK (putK [(.inr "a1", .int 1)] (.inr "late") (.int 2)))) := tabs_dk TD d2
    have g2 : (upd HD kd (.dK (putK [(.inr "a1", .int 1)] (.inr "late") (.int 2)))) kd = some (.dK [(.inr "a1", .int 1), (.inr "late", .int 2)]) := upd_same
    have kE : ∀ b, b ≠ kd → (upd HD kd (.dK (putK [(.inr "a1", .int 1)] (.inr "late") (.int 2)))) b = HD b := fun b h => upd_ne h
    generalize upd HD kd (.dK (putK [(.inr "a1", .int 1)] (.inr "late") (.int 2))) = HE at TE g2 kE
    have g3 : HE ld = some (.lst [.str "x"]) := (kE _ nkl.symm).trans ((kD _ nhl.symm).trans h3c)
    refine ⟨_, rfl, .inl ⟨rfl, _, SqL.of g3⟩, ld, _, _, rfl, rfl, g3, by simp; omega, ?_⟩
    have TF : Tabs (T0 TP) (upd HE ld (.lst ([.str "x"] ++ [.str "late"]))) := tabs_lst TE g3
    have i3 : (upd HE ld (.lst ([.str "x"] ++ [.str "late"]))) ld = some (.lst [.str "x", .str "late"]) := upd_same
    have kF : ∀ b, b ≠ ld → (upd HE ld (.lst ([.str "x"] ++ [.str "late"]))) b = HE b := fun b h => upd_ne h
    generalize upd HE ld (.lst ([.str "x"] ++ [.str "late"])) = HF' at TF i3 kF
    have keep : ∀ b, b ≠ hd → b ≠ kd → b ≠ ld → HF' b = HC b := fun b a1 a2 a3 => (kF b a3).trans ((kE b a2).trans (kD b a1))
    have i1 : HF' hd = some (.lst [.str d.name, .str "late"]) := (kF _ nhl).trans ((kE _ nhk).trans d1)
    have i2 : HF' kd = some (.dK [(.inr "a1", .int 1), (.inr "late", .int 2)]) := (kF _ nkl).trans g2
    have iF := (keep _ n1h n1k n1l).trans f3
    have im1 := (keep _ (ntup m1c).1 (ntup m1c).2.1 (ntup m1c).2.2).trans m1c
    have im2 := (keep _ (ntup m2c).1 (ntup m2c).2.1 (ntup m2c).2.2).trans m2c
    have im3 := (keep _ (ntup m3c).1 (ntup m3c).2.1 (ntup m3c).2.2).trans m3c
    have e2C : ExtN H2 HC := e24.trans eC
    have e2F : ExtN H2 HF' := fun b o h nt => by
      have h7 := e27 b o h nt
      have nh : b ≠ hd := fun z => by rw [z, hhd] at h7; cases h7
      have nk : b ≠ kd := fun z => by rw [z] at h7; rw [y1 _ _ h7] at hkd; cases hkd
      have nl : b ≠ ld := fun z => by rw [z] at h7; rw [y2 _ _ (y1 _ _ h7)] at hld; cases hld
      rw [keep b nh nk nl]; exact e2C b o h nt
    refine ⟨_, rfl, _, rfl, by show 2 ≤ sizeLine; decide, fun t1 ht1 => ?_⟩
    have v1 : Ex HF' (upd HF' t1 (.tup [.str "name", .ref hd])) := Ex.new ht1
    have b1 : (upd HF' t1 (.tup [.str "name", .ref hd])) t1 = some (.tup [.str "name", .ref hd]) := upd_same
    generalize upd HF' t1 (.tup [.str "name", .ref hd]) = J1 at v1 b1
    refine ⟨_, rfl, by show 2 ≤ sizeLine; decide, fun t2 ht2 => ?_⟩
    have v2 : Ex J1 (upd J1 t2 (.tup [.str "numbers", .ref kd])) := Ex.new ht2
    have b2 : (upd J1 t2 (.tup [.str "numbers", .ref kd])) t2 = some (.tup [.str "numbers", .ref kd]) := upd_same
    generalize upd J1 t2 (.tup [.str "numbers", .ref kd]) = J2 at v2 b2
    refine ⟨_, rfl, by show 2 ≤ sizeLine; decide, fun t3 ht3 => ?_⟩
    have v3 : Ex J2 (upd J2 t3 (.tup [.str "numbers", .ref ld])) := Ex.new ht3
    have b3 : (upd J2 t3 (.tup [.str "numbers", .ref ld])) t3 = some (.tup [.str "numbers", .ref ld]) := upd_same
    generalize upd J2 t3 (.tup [.str "numbers", .ref ld]) = J3 at v3 b3
    refine ⟨by show 3 ≤ sizeLine; decide, fun LL hLL => ?_⟩
    have v4 : Ex J3 (upd J3 LL (.lst [.ref t1, .ref t2, .ref t3])) := Ex.new hLL
    have b4 : (upd J3 LL (.lst [.ref t1, .ref t2, .ref t3])) LL = some (.lst [.ref t1, .ref t2, .ref t3]) := upd_same
    generalize upd J3 LL (.lst [.ref t1, .ref t2, .ref t3]) = J4 at v4 b4
    have v14 := ((v1.trans v2).trans v3).trans v4
    have sh : SeeF K J4 (.ref hd) (.lst [.str d.name, .str "late"]) := .lst (v14 _ _ i1) (.cons (.str _) (.cons (.str _) .nil))
    have sk : SeeF K J4 (.ref kd) (.dct [(.inr "a1", .int 1), (.inr "late", .int 2)]) := .dct (v14 _ _ i2) (.cons (.int 1) (.cons (.int 2) .nil))
    have sl : SeeF K J4 (.ref ld) (.lst [.str "x", .str "late"]) := .lst (v14 _ _ i3) (.cons (.str _) (.cons (.str _) .nil))
    have ds : ∀ {x y : Str}, Dep 5 (.lst [.str x, .str y]) := fun {x y} => dep_lst (by simp) (allC' (dep_flat rfl _) (allC' (dep_flat rfl _) fun z h => by cases h))
    have dk : Dep 5 (.dct [((.inr "a1" : Key), .int 1), (.inr "late", .int 2)]) := dep_dct (n := 1) (by simp) fun p hp => by
      simp only [List.mem_cons, List.not_mem_nil, or_false] at hp
      rcases hp with rfl | rfl <;> exact ⟨rfl, fun ds z => (by cases z)⟩
    refine ⟨.ref F, .ref LL, .lst [.tup [.str "name", .lst [.str d.name, .str "late"]], .tup [.str "numbers", .dct [(.inr "a1", .int 1), (.inr "late", .int 2)]], .tup [.str "numbers", .lst [.str "x", .str "late"]]], rfl, ?_, ?_, ?_, fun H' e' => q H' ?_ ?_ (TF.ext (v14.trans e'))⟩
    · exact .lst (v14 _ _ iF) (.cons (see_two (v14 _ _ im1) sh) (.cons (see_two (v14 _ _ im2) sk) (.cons (see_two (v14 _ _ im3) sl) .nil)))
    · exact .lst b4 (.cons (see_two (((v2.trans v3).trans v4) _ _ b1) sh) (.cons (see_two ((v3.trans v4) _ _ b2) sk) (.cons (see_two (v4 _ _ b3) sl) .nil)))
    · exact dep_lst (by simp) (allC' (dep_tup (by simp) (allC' (dep_flat rfl _) (allC' ds fun z h => by cases h))) (allC' (dep_tup (by simp) (allC' (dep_flat rfl _) (allC' dk fun z h => by cases h))) (allC' (dep_tup (by simp) (allC' (dep_flat rfl _) (allC' ds fun z h => by cases h))) fun z h => by cases h)))
    · exact (e02.exoN).ext (e2F.trans (ExtN.of (v14.trans e')))
    · exact ((s2.keepN (e2F.trans (ExtN.of (v14.trans e')))).mono (by omega))
end
end K8

set_option Elab.async false
set_option linter.all false
set_option maxRecDepth 100000
set_option maxHeartbeats 8000000
namespace K8
open PySem PySem.Spec PyProof.Rows L2 M8
/-! the written values -/
/-- the written tests -/
def w1 : Tst := .row [(("x" : Str), (3 : Int)), (("a" : Str), (-1 : Int))] 0
def w2 : Tst := .row [(("x" : Str), (-2 : Int)), (("b" : Str), (1 : Int))] 0
def w3 : Tst := .div 2 [(("x" : Str), (1 : Int)), (("a" : Str), (1 : Int))] 0
def w4 : Tst := .same [(("x" : Str), (2 : Int))] 3
def wn (n : Int) : Coef := [(("a" : Str), (1 : Int)), (("b" : Str), n)]
def wa : Coef := [(("a" : Str), (1 : Int))]
def wx : Coef := [(("x" : Str), (9 : Int))]
def xab : List Str := [("x" : Str), ("a" : Str), ("b" : Str)]
theorem xab_nm : ∀ n ∈ xab, isNameS n = true ∧ n.cps.size ≤ 1000000 := by decide +kernel
theorem caseS_of {L : Int} {ts : Tst} (nd : (keys (coef ts)).Nodup) (hl : (coef ts).length ≤ 60) (hm : ∀ p ∈ coef ts, p.2.natAbs ≤ 1000000000) (hs : ∀ n ∈ keys (coef ts), n ∈ xab) (lot : lotOk L ts) : CaseS L xab ts :=
  ⟨⟨⟨nd, hl⟩, hm, fun n hn => xab_nm n (hs n hn)⟩, lot, fun y hy => by
    have h0 := (mem_nz nd).mp hy
    exact hs y (List.mem_map.mpr ⟨_, co_mem h0, rfl⟩)⟩
theorem numS_of {cn : Coef} (nd : (keys cn).Nodup) (hl : cn.length ≤ 1000) (hs : ∀ n ∈ keys cn, n ∈ xab) : NumS cn := ⟨nd, hl, fun n hn => xab_nm n (hs n hn)⟩
theorem w_all : ∀ ts ∈ [w1, w2, w3, w4], CaseS 2 xab ts := by
  intro ts hm
  simp only [List.mem_cons, List.not_mem_nil, or_false] at hm
  rcases hm with rfl | rfl | rfl | rfl
  · exact caseS_of (by decide +kernel) (by decide) (by decide +kernel) (by decide +kernel) trivial
  · exact caseS_of (by decide +kernel) (by decide) (by decide +kernel) (by decide +kernel) trivial
  · exact caseS_of (by decide +kernel) (by decide) (by decide +kernel) (by decide +kernel) ⟨by decide, by decide⟩
  · exact caseS_of (by decide +kernel) (by decide) (by decide +kernel) (by decide +kernel) trivial
theorem x_co : co (coef w1) "x" = 3 ∧ co (coef w2) "x" = -2 ∧ co (coef w3) "x" = 1 ∧ co (coef w4) "x" = 2 := by decide +kernel
theorem x_w1 : worth (drop1 "x" (coef w1)) 0 (wn 9) = -1 ∧ worth (drop1 "x" (coef w1)) 0 (wn 5) = -1 ∧ worth (drop1 "x" (coef w1)) 0 (wn 1) = -1 ∧ worth (drop1 "x" (coef w1)) 0 wa = -1 := by decide +kernel
theorem x_w2 : worth (drop1 "x" (coef w2)) 0 (wn 9) = 9 ∧ worth (drop1 "x" (coef w2)) 0 (wn 5) = 5 ∧ worth (drop1 "x" (coef w2)) 0 (wn 1) = 1 := by decide +kernel
theorem x_w3 : worth (drop1 "x" (coef w3)) 0 (wn 9) = 1 ∧ worth (drop1 "x" (coef w3)) 0 (wn 5) = 1 ∧ worth (drop1 "x" (coef w3)) 0 (wn 1) = 1 ∧ worth (drop1 "x" (coef w3)) 0 wa = 1 := by decide +kernel
theorem x_w4 : worth (drop1 "x" (coef w4)) 3 [] = 3 := by decide +kernel
theorem ok1 {cn : Coef} {b y : Int} (h : worth (drop1 "x" (coef w1)) 0 cn = b) : (alW "x" cn w1).ok y ↔ 0 ≤ 3 * y + b := by
  show 0 ≤ co (coef w1) "x" * y + worth (drop1 "x" (coef w1)) 0 cn ↔ _
  rw [x_co.1, h]
theorem ok2 {cn : Coef} {b y : Int} (h : worth (drop1 "x" (coef w2)) 0 cn = b) : (alW "x" cn w2).ok y ↔ 0 ≤ -2 * y + b := by
  show 0 ≤ co (coef w2) "x" * y + worth (drop1 "x" (coef w2)) 0 cn ↔ _
  rw [x_co.2.1, h]
theorem ok3 {cn : Coef} {b y : Int} (h : worth (drop1 "x" (coef w3)) 0 cn = b) : (alW "x" cn w3).ok y ↔ (2 : Int) ∣ 1 * y + b := by
  show (2 : Int) ∣ co (coef w3) "x" * y + worth (drop1 "x" (coef w3)) 0 cn ↔ _
  rw [x_co.2.2.1, h]
theorem ok4 {cn : Coef} {b y : Int} (h : worth (drop1 "x" (coef w4)) 3 cn = b) : (alW "x" cn w4).ok y ↔ 2 * y + b = 0 := by
  show co (coef w4) "x" * y + worth (drop1 "x" (coef w4)) 3 cn = 0 ↔ _
  rw [x_co.2.2.2, h]
theorem sol3 {cn : Coef} {b1 b2 b3 y : Int} (h1 : worth (drop1 "x" (coef w1)) 0 cn = b1) (h2 : worth (drop1 "x" (coef w2)) 0 cn = b2) (h3 : worth (drop1 "x" (coef w3)) 0 cn = b3) : Sol "x" cn [w1, w2, w3] y ↔ 0 ≤ 3 * y + b1 ∧ 0 ≤ -2 * y + b2 ∧ (2 : Int) ∣ 1 * y + b3 := by
  unfold Sol
  rw [List.forall_mem_cons, List.forall_mem_cons, List.forall_mem_singleton, ok1 h1, ok2 h2, ok3 h3]
theorem sol2 {cn : Coef} {b1 b3 y : Int} (h1 : worth (drop1 "x" (coef w1)) 0 cn = b1) (h3 : worth (drop1 "x" (coef w3)) 0 cn = b3) : Sol "x" cn [w1, w3] y ↔ 0 ≤ 3 * y + b1 ∧ (2 : Int) ∣ 1 * y + b3 := by
  unfold Sol
  rw [List.forall_mem_cons, List.forall_mem_singleton, ok1 h1, ok3 h3]
theorem with2 {l h y : Int} : within (some l) (some h) y ↔ l ≤ y ∧ y ≤ h := ⟨fun z => ⟨z.1 l rfl, z.2 h rfl⟩, fun z => ⟨fun l' e => (by cases e; exact z.1), fun h' e => (by cases e; exact z.2)⟩⟩
theorem with1 {l y : Int} : within (some l) none y ↔ l ≤ y := ⟨fun z => z.1 l rfl, fun z => ⟨fun l' e => (by cases e; exact z), fun h' e => (by cases e)⟩⟩
theorem with0 {y : Int} : within none none y := ⟨fun l' e => (by cases e), fun h' e => (by cases e)⟩
theorem r9 : Right (Sol "x" (wn 9) [w1, w2, w3]) (some (some 1, some 3, 2, 1)) := by
  have s := fun y => sol3 (y := y) x_w1.1 x_w2.1 x_w3.1
  refine .inr ⟨⟨by decide, by decide, by decide, fun y => ?_⟩, fun l e => ?_, fun l e => ?_, fun l h e1 e2 => ?_⟩
  · rw [s, with2]; omega
  · cases e; rw [s]; omega
  · cases e; rw [s]; omega
  · cases e1; cases e2; decide
theorem r5 : Right (Sol "x" (wn 5) [w1, w2, w3]) (some (some 1, some 1, 1, 0)) := by
  have s := fun y => sol3 (y := y) x_w1.2.1 x_w2.2.1 x_w3.2.1
  refine .inl ⟨1, rfl, rfl, rfl, rfl, fun y => ?_⟩
  rw [s]; omega
theorem r1 : Right (Sol "x" (wn 1) [w1, w2, w3]) none := by
  have s := fun y => sol3 (y := y) x_w1.2.2.1 x_w2.2.2 x_w3.2.2.1
  intro y h
  rw [s] at h; omega
theorem rA : Right (Sol "x" wa [w1, w3]) (some (some 1, none, 2, 1)) := by
  have s := fun y => sol2 (y := y) x_w1.2.2.2 x_w3.2.2.2
  refine .inr ⟨⟨by decide, by decide, by decide, fun y => ?_⟩, fun l e => ?_, fun l e => ?_, fun l h e1 e2 => ?_⟩
  · rw [s, with1]; omega
  · cases e; rw [s]; omega
  · cases e
  · cases e2
theorem r0 {cn : Coef} : Right (Sol "x" cn []) (some (none, none, 1, 0)) :=
  .inr ⟨⟨by decide, by decide, by decide, fun y => ⟨fun _ => ⟨with0, by omega⟩, fun _ ts h => (by cases h)⟩⟩, fun l e => (by cases e), fun l e => (by cases e), fun l h e => (by cases e)⟩
theorem r4 : Right (Sol "x" [] [w4]) none := by
  intro y h
  have := (ok4 x_w4).mp (h w4 (by simp))
  omega
/-- asked of a written case -/
theorem ask_w {K : PySem.W.Frag} {v uv : V} {cn : Coef} {tss : List Tst} {H : Hp} {Q : VK} {ex : Ans} (h1 : SeeF K H v (.lst (tss.map tstD))) (h2 : SeeF K H uv (.dct (cD cn))) (ht : ∀ ts ∈ tss, ts ∈ [w1, w2, w3, w4]) (hl : tss.length ≤ 10) (n : NumS cn) (hh : ∀ ts ∈ tss, ∀ p ∈ coef ts, p.1 ≠ ("x" : Str) → p.2 ≠ 0 → p.1 ∈ keys cn) (r : Right (Sol "x" cn tss) ex)
    (q : ∀ v H', Ex H H' → ansV H' v ex → (∀ q, v = .ref q → H q = none) → Q v H') : spSetG K [v, .str "x", uv] H Q E0 := by
  obtain ⟨c1, _⟩ := case_same (tss := tss) fun ts hm => (w_all ts (ht ts hm)).good.few.nd
  refine ⟨v, uv, "x", _, rfl, ⟨⟨.lst (tss.map tstD), cn, tss, 2, xab, h1, h2, rfl, c1, by omega, fun ts hm => w_all ts (ht ts hm), by decide, by decide, by decide, (xab_nm _ (by decide +kernel)).1, (xab_nm _ (by decide +kernel)).2, n, hh, rfl⟩, fun ans v H' R e hv hn => ?_⟩⟩
  obtain rfl := right_unique R r
  exact q v H' e hv hn
theorem ans_seeN {K : PySem.W.Frag} {N : List Addr} {H : Hp} {v : V} {ans : Ans} (h : ansV H v ans) (hn : ∀ q, v = .ref q → q ∉ N) : SeeF K (sansL N H) v (ansD ans) := by
  match ans, h with
  | none, h => have h : v = .non := h; subst h; exact .non
  | some (lo, hi, p, r), h =>
    obtain ⟨q, rfl, hq⟩ := h
    exact .tup (sansL_at (hn q rfl) hq) (.cons (see_opt _) (.cons (see_opt _) (.cons (.int _) (.cons (.int _) .nil))))
section
variable {P : Program} {w : World} {K : PySem.W.Frag} {mg : Str → Option Value} {base : Heap}
def spWritten : Sp := fun vs H Q _ => vs = [] ∧ ∀ H', Ex H H' → Q (.bl true) H'
abbrev s__law_written_right : Stmt := top 62
theorem sc__law_written_right : FnScope ["tests", "found", "due", "number"] [] (defScope s__law_written_right) := ⟨rfl, rfl, rfl, by decide +kernel, rfl, by decide +kernel, by decide +kernel⟩
theorem ok__law_written_right (T : Txt K mg) {CCa CNa CNu : Addr} (a : At K mg "_law_written_right" s__law_written_right []) (Oset_of : Ok P w K mg base (L2.CX P w) 7 "set_of" ["case", "name", "numbers"] (spSetOf K CCa CNa CNu)) (O_law_same : Ok P w K mg base CX0 9 "_law_same" ["found", "wanted"] (spSameG K (Dep 7))) : Ok P w K mg base CX0 10 "_law_written_right" [] spWritten := a.ok fun f fd F => by
  refine F.ok sc__law_written_right (fun vs H Q E h => ?_) (fun cdv A outer s H vs Q E hr h => ?_)
  · obtain ⟨rfl, _⟩ := h; rfl
  · obtain ⟨rfl, q⟩ := h
    refine ⟨_, (pss_cons (ps_set (i := 0) sc__law_written_right.nd rfl (Or.inr rfl) (litE (K := K) (U := []) (lz_lst (lz_cons (lz_tup (lz_cons (PE.lC pe_str (fun _ => .str _)) (lz_cons (lz_tup (lz_cons (lz_d2 (k1 := .inr "x") (k2 := .inr "a") pe_str pe_str pe_int pe_negC (fun _ => by constructor) (fun _ => by constructor) (by decide)) (lz_cons (PE.lC pe_int (fun _ => .int _)) lz_nil))) lz_nil))) (lz_cons (lz_tup (lz_cons (PE.lC pe_str (fun _ => .str _)) (lz_cons (lz_tup (lz_cons (lz_d2 (k1 := .inr "x") (k2 := .inr "b") pe_str pe_str pe_negC pe_int (fun _ => by constructor) (fun _ => by constructor) (by decide)) (lz_cons (PE.lC pe_int (fun _ => .int _)) lz_nil))) lz_nil))) (lz_cons (lz_tup (lz_cons (PE.lC pe_str (fun _ => .str _)) (lz_cons (PE.lC pe_int (fun _ => .int _)) (lz_cons (lz_tup (lz_cons (lz_d2 (k1 := .inr "x") (k2 := .inr "a") pe_str pe_str pe_int pe_int (fun _ => by constructor) (fun _ => by constructor) (by decide)) (lz_cons (PE.lC pe_int (fun _ => .int _)) lz_nil))) lz_nil)))) lz_nil))))))
      (pss_cons (ps_setLc (i := 1) (own := [("number", 3)]) (g := gName 3) (tt := tYes) rfl sc__law_written_right.nd rfl rfl (sw_true rfl rfl rfl (by decide +kernel)) (pi_tup (pe_tup (pa_cons pe_int (pa_cons pe_int (pa_cons pe_int pa_nil))))) (blkOk_by (N := ["tests", "found", "due", "number"]) (sc := defScope s__law_written_right) (by decide +kernel)) (fun _ _ _ _ _ => (pg_name (i := 3) sc__law_written_right.nd rfl (Or.inl rfl))) (fun _ _ _ _ _ => pts_nil) (fun _ _ _ _ _ => (pe_callX Oset_of setG_imp (hr.mono (by first | decide | omega)) rfl (pa_cons (pv 0) (pa_cons pe_str (pa_cons (pe_disp (pps_cons pe_str pe_int (pps_cons pe_str (pv 3) pps_nil)) rfl rfl (by simp) (by decide)) pa_nil))))))
      (pss_cons (ps_expr (pe_bmK (K := K) rfl (pe_bm PySem.F.plainAttrs_list PySem.F.slot_list_append PySem.F.type_list_append mt_append (pv 1) (pa_cons (pe_callX Oset_of setG_imp (hr.mono (by first | decide | omega)) rfl (pa_cons (pe_op op_cat (pe_slice sl_list (pv 0) po_none (po_some pe_int)) (pe_slice sl_list (pv 0) (po_some pe_int) po_none)) (pa_cons pe_str (pa_cons (pe_disp (pps_cons pe_str pe_int pps_nil) rfl rfl (by simp) (by decide)) pa_nil)))) pa_nil))))
      (pss_cons (ps_expr (pe_bmK (K := K) rfl (pe_bm PySem.F.plainAttrs_list PySem.F.slot_list_extend PySem.F.type_list_extend mt_extend (pv 1) (pa_cons (pe_lst (pa_cons (pe_callX Oset_of setG_imp (hr.mono (by first | decide | omega)) rfl (pa_cons (pe_lst pa_nil) (pa_cons pe_str (pa_cons pe_dnewK pa_nil)))) (pa_cons (pe_callX Oset_of setG_imp (hr.mono (by first | decide | omega)) rfl (pa_cons (litE (K := K) (U := []) (lz_lst (lz_cons (lz_tup (lz_cons (PE.lC pe_str (fun _ => .str _)) (lz_cons (lz_tup (lz_cons (lz_d1 (key := .inr "x") pe_str pe_int (fun _ => by constructor)) (lz_cons (PE.lC pe_int (fun _ => .int _)) lz_nil))) lz_nil))) lz_nil))) (pa_cons pe_str (pa_cons pe_dnewK pa_nil)))) (pa_cons (pe_callX Oset_of setG_imp (hr.mono (by first | decide | omega)) rfl (pa_cons (pe_lst pa_nil) (pa_cons pe_str (pa_cons (pe_disp (pps_cons pe_str pe_int pps_nil) rfl rfl (by simp) (by decide)) pa_nil)))) pa_nil)))) pa_nil))))
      (pss_cons (ps_set (i := 2) sc__law_written_right.nd rfl (Or.inl rfl) (litE (K := K) (U := []) (lz_lst (lz_cons (lz_tup (lz_cons (PE.lC pe_int (fun _ => .int _)) (lz_cons (PE.lC pe_int (fun _ => .int _)) (lz_cons (PE.lC pe_int (fun _ => .int _)) (lz_cons (PE.lC pe_int (fun _ => .int _)) lz_nil))))) (lz_cons (lz_tup (lz_cons (PE.lC pe_int (fun _ => .int _)) (lz_cons (PE.lC pe_int (fun _ => .int _)) (lz_cons (PE.lC pe_int (fun _ => .int _)) (lz_cons (PE.lC pe_int (fun _ => .int _)) lz_nil))))) (lz_cons (PE.lC pe_non (fun _ => .non)) (lz_cons (lz_tup (lz_cons (PE.lC pe_int (fun _ => .int _)) (lz_cons (PE.lC pe_non (fun _ => .non)) (lz_cons (PE.lC pe_int (fun _ => .int _)) (lz_cons (PE.lC pe_int (fun _ => .int _)) lz_nil))))) (lz_cons (lz_tup (lz_cons (PE.lC pe_non (fun _ => .non)) (lz_cons (PE.lC pe_non (fun _ => .non)) (lz_cons (PE.lC pe_int (fun _ => .int _)) (lz_cons (PE.lC pe_int (fun _ => .int _)) lz_nil))))) (lz_cons (PE.lC pe_non (fun _ => .non)) (lz_cons (lz_tup (lz_cons (PE.lC pe_non (fun _ => .non)) (lz_cons (PE.lC pe_non (fun _ => .non)) (lz_cons (PE.lC pe_int (fun _ => .int _)) (lz_cons (PE.lC pe_int (fun _ => .int _)) lz_nil))))) lz_nil))))))))))
      (pss_one (ps_ret (pe_callO O_law_same (hr.mono (by first | decide | omega)) rfl (pa_cons (pv 1) (pa_cons (pv 2) pa_nil)))))))))), ?_⟩
    refine ⟨[], fun _ => .non, ⟨fun b hb => (nomatch hb), fun i hi => (nomatch hi)⟩, fun vt H1 e1 st => ?_⟩
    have st : SeeF K (sansL [] H1) vt (.lst ([w1, w2, w3].map tstD)) := st
    have st := See.mono (sansL_ex _ _) st
    cases st with
    | @lst tl us _ htl hus =>
    have ul : us.length = 3 := hus.len
    dsimp only [gName]
    refine seq_split (fun σ' H' => ∃ (F : Addr) (xs : List V) (z3 : Option V), σ' = [some (.ref tl), some (.ref F), none, z3] ∧ H1 F = none ∧ Ex H1 H' ∧ H' F = some (.lst xs) ∧ SeeL (FKK K) (sansL [F] H') xs [ansD (some (some 1, some 3, 2, 1)), ansD (some (some 1, some 1, 1, 0)), ansD none]) (fun nx hnx => ?_) ?_
    · dsimp only [tAsg, gName]
      refine tLc_of ?_
      refine ⟨by show 3 ≤ sizeLine; decide, fun tp htp => ⟨tp, rfl, ⟨_, SqT.of upd_same⟩, ?_⟩⟩
      have y1 : Ex H1 (upd H1 tp (.tup [.int 9, .int 5, .int 1])) := Ex.new htp
      have c1 : (upd H1 tp (.tup [.int 9, .int 5, .int 1])) tp = some (.tup [.int 9, .int 5, .int 1]) := upd_same
      generalize upd H1 tp (.tup [.int 9, .int 5, .int 1]) = K1 at y1 c1
      refine lc_genD (walk_tup (xs := [.int 9, .int 5, .int 1])) [] (fun _ _ => True) (fun D i acc H' => SeeL (FKK K) (sansL [D] H') acc ([ansD (some (some 1, some 3, 2, 1)), ansD (some (some 1, some 1, 1, 0)), ansD none].take i)) (by simp) (fun b hb => by cases hb) (fun H' e => SqT.of (e _ _ (by simp) c1)) (fun _ _ _ _ _ => trivial) ?_ trivial (fun D hD => .nil) ?_ ?_
      · rintro i acc H2 D l0 l hD hN1 h
        exact SeeL.mono (sansL_mono fun b o nb hb => ⟨nb, by rw [upd_ne fun z => nb (by simp [z])]; exact hb⟩) h
      · rintro i x H2 H2' D acc R1 R2 hi e2 m hD hDH see hacc ⟨rfl, hx⟩ k1 _
        have e2 : Ex K1 H2' := e2.ex
        obtain ⟨j, ex, rfl, rr, hk⟩ : ∃ j ex, x = .int j ∧ Right (Sol "x" (wn j) [w1, w2, w3]) ex ∧ [ansD (some (some 1, some 3, 2, 1)), ansD (some (some 1, some 1, 1, 0)), ansD none].take (i + 1) = [ansD (some (some 1, some 3, 2, 1)), ansD (some (some 1, some 1, 1, 0)), ansD none].take i ++ [ansD ex] := by
          have hi3 : i < 3 := hi
          match i, hi3, hx with
          | 0, _, hx => exact ⟨9, _, by simpa using hx.symm, r9, rfl⟩
          | 1, _, hx => exact ⟨5, _, by simpa using hx.symm, r5, rfl⟩
          | 2, _, hx => exact ⟨1, _, by simpa using hx.symm, r1, rfl⟩
        refine ⟨rfl, yesT ⟨_, rfl, fun p hp => ⟨_, rfl, upd_same, [(.inr "a", .int 1), (.inr "b", .int j)], rfl, by simp, ?_⟩⟩⟩
        have em : mergeK [] [((.inr "a" : Key), V.int 1), (.inr "b", .int j)] = cK (wn j) := mergeK_nil (by
          show ([.inr "a", .inr "b"] : List Key).Nodup
          decide +kernel)
        rw [em]
        have y3 : Ex H2' (upd (upd H2' p (.dK [])) p (.dK (cK (wn j)))) := (Ex.new hp).mut hp
        have c3 : (upd (upd H2' p (.dK [])) p (.dK (cK (wn j)))) p = some (.dK (cK (wn j))) := upd_same
        generalize upd (upd H2' p (.dK [])) p (.dK (cK (wn j))) = H3 at y3 c3
        refine ask_w (cn := wn j) (tss := [w1, w2, w3]) (.lst (y3 _ _ (e2 _ _ (y1 _ _ htl))) (SeeL.mono ((y1.trans e2).trans y3) hus)) (.dct c3 (seeK_c _)) (by simp) (by decide) (numS_of (by show ([("a" : Str), ("b" : Str)] : List Str).Nodup; decide +kernel) (by simp [wn]) (by show ∀ n ∈ ([("a" : Str), ("b" : Str)] : List Str), n ∈ xab; decide +kernel)) (by
          have : ∀ ts ∈ [w1, w2, w3], ∀ p ∈ coef ts, p.1 ≠ ("x" : Str) → p.1 ∈ ([("a" : Str), ("b" : Str)] : List Str) := by decide +kernel
          exact fun ts hm p hp h1 _ => this ts hm p hp h1) rr fun v H4 e4 hv hn => ?_
        refine k1 v H4 ((y3.trans e4).exo _) trivial ?_
        rw [hk]
        refine SeeL.append (SeeL.mono (sansL_mono fun b o nb h => ⟨nb, (y3.trans e4) _ _ h⟩) see) (.cons (ans_seeN hv fun q e => ?_) .nil)
        intro z
        have := hn q e
        rw [List.mem_singleton.mp z, y3 _ _ hDH] at this; cases this
      · rintro D acc H2 hD e2 _ see hDH hacc
        exact hnx _ _ ⟨D, acc, _, rfl, y1.free hD, y1.trans e2.ex, hDH, see⟩
    rintro σ H2 ⟨F, xs, z3, rfl, hF1, e12, hF2, sx⟩
    have xl : xs.length = 3 := sx.len
    have hus2 := SeeL.mono e12 hus
    have htl2 := e12 _ _ htl
    -- one more
    refine ⟨_, rfl, .inl ⟨rfl, _, SqL.of hF2⟩, _, rfl, _, rfl, tl, us, rfl, SqL.of htl2, fun p1 hp1 => ?_⟩
    have y1 : Ex H2 (upd H2 p1 (.lst (cutV us none (some 1)))) := Ex.new hp1
    have c1 : (upd H2 p1 (.lst (cutV us none (some 1)))) p1 = some (.lst (us.take 1)) := by rw [upd_same, cut_first (by decide)]; rfl
    generalize upd H2 p1 (.lst (cutV us none (some 1))) = K1 at y1 c1
    refine ⟨_, rfl, _, rfl, tl, us, rfl, SqL.of (y1 _ _ htl2), fun p2 hp2 => ?_⟩
    have y2 : Ex K1 (upd K1 p2 (.lst (cutV us (some 2) none))) := Ex.new hp2
    have c2 : (upd K1 p2 (.lst (cutV us (some 2) none))) p2 = some (.lst (us.drop 2)) := by rw [upd_same, show cutV us (some 2) none = us.drop 2 from cut_from (n := 2) (by omega)]
    generalize upd K1 p2 (.lst (cutV us (some 2) none)) = K2 at y2 c2
    refine ⟨p1, p2, _, _, rfl, rfl, y2 _ _ c1, c2, by rw [List.length_take, List.length_drop, ul, sizeLine_eq]; decide, fun p3 hp3 => ?_⟩
    have y3 : Ex K2 (upd K2 p3 (.lst (us.take 1 ++ us.drop 2))) := Ex.new hp3
    have c3 : (upd K2 p3 (.lst (us.take 1 ++ us.drop 2))) p3 = some (.lst (us.take 1 ++ us.drop 2)) := upd_same
    generalize upd K2 p3 (.lst (us.take 1 ++ us.drop 2)) = K3 at y3 c3
    refine fun p4 hp4 => ⟨upd_same, [(.inr "a", .int 1)], rfl, by simp, ?_⟩
    have y4 : Ex K3 (upd (upd K3 p4 (.dK [])) p4 (.dK (mergeK [] [(.inr "a", .int 1)]))) := (Ex.new hp4).mut hp4
    have c4 : (upd (upd K3 p4 (.dK [])) p4 (.dK (mergeK [] [(.inr "a", .int 1)]))) p4 = some (.dK (cK wa)) := upd_same
    generalize upd (upd K3 p4 (.dK [])) p4 (.dK (mergeK [] [(.inr "a", .int 1)])) = K4 at y4 c4
    have y14 := ((y1.trans y2).trans y3).trans y4
    have husK := SeeL.mono y14 hus2
    refine ask_w (cn := wa) (tss := [w1, w3]) (.lst (y4 _ _ c3) (SeeL.append (SeeL.take 1 husK) (SeeL.drop 2 husK))) (.dct c4 (seeK_c _)) (by simp) (by decide) (numS_of (by decide +kernel) (by decide) (by decide +kernel)) (by decide +kernel) rA fun v4 H3 e3 hv4 hn4 => ?_
    have e23 := y14.trans e3
    refine ⟨F, xs, v4, rfl, rfl, e23 _ _ hF2, by rw [xl, sizeLine_eq]; decide, ?_⟩
    have nF4 : ∀ q, v4 = .ref q → q ∉ [F] := fun q e z => by
      have := hn4 q e
      rw [List.mem_singleton.mp z, y14 _ _ hF2] at this; cases this
    have keepF : ∀ {G G' : Hp} {o : HO}, Ex G G' → Ex (sansL [F] G) (sansL [F] (upd G' F o)) := fun e => sansL_mono fun b o nb h => ⟨nb, by rw [upd_ne (by simpa using nb)]; exact e _ _ h⟩
    have sx4 : SeeL (FKK K) (sansL [F] (upd H3 F (.lst (xs ++ [v4])))) (xs ++ [v4]) _ := SeeL.append (SeeL.mono (keepF e23) sx) (.cons (See.mono (keepF (Ex.refl _)) (ans_seeN hv4 nF4)) .nil)
    have hF4 : (upd H3 F (.lst (xs ++ [v4]))) F = some (.lst (xs ++ [v4])) := upd_same
    have e14 : Ex H1 (upd H3 F (.lst (xs ++ [v4]))) := fun b o h => by
      rw [upd_ne fun z => by rw [z, hF1] at h; cases h]; exact e23 _ _ (e12 _ _ h)
    generalize upd H3 F (.lst (xs ++ [v4])) = H4 at sx4 hF4 e14
    have xl4 : (xs ++ [v4]).length = 4 := by rw [List.length_append, xl]; rfl
    generalize xs ++ [v4] = x4 at sx4 hF4 xl4
    -- three more
    refine ⟨_, rfl, .inl ⟨rfl, _, SqL.of hF4⟩, Nat.zero_le _, fun p5 hp5 => ?_⟩
    have y5 : Ex H4 (upd H4 p5 (.lst [])) := Ex.new hp5
    have c5 : (upd H4 p5 (.lst [])) p5 = some (.lst []) := upd_same
    generalize upd H4 p5 (.lst []) = K5 at y5 c5
    refine fun p6 hp6 => ?_
    have y6 : Ex K5 (upd K5 p6 (.dK [])) := Ex.new hp6
    have c6 : (upd K5 p6 (.dK [])) p6 = some (.dK []) := upd_same
    generalize upd K5 p6 (.dK []) = K6 at y6 c6
    refine ask_w (cn := []) (tss := []) (.lst (y6 _ _ c5) .nil) (.dct c6 .nil) (by simp) (by decide) (numS_of (by decide +kernel) (by decide) (by decide +kernel)) (by simp) r0 fun v5 H5 e5 hv5 hn5 => ?_
    have e45 := (y5.trans y6).trans e5
    refine ⟨[], fun _ => .non, ⟨fun b hb => (nomatch hb), fun i hi => (nomatch hi)⟩, fun vw H6 e6 sw => fun p7 hp7 => ?_⟩
    have sw : SeeF K (sansL [] H6) vw (.lst ([w4].map tstD)) := sw
    have sw := See.mono (sansL_ex _ _) sw
    have y7 : Ex H6 (upd H6 p7 (.dK [])) := Ex.new hp7
    have c7 : (upd H6 p7 (.dK [])) p7 = some (.dK []) := upd_same
    generalize upd H6 p7 (.dK []) = K7 at y7 c7
    refine ask_w (cn := []) (tss := [w4]) (See.mono y7 sw) (.dct c7 .nil) (by simp) (by decide) (numS_of (by decide +kernel) (by decide) (by decide +kernel)) (by decide +kernel) r4 fun v6 H7 e7 hv6 hn6 => ?_
    have e57 := (e6.trans y7).trans e7
    refine ⟨Nat.zero_le _, fun p8 hp8 => ?_⟩
    have y8 : Ex H7 (upd H7 p8 (.lst [])) := Ex.new hp8
    have c8 : (upd H7 p8 (.lst [])) p8 = some (.lst []) := upd_same
    generalize upd H7 p8 (.lst []) = K8 at y8 c8
    refine fun p9 hp9 => ⟨upd_same, [(.inr "x", .int 9)], rfl, by simp, ?_⟩
    have y9 : Ex K8 (upd (upd K8 p9 (.dK [])) p9 (.dK (mergeK [] [(.inr "x", .int 9)]))) := (Ex.new hp9).mut hp9
    have c9 : (upd (upd K8 p9 (.dK [])) p9 (.dK (mergeK [] [(.inr "x", .int 9)]))) p9 = some (.dK (cK wx)) := upd_same
    generalize upd (upd K8 p9 (.dK [])) p9 (.dK (mergeK [] [(.inr "x", .int 9)])) = K9 at y9 c9
    refine ask_w (cn := wx) (tss := []) (.lst (y9 _ _ c8) .nil) (.dct c9 (seeK_c _)) (by simp) (by decide) (numS_of (by decide +kernel) (by decide) (by decide +kernel)) (by simp) r0 fun v7 H8 e8 hv7 hn7 => ?_
    have e78 := (y8.trans y9).trans e8
    refine ⟨by show 3 ≤ sizeLine; decide, fun L hL => ?_⟩
    have yL : Ex H8 (upd H8 L (.lst [v5, v6, v7])) := Ex.new hL
    have cL : (upd H8 L (.lst [v5, v6, v7])) L = some (.lst [v5, v6, v7]) := upd_same
    generalize upd H8 L (.lst [v5, v6, v7]) = H9 at yL cL
    have e48 := (e45.trans e57).trans e78
    have e49 := e48.trans yL
    refine ⟨F, L, x4, _, rfl, rfl, e49 _ _ hF4, cL, by rw [xl4, sizeLine_eq]; simp, ?_⟩
    have nF5 : ∀ q, v5 = .ref q → q ∉ [F] := fun q e z => by
      have := hn5 q e
      rw [List.mem_singleton.mp z, (y5.trans y6) _ _ hF4] at this; cases this
    have nF6 : ∀ q, v6 = .ref q → q ∉ [F] := fun q e z => by
      have := hn6 q e
      rw [List.mem_singleton.mp z, (e45.trans (e6.trans y7)) _ _ hF4] at this; cases this
    have nF7 : ∀ q, v7 = .ref q → q ∉ [F] := fun q e z => by
      have := hn7 q e
      rw [List.mem_singleton.mp z, ((e45.trans e57).trans (y8.trans y9)) _ _ hF4] at this; cases this
    have sx7 : SeeL (FKK K) (sansL [F] (upd H9 F (.lst (x4 ++ [v5, v6, v7])))) (x4 ++ [v5, v6, v7]) _ := SeeL.append (SeeL.mono (keepF e49) sx4) (.cons (See.mono (keepF ((e57.trans e78).trans yL)) (ans_seeN hv5 nF5)) (.cons (See.mono (keepF (e78.trans yL)) (ans_seeN hv6 nF6)) (.cons (See.mono (keepF yL) (ans_seeN hv7 nF7)) .nil)))
    have hF9 : (upd H9 F (.lst (x4 ++ [v5, v6, v7]))) F = some (.lst (x4 ++ [v5, v6, v7])) := upd_same
    have e19 : Ex H1 (upd H9 F (.lst (x4 ++ [v5, v6, v7]))) := fun b o h => by
      rw [upd_ne fun z => by rw [z, hF1] at h; cases h]; exact e49 _ _ (e14 _ _ h)
    generalize upd H9 F (.lst (x4 ++ [v5, v6, v7])) = HA at sx7 hF9 e19
    refine ⟨[], fun _ => .non, ⟨fun b hb => (nomatch hb), fun i hi => (nomatch hi)⟩, fun vd HB eB sd => ?_⟩
    have sd := See.mono (sansL_ex _ _) sd
    have sf : SeeF K HB (.ref F) (.lst [ansD (some (some 1, some 3, 2, 1)), ansD (some (some 1, some 1, 1, 0)), ansD none, ansD (some (some 1, none, 2, 1)), ansD (some (none, none, 1, 0)), ansD none, ansD (some (none, none, 1, 0))]) := .lst (eB _ _ hF9) (SeeL.mono eB (SeeL.mono (sansL_ex _ _) sx7))
    dsimp only [gName]
    refine ⟨_, rfl, _, rfl, .ref F, vd, _, rfl, sf, sd, Dep.le (n := 2) (by decide) (dep_lst (by simp) (allC' (dep_ans _) (allC' (dep_ans _) (allC' (dep_ans _) (allC' (dep_ans _) (allC' (dep_ans _) (allC' (dep_ans _) (allC' (dep_ans _) fun x h => by cases h)))))))), fun H' e' => q H' (((e1.trans e19).trans eB).trans e')⟩
end
end K8

set_option Elab.async false
set_option linter.all false
set_option maxRecDepth 100000
set_option maxHeartbeats 8000000
namespace K8
open PySem PySem.Spec PyProof.Rows L2 M8 LamX
/-! the law -/
theorem pe_callO0 {X : Cx} {x : Str} {ps : List Str} {k : Nat} {sp : Sp} {p pos : Pos} (O : Ok X.prog X.w X.K X.mg X.base CX0 k x ps sp) (hr : Room k X.A) (hg : Gl X x) (hdb : (x == ("__debug__" : Str)) = false := by decide) : PE X (.Call (.Name x p) [] [] pos) (tC0 sp tNil) := by
  obtain ⟨f, fd, hm, hk, b, F⟩ := O.ex
  have h := pe_call0 (p := p) (pos := pos) F hr hg hm hk b .nil pass0 hdb
  exact ⟨fun pins s σ H Q I q => h.run pins s σ H Q I q⟩
section
variable {P : Program} {w : World} {K : PySem.W.Frag} {mg : Str → Option Value} {base : Heap}
def spLaw (K : PySem.W.Frag) (TP : Addr) : Sp := fun vs H Q _ => ∃ (a : Addr) (ns : List Int), vs = [.ref a] ∧ SqL K H a (ns.map V.int) ∧ ns.length ≤ 63 ∧ Tabs (T0 TP) H ∧ ∀ H', Q (.bl true) H'
abbrev s_law : Stmt := top 63
theorem sc_law : FnScope ["script", "turn", "source", "k"] ["script"] (defScope s_law) := ⟨rfl, rfl, rfl, by decide +kernel, rfl, by decide +kernel, by decide +kernel⟩
theorem okG_law (T : Txt K mg) {TP : Addr} (a : At K mg "law" s_law ["script"]) (O_law_source : Ok P w K mg base CX0 2 "_law_source" ["script", "k"] (spSource K)) (G_law_case_right : OkG P w K mg base 8 "_law_case_right" ["source"] spCaseR) (O_law_refused_right : Ok P w K mg base CX0 14 "_law_refused_right" ["source"] (spRefused TP)) (O_law_written_right : Ok P w K mg base CX0 10 "_law_written_right" [] spWritten) : OkG P w K mg base 20 "law" ["script"] (spLaw K TP) := by
  refine OkG.of a sc_law (fun vs H Q E h => ?_) (fun f cdv A outer s H vs Q E hA0 hr h => ?_)
  · obtain ⟨sa, ns, rfl, _⟩ := h; rfl
  · obtain ⟨sa, ns, rfl, hS, hns, hTab, q⟩ := h
    have hA : (A.deeper (envOfC "law" (defScope s_law) s.heap.objs.size f cdv)).guards = some [] := hA0
    refine ⟨_, (pss_cons (ps_for PassesOwn.never rfl (pi_range1 rfl T.n_range (pa_cons pe_int pa_nil)) (pg_name (i := 1) sc_law.nd rfl (Or.inl rfl)) (pss_cons (ps_set (i := 2) sc_law.nd rfl (Or.inl rfl) (pe_callO O_law_source (hr.mono (by first | decide | omega)) rfl (pa_cons (pv 0) (pa_cons (pv 1) pa_nil))))
      (pss_cons (ps_for PassesOwn.never rfl (pi_range1 rfl T.n_range (pa_cons pe_int pa_nil)) (pg_name (i := 3) sc_law.nd rfl (Or.inl rfl)) (pss_one (ps_if (pt_not (pt_val (pe_callGd G_law_case_right hA (hr.mono (by omega)) rfl (pa_cons (pv 2) pa_nil)))) (pss_one (ps_ret pe_bl)) pss_nil)))
      (pss_one (ps_if (pt_not (pt_val (pe_callO O_law_refused_right (hr.mono (by first | decide | omega)) rfl (pa_cons (pv 2) pa_nil)))) (pss_one (ps_ret pe_bl)) pss_nil)))))
      (pss_one (ps_ret (pe_callO0 O_law_written_right (hr.mono (by first | decide | omega)) rfl)))), ?_⟩
    have hlot : lot = 1000000000 := rfl
    refine tFor_of ?_
    refine ⟨3, rfl, by decide, by decide, ?_⟩
    refine for_itB walk_range (fun i σ H' => (∃ z1 z2 z3, σ = [some (.ref sa), z1, z2, z3]) ∧ ExtN H H' ∧ Tabs (T0 TP) H') ⟨⟨_, _, _, rfl⟩, ExtN.refl _, hTab⟩ (fun _ _ _ _ _ => trivial) ?_ ?_
    · rintro i x σ H1 H1' iN ⟨⟨z1, z2, z3, rfl⟩, e1, T1⟩ ⟨rfl, rfl⟩
      dsimp only [gName, tSeq]
      have hi : i < 3 := iN
      refine ⟨_, rfl, _, rfl, sa, ns, _, rfl, SqL.keepN hS fun o h nt => e1 _ _ h nt, hns, by omega, by omega, fun p H2 hp e2 s2 => ?_⟩
      have T2 := T1.ext e2
      dsimp only [gName]
      refine seq_split (fun σ' H' => (∃ z3, σ' = [some (.ref sa), some (.int (0 + (i : Nat))), some (.ref p), z3]) ∧ Exo [p] H2 H' ∧ Spr H' p 240000) (fun nx hnx => ?_) ?_
      · refine tFor_of ?_
        refine ⟨6, rfl, by decide, by decide, ?_⟩
        refine for_itB walk_range (fun j σ H' => (∃ z3, σ = [some (.ref sa), some (.int (0 + (i : Nat))), some (.ref p), z3]) ∧ Exo [p] H2 H' ∧ Spr H' p (40000 * j)) ⟨⟨_, rfl⟩, Exo.refl _ _, s2.mono (by omega)⟩ (fun _ _ _ _ _ => trivial) ?_ ?_
        · rintro j x σ H3 H3' jN ⟨⟨z3, rfl⟩, e3, s3⟩ ⟨rfl, rfl⟩
          have hj : j < 6 := jN
          dsimp only [gName]
          refine ⟨_, rfl, p, _, rfl, s3, by omega, fun H4 e4 s4 => ⟨_, rfl, iteF ?_⟩⟩
          exact ⟨⟨_, rfl⟩, e3.trans e4, s4.mono (by omega)⟩
        · rintro σ H3 ⟨⟨z3, rfl⟩, e3, s3⟩
          exact hnx _ _ ⟨⟨_, rfl⟩, e3, s3.mono (by decide)⟩
      · rintro σ H3 ⟨⟨z3, rfl⟩, e3, s3⟩
        have T3 : Tabs (T0 TP) H3 := tabs_exo e3 s2 T2
        refine ⟨_, rfl, p, _, rfl, s3, by omega, T3, fun H4 e4 s4 T4 => ⟨_, rfl, iteF ?_⟩⟩
        refine ⟨⟨_, _, _, rfl⟩, fun b o h nt => ?_, T4⟩
        have h1 := e1 b o h nt
        have nb : b ≠ p := fun z => by rw [z, hp] at h1; cases h1
        exact e4 b o nb (e3.at1 nb (e2 _ _ h1)) nt
    · rintro σ H1 ⟨⟨z1, z2, z3, rfl⟩, e1, T1⟩
      exact ⟨rfl, fun H' _ => q H'⟩
end
end K8

set_option Elab.async false
set_option linter.all false
set_option maxRecDepth 100000
set_option maxHeartbeats 4000000
namespace K8
open PySem PySem.Spec PyProof.Rows L2 M8 LamX
structure MFn (K : PySem.W.Frag) (C : Addr) (m q : Str) (st : Stmt) (ps : List Str) (f : Addr) (fd : FuncData) : Prop where
  me : Meth K C m f
  fn : Fun K m q st f fd
  b : Binds K fd ps []
structure IFn (K : PySem.W.Frag) (C : Addr) (q : Str) (st : Stmt) (ps : List Str) (f : Addr) (fd : FuncData) : Prop where
  ma : Mk K C f
  fn : Fun K "__init__" q st f fd
  b : Binds K fd ps []
section
variable {P : Program} {w : World} {K : PySem.W.Frag} {mg : Str → Option Value} {base : Heap}
theorem all_ok (T : Txt K mg) {CCa CNa CNu CV TP c : Addr} (B : ErrC K mg CCa CNa CNu) (VC : VCls K mg CV) (hVI : ∃ f fd, IFn K CV "Values.__init__" s_Values___init__ ["self"] f fd) (hV1 : ∃ f fd, MFn K CV "raise_least" "Values.raise_least" s_Values_raise_least ["self", "number"] f fd) (hV2 : ∃ f fd, MFn K CV "lower_most" "Values.lower_most" s_Values_lower_most ["self", "number"] f fd)
    (hV3 : ∃ f fd, MFn K CV "take_by" "Values.take_by" s_Values_take_by ["self", "many", "part", "rest"] f fd) (hV4 : ∃ f fd, MFn K CV "take" "Values.take" s_Values_take ["self", "test", "part", "rest"] f fd) (hV5 : ∃ f fd, MFn K CV "told" "Values.told" s_Values_told ["self"] f fd)
    (h_is_whole : At K mg "is_whole" s_is_whole ["thing"]) (h_is_from_one : At K mg "is_from_one" s_is_from_one ["thing"]) (h_is_list : At K mg "is_list" s_is_list ["thing"]) (h_is_run : At K mg "is_run" s_is_run ["thing"]) (h_is_name : At K mg "is_name" s_is_name ["thing"]) (h_is_numbers : At K mg "is_numbers" s_is_numbers ["thing"]) (h_is_numbers_with : At K mg "is_numbers_with" s_is_numbers_with ["thing", "names"]) (h_is_term : At K mg "is_term" s_is_term ["thing"]) (h_names_of : At K mg "names_of" s_names_of ["term"]) (h_change_along : At K mg "change_along" s_change_along ["term", "ray"]) (h_value_of : At K mg "value_of" s_value_of ["term", "numbers"]) (h_is_test : At K mg "is_test" s_is_test ["thing"]) (h_term_of : At K mg "term_of" s_term_of ["test"]) (h_told_term : At K mg "told_term" s_told_term ["term"]) (h_told_test : At K mg "told_test" s_told_test ["test"]) (h_tests_of : At K mg "tests_of" s_tests_of ["body"]) (h_names_of_bodies : At K mg "names_of_bodies" s_names_of_bodies ["bodies"]) (h_told_case : At K mg "told_case" s_told_case ["case"]) (h_check_name : At K mg "check_name" s_check_name ["name"]) (h_coefficient_in : At K mg "coefficient_in" s_coefficient_in ["test", "name"]) (h_others_in : At K mg "others_in" s_others_in ["case", "name"]) (h_rest_at : At K mg "rest_at" s_rest_at ["test", "name", "numbers"]) (h_set_of : At K mg "set_of" s_set_of ["case", "name", "numbers"]) (h__law_cell : At K mg "_law_cell" s__law_cell ["script", "k"]) (h__law_source : At K mg "_law_source" s__law_source ["script", "k"]) (h__law_draw : At K mg "_law_draw" s__law_draw ["source", "many"]) (h__law_pick : At K mg "_law_pick" s__law_pick ["source", "some"]) (h__law_mixed : At K mg "_law_mixed" s__law_mixed ["source", "some"]) (h__law_same : At K mg "_law_same" s__law_same ["found", "wanted"]) (h__law_q_put : At K mg "_law_q_put" s__law_q_put ["held", "other"]) (h__law_q_names : At K mg "_law_q_names" s__law_q_names ["source", "many"]) (h__law_q_term : At K mg "_law_q_term" s__law_q_term ["source", "names", "top", "far"]) (h__law_q_handed : At K mg "_law_q_handed" s__law_q_handed ["source", "thing"]) (h__law_q_worth : At K mg "_law_q_worth" s__law_q_worth ["term", "numbers"]) (h__law_q_so : At K mg "_law_q_so" s__law_q_so ["body", "numbers"]) (h__law_v_case : At K mg "_law_v_case" s__law_v_case ["source", "names", "name", "top", "far", "point", "slack"]) (h__law_v_least : At K mg "_law_v_least" s__law_v_least ["number", "rest", "period"]) (h__law_v_values : At K mg "_law_v_values" s__law_v_values ["case", "name", "numbers"]) (h__law_drawn : At K mg "_law_drawn" s__law_drawn ["source"]) (h__law_near_right : At K mg "_law_near_right" s__law_near_right ["case", "name", "numbers", "told"]) (h__law_case_right : At K mg "_law_case_right" s__law_case_right ["source"]) (h__law_odd_tests : At K mg "_law_odd_tests" s__law_odd_tests ["one"]) (h__law_written_right : At K mg "_law_written_right" s__law_written_right []) (h_law : At K mg "law" s_law ["script"])
    (h_ref : AtC K mg "_law_refused_right" s__law_refused_right ["source"] c) (TB : TabB base mg c TP) {g : Addr} {oc cdv kV doc pm : Value} {od an : Option Addr} {ct : Value} {osl : Array (Option Value)} (M : MetF K mg g oc cdv kV doc pm od an ct osl) : OkG P w K mg base 20 "law" ["script"] (spLaw K TP) := by
  have o_is_whole : Ok P w K mg base CX0 1 "is_whole" ["thing"] (spWhole K) := ok_is_whole T h_is_whole
  have o_is_from_one : Ok P w K mg base CX0 2 "is_from_one" ["thing"] (spFrom1 K) := ok_is_from_one T h_is_from_one o_is_whole
  have o_is_list : Ok P w K mg base CX0 1 "is_list" ["thing"] (spIsList K) := ok_is_list T h_is_list
  have o_is_run : Ok P w K mg base CX0 1 "is_run" ["thing"] (spRun K) := ok_is_run T h_is_run
  have o_is_name : Ok P w K mg base CX0 2 "is_name" ["thing"] (spName K) := ok_is_name T h_is_name o_is_run
  have o_is_numbers : Ok P w K mg base CX0 3 "is_numbers" ["thing"] (spNumbers K) := ok_is_numbers T h_is_numbers o_is_name o_is_whole
  have o_is_numbers_with : Ok P w K mg base CX0 4 "is_numbers_with" ["thing", "names"] (spNumsWith K) := ok_is_numbers_with T h_is_numbers_with o_is_numbers
  have o_is_term : Ok P w K mg base CX0 4 "is_term" ["thing"] (spTerm K) := ok_is_term T h_is_term o_is_list o_is_numbers o_is_whole
  have o_names_of : Ok P w K mg base CX0 1 "names_of" ["term"] spNamesOf := ok_names_of T h_names_of
  have o_change_along : Ok P w K mg base CX0 2 "change_along" ["term", "ray"] spAlong := ok_change_along T h_change_along o_names_of
  have o_value_of : Ok P w K mg base CX0 3 "value_of" ["term", "numbers"] spValue := ok_value_of T h_value_of o_change_along
  have o_is_test : Ok P w K mg base CX0 5 "is_test" ["thing"] (spTest K) := ok_is_test T h_is_test o_is_list o_is_from_one o_is_term
  have o_term_of : Ok P w K mg base CX0 1 "term_of" ["test"] (spTermOf K) := ok_term_of T h_term_of
  have o_told_term : Ok P w K mg base CX0 2 "told_term" ["term"] spTold := ok_told_term T h_told_term o_names_of
  have o_told_test : Ok P w K mg base CX0 3 "told_test" ["test"] (spToldT K) := ok_told_test T h_told_test o_told_term
  have o_tests_of : Ok P w K mg base CX0 2 "tests_of" ["body"] (spTests K 0) := ok_tests_of T h_tests_of 0
  have o_names_of_bodies : Ok P w K mg base CX0 3 "names_of_bodies" ["bodies"] (spNamesBs K 0) := ok_names_of_bodiesL T h_names_of_bodies (n := 0) (k := 2) (by decide) o_tests_of o_term_of o_names_of
  have o_told_case : Ok P w K mg base (L2.CX P w) 6 "told_case" ["case"] (spTCase K CCa) := h_told_case.ok fun f fd F => fn_told_case T B.bCa o_is_list o_is_test o_told_test F
  have o_check_name : Ok P w K mg base (L2.CX P w) 3 "check_name" ["name"] (spChkNm K CNa) := h_check_name.ok fun f fd F => fn_check_name T B.bNa o_is_name F
  have o_coefficient_in : Ok P w K mg base CX0 2 "coefficient_in" ["test", "name"] (spCoefIn K) := ok_coefficient_in T h_coefficient_in o_term_of
  have o_others_in : Ok P w K mg base CX0 4 "others_in" ["case", "name"] (spOthers K) := ok_others_in T h_others_in o_names_of_bodies
  have o_rest_at : Ok P w K mg base CX0 4 "rest_at" ["test", "name", "numbers"] (spRestAt K) := ok_rest_at T h_rest_at o_term_of o_value_of
  obtain ⟨fI, fdI, hI⟩ := hVI
  obtain ⟨f1, fd1, h1⟩ := hV1
  obtain ⟨f2, fd2, h2⟩ := hV2
  obtain ⟨f3, fd3, h3⟩ := hV3
  obtain ⟨f4, fd4, h4⟩ := hV4
  obtain ⟨f5, fd5, h5⟩ := hV5
  have m1 : OkM P w K mg base CX0 1 CV "raise_least" ["self", "number"] (spRaiseL CV) := ⟨f1, fd1, VC.cl, h1.me, h1.b, fn_Values_raise T VC h1.fn⟩
  have m2 : OkM P w K mg base CX0 1 CV "lower_most" ["self", "number"] (spLowerM CV) := ⟨f2, fd2, VC.cl, h2.me, h2.b, fn_Values_lower T VC h2.fn⟩
  have m3 : OkM P w K mg base CX0 1 CV "take_by" ["self", "many", "part", "rest"] (spTakeBy CV) := ⟨f3, fd3, VC.cl, h3.me, h3.b, fn_Values_takeby T VC h3.fn⟩
  have m4 : OkM P w K mg base CX0 2 CV "take" ["self", "test", "part", "rest"] (spTake K CV) := ⟨f4, fd4, VC.cl, h4.me, h4.b, fn_Values_take T VC m3 m1 m2 h4.fn⟩
  have m5 : OkM P w K mg base CX0 1 CV "told" ["self"] (spToldV CV) := ⟨f5, fd5, VC.cl, h5.me, h5.b, fn_Values_told T VC h5.fn⟩
  have f_set_of : ∀ {f : Addr} {fd : FuncData}, Fun K "set_of" "set_of" s_set_of f fd → FnOk P w K mg base (L2.CX P w) 7 f fd ["case", "name", "numbers"] (spSetOf K CCa CNa CNu) := fun F => fn_set_of T B.bNu VC hI.ma (fn_Values_init T VC hI.fn) hI.b o_told_case o_check_name o_is_numbers_with o_others_in o_coefficient_in o_rest_at m4 m5 F
  have o_set_of : Ok P w K mg base (L2.CX P w) 7 "set_of" ["case", "name", "numbers"] (spSetOf K CCa CNa CNu) := h_set_of.ok fun f fd F => f_set_of F
  have o_cell : Ok P w K mg base CX0 1 "_law_cell" ["script", "k"] (spCell K) := ok__law_cell T h__law_cell
  have o_source : Ok P w K mg base CX0 2 "_law_source" ["script", "k"] (spSource K) := ok__law_source T h__law_source o_cell
  have o_draw : Ok P w K mg base CX0 1 "_law_draw" ["source", "many"] spDraw := ok__law_draw T h__law_draw
  have o_pick : Ok P w K mg base CX0 2 "_law_pick" ["source", "some"] (spPick K) := ok__law_pick T h__law_pick o_draw
  have o_mixed : Ok P w K mg base CX0 2 "_law_mixed" ["source", "some"] (spMixed K) := ok__law_mixed T h__law_mixed o_draw
  have o_same2 : Ok P w K mg base CX0 4 "_law_same" ["found", "wanted"] (spSameG K (Dep 2)) := ok_same T h__law_same 2
  have o_same7 : Ok P w K mg base CX0 9 "_law_same" ["found", "wanted"] (spSameG K (Dep 7)) := ok_same T h__law_same 7
  have o_put : Ok P w K mg base CX0 1 "_law_q_put" ["held", "other"] spPut := ok__law_q_put T h__law_q_put
  have o_names : Ok P w K mg base CX0 3 "_law_q_names" ["source", "many"] spQNames := ok__law_q_names T h__law_q_names o_mixed
  have o_term : Ok P w K mg base CX0 2 "_law_q_term" ["source", "names", "top", "far"] spQTerm := ok__law_q_term T h__law_q_term o_draw
  have o_hand : Ok P w K mg base CX0 6 "_law_q_handed" ["source", "thing"] (spHand K (bH 4) (GH 4) (RH 4)) := ok_hand T h__law_q_handed o_draw o_mixed 4
  have o_worth : Ok P w K mg base CX0 1 "_law_q_worth" ["term", "numbers"] spQWorth := ok__law_q_worth T h__law_q_worth
  have o_so : Ok P w K mg base CX0 2 "_law_q_so" ["body", "numbers"] (spQSo K) := ok__law_q_so T h__law_q_so o_worth
  have o_case : Ok P w K mg base CX0 3 "_law_v_case" ["source", "names", "name", "top", "far", "point", "slack"] (spVCase K) := ok__law_v_case T h__law_v_case o_draw o_pick o_term o_worth
  have o_least : Ok P w K mg base CX0 1 "_law_v_least" ["number", "rest", "period"] spVLeast := ok__law_v_least T h__law_v_least
  have o_values : Ok P w K mg base CX0 2 "_law_v_values" ["case", "name", "numbers"] (spVValues K) := ok__law_v_values T h__law_v_values o_least
  have o_drawn : Ok P w K mg base CX0 4 "_law_drawn" ["source"] (spDrawn K) := ok__law_drawn T h__law_drawn o_draw o_pick o_names o_case
  have o_near : Ok P w K mg base CX0 3 "_law_near_right" ["case", "name", "numbers", "told"] (spNear K) := ok__law_near_right T h__law_near_right o_so
  have g_case := ok__law_case_right (P := P) (w := w) (base := base) T h__law_case_right h_set_of f_set_of o_set_of o_drawn o_values o_draw o_pick o_hand o_put o_same2 o_near
  have o_odd : Ok P w K mg base CX0 1 "_law_odd_tests" ["one"] (spOddT K) := ok__law_odd_tests T h__law_odd_tests
  have o_ref := ok__law_refused_right (P := P) (w := w) T B h_ref TB M o_set_of o_drawn o_draw o_odd o_same7
  have o_written := ok__law_written_right (P := P) (w := w) (base := base) T h__law_written_right o_set_of o_same7
  exact okG_law T h_law o_source g_case o_ref o_written
end
end K8

set_option Elab.async false
set_option linter.all false
set_option maxRecDepth 100000
set_option maxHeartbeats 4000000
namespace K8
open PySem PySem.Spec PyProof.Rows L2 M8 LamX
/-! the end of the row: the promise is asked at the caller's own stack alone -/
section
variable {P : Program} {w : World} {K : PySem.W.Frag} {mg mb : Str → Option Value} {a fa : Addr} {cs : List (Addr × Addr)} {vs : List Value} {ns : List Int} {s : Shared}
def lstO (vs : List Value) : Obj := { cls := .type "list", data := .seq vs.toArray }
def tblO : Obj := { cls := .none, data := .fields #[] }
/-- what is tracked at the call: the tables, and the script where the frag has it not -/
def H0 (K : PySem.W.Frag) (cs : List (Addr × Addr)) (a : Addr) (vs : List Value) (ns : List Int) : Hp := fun b =>
  if b ∈ cs.map (·.2) then some (.tbl #[]) else if b = a ∧ K.lookup a = none then some (.frz (lstO vs) (.lst (ns.map V.int))) else none
structure AtCall (K : PySem.W.Frag) (cs : List (Addr × Addr)) (a : Addr) (vs : List Value) (ns : List Int) (s : Shared) : Prop where
  kin : K.In s.heap
  tb : ∀ b ∈ cs.map (·.2), s.heap.get? b = some tblO
  nk : ∀ b ∈ cs.map (·.2), K.lookup b = none
  scr : s.heap.get? a = some (lstO vs)
  ia : IntsAre vs ns
  len : ns.length ≤ sizeLine
theorem AtCall.aT (c : AtCall K cs a vs ns s) : a ∉ cs.map (·.2) := fun z => by
  have h := (c.tb a z).symm.trans c.scr
  have h2 : tblO.data = (lstO vs).data := congrArg Obj.data (Option.some.inj h)
  cases h2
theorem H0_tbl {b : Addr} (h : b ∈ cs.map (·.2)) : H0 K cs a vs ns b = some (.tbl #[]) := if_pos h
theorem H0_free (c : AtCall K cs a vs ns s) {b : Addr} {o : Obj} (h : s.heap.get? b = some o) (n1 : o.data ≠ .seq vs.toArray 0 ∨ K.lookup a ≠ none) (n2 : o.data ≠ .fields #[]) : H0 K cs a vs ns b = none := by
  unfold H0
  rw [if_neg (fun z => n2 (by rw [c.tb b z] at h; cases h; rfl)), if_neg]
  rintro ⟨rfl, z⟩
  rcases n1 with n1 | n1
  · rw [c.scr] at h; cases h; exact n1 rfl
  · exact n1 z
theorem H0_kin (c : AtCall K cs a vs ns s) {b : Addr} {o : Obj} (h : K.lookup b = some o) : H0 K cs a vs ns b = none := by
  unfold H0
  rw [if_neg (fun z => by rw [c.nk b z] at h; cases h), if_neg]
  rintro ⟨rfl, z⟩
  rw [z] at h; cases h
theorem H0_script (c : AtCall K cs a vs ns s) : SqL K (H0 K cs a vs ns) a (ns.map V.int) := by
  cases hk : K.lookup a with
  | none => exact .inl (.inr ⟨lstO vs, by unfold H0; rw [if_neg c.aT, if_pos ⟨rfl, hk⟩]⟩)
  | some o =>
    have h := c.kin a o hk
    rw [c.scr] at h
    cases h
    exact .inr ⟨_, vs.toArray, _, hk, rfl, rfl, rfl, by rw [List.size_toArray, c.ia.length]; exact c.len, by simpa using vals_ints c.ia⟩
theorem H0_ok (c : AtCall K cs a vs ns s) : HOk P w (H0 K cs a vs ns) s.heap := fun b u h => by
  unfold H0 at h
  by_cases hb : b ∈ cs.map (·.2)
  · rw [if_pos hb] at h
    cases h
    exact c.tb b hb
  · rw [if_neg hb] at h
    by_cases ha : b = a ∧ K.lookup a = none
    · rw [if_pos ha] at h
      cases h
      rw [ha.1]
      exact ⟨c.scr, by rw [List.length_map]; exact c.len, vs, _, vals_ints c.ia, c.scr⟩
    · rw [if_neg ha] at h; cases h
theorem base_get (c : AtCall K cs a vs ns s) {b : Addr} {o : Obj} (h : s.heap.get? b = some o) (n1 : o.data ≠ .seq vs.toArray 0) (n2 : o.data ≠ .fields #[]) : (hidT s.heap (H0 K cs a vs ns)).get? b = some o := hidT_get h (H0_free c h (.inl n1) n2)
theorem base_ns (c : AtCall K cs a vs ns s) {b : Addr} {m : Str → Option Value} (h : s.heap.Ns b m) : (hidT s.heap (H0 K cs a vs ns)).Ns b m := by
  obtain ⟨o, es, ep, h1, h2, h3⟩ := h
  exact ⟨o, es, ep, base_get c h1 (by rw [h2]; intro z; cases z) (by rw [h2]; intro z; cases z), h2, h3⟩
theorem base_kin (c : AtCall K cs a vs ns s) : K.In (hidT s.heap (H0 K cs a vs ns)) := fun b o h => hidT_get (c.kin b o h) (H0_kin c h)
theorem ends (c : AtCall K cs a vs ns s) (g : s.heap.Ns mainGlobals mg) (hb : s.heap.Ns builtinsNs mb) (hbb : ∀ x : Str, x ≠ "__name__" → mb x = bootBuiltins x) (hlim : s.heap.NoLimit) (hg : s.gens = #[]) (hc : ∀ p ∈ cs, PySem.W.CodeHd s.heap p.1 p.2)
    (hbm : ∃ (bm : Addr) (ob : Obj), mg "__builtins__" = some (.ref bm) ∧ bm ≠ builtinsNs ∧ s.heap.get? bm = some ob ∧ ob.cls = .type "module" ∧ ob.dict = some builtinsNs ∧ ob.data = .plain)
    (F : ∀ base : Heap, K.In base → base.Ns mainGlobals mg → (∀ p ∈ cs, TabB base mg p.1 p.2) → ∀ H : Hp, (∀ p ∈ cs, H p.2 = some (.tbl #[])) → SqL K H a (ns.map V.int) → Env0 P w K mg base callerA [] s H →
      codeAny (model P w) callerA (.call (.ref fa) ⟨[.ref a], []⟩) (CR CX0 [] P w H s (fun v _ => v = .bl true) E0) s) :
    codeAny (model P w) callerA (.call (.ref fa) ⟨[.ref a], []⟩) (fun r s' => r = .ok (.ret (.bool true)) ∧ OldK s.heap s'.heap ∧ s'.os = s.os ∧ AllBare s'.gens) s := by
  have tabs : ∀ p ∈ cs, TabB (hidT s.heap (H0 K cs a vs ns)) mg p.1 p.2 := by
    intro p hp
    have hP := c.tb p.2 (List.mem_map.mpr ⟨p, hp, rfl⟩)
    constructor
    · obtain ⟨o, us, file, tf, flags, tg, inF, text, tt, d1, d2, d3, d4, rest⟩ := hc p hp
      refine ⟨o, us, file, tf, flags, tg, inF, text, tt, base_get c d1 (by rw [d3]; intro z; cases z) ?_, d2, d3, d4, rest⟩
      rw [d3]
      intro z
      cases z
      simp at d4
    · obtain ⟨bm, ob, m1, m2, m3, m4, m5, m6⟩ := hbm
      refine ⟨bm, ob, m1, m2, ?_, ?_, base_get c m3 (by rw [m6]; intro z; cases z) (by rw [m6]; intro z; cases z), m4, m5, m6⟩
      · rintro rfl
        obtain ⟨o, es, ep, g1, g2, _⟩ := g
        rw [g1] at m3; cases m3
        rw [g2] at m6; cases m6
      · rintro rfl
        rw [hP] at m3; cases m3; cases m6
    · intro z
      obtain ⟨o, es, ep, g1, g2, _⟩ := g
      rw [z, hP] at g1; cases g1; cases g2
  have md : L2.Mod K mg (hidT s.heap (H0 K cs a vs ns)) := ⟨base_kin c, base_ns c g, ⟨mb, base_ns c hb, hbb⟩, by
    obtain ⟨mc, l1, l2⟩ := hlim
    exact ⟨mc, base_ns c l1, l2⟩⟩
  have env : Env0 P w K mg (hidT s.heap (H0 K cs a vs ns)) callerA [] s (H0 K cs a vs ns) := ⟨rfl, md, fun b o h => of_hidT h, Nat.le_of_eq (hidT_size _ _), trivial, fun b hb => absurd (show b ∈ ([] : List Addr) from hb) (by simp), H0_ok c, .of_eq hg⟩
  have run := F _ (base_kin c) (base_ns c g) tabs (H0 K cs a vs ns) (fun p hp => H0_tbl (List.mem_map.mpr ⟨p, hp, rfl⟩)) (H0_script c) env
  apply codeAny_mono run
  intro r s' hr
  match r, hr with
  | .ok (.ret u), hr =>
    obtain ⟨v, H', os, bare, un, ok', rv, rfl⟩ := hr
    obtain rfl : u = Value.bool true := rv
    have kept : ∀ b o, b ∉ cs.map (·.2) → s.heap.get? b = some o → s'.heap.get? b = some o := by
      intro b o nb h
      cases q : H0 K cs a vs ns b with
      | none => exact un.keep b o h q (by intro z; cases z) (by simp)
      | some u =>
        have q2 := q
        unfold H0 at q2
        rw [if_neg nb] at q2
        by_cases ha : b = a ∧ K.lookup a = none
        · rw [if_pos ha] at q2
          cases q2
          have z := un.frzs b _ _ q
          obtain ⟨e1, _⟩ := ok' b _ z
          rw [ha.1, c.scr] at h
          cases h
          exact e1
        · rw [if_neg ha] at q2; cases q2
    have grown : ∀ b ∈ cs.map (·.2), ∃ more : Array Value, s'.heap.get? b = some { cls := .none, data := .fields more } := by
      intro b hb
      obtain ⟨more, z⟩ := un.tbls b #[] (H0_tbl hb)
      exact ⟨_, ok' b _ z⟩
    refine ⟨rfl, ⟨fun b o h => ?_, fun b o h => ?_⟩, os, bare⟩
    · by_cases hb : b ∈ cs.map (·.2)
      · obtain ⟨more, hm⟩ := grown b hb
        obtain ⟨p, hp, rfl⟩ := List.mem_map.mp hb
        have ht := c.tb p.2 hb
        rw [ht] at h
        cases h
        exact .inr (.inl ⟨((hc p hp).tab ht).isCodeTable, rfl, #[], more, rfl, by rw [Array.empty_append]; exact hm⟩)
      · exact .inl (kept b o hb h)
    · by_cases hb : b ∈ cs.map (·.2)
      · obtain ⟨more, hm⟩ := grown b hb
        exact ⟨_, hm⟩
      · exact ⟨o, kept b o hb h⟩
end
end K8

set_option Elab.async false
set_option linter.all false
set_option maxRecDepth 100000
set_option maxHeartbeats 4000000
namespace K8
open PySem PySem.Spec PyProof.Rows L2 M8 LamX
/-! the walk of the row: one def holds a generator expression, its table is empty at the call -/
/-- where the table of the def x lies, in the frag -/
structure TabK (K : PySem.W.Frag) (mg : Str → Option Value) (x : Str) (c TP : Addr) : Prop where
  ex : ∃ (f : Addr) (o : Obj) (fd : FuncData) (e : Value) (dd : Option Addr) (vs : Array Value) (sl : Array (Option Value)), mg x = some (.ref f) ∧ K.lookup f = some o ∧ o.data = .func fd ∧ fd.code = .ref c ∧ K.lookup c = some ⟨e, dd, .fields vs, sl⟩ ∧ vs[11]? = some (.ref TP)
  nk : K.lookup TP = none
  hd : PySem.W.codeHdIn K c TP = true
theorem walk_tab {l : PySem.W.OpenLaw} {n k : Nat} {q : Program} {loose : List Str} {XP : (Str → Option Value) → Heap → Prop} {YP : World → Heap → Prop} {d : DefRec} {K : Params → PySem.W.Frag} {x y : Str} {sp : World → Addr → Sp}
    (hn : l.most = some n) (hn2 : n ≤ sizeLine) (hdf : d.params.defaults = []) (hr : Room k callerA) (hrec : ((recsOf q).any fun e => e.name == x) = true) (hY : ∀ (w : World) (h : Heap), YP w h → (K w.params).In h)
    (hsp : ∀ (w : World) (TP : Addr) (H : Hp) (a : Addr) (ns : List Int), ns.length ≤ n → (∀ j ∈ ns, Builtin.Int.intBits j ≤ 1048576) → H TP = some (.tbl #[]) → SqL (K w.params) H a (ns.map V.int) → sp w TP [.ref a] H (fun v _ => v = .bl true) E0)
    (F : ∀ (w : World) (mg : Str → Option Value) (h : Heap), YP w h → (K w.params).In h → h.Ns mainGlobals mg → ∃ c TP, TabK (K w.params) mg x c TP ∧ ∀ base : Heap, (K w.params).In base → base.Ns mainGlobals mg → TabB base mg c TP → OkG l.prog w (K w.params) mg base k d.name [y] (sp w TP)) :
    PySem.W.WalkO q loose XP YP l.row.toRowW d [] (fun f vs => PySem.call f vs) := by
  refine Att.attach_callB hn hdf fun w s₀ s₁ mg mb fa o pm cd doc a vs ns G Y ho hd hcd hmg hobj hints hlen hbits hg => ?_
  have KX := hY w _ Y
  obtain ⟨c, TP, tk, OF⟩ := F w mg _ Y KX G.T.g
  have hP : s₁.heap.get? TP = some tblO := by
    obtain ⟨f, o1, fd1, e, dd, vs1, sl, k0, k1, k2, k3, k4, k5⟩ := tk.ex
    obtain ⟨dL, hm, hn1⟩ := List.any_eq_true.mp hrec
    have hn2 : dL.name = x := beq_iff_eq.mp hn1
    obtain ⟨a', o', fd', c', P', h1, h2, h3, h4, h5, h6⟩ := G.T.tab dL hm
    rw [hn2, k0] at h1
    cases h1
    rw [KX _ _ k1] at h2
    cases h2
    rw [k2] at h3
    cases h3
    rw [k3] at h4
    cases h4
    obtain ⟨⟨oc, vc, e1, _, e3, e4⟩, hP⟩ := h6
    rw [KX _ _ k4] at e1
    cases e1
    cases e3
    rw [k5] at e4
    cases e4
    exact hP
  have cal : AtCall (K w.params) [(c, TP)] a vs ns s₁ := by
    refine ⟨KX, ?_, ?_, hobj, hints, Nat.le_trans hlen hn2⟩
    · intro b hb
      obtain rfl : b = TP := by simpa using hb
      exact hP
    · intro b hb
      obtain rfl : b = TP := by simpa using hb
      exact tk.nk
  refine ends (K := K w.params) cal G.T.g G.T.b G.T.builtins G.T.nolimit hg ?_ G.T.bmain ?_
  · intro p hp
    obtain rfl : p = (c, TP) := by simpa using hp
    exact PySem.W.codeHd_of_K KX tk.hd
  · intro base hb hns tb H hH hS e0
    obtain ⟨f, fd, hm, hk, b, len, run⟩ := (OF base hb hns (tb (c, TP) (by simp))).ex
    rw [hmg] at hm
    cases hm
    have bd := b s₁ [.ref a] KX rfl
    rw [List.append_nil] at bd
    exact run callerA [] s₁ H ⟨[.ref a], []⟩ [.ref a] [.ref a] _ E0 rfl hr e0 bd (.cons rfl .nil) (hsp w TP H a ns hlen hbits (hH (c, TP) (by simp)) hS)
end K8

set_option Elab.async false
set_option linter.all false
set_option maxRecDepth 100000
set_option maxHeartbeats 4000000
namespace K8
open PySem PySem.Spec PyProof.Rows L2 M8 LamX
/-! the facts of the text, asked of the frag -/
theorem at_mk {K : PySem.W.Frag} {h : Heap} {mg : Str → Option Value} {x : Str} {st : Stmt} {ps : List Str} {f : Addr} {oc : Value} {od an : Option Addr} {osl : Array (Option Value)} {kV doc pm cdv ct : Value} (X : K.In h) (G : h.Ns mainGlobals mg)
    (a : PySem.W.nsIn K mainGlobals x = some (some (.ref f))) (l : K.lookup f = some ⟨oc, od, .func (PySem.W.fnOf x x (defArgs st) (defBody st) (defScope st) .none kV doc pm an cdv ct), osl⟩) (c : PySem.W.codeIn K cdv x = true) (k : PySem.W.keepIn K (.ref f) = true)
    (b : ∀ (kV doc pm : Value) (an : Option Addr) (cdv ct : Value) (us : List Value), us.length = ps.length → bindArgs (PySem.W.fnOf x x (defArgs st) (defBody st) (defScope st) .none kV doc pm an cdv ct) ⟨us, []⟩ = pure (ps.zip us)) : At K mg x st ps :=
  ⟨⟨f, _, PySem.W.mg_of X G a, fun_mk l c k, (fun_mk l c k).binds b⟩⟩
theorem then_of {p q : Prop} (a : p) (b : p → q) : q := b a
theorem spLaw_hsp (K : PySem.W.Frag) (TP : Addr) (H : L2.Hp) (a : Addr) (ns : List Int) (hl : ns.length ≤ 63) (ht : H TP = some (.tbl #[])) (hS : L2.SqL K H a (ns.map L2.V.int)) : K8.spLaw K TP [.ref a] H (fun v _ => v = .bl true) L2.E0 :=
  ⟨a, ns, rfl, hS, hl, fun p hp => by
    obtain rfl := List.mem_singleton.mp hp
    exact .nil ht, fun _ => rfl⟩
def wordsV : List String := ["of", "give", "nothing", "and", "or", "not", "all", "any", "divides", "none", "let", "most", "if", "else", "first", "below", "by", "over"]
def wordsVB : List String → List Value → Bool
  | [], [] => true
  | x :: r, .str y _ :: q => decide ((x : Str) = y) && wordsVB r q
  | _, _ => false
theorem wordsVB_ok : ∀ {xs : List String} {us : List Value}, wordsVB xs us = true → Vals (xs.map fun x : String => V.str x) us
  | [], [], _ => .nil
  | x :: r, u :: q, h => by
    cases u with
    | str y t =>
      obtain ⟨h1, h2⟩ := Bool.and_eq_true_iff.mp (show (decide ((x : Str) = y) && wordsVB r q) = true from h)
      exact .cons ⟨t, by rw [of_decide_eq_true h1]⟩ (wordsVB_ok h2)
    | _ => cases h
  | [], _ :: _, h => by cases h
  | _ :: _, [], h => by cases h
theorem txt_mk {K : PySem.W.Frag} {h : Heap} {mg : Str → Option Value} {t1 t2 t3 : Tok} {wa : Addr} {dd : Option Addr} {its : Array Value} {n : Nat} {osl : Array (Option Value)} (X : K.In h) (G : h.Ns mainGlobals mg)
    (n_isinstance : mg "isinstance" = none) (n_len : mg "len" = none) (n_all : mg "all" = none) (n_any : mg "any" = none) (n_sum : mg "sum" = none) (n_sorted : mg "sorted" = none) (n_abs : mg "abs" = none) (n_repr : mg "repr" = none) (n_range : mg "range" = none) (n_enumerate : mg "enumerate" = none) (n_zip : mg "zip" = none) (n_int : mg "int" = none) (n_bool : mg "bool" = none) (n_str : mg "str" = none) (n_list : mg "list" = none) (n_tuple : mg "tuple" = none) (n_dict : mg "dict" = none) (n_min : mg "min" = none) (n_max : mg "max" = none)
    (ag : PySem.W.nsIn K mainGlobals "gcd" = some (some (.builtin "math.gcd")))
    (a1 : PySem.W.nsIn K mainGlobals "LETTERS" = some (some (.str "abcdefghijklmnopqrstuvwxyz" t1))) (a2 : PySem.W.nsIn K mainGlobals "FIGURES" = some (some (.str "0123456789" t2))) (a3 : PySem.W.nsIn K mainGlobals "MOST_SIGNS" = some (some (.int 8 t3)))
    (a4 : PySem.W.nsIn K mainGlobals "WORDS" = some (some (.ref wa))) (a5 : K.lookup wa = some ⟨.type "tuple", dd, .seq its n, osl⟩) (a7 : wordsVB wordsV its.toList = true) : Txt K mg :=
  { n_isinstance := n_isinstance, n_len := n_len, n_all := n_all, n_any := n_any, n_sum := n_sum, n_sorted := n_sorted, n_abs := n_abs, n_repr := n_repr, n_range := n_range, n_enumerate := n_enumerate, n_zip := n_zip, n_int := n_int, n_bool := n_bool, n_str := n_str, n_list := n_list, n_tuple := n_tuple, n_dict := n_dict, n_min := n_min, n_max := n_max, g_gcd := PySem.W.mg_of X G ag, c_LETTERS := ⟨_, PySem.W.mg_of X G a1⟩, c_FIGURES := ⟨_, PySem.W.mg_of X G a2⟩, c_MOST := ⟨_, PySem.W.mg_of X G a3⟩,
    c_WORDS := ⟨wa, PySem.W.mg_of X G a4, fun H => by
      have v := wordsVB_ok a7
      refine .inr ⟨_, its, n, a5, rfl, rfl, ?_, v⟩
      have e := Vals.length v
      rw [List.length_map] at e
      rw [← Array.length_toList, ← e]
      rw [sizeLine_eq]; decide⟩ }
theorem exm_same {K : PySem.W.Frag} {S : Addr} (h1 : PySem.W.subIn K (.ref S) (.type "BaseException") = some true) (h2 : PySem.W.isClsIn K S = true) (h3 : PySem.W.typeIn K (.ref S) = some (.type "type")) (h4 : PySem.W.subIn K (.ref S) (.ref S) = some true) :
    PySem.W.exmOne K (.ref S) (.ref S) = some true := by
  unfold PySem.W.exmOne
  rw [h1, if_pos (by rfl)]
  show (if ((PySem.W.clsIn K S).isSome && PySem.W.typeIn K (.ref S) == some (.type "type")) = true then PySem.W.subIn K (.ref S) (.ref S) else none) = some true
  rw [show (PySem.W.clsIn K S).isSome = true from h2, h3, if_pos (by rfl), h4]
theorem exm_two {K : PySem.W.Frag} {S T : Addr} (h1 : PySem.W.subIn K (.ref T) (.type "BaseException") = some true) (h2 : PySem.W.isClsIn K T = true) (h3 : PySem.W.typeIn K (.ref T) = some (.type "type")) (h4 : PySem.W.subIn K (.ref S) (.ref T) = some false) : PySem.W.exmOne K (.ref S) (.ref T) = some false := by
  unfold PySem.W.exmOne
  rw [h1, if_pos (by rfl)]
  show (if ((PySem.W.clsIn K T).isSome && PySem.W.typeIn K (.ref T) == some (.type "type")) = true then PySem.W.subIn K (.ref S) (.ref T) else none) = some false
  rw [show (PySem.W.clsIn K T).isSome = true from h2, h3, if_pos (by rfl), h4]
/-- an error's class: of whatever name, with whatever one field -/
theorem bx_mk {K : PySem.W.Frag} {h : Heap} {mg : Str → Option Value} {x fl q0 : Str} {st : Stmt} {C f1 : Addr} (X : K.In h) (G : h.Ns mainGlobals mg)
    {nm q : Str} {N : Addr} {bs bm : List Value} {sn : List Str} {sub : List Value} {ab : Bool} {col : Option Bool} {dd : Option Addr} {m0 m1 m2 m3 m5 : Option Value}
    {od1 an1 : Option Addr} {sl1 : Array (Option Value)} {oc1 kV1 dc1 pm1 cd1 ct1 : Value}
    (gC : PySem.W.nsIn K mainGlobals x = some (some (.ref C)))
    (xL : K.lookup C = some (excClassObj nm q C N bs bm true sn sub ab col dd m0 m1 m2 m3 m5 "ValueError.__new__"))
    (sa : PySem.W.findIn K (.ref C) "__setattr__" = some (some (.builtin "object.__setattr__"))) (ga : PySem.W.findIn K (.ref C) "__getattribute__" = some (some (.builtin "BaseException.__getattribute__"))) (gg : PySem.W.findIn K (.ref C) "__getattr__" = some none) (nb : PySem.W.findIn K (.ref C) fl = some none)
    (a1 : PySem.W.findIn K (.ref C) "__init__" = some (some (.ref f1))) (t1 : PySem.W.typeIn K (.ref f1) = some (.type "function"))
    (l1 : K.lookup f1 = some ⟨oc1, od1, .func (PySem.W.fnOf "__init__" q0 (defArgs st) (defBody st) (defScope st) .none kV1 dc1 pm1 an1 cd1 ct1), sl1⟩) (c1 : PySem.W.codeIn K cd1 q0 = true) (k1 : PySem.W.keepIn K (.ref f1) = true)
    (kC : PySem.W.keepIn K (.ref C) = true) (eC : PySem.W.subIn K (.ref C) (.type "BaseException") = some true) (tC : PySem.W.typeIn K (.ref C) = some (.type "type")) (hC : PySem.W.hasDictIn K C = true) (iC : PySem.W.isClsIn K C = true) (sC : PySem.W.subIn K (.ref C) (.ref C) = some true)
    (rb : PySem.HandSPX.refsVE bm = true) (b : ∀ (kV doc pm : Value) (an : Option Addr) (cdv ct : Value) (us : List Value), us.length = 2 → bindArgs (PySem.W.fnOf "__init__" q0 (defArgs st) (defBody st) (defScope st) .none kV doc pm an cdv ct) ⟨us, []⟩ = pure ((["self", fl] : List Str).zip us)) : BadX K mg x fl q0 st C :=
  { gC := PySem.W.mg_of X G gC, ox := ⟨⟨nm, q, N, bs, bm, sn, sub, ab, col, dd, m0, m1, m2, m3, m5, xL, rb⟩, sa, eC, tC, kC⟩, xf := ⟨ga, gg, eC, hC⟩, no := nb, te := exm_same eC iC tC sC,
    ini := ⟨f1, _, a1, t1, fun_mk l1 c1 k1, (fun_mk l1 c1 k1).binds fun kV doc pm an cdv ct us hl => b kV doc pm an cdv ct us hl⟩ }
theorem ref_mk {K : PySem.W.Frag} {h : Heap} {mg : Str → Option Value} {x : Str} {st : Stmt} {ps : List Str} {f c TP : Addr} {oc : Value} {od an : Option Addr} {osl : Array (Option Value)} {kV doc pm ct : Value} {e : Value} {dd : Option Addr} {vs : Array Value} {sl : Array (Option Value)} (X : K.In h) (G : h.Ns mainGlobals mg)
    (a : PySem.W.nsIn K mainGlobals x = some (some (.ref f))) (l : K.lookup f = some ⟨oc, od, .func (PySem.W.fnOf x x (defArgs st) (defBody st) (defScope st) .none kV doc pm an (.ref c) ct), osl⟩) (cd : PySem.W.codeIn K (.ref c) x = true) (k : PySem.W.keepIn K (.ref f) = true)
    (lc : K.lookup c = some ⟨e, dd, .fields vs, sl⟩) (v11 : vs[11]? = some (.ref TP)) (nk : K.lookup TP = none) (hd : PySem.W.codeHdIn K c TP = true)
    (b : ∀ (kV doc pm : Value) (an : Option Addr) (cdv ct : Value) (us : List Value), us.length = ps.length → bindArgs (PySem.W.fnOf x x (defArgs st) (defBody st) (defScope st) .none kV doc pm an cdv ct) ⟨us, []⟩ = pure (ps.zip us)) : AtC K mg x st ps c ∧ TabK K mg x c TP :=
  ⟨⟨f, oc, od, kV, doc, pm, an, ct, osl, PySem.W.mg_of X G a, l, cd, k, (fun_mk l cd k).binds b⟩, ⟨⟨f, _, _, e, dd, vs, sl, PySem.W.mg_of X G a, l, rfl, rfl, lc, v11⟩, nk, hd⟩⟩
theorem met_mk {K : PySem.W.Frag} {h : Heap} {mg : Str → Option Value} {f : Addr} {oc : Value} {od an : Option Addr} {osl : Array (Option Value)} {kV doc pm cdv ct : Value} (X : K.In h) (G : h.Ns mainGlobals mg)
    (a : PySem.W.nsIn K mainGlobals "_law_met" = some (some (.ref f))) (l : K.lookup f = some ⟨oc, od, .func (PySem.W.fnOf "_law_met" "_law_met" (defArgs s__law_met) (defBody s__law_met) (defScope s__law_met) .none kV doc pm an cdv ct), osl⟩) (cd : PySem.W.codeIn K cdv "_law_met" = true) (k : PySem.W.keepIn K (.ref f) = true) : MetF K mg f oc cdv kV doc pm od an ct osl :=
  ⟨PySem.W.mg_of X G a, k, l, cd, (fun_mk l cd k).binds fun _ _ _ _ _ _ us hl => match us, hl with | [_], _ => rfl⟩
section
variable {K : PySem.W.Frag} {h : Heap} {mg : Str → Option Value}
theorem exm_of_te {S T : Addr} (te : PySem.W.exmOne K (.ref T) (.ref T) = some true) (h4 : PySem.W.subIn K (.ref S) (.ref T) = some false) : PySem.W.exmOne K (.ref S) (.ref T) = some false := by
  unfold PySem.W.exmOne at te ⊢
  by_cases h1 : (PySem.W.subIn K (.ref T) (.type "BaseException") == some true) = true
  · rw [if_pos h1] at te ⊢
    have te : (if ((PySem.W.clsIn K T).isSome && PySem.W.typeIn K (.ref T) == some (.type "type")) = true then PySem.W.subIn K (.ref T) (.ref T) else none) = some true := te
    show (if ((PySem.W.clsIn K T).isSome && PySem.W.typeIn K (.ref T) == some (.type "type")) = true then PySem.W.subIn K (.ref S) (.ref T) else none) = some false
    by_cases h2 : ((PySem.W.clsIn K T).isSome && PySem.W.typeIn K (.ref T) == some (.type "type")) = true
    · rw [if_pos h2]; exact h4
    · rw [if_neg h2] at te; cases te
  · rw [if_neg h1] at te; cases te
theorem vcls_mk {C : Addr} (X : K.In h) (G : h.Ns mainGlobals mg) (gC : PySem.W.nsIn K mainGlobals "Values" = some (some (.ref C))) (pg : PySem.W.plainGet K C Str.empty = true) (hd : PySem.W.hasDictIn K C = true) (po : PySem.W.plainOver K C = true) (sa : PySem.W.findIn K (.ref C) "__setattr__" = some (some (.builtin "object.__setattr__")))
    (n1 : PySem.W.findIn K (.ref C) "least" = some none) (n2 : PySem.W.findIn K (.ref C) "most" = some none) (n3 : PySem.W.findIn K (.ref C) "period" = some none) (n4 : PySem.W.findIn K (.ref C) "rest" = some none) : VCls K mg C :=
  ⟨PySem.W.mg_of X G gC, ⟨pg, hd, po, sa⟩, n1, n2, n3, n4⟩
theorem mfn_mk {C f : Addr} {m q : Str} {st : Stmt} {ps : List Str} {oc : Value} {od an : Option Addr} {osl : Array (Option Value)} {kV doc pm cdv ct : Value} (a : PySem.W.findIn K (.ref C) m = some (some (.ref f))) (fn : PySem.W.isFn K (.ref f) = true)
    (l : K.lookup f = some ⟨oc, od, .func (PySem.W.fnOf m q (defArgs st) (defBody st) (defScope st) .none kV doc pm an cdv ct), osl⟩) (c : PySem.W.codeIn K cdv q = true) (k : PySem.W.keepIn K (.ref f) = true)
    (b : ∀ (kV doc pm : Value) (an : Option Addr) (cdv ct : Value) (us : List Value), us.length = ps.length → bindArgs (PySem.W.fnOf m q (defArgs st) (defBody st) (defScope st) .none kV doc pm an cdv ct) ⟨us, []⟩ = pure (ps.zip us)) : ∃ f fd, MFn K C m q st ps f fd :=
  ⟨f, _, ⟨a, fn, k⟩, fun_mk l c k, (fun_mk l c k).binds b⟩
theorem ifn_mk {C f : Addr} {q : Str} {st : Stmt} {ps : List Str} {oc : Value} {od an : Option Addr} {osl : Array (Option Value)} {kV doc pm cdv ct : Value} (mk : PySem.W.makesIn K C = true) (a : PySem.W.findIn K (.ref C) "__init__" = some (some (.ref f))) (fn : PySem.W.isFn K (.ref f) = true) (kC : PySem.W.keepIn K (.ref C) = true)
    (l : K.lookup f = some ⟨oc, od, .func (PySem.W.fnOf "__init__" q (defArgs st) (defBody st) (defScope st) .none kV doc pm an cdv ct), osl⟩) (c : PySem.W.codeIn K cdv q = true) (k : PySem.W.keepIn K (.ref f) = true)
    (b : ∀ (kV doc pm : Value) (an : Option Addr) (cdv ct : Value) (us : List Value), us.length = ps.length → bindArgs (PySem.W.fnOf "__init__" q (defArgs st) (defBody st) (defScope st) .none kV doc pm an cdv ct) ⟨us, []⟩ = pure (ps.zip us)) : ∃ f fd, IFn K C q st ps f fd :=
  ⟨f, _, ⟨mk, a, fn, kC⟩, fun_mk l c k, (fun_mk l c k).binds b⟩
theorem mfn_vc {C f : Addr} {m q : Str} {st : Stmt} {ps : List Str} {oc : Value} {od an : Option Addr} {osl : Array (Option Value)} {kV doc pm cdv ct : Value} (_ : VCls K mg C) (a : PySem.W.findIn K (.ref C) m = some (some (.ref f))) (fn : PySem.W.isFn K (.ref f) = true)
    (l : K.lookup f = some ⟨oc, od, .func (PySem.W.fnOf m q (defArgs st) (defBody st) (defScope st) .none kV doc pm an cdv ct), osl⟩) (c : PySem.W.codeIn K cdv q = true) (k : PySem.W.keepIn K (.ref f) = true)
    (b : ∀ (kV doc pm : Value) (an : Option Addr) (cdv ct : Value) (us : List Value), us.length = ps.length → bindArgs (PySem.W.fnOf m q (defArgs st) (defBody st) (defScope st) .none kV doc pm an cdv ct) ⟨us, []⟩ = pure (ps.zip us)) : ∃ f fd, MFn K C m q st ps f fd := mfn_mk a fn l c k b
theorem ifn_vc {C f : Addr} {q : Str} {st : Stmt} {ps : List Str} {oc : Value} {od an : Option Addr} {osl : Array (Option Value)} {kV doc pm cdv ct : Value} (_ : VCls K mg C) (mk : PySem.W.makesIn K C = true) (a : PySem.W.findIn K (.ref C) "__init__" = some (some (.ref f))) (fn : PySem.W.isFn K (.ref f) = true) (kC : PySem.W.keepIn K (.ref C) = true)
    (l : K.lookup f = some ⟨oc, od, .func (PySem.W.fnOf "__init__" q (defArgs st) (defBody st) (defScope st) .none kV doc pm an cdv ct), osl⟩) (c : PySem.W.codeIn K cdv q = true) (k : PySem.W.keepIn K (.ref f) = true)
    (b : ∀ (kV doc pm : Value) (an : Option Addr) (cdv ct : Value) (us : List Value), us.length = ps.length → bindArgs (PySem.W.fnOf "__init__" q (defArgs st) (defBody st) (defScope st) .none kV doc pm an cdv ct) ⟨us, []⟩ = pure (ps.zip us)) : ∃ f fd, IFn K C q st ps f fd := ifn_mk mk a fn kC l c k b
theorem errC_mk {CCa CNa CNu : Addr} (bCa : BadCa K mg CCa) (bNa : BadNa K mg CNa) (bNu : BadNu K mg CNu) (e01 : PySem.W.subIn K (.ref CNa) (.ref CCa) = some false) (e02 : PySem.W.subIn K (.ref CNu) (.ref CCa) = some false) (e12 : PySem.W.subIn K (.ref CNu) (.ref CNa) = some false) : ErrC K mg CCa CNa CNu :=
  ⟨bCa, bNa, bNu, .cons (List.forall_mem_cons.mpr ⟨exm_of_te bCa.te e01, List.forall_mem_cons.mpr ⟨exm_of_te bCa.te e02, by simp⟩⟩) (.cons (List.forall_mem_cons.mpr ⟨exm_of_te bNa.te e12, by simp⟩) (.cons (by simp) .nil))⟩
end
end K8

set_option Elab.async false
set_option linter.all false
set_option maxRecDepth 100000
open PySem PySem.W PyProof.Rows
set_option maxRecDepth 100000 in
set_option maxHeartbeats 0 in
theorem PySem.Challenge.cw_outofwishes_k35_whole_all_values_holds : PySem.Challenge.rw_outofwishes_k35_whole_all_values.Holds := by
  w_on; o_law; k_head; (case hw => w_witness2)
  k_fill
  refine K8.walk_tab (n := 63) (k := 20) (x := "_law_refused_right") (y := "script") (l := PySem.Challenge.rw_outofwishes_k35_whole_all_values) (sp := fun w TP => K8.spLaw _ TP) rfl (by decide) rfl ⟨rfl, by decide, by decide⟩ (by decide +kernel) (fun w h Y => PySem.W.km_in_of Y) (fun w TP H a ns hl _ ht hS => K8.spLaw_hsp _ TP H a ns hl ht hS) ?F
  case F =>
    intro w mg h Y KX G
    refine' K8.then_of (K8.at_mk (x := "is_whole") (st := K8.s_is_whole) (ps := ["thing"]) KX G ?a_1 ?l_1 ?c_1 ?k_1 (fun kV doc pm an cdv ct us hl => match us, hl with | [_], _ => rfl)) ?nxt_1
    case a_1 => k_is
    case l_1 => k_is
    case c_1 => k_is
    case k_1 => k_is
    intro h_is_whole
    refine' K8.then_of (K8.at_mk (x := "is_from_one") (st := K8.s_is_from_one) (ps := ["thing"]) KX G ?a_2 ?l_2 ?c_2 ?k_2 (fun kV doc pm an cdv ct us hl => match us, hl with | [_], _ => rfl)) ?nxt_2
    case a_2 => k_is
    case l_2 => k_is
    case c_2 => k_is
    case k_2 => k_is
    intro h_is_from_one
    refine' K8.then_of (K8.at_mk (x := "is_list") (st := K8.s_is_list) (ps := ["thing"]) KX G ?a_3 ?l_3 ?c_3 ?k_3 (fun kV doc pm an cdv ct us hl => match us, hl with | [_], _ => rfl)) ?nxt_3
    case a_3 => k_is
    case l_3 => k_is
    case c_3 => k_is
    case k_3 => k_is
    intro h_is_list
    refine' K8.then_of (K8.at_mk (x := "is_run") (st := K8.s_is_run) (ps := ["thing"]) KX G ?a_4 ?l_4 ?c_4 ?k_4 (fun kV doc pm an cdv ct us hl => match us, hl with | [_], _ => rfl)) ?nxt_4
    case a_4 => k_is
    case l_4 => k_is
    case c_4 => k_is
    case k_4 => k_is
    intro h_is_run
    refine' K8.then_of (K8.at_mk (x := "is_name") (st := K8.s_is_name) (ps := ["thing"]) KX G ?a_5 ?l_5 ?c_5 ?k_5 (fun kV doc pm an cdv ct us hl => match us, hl with | [_], _ => rfl)) ?nxt_5
    case a_5 => k_is
    case l_5 => k_is
    case c_5 => k_is
    case k_5 => k_is
    intro h_is_name
    refine' K8.then_of (K8.at_mk (x := "is_numbers") (st := K8.s_is_numbers) (ps := ["thing"]) KX G ?a_6 ?l_6 ?c_6 ?k_6 (fun kV doc pm an cdv ct us hl => match us, hl with | [_], _ => rfl)) ?nxt_6
    case a_6 => k_is
    case l_6 => k_is
    case c_6 => k_is
    case k_6 => k_is
    intro h_is_numbers
    refine' K8.then_of (K8.at_mk (x := "is_numbers_with") (st := K8.s_is_numbers_with) (ps := ["thing", "names"]) KX G ?a_7 ?l_7 ?c_7 ?k_7 (fun kV doc pm an cdv ct us hl => match us, hl with | [_, _], _ => rfl)) ?nxt_7
    case a_7 => k_is
    case l_7 => k_is
    case c_7 => k_is
    case k_7 => k_is
    intro h_is_numbers_with
    refine' K8.then_of (K8.at_mk (x := "is_term") (st := K8.s_is_term) (ps := ["thing"]) KX G ?a_8 ?l_8 ?c_8 ?k_8 (fun kV doc pm an cdv ct us hl => match us, hl with | [_], _ => rfl)) ?nxt_8
    case a_8 => k_is
    case l_8 => k_is
    case c_8 => k_is
    case k_8 => k_is
    intro h_is_term
    refine' K8.then_of (K8.at_mk (x := "names_of") (st := K8.s_names_of) (ps := ["term"]) KX G ?a_9 ?l_9 ?c_9 ?k_9 (fun kV doc pm an cdv ct us hl => match us, hl with | [_], _ => rfl)) ?nxt_9
    case a_9 => k_is
    case l_9 => k_is
    case c_9 => k_is
    case k_9 => k_is
    intro h_names_of
    refine' K8.then_of (K8.at_mk (x := "change_along") (st := K8.s_change_along) (ps := ["term", "ray"]) KX G ?a_10 ?l_10 ?c_10 ?k_10 (fun kV doc pm an cdv ct us hl => match us, hl with | [_, _], _ => rfl)) ?nxt_10
    case a_10 => k_is
    case l_10 => k_is
    case c_10 => k_is
    case k_10 => k_is
    intro h_change_along
    refine' K8.then_of (K8.at_mk (x := "value_of") (st := K8.s_value_of) (ps := ["term", "numbers"]) KX G ?a_11 ?l_11 ?c_11 ?k_11 (fun kV doc pm an cdv ct us hl => match us, hl with | [_, _], _ => rfl)) ?nxt_11
    case a_11 => k_is
    case l_11 => k_is
    case c_11 => k_is
    case k_11 => k_is
    intro h_value_of
    refine' K8.then_of (K8.at_mk (x := "is_test") (st := K8.s_is_test) (ps := ["thing"]) KX G ?a_12 ?l_12 ?c_12 ?k_12 (fun kV doc pm an cdv ct us hl => match us, hl with | [_], _ => rfl)) ?nxt_12
    case a_12 => k_is
    case l_12 => k_is
    case c_12 => k_is
    case k_12 => k_is
    intro h_is_test
    refine' K8.then_of (K8.at_mk (x := "term_of") (st := K8.s_term_of) (ps := ["test"]) KX G ?a_13 ?l_13 ?c_13 ?k_13 (fun kV doc pm an cdv ct us hl => match us, hl with | [_], _ => rfl)) ?nxt_13
    case a_13 => k_is
    case l_13 => k_is
    case c_13 => k_is
    case k_13 => k_is
    intro h_term_of
    refine' K8.then_of (K8.at_mk (x := "told_term") (st := K8.s_told_term) (ps := ["term"]) KX G ?a_14 ?l_14 ?c_14 ?k_14 (fun kV doc pm an cdv ct us hl => match us, hl with | [_], _ => rfl)) ?nxt_14
    case a_14 => k_is
    case l_14 => k_is
    case c_14 => k_is
    case k_14 => k_is
    intro h_told_term
    refine' K8.then_of (K8.at_mk (x := "told_test") (st := K8.s_told_test) (ps := ["test"]) KX G ?a_15 ?l_15 ?c_15 ?k_15 (fun kV doc pm an cdv ct us hl => match us, hl with | [_], _ => rfl)) ?nxt_15
    case a_15 => k_is
    case l_15 => k_is
    case c_15 => k_is
    case k_15 => k_is
    intro h_told_test
    refine' K8.then_of (K8.at_mk (x := "tests_of") (st := K8.s_tests_of) (ps := ["body"]) KX G ?a_16 ?l_16 ?c_16 ?k_16 (fun kV doc pm an cdv ct us hl => match us, hl with | [_], _ => rfl)) ?nxt_16
    case a_16 => k_is
    case l_16 => k_is
    case c_16 => k_is
    case k_16 => k_is
    intro h_tests_of
    refine' K8.then_of (K8.at_mk (x := "names_of_bodies") (st := K8.s_names_of_bodies) (ps := ["bodies"]) KX G ?a_17 ?l_17 ?c_17 ?k_17 (fun kV doc pm an cdv ct us hl => match us, hl with | [_], _ => rfl)) ?nxt_17
    case a_17 => k_is
    case l_17 => k_is
    case c_17 => k_is
    case k_17 => k_is
    intro h_names_of_bodies
    refine' K8.then_of (K8.at_mk (x := "told_case") (st := K8.s_told_case) (ps := ["case"]) KX G ?a_18 ?l_18 ?c_18 ?k_18 (fun kV doc pm an cdv ct us hl => match us, hl with | [_], _ => rfl)) ?nxt_18
    case a_18 => k_is
    case l_18 => k_is
    case c_18 => k_is
    case k_18 => k_is
    intro h_told_case
    refine' K8.then_of (K8.at_mk (x := "check_name") (st := K8.s_check_name) (ps := ["name"]) KX G ?a_19 ?l_19 ?c_19 ?k_19 (fun kV doc pm an cdv ct us hl => match us, hl with | [_], _ => rfl)) ?nxt_19
    case a_19 => k_is
    case l_19 => k_is
    case c_19 => k_is
    case k_19 => k_is
    intro h_check_name
    refine' K8.then_of (K8.at_mk (x := "coefficient_in") (st := K8.s_coefficient_in) (ps := ["test", "name"]) KX G ?a_20 ?l_20 ?c_20 ?k_20 (fun kV doc pm an cdv ct us hl => match us, hl with | [_, _], _ => rfl)) ?nxt_20
    case a_20 => k_is
    case l_20 => k_is
    case c_20 => k_is
    case k_20 => k_is
    intro h_coefficient_in
    refine' K8.then_of (K8.at_mk (x := "others_in") (st := K8.s_others_in) (ps := ["case", "name"]) KX G ?a_21 ?l_21 ?c_21 ?k_21 (fun kV doc pm an cdv ct us hl => match us, hl with | [_, _], _ => rfl)) ?nxt_21
    case a_21 => k_is
    case l_21 => k_is
    case c_21 => k_is
    case k_21 => k_is
    intro h_others_in
    refine' K8.then_of (K8.at_mk (x := "rest_at") (st := K8.s_rest_at) (ps := ["test", "name", "numbers"]) KX G ?a_22 ?l_22 ?c_22 ?k_22 (fun kV doc pm an cdv ct us hl => match us, hl with | [_, _, _], _ => rfl)) ?nxt_22
    case a_22 => k_is
    case l_22 => k_is
    case c_22 => k_is
    case k_22 => k_is
    intro h_rest_at
    refine' K8.then_of (K8.at_mk (x := "set_of") (st := K8.s_set_of) (ps := ["case", "name", "numbers"]) KX G ?a_23 ?l_23 ?c_23 ?k_23 (fun kV doc pm an cdv ct us hl => match us, hl with | [_, _, _], _ => rfl)) ?nxt_23
    case a_23 => k_is
    case l_23 => k_is
    case c_23 => k_is
    case k_23 => k_is
    intro h_set_of
    refine' K8.then_of (K8.at_mk (x := "_law_cell") (st := K8.s__law_cell) (ps := ["script", "k"]) KX G ?a_24 ?l_24 ?c_24 ?k_24 (fun kV doc pm an cdv ct us hl => match us, hl with | [_, _], _ => rfl)) ?nxt_24
    case a_24 => k_is
    case l_24 => k_is
    case c_24 => k_is
    case k_24 => k_is
    intro h__law_cell
    refine' K8.then_of (K8.at_mk (x := "_law_source") (st := K8.s__law_source) (ps := ["script", "k"]) KX G ?a_25 ?l_25 ?c_25 ?k_25 (fun kV doc pm an cdv ct us hl => match us, hl with | [_, _], _ => rfl)) ?nxt_25
    case a_25 => k_is
    case l_25 => k_is
    case c_25 => k_is
    case k_25 => k_is
    intro h__law_source
    refine' K8.then_of (K8.at_mk (x := "_law_draw") (st := K8.s__law_draw) (ps := ["source", "many"]) KX G ?a_26 ?l_26 ?c_26 ?k_26 (fun kV doc pm an cdv ct us hl => match us, hl with | [_, _], _ => rfl)) ?nxt_26
    case a_26 => k_is
    case l_26 => k_is
    case c_26 => k_is
    case k_26 => k_is
    intro h__law_draw
    refine' K8.then_of (K8.at_mk (x := "_law_pick") (st := K8.s__law_pick) (ps := ["source", "some"]) KX G ?a_27 ?l_27 ?c_27 ?k_27 (fun kV doc pm an cdv ct us hl => match us, hl with | [_, _], _ => rfl)) ?nxt_27
    case a_27 => k_is
    case l_27 => k_is
    case c_27 => k_is
    case k_27 => k_is
    intro h__law_pick
    refine' K8.then_of (K8.at_mk (x := "_law_mixed") (st := K8.s__law_mixed) (ps := ["source", "some"]) KX G ?a_28 ?l_28 ?c_28 ?k_28 (fun kV doc pm an cdv ct us hl => match us, hl with | [_, _], _ => rfl)) ?nxt_28
    case a_28 => k_is
    case l_28 => k_is
    case c_28 => k_is
    case k_28 => k_is
    intro h__law_mixed
    refine' K8.then_of (K8.at_mk (x := "_law_same") (st := K8.s__law_same) (ps := ["found", "wanted"]) KX G ?a_29 ?l_29 ?c_29 ?k_29 (fun kV doc pm an cdv ct us hl => match us, hl with | [_, _], _ => rfl)) ?nxt_29
    case a_29 => k_is
    case l_29 => k_is
    case c_29 => k_is
    case k_29 => k_is
    intro h__law_same
    refine' K8.then_of (K8.at_mk (x := "_law_q_put") (st := K8.s__law_q_put) (ps := ["held", "other"]) KX G ?a_30 ?l_30 ?c_30 ?k_30 (fun kV doc pm an cdv ct us hl => match us, hl with | [_, _], _ => rfl)) ?nxt_30
    case a_30 => k_is
    case l_30 => k_is
    case c_30 => k_is
    case k_30 => k_is
    intro h__law_q_put
    refine' K8.then_of (K8.at_mk (x := "_law_q_names") (st := K8.s__law_q_names) (ps := ["source", "many"]) KX G ?a_31 ?l_31 ?c_31 ?k_31 (fun kV doc pm an cdv ct us hl => match us, hl with | [_, _], _ => rfl)) ?nxt_31
    case a_31 => k_is
    case l_31 => k_is
    case c_31 => k_is
    case k_31 => k_is
    intro h__law_q_names
    refine' K8.then_of (K8.at_mk (x := "_law_q_term") (st := K8.s__law_q_term) (ps := ["source", "names", "top", "far"]) KX G ?a_32 ?l_32 ?c_32 ?k_32 (fun kV doc pm an cdv ct us hl => match us, hl with | [_, _, _, _], _ => rfl)) ?nxt_32
    case a_32 => k_is
    case l_32 => k_is
    case c_32 => k_is
    case k_32 => k_is
    intro h__law_q_term
    refine' K8.then_of (K8.at_mk (x := "_law_q_handed") (st := K8.s__law_q_handed) (ps := ["source", "thing"]) KX G ?a_33 ?l_33 ?c_33 ?k_33 (fun kV doc pm an cdv ct us hl => match us, hl with | [_, _], _ => rfl)) ?nxt_33
    case a_33 => k_is
    case l_33 => k_is
    case c_33 => k_is
    case k_33 => k_is
    intro h__law_q_handed
    refine' K8.then_of (K8.at_mk (x := "_law_q_worth") (st := K8.s__law_q_worth) (ps := ["term", "numbers"]) KX G ?a_34 ?l_34 ?c_34 ?k_34 (fun kV doc pm an cdv ct us hl => match us, hl with | [_, _], _ => rfl)) ?nxt_34
    case a_34 => k_is
    case l_34 => k_is
    case c_34 => k_is
    case k_34 => k_is
    intro h__law_q_worth
    refine' K8.then_of (K8.at_mk (x := "_law_q_so") (st := K8.s__law_q_so) (ps := ["body", "numbers"]) KX G ?a_35 ?l_35 ?c_35 ?k_35 (fun kV doc pm an cdv ct us hl => match us, hl with | [_, _], _ => rfl)) ?nxt_35
    case a_35 => k_is
    case l_35 => k_is
    case c_35 => k_is
    case k_35 => k_is
    intro h__law_q_so
    refine' K8.then_of (K8.at_mk (x := "_law_v_case") (st := K8.s__law_v_case) (ps := ["source", "names", "name", "top", "far", "point", "slack"]) KX G ?a_36 ?l_36 ?c_36 ?k_36 (fun kV doc pm an cdv ct us hl => match us, hl with | [_, _, _, _, _, _, _], _ => rfl)) ?nxt_36
    case a_36 => k_is
    case l_36 => k_is
    case c_36 => k_is
    case k_36 => k_is
    intro h__law_v_case
    refine' K8.then_of (K8.at_mk (x := "_law_v_least") (st := K8.s__law_v_least) (ps := ["number", "rest", "period"]) KX G ?a_37 ?l_37 ?c_37 ?k_37 (fun kV doc pm an cdv ct us hl => match us, hl with | [_, _, _], _ => rfl)) ?nxt_37
    case a_37 => k_is
    case l_37 => k_is
    case c_37 => k_is
    case k_37 => k_is
    intro h__law_v_least
    refine' K8.then_of (K8.at_mk (x := "_law_v_values") (st := K8.s__law_v_values) (ps := ["case", "name", "numbers"]) KX G ?a_38 ?l_38 ?c_38 ?k_38 (fun kV doc pm an cdv ct us hl => match us, hl with | [_, _, _], _ => rfl)) ?nxt_38
    case a_38 => k_is
    case l_38 => k_is
    case c_38 => k_is
    case k_38 => k_is
    intro h__law_v_values
    refine' K8.then_of (K8.at_mk (x := "_law_drawn") (st := K8.s__law_drawn) (ps := ["source"]) KX G ?a_39 ?l_39 ?c_39 ?k_39 (fun kV doc pm an cdv ct us hl => match us, hl with | [_], _ => rfl)) ?nxt_39
    case a_39 => k_is
    case l_39 => k_is
    case c_39 => k_is
    case k_39 => k_is
    intro h__law_drawn
    refine' K8.then_of (K8.at_mk (x := "_law_near_right") (st := K8.s__law_near_right) (ps := ["case", "name", "numbers", "told"]) KX G ?a_40 ?l_40 ?c_40 ?k_40 (fun kV doc pm an cdv ct us hl => match us, hl with | [_, _, _, _], _ => rfl)) ?nxt_40
    case a_40 => k_is
    case l_40 => k_is
    case c_40 => k_is
    case k_40 => k_is
    intro h__law_near_right
    refine' K8.then_of (K8.at_mk (x := "_law_case_right") (st := K8.s__law_case_right) (ps := ["source"]) KX G ?a_41 ?l_41 ?c_41 ?k_41 (fun kV doc pm an cdv ct us hl => match us, hl with | [_], _ => rfl)) ?nxt_41
    case a_41 => k_is
    case l_41 => k_is
    case c_41 => k_is
    case k_41 => k_is
    intro h__law_case_right
    refine' K8.then_of (K8.at_mk (x := "_law_odd_tests") (st := K8.s__law_odd_tests) (ps := ["one"]) KX G ?a_42 ?l_42 ?c_42 ?k_42 (fun kV doc pm an cdv ct us hl => match us, hl with | [_], _ => rfl)) ?nxt_42
    case a_42 => k_is
    case l_42 => k_is
    case c_42 => k_is
    case k_42 => k_is
    intro h__law_odd_tests
    refine' K8.then_of (K8.at_mk (x := "_law_written_right") (st := K8.s__law_written_right) (ps := []) KX G ?a_43 ?l_43 ?c_43 ?k_43 (fun kV doc pm an cdv ct us hl => match us, hl with | [], _ => rfl)) ?nxt_43
    case a_43 => k_is
    case l_43 => k_is
    case c_43 => k_is
    case k_43 => k_is
    intro h__law_written_right
    refine' K8.then_of (K8.at_mk (x := "law") (st := K8.s_law) (ps := ["script"]) KX G ?a_44 ?l_44 ?c_44 ?k_44 (fun kV doc pm an cdv ct us hl => match us, hl with | [_], _ => rfl)) ?nxt_44
    case a_44 => k_is
    case l_44 => k_is
    case c_44 => k_is
    case k_44 => k_is
    intro h_law
    refine' K8.then_of (PySem.W.mg_none_of (n := "isinstance") KX G ?a_45) ?nxt_45
    case a_45 => k_is
    intro n_isinstance
    refine' K8.then_of (PySem.W.mg_none_of (n := "len") KX G ?a_46) ?nxt_46
    case a_46 => k_is
    intro n_len
    refine' K8.then_of (PySem.W.mg_none_of (n := "all") KX G ?a_47) ?nxt_47
    case a_47 => k_is
    intro n_all
    refine' K8.then_of (PySem.W.mg_none_of (n := "any") KX G ?a_48) ?nxt_48
    case a_48 => k_is
    intro n_any
    refine' K8.then_of (PySem.W.mg_none_of (n := "sum") KX G ?a_49) ?nxt_49
    case a_49 => k_is
    intro n_sum
    refine' K8.then_of (PySem.W.mg_none_of (n := "sorted") KX G ?a_50) ?nxt_50
    case a_50 => k_is
    intro n_sorted
    refine' K8.then_of (PySem.W.mg_none_of (n := "abs") KX G ?a_51) ?nxt_51
    case a_51 => k_is
    intro n_abs
    refine' K8.then_of (PySem.W.mg_none_of (n := "repr") KX G ?a_52) ?nxt_52
    case a_52 => k_is
    intro n_repr
    refine' K8.then_of (PySem.W.mg_none_of (n := "range") KX G ?a_53) ?nxt_53
    case a_53 => k_is
    intro n_range
    refine' K8.then_of (PySem.W.mg_none_of (n := "enumerate") KX G ?a_54) ?nxt_54
    case a_54 => k_is
    intro n_enumerate
    refine' K8.then_of (PySem.W.mg_none_of (n := "zip") KX G ?a_55) ?nxt_55
    case a_55 => k_is
    intro n_zip
    refine' K8.then_of (PySem.W.mg_none_of (n := "int") KX G ?a_56) ?nxt_56
    case a_56 => k_is
    intro n_int
    refine' K8.then_of (PySem.W.mg_none_of (n := "bool") KX G ?a_57) ?nxt_57
    case a_57 => k_is
    intro n_bool
    refine' K8.then_of (PySem.W.mg_none_of (n := "str") KX G ?a_58) ?nxt_58
    case a_58 => k_is
    intro n_str
    refine' K8.then_of (PySem.W.mg_none_of (n := "list") KX G ?a_59) ?nxt_59
    case a_59 => k_is
    intro n_list
    refine' K8.then_of (PySem.W.mg_none_of (n := "tuple") KX G ?a_60) ?nxt_60
    case a_60 => k_is
    intro n_tuple
    refine' K8.then_of (PySem.W.mg_none_of (n := "dict") KX G ?a_61) ?nxt_61
    case a_61 => k_is
    intro n_dict
    refine' K8.then_of (PySem.W.mg_none_of (n := "min") KX G ?a_62) ?nxt_62
    case a_62 => k_is
    intro n_min
    refine' K8.then_of (PySem.W.mg_none_of (n := "max") KX G ?a_63) ?nxt_63
    case a_63 => k_is
    intro n_max
    refine' K8.then_of (K8.txt_mk KX G n_isinstance n_len n_all n_any n_sum n_sorted n_abs n_repr n_range n_enumerate n_zip n_int n_bool n_str n_list n_tuple n_dict n_min n_max ?h_64 ?a_64 ?b_64 ?c_64 ?d_64 ?e_64 ?g_64) ?nxt_64
    case h_64 => k_is
    case a_64 => k_is
    case b_64 => k_is
    case c_64 => k_is
    case d_64 => k_is
    case e_64 => k_is
    case g_64 => decide +kernel
    intro T
    refine' K8.then_of (K8.bx_mk (x := "BadCase") (fl := "index") (q0 := "BadCase.__init__") (st := K8.s_initCa) KX G ?gC_65 ?xL_65 ?sa_65 ?ga_65 ?gg_65 ?nb_65 ?ini_65 ?ti_65 ?li_65 ?ci_65 ?ki_65 ?kC_65 ?eC_65 ?tC_65 ?hC_65 ?iC_65 ?sC_65 ?rb_65 (fun kV doc pm an cdv ct us hl => match us, hl with | [_, _], _ => rfl)) ?nxt_65
    case gC_65 => k_is
    case xL_65 => k_is
    case sa_65 => k_is
    case ga_65 => k_is
    case gg_65 => k_is
    case nb_65 => k_is
    case ini_65 => k_is
    case ti_65 => k_is
    case li_65 => k_is
    case ci_65 => k_is
    case ki_65 => k_is
    case kC_65 => k_is
    case eC_65 => k_is
    case tC_65 => k_is
    case hC_65 => k_is
    case iC_65 => k_is
    case sC_65 => k_is
    case rb_65 => decide +kernel
    intro bCa
    refine' K8.then_of (K8.bx_mk (x := "BadName") (fl := "name") (q0 := "BadName.__init__") (st := K8.s_initNa) KX G ?gC_66 ?xL_66 ?sa_66 ?ga_66 ?gg_66 ?nb_66 ?ini_66 ?ti_66 ?li_66 ?ci_66 ?ki_66 ?kC_66 ?eC_66 ?tC_66 ?hC_66 ?iC_66 ?sC_66 ?rb_66 (fun kV doc pm an cdv ct us hl => match us, hl with | [_, _], _ => rfl)) ?nxt_66
    case gC_66 => k_is
    case xL_66 => k_is
    case sa_66 => k_is
    case ga_66 => k_is
    case gg_66 => k_is
    case nb_66 => k_is
    case ini_66 => k_is
    case ti_66 => k_is
    case li_66 => k_is
    case ci_66 => k_is
    case ki_66 => k_is
    case kC_66 => k_is
    case eC_66 => k_is
    case tC_66 => k_is
    case hC_66 => k_is
    case iC_66 => k_is
    case sC_66 => k_is
    case rb_66 => decide +kernel
    intro bNa
    refine' K8.then_of (K8.bx_mk (x := "BadNumbers") (fl := "numbers") (q0 := "BadNumbers.__init__") (st := K8.s_initNu) KX G ?gC_67 ?xL_67 ?sa_67 ?ga_67 ?gg_67 ?nb_67 ?ini_67 ?ti_67 ?li_67 ?ci_67 ?ki_67 ?kC_67 ?eC_67 ?tC_67 ?hC_67 ?iC_67 ?sC_67 ?rb_67 (fun kV doc pm an cdv ct us hl => match us, hl with | [_, _], _ => rfl)) ?nxt_67
    case gC_67 => k_is
    case xL_67 => k_is
    case sa_67 => k_is
    case ga_67 => k_is
    case gg_67 => k_is
    case nb_67 => k_is
    case ini_67 => k_is
    case ti_67 => k_is
    case li_67 => k_is
    case ci_67 => k_is
    case ki_67 => k_is
    case kC_67 => k_is
    case eC_67 => k_is
    case tC_67 => k_is
    case hC_67 => k_is
    case iC_67 => k_is
    case sC_67 => k_is
    case rb_67 => decide +kernel
    intro bNu
    refine' K8.then_of (K8.errC_mk bCa bNa bNu ?e01_68 ?e02_68 ?e12_68) ?nxt_68
    case e01_68 => k_is
    case e02_68 => k_is
    case e12_68 => k_is
    intro B
    refine' K8.then_of (K8.vcls_mk KX G ?gC_69 ?pg_69 ?hd_69 ?po_69 ?sa_69 ?n1_69 ?n2_69 ?n3_69 ?n4_69) ?nxt_69
    case gC_69 => k_is
    case pg_69 => k_is
    case hd_69 => k_is
    case po_69 => k_is
    case sa_69 => k_is
    case n1_69 => k_is
    case n2_69 => k_is
    case n3_69 => k_is
    case n4_69 => k_is
    intro VC
    refine' K8.then_of (K8.ifn_vc VC (q := "Values.__init__") (st := K8.s_Values___init__) (ps := ["self"]) ?mk_70 ?a_70 ?fn_70 ?kC_70 ?l_70 ?c_70 ?k_70 (fun kV doc pm an cdv ct us hl => match us, hl with | [_], _ => rfl)) ?nxt_70
    case mk_70 => k_is
    case a_70 => k_is
    case fn_70 => k_is
    case kC_70 => k_is
    case l_70 => k_is
    case c_70 => k_is
    case k_70 => k_is
    intro hVI
    refine' K8.then_of (K8.mfn_vc VC (m := "raise_least") (q := "Values.raise_least") (st := K8.s_Values_raise_least) (ps := ["self", "number"]) ?a_71 ?fn_71 ?l_71 ?c_71 ?k_71 (fun kV doc pm an cdv ct us hl => match us, hl with | [_, _], _ => rfl)) ?nxt_71
    case a_71 => k_is
    case fn_71 => k_is
    case l_71 => k_is
    case c_71 => k_is
    case k_71 => k_is
    intro hV1
    refine' K8.then_of (K8.mfn_vc VC (m := "lower_most") (q := "Values.lower_most") (st := K8.s_Values_lower_most) (ps := ["self", "number"]) ?a_72 ?fn_72 ?l_72 ?c_72 ?k_72 (fun kV doc pm an cdv ct us hl => match us, hl with | [_, _], _ => rfl)) ?nxt_72
    case a_72 => k_is
    case fn_72 => k_is
    case l_72 => k_is
    case c_72 => k_is
    case k_72 => k_is
    intro hV2
    refine' K8.then_of (K8.mfn_vc VC (m := "take_by") (q := "Values.take_by") (st := K8.s_Values_take_by) (ps := ["self", "many", "part", "rest"]) ?a_73 ?fn_73 ?l_73 ?c_73 ?k_73 (fun kV doc pm an cdv ct us hl => match us, hl with | [_, _, _, _], _ => rfl)) ?nxt_73
    case a_73 => k_is
    case fn_73 => k_is
    case l_73 => k_is
    case c_73 => k_is
    case k_73 => k_is
    intro hV3
    refine' K8.then_of (K8.mfn_vc VC (m := "take") (q := "Values.take") (st := K8.s_Values_take) (ps := ["self", "test", "part", "rest"]) ?a_74 ?fn_74 ?l_74 ?c_74 ?k_74 (fun kV doc pm an cdv ct us hl => match us, hl with | [_, _, _, _], _ => rfl)) ?nxt_74
    case a_74 => k_is
    case fn_74 => k_is
    case l_74 => k_is
    case c_74 => k_is
    case k_74 => k_is
    intro hV4
    refine' K8.then_of (K8.mfn_vc VC (m := "told") (q := "Values.told") (st := K8.s_Values_told) (ps := ["self"]) ?a_75 ?fn_75 ?l_75 ?c_75 ?k_75 (fun kV doc pm an cdv ct us hl => match us, hl with | [_], _ => rfl)) ?nxt_75
    case a_75 => k_is
    case fn_75 => k_is
    case l_75 => k_is
    case c_75 => k_is
    case k_75 => k_is
    intro hV5
    refine' K8.then_of (K8.ref_mk (x := "_law_refused_right") (st := K8.s__law_refused_right) (ps := ["source"]) KX G ?a_76 ?l_76 ?c_76 ?k_76 ?lc_76 ?v_76 ?nk_76 ?hd_76 (fun kV doc pm an cdv ct us hl => match us, hl with | [_], _ => rfl)) ?nxt_76
    case a_76 => k_is
    case l_76 => k_is
    case c_76 => k_is
    case k_76 => k_is
    case lc_76 => k_is
    case v_76 => exact rfl
    case nk_76 => kernel_rfl
    case hd_76 => kernel_rfl
    intro R
    refine' K8.then_of (K8.met_mk KX G ?a_77 ?l_77 ?c_77 ?k_77) ?nxt_77
    case a_77 => k_is
    case l_77 => k_is
    case c_77 => k_is
    case k_77 => k_is
    intro M
    exact ⟨_, _, R.2, fun base _ _ TB => K8.all_ok T B VC hVI hV1 hV2 hV3 hV4 hV5 h_is_whole h_is_from_one h_is_list h_is_run h_is_name h_is_numbers h_is_numbers_with h_is_term h_names_of h_change_along h_value_of h_is_test h_term_of h_told_term h_told_test h_tests_of h_names_of_bodies h_told_case h_check_name h_coefficient_in h_others_in h_rest_at h_set_of h__law_cell h__law_source h__law_draw h__law_pick h__law_mixed h__law_same h__law_q_put h__law_q_names h__law_q_term h__law_q_handed h__law_q_worth h__law_q_so h__law_v_case h__law_v_least h__law_v_values h__law_drawn h__law_near_right h__law_case_right h__law_odd_tests h__law_written_right h_law R.1 TB M⟩
