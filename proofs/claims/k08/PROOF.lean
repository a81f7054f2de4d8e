import PyProof.Rows.All
import Wide.All
import OpenK.AllK
import Wide.FinOn
import PyProof.Rows.TmSorted
import PyProof.Rows.SortStr
import HandS.ForMost
import HandS.Gcd
import HandS.IsInst
import HandS.ListItems
import HandS.DictComp
import HandS.More
import HandS.Zip
import HandS.Wide
import HandS.TryOnly
import HandS.ExcInit
import HandS.ExcField
import HandS.Lambda
import HandS.EndTab
import HandS.Style
import HandS.Flow
import HandS.Conv
import HandS.Small
import HandS.Steps
import HandS.Walk
import PyProof.P3In
import HandS.WordsExc
import PyProof.ReprNest
import PyProof.ReprDict
import PyProof.StrHeap
import PyProof.ReprRoads
import PyProof.ReprLen
import PyProof.FitsInt
import PyProof.InstEq
import PyProof.IsiBase
import KE.KIsAll
import HandS.EndOwn
import PySem.Challenge.RW_outofwishes_k08_whole_tight_tests
set_option linter.all false
set_option autoImplicit false
namespace M8
open PySem PySem.Spec PyProof.Rows
/-! the order of texts, one sorted arrangement -/
def leS (a b : Str) : Prop := ltCps b.cps.toList a.cps.toList = false
theorem leS_iff {a b : Str} : leS a b ↔ ¬ b.cps.toList < a.cps.toList := by
  unfold leS; rw [ltCps_eq]; exact decide_eq_false_iff_not
theorem leS_antisymm {a b : Str} (h1 : leS a b) (h2 : leS b a) : a = b := by
  rw [leS_iff] at h1 h2
  have e : a.cps.toList = b.cps.toList := List.le_antisymm (List.not_lt.mp h1) (List.not_lt.mp h2)
  cases a; cases b; simp at e; simp [e]
theorem leS_trans {a b c : Str} (h1 : leS a b) (h2 : leS b c) : leS a c := by
  rw [leS_iff] at *
  exact List.not_lt.mpr (List.le_trans (List.not_lt.mp h1) (List.not_lt.mp h2))
theorem rising_pw : ∀ (l : List Str) (p : Str), risingS p l = true → (p :: l).Pairwise leS
  | [], p, _ => by simp
  | x :: r, p, h => by
    have h' : (!ltCps x.cps.toList p.cps.toList && risingS x r) = true := h
    simp only [Bool.and_eq_true, Bool.not_eq_true'] at h'
    have ih := rising_pw r x h'.2
    refine List.pairwise_cons.mpr ⟨fun y hy => ?_, ih⟩
    rcases List.mem_cons.mp hy with e | hy
    · rw [e]; exact h'.1
    · exact leS_trans h'.1 (List.rel_of_pairwise_cons ih hy)
theorem sorted_pw : ∀ {l : List Str}, sortedS l = true → l.Pairwise leS
  | [], _ => by simp
  | x :: r, h => rising_pw r x h
noncomputable def srt (xs : List Str) : List Str := open Classical in if h : ∃ ys : List Str, ys.Perm xs ∧ ys.Pairwise leS then Classical.choose h else []
theorem srt_eq {xs ys : List Str} (hp : ys.Perm xs) (hs : ys.Pairwise leS) : srt xs = ys := by
  have hx : ∃ ys : List Str, ys.Perm xs ∧ ys.Pairwise leS := ⟨ys, hp, hs⟩
  unfold srt
  rw [dif_pos hx]
  have q := Classical.choose_spec hx
  exact List.Perm.eq_of_pairwise (fun a b _ _ => leS_antisymm) q.2 hs (q.1.trans hp.symm)
theorem srt_ex : ∀ xs : List Str, ∃ ys : List Str, ys.Perm xs ∧ ys.Pairwise leS
  | xs => by
    refine ⟨xs.mergeSort (fun a b => !ltCps b.cps.toList a.cps.toList), List.mergeSort_perm _ _, ?_⟩
    have := List.pairwise_mergeSort (le := fun a b : Str => !ltCps b.cps.toList a.cps.toList) (fun a b c h1 h2 => by
      simp only [Bool.not_eq_true'] at *
      exact leS_trans (a := a) (b := b) (c := c) h1 h2) (fun a b => by
      rw [ltCps_eq, ltCps_eq]
      by_cases h : b.cps.toList < a.cps.toList
      · have : ¬ a.cps.toList < b.cps.toList := fun q => List.lt_irrefl _ (List.lt_trans h q)
        simp [this]
      · simp [h]) xs
    exact this.imp fun {a b} h => by
      have h' : (!ltCps b.cps.toList a.cps.toList) = true := h
      simpa [leS] using h'
theorem srt_perm (xs : List Str) : (srt xs).Perm xs := by
  obtain ⟨ys, h1, h2⟩ := srt_ex xs
  rw [srt_eq h1 h2]; exact h1
theorem srt_pw (xs : List Str) : (srt xs).Pairwise leS := by
  obtain ⟨ys, h1, h2⟩ := srt_ex xs
  rw [srt_eq h1 h2]; exact h2
theorem srt_congr {xs ys : List Str} (h : xs.Perm ys) : srt xs = srt ys := srt_eq ((srt_perm ys).trans h.symm) (srt_pw ys)
theorem srt_filter (xs : List Str) (p : Str → Bool) : srt (xs.filter p) = (srt xs).filter p :=
  srt_eq ((srt_perm xs).filter p) ((srt_pw xs).sublist List.filter_sublist)
theorem srt_of_sorted {xs : List Str} (h : xs.Pairwise leS) : srt xs = xs := srt_eq (.refl _) h
theorem srt_nil : srt [] = [] := srt_of_sorted .nil
theorem srt_nodup {xs : List Str} (h : xs.Nodup) : (srt xs).Nodup := (srt_perm xs).nodup_iff.mpr h
theorem mem_srt {xs : List Str} {x : Str} : x ∈ srt xs ↔ x ∈ xs := (srt_perm xs).mem_iff
theorem srt_length (xs : List Str) : (srt xs).length = xs.length := (srt_perm xs).length_eq

/-! coefficients -/
abbrev Coef := List (Str × Int)
def look (c : Coef) (n : Str) : Option Int := (c.find? fun p => decide (p.1 = n)).map (·.2)
def co (c : Coef) (n : Str) : Int := (look c n).getD 0
def keys (c : Coef) : List Str := c.map (·.1)
structure Wf (c : Coef) : Prop where
  nd : (keys c).Nodup
theorem look_mem {c : Coef} {n : Str} {i : Int} (h : look c n = some i) : (n, i) ∈ c := by
  unfold look at h
  cases e : c.find? fun p => decide (p.1 = n) with
  | none => rw [e] at h; simp at h
  | some p =>
    rw [e] at h
    have h1 := List.find?_some e
    have h2 := List.mem_of_find?_eq_some e
    simp at h h1
    obtain ⟨a, b⟩ := p
    simp at h h1
    subst h1; subst h
    exact h2
theorem look_of_mem : ∀ {c : Coef} {n : Str} {i : Int}, (keys c).Nodup → (n, i) ∈ c → look c n = some i
  | [], _, _, _, h => by simp at h
  | (m, j) :: c, n, i, hn, h => by
    have hn' : m ∉ keys c ∧ (keys c).Nodup := List.nodup_cons.mp hn
    unfold look
    rw [List.find?_cons]
    by_cases e : m = n
    · subst e
      rw [show decide (m = m) = true from decide_eq_true rfl]
      rcases List.mem_cons.mp h with h | h
      · cases h; rfl
      · exact absurd (List.mem_map.mpr ⟨(m, i), h, rfl⟩) hn'.1
    · rw [show decide (m = n) = false from decide_eq_false e]
      rcases List.mem_cons.mp h with h | h
      · cases h; exact absurd rfl e
      · exact look_of_mem hn'.2 h
theorem look_none {c : Coef} {n : Str} (h : n ∉ keys c) : look c n = none := by
  cases e : look c n with
  | none => rfl
  | some i => exact absurd (List.mem_map.mpr ⟨(n, i), look_mem e, rfl⟩) h
theorem look_some {c : Coef} {n : Str} (h : n ∈ keys c) (hn : (keys c).Nodup) : ∃ i, look c n = some i := by
  obtain ⟨p, hp, e⟩ := List.mem_map.mp h
  subst e
  exact ⟨p.2, look_of_mem hn hp⟩
theorem co_of_mem {c : Coef} {n : Str} {i : Int} (hn : (keys c).Nodup) (h : (n, i) ∈ c) : co c n = i := by
  unfold co; rw [look_of_mem hn h]; rfl
theorem co_notin {c : Coef} {n : Str} (h : n ∉ keys c) : co c n = 0 := by unfold co; rw [look_none h]; rfl
/-- the names with a coefficient other than 0, ascending -/
noncomputable def nz (c : Coef) : List Str := srt ((c.filter fun p => decide (p.2 ≠ 0)).map (·.1))
/-- the told form -/
noncomputable def canon (c : Coef) : Coef := (nz c).map fun n => (n, co c n)
theorem filter_keys {c : Coef} (hn : (keys c).Nodup) : (c.filter fun p => decide (p.2 ≠ 0)).map (·.1) = (keys c).filter fun n => decide (co c n ≠ 0) := by
  have : ∀ l : Coef, (∀ p ∈ l, p ∈ c) → (l.filter fun p => decide (p.2 ≠ 0)).map (·.1) = (keys l).filter fun n => decide (co c n ≠ 0) := by
    intro l
    induction l with
    | nil => intro _; rfl
    | cons p l ih =>
      intro h
      have e : co c p.1 = p.2 := co_of_mem hn (h p List.mem_cons_self)
      have ih' := ih fun q hq => h q (List.mem_cons_of_mem _ hq)
      unfold keys at *
      rw [List.filter_cons, List.map_cons, List.filter_cons, e, ← ih']
      split <;> simp
  exact this c fun _ h => h
theorem nz_eq {c : Coef} (hn : (keys c).Nodup) : nz c = (srt (keys c)).filter fun n => decide (co c n ≠ 0) := by
  unfold nz; rw [filter_keys hn, srt_filter]
theorem mem_nz {c : Coef} {n : Str} (hn : (keys c).Nodup) : n ∈ nz c ↔ co c n ≠ 0 := by
  rw [nz_eq hn, List.mem_filter, mem_srt]
  constructor
  · intro h; simpa using h.2
  · intro h
    refine ⟨Decidable.byContradiction fun k => h (co_notin k), by simpa using h⟩
theorem nz_nodup {c : Coef} (hn : (keys c).Nodup) : (nz c).Nodup := by
  rw [nz_eq hn]; exact (srt_nodup hn).filter _
theorem nz_pw (c : Coef) : (nz c).Pairwise leS := srt_pw _
theorem keys_canon (c : Coef) : keys (canon c) = nz c := by
  unfold keys canon; rw [List.map_map]; exact List.map_id' _
theorem canon_nodup {c : Coef} (hn : (keys c).Nodup) : (keys (canon c)).Nodup := by rw [keys_canon]; exact nz_nodup hn
theorem co_canon {c : Coef} (hn : (keys c).Nodup) (n : Str) : co (canon c) n = co c n := by
  by_cases h : n ∈ nz c
  · exact co_of_mem (canon_nodup hn) (List.mem_map.mpr ⟨n, h, rfl⟩)
  · rw [co_notin (by rw [keys_canon]; exact h)]
    have := fun k => h ((mem_nz hn).mpr k)
    exact (Decidable.byContradiction fun k => this k).symm
/-- two dicts with the same coefficients are told the same -/
theorem nz_congr {c d : Coef} (hc : (keys c).Nodup) (hd : (keys d).Nodup) (h : ∀ n, co c n = co d n) : nz c = nz d := by
  have e1 := nz_pw c
  have e2 := nz_pw d
  refine List.Perm.eq_of_pairwise (fun a b _ _ => leS_antisymm) e1 e2 ?_
  refine (List.perm_ext_iff_of_nodup (nz_nodup hc) (nz_nodup hd)).mpr fun n => ?_
  rw [mem_nz hc, mem_nz hd, h]
theorem canon_congr {c d : Coef} (hc : (keys c).Nodup) (hd : (keys d).Nodup) (h : ∀ n, co c n = co d n) : canon c = canon d := by
  unfold canon
  rw [nz_congr hc hd h]
  exact List.map_congr_left fun n _ => by rw [h]
theorem canon_canon {c : Coef} (hc : (keys c).Nodup) : canon (canon c) = canon c := canon_congr (canon_nodup hc) hc (co_canon hc)
/-- a told one: ascending, without 0 -/
structure Told (c : Coef) : Prop where
  pw : (keys c).Pairwise leS
  nd : (keys c).Nodup
  nz : ∀ p ∈ c, p.2 ≠ 0
theorem told_canon {c : Coef} (hc : (keys c).Nodup) : Told (canon c) := by
  refine ⟨by rw [keys_canon]; exact nz_pw c, canon_nodup hc, fun p hp => ?_⟩
  obtain ⟨n, hn, rfl⟩ := List.mem_map.mp hp
  exact (mem_nz hc).mp hn
theorem Told.canon_eq {c : Coef} (h : Told c) : canon c = c := by
  have e : _root_.M8.nz c = keys c := by
    unfold _root_.M8.nz
    have : (c.filter fun p => decide (p.2 ≠ 0)) = c := List.filter_eq_self.mpr fun p hp => by simpa using h.nz p hp
    rw [this]
    exact srt_of_sorted h.pw
  unfold canon
  rw [e]
  unfold keys
  rw [List.map_map]
  conv => rhs; rw [← List.map_id c]
  refine List.map_congr_left fun p hp => ?_
  obtain ⟨n, i⟩ := p
  show (n, co c n) = (n, i)
  rw [co_of_mem h.nd hp]
/-- each coefficient changed -/
def mapc (f : Int → Int) (c : Coef) : Coef := c.map fun p => (p.1, f p.2)
theorem keys_mapc (f : Int → Int) (c : Coef) : keys (mapc f c) = keys c := by unfold keys mapc; rw [List.map_map]; rfl
theorem look_mapc (f : Int → Int) : ∀ (c : Coef) (n : Str), look (mapc f c) n = (look c n).map f
  | [], _ => rfl
  | (m, j) :: c, n => by
    have ih := look_mapc f c n
    unfold look mapc at *
    rw [List.map_cons, List.find?_cons, List.find?_cons]
    by_cases e : m = n
    · simp [e]
    · simp [e]; simpa using ih
theorem co_mapc {f : Int → Int} (h0 : f 0 = 0) (c : Coef) (n : Str) : co (mapc f c) n = f (co c n) := by
  unfold co; rw [look_mapc]
  cases look c n with
  | none => exact h0.symm
  | some i => rfl
theorem told_mapc {f : Int → Int} {c : Coef} (h : Told c) (hf : ∀ p ∈ c, f p.2 ≠ 0) : Told (mapc f c) := by
  refine ⟨by rw [keys_mapc]; exact h.pw, by rw [keys_mapc]; exact h.nd, fun p hp => ?_⟩
  obtain ⟨q, hq, rfl⟩ := List.mem_map.mp hp
  exact hf q hq
/-- the told form of changed coefficients, where 0 stays 0 and nothing else becomes 0 -/
theorem canon_mapc {f : Int → Int} (h0 : f 0 = 0) {c : Coef} (hc : (keys c).Nodup) (hf : ∀ p ∈ canon c, f p.2 ≠ 0) : canon (mapc f c) = mapc f (canon c) := by
  have hk : (keys (mapc f c)).Nodup := by rw [keys_mapc]; exact hc
  rw [← (told_mapc (told_canon hc) hf).canon_eq]
  refine canon_congr hk (by rw [keys_mapc]; exact canon_nodup hc) fun n => ?_
  rw [co_mapc h0, co_mapc h0, co_canon hc]
end M8

set_option linter.all false
set_option autoImplicit false
namespace M8
open PySem PySem.Spec PyProof.Rows
def gcdI (a b : Int) : Int := ((Nat.gcd a.natAbs b.natAbs : Nat) : Int)
theorem gcdI_dvd_l (a b : Int) : gcdI a b ∣ a := by
  unfold gcdI; exact Int.ofNat_dvd_left.mpr (Nat.gcd_dvd_left _ _)
theorem gcdI_dvd_r (a b : Int) : gcdI a b ∣ b := by
  unfold gcdI; exact Int.ofNat_dvd_left.mpr (Nat.gcd_dvd_right _ _)
theorem gcdI_nn (a b : Int) : 0 ≤ gcdI a b := by unfold gcdI; omega
theorem dvd_gcdI {d a b : Int} (h1 : d ∣ a) (h2 : d ∣ b) : d ∣ gcdI a b := by
  unfold gcdI
  exact Int.ofNat_dvd_right.mpr (Nat.dvd_gcd (Int.natAbs_dvd_natAbs.mpr h1) (Int.natAbs_dvd_natAbs.mpr h2))
def gcds (l : List Int) (g0 : Int) : Int := l.foldl gcdI g0
theorem gcds_dvd0 : ∀ (l : List Int) (g : Int), gcds l g ∣ g
  | [], g => Int.dvd_refl g
  | a :: l, g => Int.dvd_trans (gcds_dvd0 l (gcdI g a)) (gcdI_dvd_l g a)
theorem gcds_dvd : ∀ (l : List Int) (g : Int) (x : Int), x ∈ l → gcds l g ∣ x
  | a :: l, g, x, h => by
    rcases List.mem_cons.mp h with e | h
    · rw [e]; exact Int.dvd_trans (gcds_dvd0 l (gcdI g a)) (gcdI_dvd_r g a)
    · exact gcds_dvd l (gcdI g a) x h
theorem gcds_nn : ∀ (l : List Int) (g : Int), 0 ≤ g → 0 ≤ gcds l g
  | [], g, h => h
  | a :: l, g, _ => gcds_nn l _ (gcdI_nn g a)
theorem dvd_gcds {d : Int} : ∀ (l : List Int) (g : Int), d ∣ g → (∀ x ∈ l, d ∣ x) → d ∣ gcds l g
  | [], g, h, _ => h
  | a :: l, g, h, hl => dvd_gcds l _ (dvd_gcdI h (hl a List.mem_cons_self)) fun x hx => hl x (List.mem_cons_of_mem _ hx)
def vals (c : Coef) : List Int := c.map (·.2)
noncomputable def dvs (g0 : Int) (c : Coef) : Int := (nz c).foldl (fun g n => gcdI g (co c n)) g0
theorem dvs_eq (g0 : Int) (c : Coef) : dvs g0 c = gcds (vals (canon c)) g0 := by
  unfold dvs gcds vals canon
  rw [List.map_map, List.foldl_map]; rfl
theorem dvs_nn {g0 : Int} (h : 0 ≤ g0) (c : Coef) : 0 ≤ dvs g0 c := by rw [dvs_eq]; exact gcds_nn _ _ h
theorem dvs_dvd (g0 : Int) (c : Coef) {p : Str × Int} (h : p ∈ canon c) : dvs g0 c ∣ p.2 := by
  rw [dvs_eq]; exact gcds_dvd _ _ _ (List.mem_map.mpr ⟨p, h, rfl⟩)
theorem dvs_dvd0 (g0 : Int) (c : Coef) : dvs g0 c ∣ g0 := by rw [dvs_eq]; exact gcds_dvd0 _ _
theorem canon_nz {c : Coef} (hc : (keys c).Nodup) {p : Str × Int} (h : p ∈ canon c) : p.2 ≠ 0 := (told_canon hc).nz p h
theorem dvs_zero {c : Coef} (hc : (keys c).Nodup) : dvs 0 c = 0 ↔ canon c = [] := by
  constructor
  · intro h
    cases e : canon c with
    | nil => rfl
    | cons p l =>
      have hp : p ∈ canon c := by rw [e]; simp
      have := dvs_dvd 0 c hp
      rw [h] at this
      exact absurd (Int.zero_dvd.mp this) (canon_nz hc hp)
  · intro h; rw [dvs_eq, h]; rfl
theorem dvs_pos {c : Coef} (hc : (keys c).Nodup) (h : dvs 0 c ≠ 0) : 0 < dvs 0 c := by
  have := dvs_nn (Int.le_refl 0) c; omega
theorem dvs_le {g0 : Int} {c : Coef} {b : Int} {p : Str × Int} (hc : (keys c).Nodup) (hp : p ∈ canon c) (hb : p.2.natAbs ≤ b) : dvs g0 c ≤ b := by
  have h1 := dvs_dvd g0 c hp
  have h2 := Int.natAbs_dvd_natAbs.mpr h1
  have h3 := Nat.le_of_dvd (Int.natAbs_pos.mpr (canon_nz hc hp)) h2
  omega
theorem co_mem {c : Coef} {n : Str} (h : co c n ≠ 0) : (n, co c n) ∈ c := by
  unfold co at h ⊢
  cases e : look c n with
  | none => rw [e] at h; exact absurd rfl h
  | some i => exact look_mem e
theorem canon_sub {c : Coef} (hc : (keys c).Nodup) {p : Str × Int} (h : p ∈ canon c) : p ∈ c := by
  obtain ⟨n, hn, rfl⟩ := List.mem_map.mp h
  exact co_mem ((mem_nz hc).mp hn)
inductive Tst where
  | row (c : Coef) (k : Int) | same (c : Coef) (k : Int) | div (m : Int) (c : Coef) (k : Int)
abbrev Res := Bool ⊕ Tst
noncomputable def pRow (c : Coef) (k : Int) : Res := if dvs 0 c = 0 then .inl (decide (0 ≤ k)) else .inr (.row (canon (mapc (fun i => i / dvs 0 c) c)) (k / dvs 0 c))
noncomputable def pSame (c : Coef) (k : Int) : Res := if dvs 0 c = 0 then .inl (decide (k = 0)) else if k % dvs 0 c ≠ 0 then .inl false else
  if co c ((nz c).headD "") < 0 then .inr (.same (canon (mapc (fun i => -1 * i) (canon (mapc (fun i => i / dvs 0 c) c)))) (-1 * (k / dvs 0 c))) else .inr (.same (canon (mapc (fun i => i / dvs 0 c) c)) (k / dvs 0 c))
noncomputable def rsts (m : Int) (c : Coef) : Coef := canon (mapc (fun i => i % m) c)
noncomputable def pBy (m : Int) (c : Coef) (k : Int) : Res := if (k % m) % dvs m (rsts m c) ≠ 0 then .inl false else if (nz (rsts m c)).length = 0 then .inl true else
  .inr (.div (m / dvs m (rsts m c)) (canon (mapc (fun i => i / dvs m (rsts m c)) (rsts m c))) ((k % m) / dvs m (rsts m c)))
noncomputable def pTight : Tst → Res | .row c k => pRow c k | .same c k => pSame c k | .div m c k => pBy m c k
/-! the law's way, of told coefficients -/
def lRow (c : Coef) (k : Int) : Res := if c = [] then .inl (decide (0 ≤ k)) else .inr (.row (mapc (fun i => i.fdiv (gcds (vals c) 0)) c) (k.fdiv (gcds (vals c) 0)))
def sgnd (c : Coef) : Int := if ((vals c).headD 0) < 0 then 0 - gcds (vals c) 0 else gcds (vals c) 0
def lSame (c : Coef) (k : Int) : Res := if c = [] then .inl (decide (k = 0)) else if k % gcds (vals c) 0 > 0 then .inl false else .inr (.same (mapc (fun i => i.fdiv (sgnd c)) c) (k.fdiv (sgnd c)))
def lrs (m : Int) (c : Coef) : Coef := (mapc (fun i => i % m) c).filter fun p => decide (p.2 > 0)
def lBy (m : Int) (c : Coef) (k : Int) : Res := if (k % m) % gcds (m :: vals (lrs m c)) 0 > 0 ∨ lrs m c = [] then .inl (decide (lrs m c = []) && decide (k % m = 0)) else
  .inr (.div (m / gcds (m :: vals (lrs m c)) 0) (mapc (fun i => i / gcds (m :: vals (lrs m c)) 0) (lrs m c)) ((k % m) / gcds (m :: vals (lrs m c)) 0))
theorem mapc_congr {f g : Int → Int} {c : Coef} (h : ∀ p ∈ c, f p.2 = g p.2) : mapc f c = mapc g c := List.map_congr_left fun p hp => by rw [h p hp]
theorem div_ne0 {i d : Int} (h : d ∣ i) (hi : i ≠ 0) (hd : d ≠ 0) : i / d ≠ 0 := by
  obtain ⟨q, rfl⟩ := h
  rw [Int.mul_ediv_cancel_left _ hd]
  intro z; rw [z] at hi; simp at hi
theorem canon_div {c : Coef} (hc : (keys c).Nodup) {d : Int} (hd : d ≠ 0) (h : ∀ p ∈ canon c, d ∣ p.2) : canon (mapc (fun i => i / d) c) = mapc (fun i => i / d) (canon c) :=
  canon_mapc (by simp) hc fun p hp => div_ne0 (h p hp) (canon_nz hc hp) hd
theorem pRow_eq {c : Coef} (hc : (keys c).Nodup) (k : Int) : pRow c k = lRow (canon c) k := by
  unfold pRow lRow
  by_cases h : dvs 0 c = 0
  · rw [if_pos h, if_pos ((dvs_zero hc).mp h)]
  · rw [if_neg h, if_neg fun z => h ((dvs_zero hc).mpr z)]
    have hp := dvs_pos hc h
    rw [canon_div hc h fun p hp => dvs_dvd 0 c hp, ← dvs_eq]
    have e : ∀ i : Int, i.fdiv (dvs 0 c) = i / dvs 0 c := fun i => Int.fdiv_eq_ediv_of_nonneg _ (Int.le_of_lt hp)
    simp only [e]
theorem head_canon (c : Coef) : (vals (canon c)).headD 0 = if canon c = [] then 0 else co c ((nz c).headD "") := by
  unfold canon vals
  cases nz c with
  | nil => rfl
  | cons n l => simp
theorem pSame_eq {c : Coef} (hc : (keys c).Nodup) (k : Int) : pSame c k = lSame (canon c) k := by
  unfold pSame lSame
  by_cases h : dvs 0 c = 0
  · rw [if_pos h, if_pos ((dvs_zero hc).mp h)]
  · have hne : canon c ≠ [] := fun z => h ((dvs_zero hc).mpr z)
    rw [if_neg h, if_neg hne]
    have hp := dvs_pos hc h
    rw [← dvs_eq]
    have hk := Int.emod_nonneg k h
    by_cases hm : k % dvs 0 c = 0
    · rw [if_neg (show ¬ (k % dvs 0 c ≠ 0) from fun z => z hm), if_neg (show ¬ (k % dvs 0 c > 0) by omega)]
      have hdk : dvs 0 c ∣ k := Int.dvd_of_emod_eq_zero hm
      have e1 := canon_div hc h fun p hp => dvs_dvd 0 c hp
      rw [e1]
      unfold sgnd
      rw [head_canon, if_neg hne, ← dvs_eq]
      by_cases hn : co c ((nz c).headD "") < 0
      · rw [if_pos hn, if_pos hn]
        have hnd : (keys (mapc (fun i => i / dvs 0 c) (canon c))).Nodup := by rw [keys_mapc]; exact canon_nodup hc
        have ht : Told (mapc (fun i => i / dvs 0 c) (canon c)) := told_mapc (told_canon hc) fun p hp => div_ne0 (dvs_dvd 0 c hp) (canon_nz hc hp) h
        have e2 : canon (mapc (fun i => -1 * i) (mapc (fun i => i / dvs 0 c) (canon c))) = mapc (fun i => -1 * i) (mapc (fun i => i / dvs 0 c) (canon c)) := by
          have := canon_mapc (f := fun i => -1 * i) (by simp) hnd (by
            rw [ht.canon_eq]
            intro p hp; have := ht.nz p hp; omega)
          rw [this, ht.canon_eq]
        rw [e2]
        have ed : ∀ i : Int, dvs 0 c ∣ i → i.fdiv (0 - dvs 0 c) = -1 * (i / dvs 0 c) := by
          rintro i ⟨q, rfl⟩
          rw [Int.mul_ediv_cancel_left _ h]
          have : dvs 0 c * q = (0 - dvs 0 c) * (-q) := by rw [Int.zero_sub, Int.neg_mul_neg]
          rw [this, Int.mul_fdiv_cancel_left _ (by omega)]
          omega
        rw [ed k hdk]
        have e3 : mapc (fun i => -1 * i) (mapc (fun i => i / dvs 0 c) (canon c)) = mapc (fun i => i.fdiv (0 - dvs 0 c)) (canon c) := by
          unfold mapc; rw [List.map_map]
          refine List.map_congr_left fun p hp => ?_
          show (p.1, -1 * (p.2 / dvs 0 c)) = (p.1, p.2.fdiv (0 - dvs 0 c))
          rw [ed p.2 (dvs_dvd 0 c hp)]
        rw [e3]
      · rw [if_neg hn, if_neg hn]
        have e : ∀ i : Int, i.fdiv (dvs 0 c) = i / dvs 0 c := fun i => Int.fdiv_eq_ediv_of_nonneg _ (Int.le_of_lt hp)
        simp only [e]
    · rw [if_pos (show k % dvs 0 c ≠ 0 from hm), if_pos (show k % dvs 0 c > 0 by omega)]
theorem co_lrs {m : Int} {c : Coef} (hm : 0 < m) (hc : (keys c).Nodup) (n : Str) : co (lrs m c) n = co c n % m := by
  have hk : (keys (mapc (fun i => i % m) c)).Nodup := by rw [keys_mapc]; exact hc
  have hs : (keys (lrs m c)).Nodup := by unfold lrs keys; exact hk.sublist (List.filter_sublist.map _)
  have e : co (mapc (fun i => i % m) c) n = co c n % m := co_mapc (f := fun i => i % m) (by simp) c n
  by_cases h : co c n % m = 0
  · rw [h]
    refine Decidable.byContradiction fun z => ?_
    have h1 := co_mem z
    have h2 := (List.mem_filter.mp h1).1
    rw [← e, co_of_mem hk h2] at h
    exact z h
  · have h1 : (n, co c n % m) ∈ mapc (fun i => i % m) c := by
      have := co_mem (c := mapc (fun i => i % m) c) (n := n) (by rw [e]; exact h)
      rw [e] at this; exact this
    have h0 := Int.emod_nonneg (co c n) (Int.ne_of_gt hm)
    exact co_of_mem hs (List.mem_filter.mpr ⟨h1, by simp; omega⟩)
theorem lrs_told {m : Int} {c : Coef} (hm : 0 < m) (h : Told c) : Told (lrs m c) := by
  have hk : keys (mapc (fun i => i % m) c) = keys c := keys_mapc _ _
  have sub : (keys (lrs m c)).Sublist (keys c) := by rw [← hk]; exact List.filter_sublist.map _
  refine ⟨h.pw.sublist sub, h.nd.sublist sub, fun p hp => ?_⟩
  have := (List.mem_filter.mp hp).2
  simp at this; omega
theorem rsts_eq {m : Int} {c : Coef} (hm : 0 < m) (hc : (keys c).Nodup) : rsts m c = lrs m (canon c) := by
  have hk : (keys (mapc (fun i => i % m) c)).Nodup := by rw [keys_mapc]; exact hc
  have ht := lrs_told hm (told_canon hc)
  unfold rsts
  rw [← ht.canon_eq]
  refine canon_congr hk ht.nd fun n => ?_
  rw [co_lrs hm (canon_nodup hc), co_canon hc, co_mapc (f := fun i => i % m) (by simp)]
theorem gcds_m {m : Int} (hm : 0 < m) (l : List Int) : gcds (m :: l) 0 = gcds l m := by
  show gcds l (gcdI 0 m) = gcds l m
  have : gcdI 0 m = m := by unfold gcdI; simp; omega
  rw [this]
theorem dvs_told (g0 : Int) {c : Coef} (h : Told c) : dvs g0 c = gcds (vals c) g0 := by rw [dvs_eq, h.canon_eq]
theorem pBy_eq {m : Int} {c : Coef} (hm : 0 < m) (hc : (keys c).Nodup) (k : Int) : pBy m c k = lBy m (canon c) k := by
  have ht := lrs_told hm (told_canon hc)
  unfold pBy lBy
  rw [rsts_eq hm hc, dvs_told m ht, gcds_m hm]
  have hd : gcds (vals (lrs m (canon c))) m ∣ m := gcds_dvd0 _ _
  have hdn : 0 ≤ gcds (vals (lrs m (canon c))) m := gcds_nn _ _ (by omega)
  have hd0 : gcds (vals (lrs m (canon c))) m ≠ 0 := fun z => by rw [z] at hd; have := Int.zero_dvd.mp hd; omega
  have hk := Int.emod_nonneg (k % m) hd0
  have hkm := Int.emod_nonneg k (Int.ne_of_gt hm)
  have hnz : (nz (lrs m (canon c))).length = 0 ↔ lrs m (canon c) = [] := by
    have e : keys (canon (lrs m (canon c))) = nz (lrs m (canon c)) := keys_canon _
    rw [← e, ht.canon_eq]; unfold keys; rw [List.length_map]; exact List.length_eq_zero_iff
  by_cases he : lrs m (canon c) = []
  · have e1 : gcds (vals (lrs m (canon c))) m = m := by rw [he]; rfl
    rw [e1] at hk ⊢
    have e2 : k % m % m = k % m := Int.emod_emod_of_dvd k (Int.dvd_refl m)
    rw [e2, if_pos (show k % m > 0 ∨ lrs m (canon c) = [] from .inr he)]
    by_cases hz : k % m = 0
    · rw [if_neg (show ¬ (k % m ≠ 0) from fun z => z hz), if_pos (hnz.mpr he), hz, decide_eq_true he]; rfl
    · rw [if_pos (show k % m ≠ 0 from hz), decide_eq_true he, decide_eq_false hz]; rfl
  · by_cases hz : k % m % gcds (vals (lrs m (canon c))) m = 0
    · rw [if_neg (show ¬ (k % m % gcds (vals (lrs m (canon c))) m ≠ 0) from fun z => z hz), if_neg (fun q => he (hnz.mp q)), if_neg (show ¬ (k % m % gcds (vals (lrs m (canon c))) m > 0 ∨ lrs m (canon c) = []) from fun q => q.elim (fun q => by omega) he)]
      have hnd := ht.nd
      have e3 := canon_div hnd hd0 (fun p hp => by rw [ht.canon_eq] at hp; exact gcds_dvd _ _ _ (List.mem_map.mpr ⟨p, hp, rfl⟩))
      rw [e3, ht.canon_eq]
    · rw [if_pos (show k % m % gcds (vals (lrs m (canon c))) m ≠ 0 from hz), if_pos (show k % m % gcds (vals (lrs m (canon c))) m > 0 ∨ lrs m (canon c) = [] from .inl (by omega)), decide_eq_false he]; rfl
noncomputable def lTight : Tst → Res | .row c k => lRow (canon c) k | .same c k => lSame (canon c) k | .div m c k => lBy m (canon c) k
def coef : Tst → Coef | .row c _ => c | .same c _ => c | .div _ c _ => c
def mOk : Tst → Prop | .div m _ _ => 0 < m ∧ m ≤ 1000 | _ => True
theorem tight_eq {t : Tst} (hc : (keys (coef t)).Nodup) (hm : mOk t) : pTight t = lTight t := by
  cases t with
  | row c k => exact pRow_eq hc k
  | same c k => exact pSame_eq hc k
  | div m c k => exact pBy_eq hm.1 hc k
end M8

set_option Elab.async false
set_option linter.all false
set_option maxRecDepth 100000
set_option maxHeartbeats 4000000
namespace K8
open PySem PySem.Spec PyProof.Rows L2
def top (i : Nat) : Stmt := PySem.Challenge.pw_outofwishes_k08_whole_tight_tests.main.body.getD i (.Pass ⟨0, 0, 0, 0⟩)
/-! ### a def of the text, by name: where it stands, how its arguments bind, what it promises -/
section
variable {P : Program} {w : World} {K : PySem.W.Frag} {mg : Str → Option Value} {base : Heap}
structure Ok (P : Program) (w : World) (K : PySem.W.Frag) (mg : Str → Option Value) (base : Heap) (CX : CXT) (k : Nat) (x : Str) (ps : List Str) (sp : Sp) : Prop where
  ex : ∃ f fd, mg x = some (.ref f) ∧ PySem.W.keepIn K (.ref f) = true ∧ Binds K fd ps [] ∧ FnOk P w K mg base CX k f fd ps sp
/-- a def as the top has left it -/
structure At (K : PySem.W.Frag) (mg : Str → Option Value) (x : Str) (st : Stmt) (ps : List Str) : Prop where
  ex : ∃ f fd, mg x = some (.ref f) ∧ Fun K x x st f fd ∧ Binds K fd ps []
theorem At.ok {CX : CXT} {x : Str} {st : Stmt} {ps : List Str} {k : Nat} {sp : Sp} (a : At K mg x st ps) (h : ∀ f fd, Fun K x x st f fd → FnOk P w K mg base CX k f fd ps sp) : Ok P w K mg base CX k x ps sp := by
  obtain ⟨f, fd, hm, F, b⟩ := a.ex
  exact ⟨f, fd, hm, F.kp, b, h f fd F⟩
theorem Ok.mono {CX : CXT} {x : Str} {ps : List Str} {j k : Nat} {sp : Sp} (o : Ok P w K mg base CX j x ps sp) (h : j ≤ k) : Ok P w K mg base CX k x ps sp := by
  obtain ⟨f, fd, hm, hk, b, F⟩ := o.ex
  exact ⟨f, fd, hm, hk, b, F.mono h⟩
theorem Ok.imp {CX : CXT} {x : Str} {ps : List Str} {k : Nat} {sp sp' : Sp} (o : Ok P w K mg base CX k x ps sp) (h : ∀ vs H Q E, sp' vs H Q E → sp vs H Q E) : Ok P w K mg base CX k x ps sp' := by
  obtain ⟨f, fd, hm, hk, b, F⟩ := o.ex
  exact ⟨f, fd, hm, hk, b, F.imp h⟩
end
section
variable {X : Cx}
/-- f(e, ..) of a def that lets nothing out -/
def tC0 (sp : Sp) (t : TA) : TE := fun σ H Q => t σ H fun vs H1 => sp vs H1 Q E0
theorem pe_callO {x : Str} {ps : List Str} {k : Nat} {sp : Sp} {e : Expr} {es : List Expr} {t : TA} {p pos : Pos} (O : Ok X.prog X.w X.K X.mg X.base CX0 k x ps sp) (hr : Room k X.A) (hg : Gl X x) (ha : PA X (e :: es) t)
    (hdb : (x == ("__debug__" : Str)) = false := by decide) (he : starEach (e :: es) X.env = (false, eval e X.env) :: starEach es X.env := by rfl) (hpl : (backTo pos (starEach es X.env)).any (·.1) = false := by rfl) : PE X (.Call (.Name x p) (e :: es) [] pos) (tC0 sp t) := by
  obtain ⟨f, fd, hm, hk, b, F⟩ := O.ex
  have h := pe_call (p := p) (pos := pos) F hr hg hm hk b .nil pass0 ha hdb he hpl
  refine ⟨fun pins s σ H Q I q => h.run pins s σ H Q I ?_⟩
  show t σ H fun vs H1 => sp (vs ++ []) H1 Q E0
  have e1 : (fun (vs : List V) (H1 : Hp) => sp (vs ++ []) H1 Q E0) = fun vs H1 => sp vs H1 Q E0 := by funext vs H1; rw [List.append_nil]
  rw [e1]
  exact q
end
end K8
namespace K8
open PySem PySem.Spec PyProof.Rows L2 M8
/-! ### data, and what a value shows of it -/
inductive Dat where
  | non | bl (b : Bool) | int (i : Int) | str (s : Str)
  | lst (ds : List Dat) | tup (ds : List Dat) | dct (kds : List (Key × Dat)) | fn (a : Addr)
mutual
inductive See (F : Addr → Prop) (H : Hp) : V → Dat → Prop
  | non : See F H .non .non
  | bl (b : Bool) : See F H (.bl b) (.bl b)
  | int (i : Int) : See F H (.int i) (.int i)
  | str (s : Str) : See F H (.str s) (.str s)
  | lst {a : Addr} {xs : List V} {ds : List Dat} : H a = some (.lst xs) → SeeL F H xs ds → See F H (.ref a) (.lst ds)
  | tup {a : Addr} {xs : List V} {ds : List Dat} : H a = some (.tup xs) → SeeL F H xs ds → See F H (.ref a) (.tup ds)
  | dct {a : Addr} {kvs : List (Key × V)} {kds : List (Key × Dat)} : H a = some (.dK kvs) → SeeK F H kvs kds → See F H (.ref a) (.dct kds)
  | fn {a : Addr} : F a → See F H (.ref a) (.fn a)
inductive SeeL (F : Addr → Prop) (H : Hp) : List V → List Dat → Prop
  | nil : SeeL F H [] []
  | cons {v : V} {vs : List V} {d : Dat} {ds : List Dat} : See F H v d → SeeL F H vs ds → SeeL F H (v :: vs) (d :: ds)
inductive SeeK (F : Addr → Prop) (H : Hp) : List (Key × V) → List (Key × Dat) → Prop
  | nil : SeeK F H [] []
  | cons {k : Key} {v : V} {vs : List (Key × V)} {d : Dat} {ds : List (Key × Dat)} : See F H v d → SeeK F H vs ds → SeeK F H ((k, v) :: vs) ((k, d) :: ds)
end
def Ex (H H' : Hp) : Prop := ∀ b o, H b = some o → H' b = some o
theorem Ex.refl (H : Hp) : Ex H H := fun _ _ h => h
theorem Ex.trans {H H1 H2 : Hp} (a : Ex H H1) (b : Ex H1 H2) : Ex H H2 := fun x o h => b x o (a x o h)
theorem Ex.new {H : Hp} {p : Addr} {o : HO} (h : H p = none) : Ex H (upd H p o) := fun a u e => by
  rw [upd_ne (ne_of_none e h)]; exact e
theorem Ex.mut {H H' : Hp} {p : Addr} {o : HO} (e : Ex H H') (h : H p = none) : Ex H (upd H' p o) := fun a u ha => by
  rw [upd_ne (ne_of_none ha h)]; exact e a u ha
theorem Ex.free {H H' : Hp} {p : Addr} (e : Ex H H') (h : H' p = none) : H p = none := by
  cases q : H p with
  | none => rfl
  | some o => rw [e p o q] at h; cases h
section
variable {F : Addr → Prop} {H H' : Hp}
mutual
theorem See.mono (e : Ex H H') : ∀ {v : V} {d : Dat}, See F H v d → See F H' v d
  | _, _, .non => .non
  | _, _, .bl b => .bl b
  | _, _, .int i => .int i
  | _, _, .str s => .str s
  | _, _, .lst h t => .lst (e _ _ h) (SeeL.mono e t)
  | _, _, .tup h t => .tup (e _ _ h) (SeeL.mono e t)
  | _, _, .dct h t => .dct (e _ _ h) (SeeK.mono e t)
  | _, _, .fn h => .fn h
theorem SeeL.mono (e : Ex H H') : ∀ {vs : List V} {ds : List Dat}, SeeL F H vs ds → SeeL F H' vs ds
  | _, _, .nil => .nil
  | _, _, .cons h t => .cons (See.mono e h) (SeeL.mono e t)
theorem SeeK.mono (e : Ex H H') : ∀ {vs : List (Key × V)} {ds : List (Key × Dat)}, SeeK F H vs ds → SeeK F H' vs ds
  | _, _, .nil => .nil
  | _, _, .cons h t => .cons (See.mono e h) (SeeK.mono e t)
end
theorem SeeL.len : ∀ {vs : List V} {ds : List Dat}, SeeL F H vs ds → vs.length = ds.length
  | _, _, .nil => rfl
  | _, _, .cons _ t => by simp [SeeL.len t]
theorem SeeL.get : ∀ {vs : List V} {ds : List Dat}, SeeL F H vs ds → ∀ {i : Nat} {d : Dat}, ds[i]? = some d → ∃ v, vs[i]? = some v ∧ See F H v d
  | _, _, .nil, i, d, h => by simp at h
  | _, _, .cons h _, 0, d, e => by simp at e; subst e; exact ⟨_, rfl, h⟩
  | _, _, .cons _ t, i + 1, d, e => by simpa using SeeL.get t (i := i) (d := d) (by simpa using e)
theorem SeeL.getV : ∀ {vs : List V} {ds : List Dat}, SeeL F H vs ds → ∀ {i : Nat} {v : V}, vs[i]? = some v → ∃ d, ds[i]? = some d ∧ See F H v d
  | _, _, .nil, i, d, h => by simp at h
  | _, _, .cons h _, 0, d, e => by simp at e; subst e; exact ⟨_, rfl, h⟩
  | _, _, .cons _ t, i + 1, d, e => by simpa using SeeL.getV t (i := i) (v := d) (by simpa using e)
theorem SeeK.len : ∀ {vs : List (Key × V)} {ds : List (Key × Dat)}, SeeK F H vs ds → vs.length = ds.length
  | _, _, .nil => rfl
  | _, _, .cons _ t => by simp [SeeK.len t]
theorem SeeK.get : ∀ {vs : List (Key × V)} {ds : List (Key × Dat)}, SeeK F H vs ds → ∀ {i : Nat} {k : Key} {v : V}, vs[i]? = some (k, v) → ∃ d, ds[i]? = some (k, d) ∧ See F H v d
  | _, _, .nil, i, k, v, h => by simp at h
  | _, _, .cons h _, 0, k, v, e => by simp at e; obtain ⟨rfl, rfl⟩ := e; exact ⟨_, rfl, h⟩
  | _, _, .cons _ t, i + 1, k, v, e => by simpa using SeeK.get t (i := i) (k := k) (v := v) (by simpa using e)
theorem SeeL.append : ∀ {vs ws : List V} {ds es : List Dat}, SeeL F H vs ds → SeeL F H ws es → SeeL F H (vs ++ ws) (ds ++ es)
  | _, _, _, _, .nil, h => h
  | _, _, _, _, .cons a t, h => .cons a (SeeL.append t h)
end
/-- coefficients as a dict's entries -/
def cK (c : Coef) : List (Key × V) := c.map fun p => (.inr p.1, .int p.2)
def cD (c : Coef) : List (Key × Dat) := c.map fun p => (.inr p.1, .int p.2)
theorem seeK_c {F : Addr → Prop} {H : Hp} : ∀ (c : Coef), SeeK F H (cK c) (cD c)
  | [] => .nil
  | _ :: c => .cons (.int _) (seeK_c c)
theorem cK_of {F : Addr → Prop} {H : Hp} : ∀ {c : Coef} {kvs : List (Key × V)}, SeeK F H kvs (cD c) → kvs = cK c
  | [], _, h => by cases h; rfl
  | p :: c, _, h => by
    cases h with
    | cons h t => cases h; rw [cK_of t]; rfl
theorem valV_cK (c : Coef) (n : Str) : valV (cK c) (.inr n) = (look c n).map V.int := by
  induction c with
  | nil => rfl
  | cons p c ih =>
    unfold cK valV look at *
    rw [List.map_cons, List.find?_cons, List.find?_cons, key_rr]
    by_cases e : p.1 = n
    · simp [e]
    · simp [e]; simpa using ih
theorem cK_len (c : Coef) : (cK c).length = c.length := by unfold cK; rw [List.length_map]
/-- a pair of coefficients and a constant, a list or a tuple -/
def TermAt (H : Hp) (v : V) (c : Coef) (k : Int) : Prop := ∃ a d, v = .ref a ∧ (H a = some (.lst [.ref d, .int k]) ∨ H a = some (.tup [.ref d, .int k])) ∧ H d = some (.dK (cK c))
theorem TermAt.mono {H H' : Hp} (e : Ex H H') {v : V} {c : Coef} {k : Int} (t : TermAt H v c k) : TermAt H' v c k := by
  obtain ⟨a, d, rfl, h, hd⟩ := t
  exact ⟨a, d, rfl, h.imp (e _ _) (e _ _), e _ _ hd⟩
def tDat (c : Coef) (k : Int) : Dat := .tup [.dct (cD c), .int k]
def lDat (c : Coef) (k : Int) : Dat := .lst [.dct (cD c), .int k]
theorem TermAt.of_tup {F : Addr → Prop} {H : Hp} {v : V} {c : Coef} {k : Int} (h : See F H v (tDat c k)) : TermAt H v c k := by
  cases h with
  | tup ha t =>
    cases t with
    | cons h1 t =>
      cases h1 with
      | dct hd tk =>
        cases t with
        | cons h2 t =>
          cases h2; cases t
          exact ⟨_, _, rfl, .inr ha, by rw [← cK_of tk]; exact hd⟩
theorem TermAt.of_lst {F : Addr → Prop} {H : Hp} {v : V} {c : Coef} {k : Int} (h : See F H v (lDat c k)) : TermAt H v c k := by
  cases h with
  | lst ha t =>
    cases t with
    | cons h1 t =>
      cases h1 with
      | dct hd tk =>
        cases t with
        | cons h2 t =>
          cases h2; cases t
          exact ⟨_, _, rfl, .inl ha, by rw [← cK_of tk]; exact hd⟩
/-- a list or a tuple, tracked or of the text -/
def SqQ (K : PySem.W.Frag) (H : Hp) (a : Addr) (xs : List V) : Prop := SqL K H a xs ∨ SqT K H a xs
theorem SqQ.l {K : PySem.W.Frag} {H : Hp} {a : Addr} {xs : List V} (h : H a = some (.lst xs)) : SqQ K H a xs := .inl (SqL.of h)
theorem SqQ.t {K : PySem.W.Frag} {H : Hp} {a : Addr} {xs : List V} (h : H a = some (.tup xs)) : SqQ K H a xs := .inr (SqT.of h)
theorem SqQ.or {K : PySem.W.Frag} {H : Hp} {a : Addr} {xs : List V} (h : H a = some (.lst xs) ∨ H a = some (.tup xs)) : SqQ K H a xs := h.elim SqQ.l SqQ.t
def rIxQ (K : PySem.W.Frag) : R2 := fun x y H Q => ∃ p xs i v, x = .ref p ∧ y = .int i ∧ SqQ K H p xs ∧ atI xs i = some v ∧ Q v H
section
variable {X : Cx}
theorem ix_q : IxR X (rIxQ X.K) := by
  have h := IxR.or (ix_list (X := X)) (ix_tup (X := X))
  intro a b pins s σ H x y v u Q I rx ry q hs
  refine h a b pins s σ H x y v u Q I rx ry ?_ hs
  obtain ⟨p, xs, i, z, e1, e2, e3, e4, e5⟩ := q
  rcases e3 with e3 | e3
  · exact .inl ⟨p, xs, i, z, e1, e2, e3, e4, e5⟩
  · exact .inr ⟨p, xs, i, z, e1, e2, e3, e4, e5⟩
end
theorem atN {xs : List V} {i : Nat} {v : V} (h : xs[i]? = some v) : atI xs (i : Int) = some v := by
  have hi := (List.getElem?_eq_some_iff.mp h).1
  unfold atI ixN
  rw [if_pos (by omega), if_pos (by omega)]
  simpa using h
theorem ix_qK {X : Cx} {K : PySem.W.Frag} (h : X.K = K) : IxR X (rIxQ K) := h ▸ ix_q
/-- len of a list or a tuple, the written part told -/
def rLenQ (K : PySem.W.Frag) : List V → Hp → VK → Prop := fun xs H Q => ∃ p ys, xs = [.ref p] ∧ SqQ K H p ys ∧ Q (.int ys.length) H
theorem len_qK {X : Cx} {K : PySem.W.Frag} (h : X.K = K) : CallR X (.builtin "len") (rLenQ K) := h ▸ call_len_seq
theorem pe_bmK {X : Cx} {K : PySem.W.Frag} {o e : Expr} {es : List Expr} {to : TE} {t : TA} {apos cpos : Pos} {ty : String} {name : Str} {r : V → List V → Hp → VK → Prop} (hK : X.K = K) (h : PE X (.Call (.Attribute o name apos) (e :: es) [] cpos) (tBM X.K ty r to t)) :
    PE X (.Call (.Attribute o name apos) (e :: es) [] cpos) (tBM K ty r to t) := hK ▸ h
theorem atZ {xs : List V} {i : Int} {v : V} (h0 : 0 ≤ i) (h : xs[i.toNat]? = some v) : atI xs i = some v := by
  have := atN h
  rwa [show ((i.toNat : Nat) : Int) = i by omega] at this
theorem at0 {x : V} {xs : List V} : atI (x :: xs) 0 = some x := atN (i := 0) rfl
theorem at1 {x y : V} {xs : List V} : atI (x :: y :: xs) 1 = some y := atN (i := 1) rfl
theorem at2 {x y z : V} {xs : List V} : atI (x :: y :: z :: xs) 2 = some z := atN (i := 2) rfl
theorem atLast {xs : List V} {v : V} : atI (xs ++ [v]) (-1) = some v := by
  unfold atI ixN
  rw [if_neg (by omega), if_pos (by rw [List.length_append]; simp; omega)]
  have : ((-1 : Int) + ((xs ++ [v]).length : Nat)).toNat = xs.length := by rw [List.length_append]; simp; omega
  simp only [Option.bind_some]
  rw [this]; simp
end K8

set_option Elab.async false
set_option linter.all false
set_option maxRecDepth 100000
set_option maxHeartbeats 4000000
namespace K8
open PySem PySem.Spec PyProof.Rows L2 M8
/-! ### isinstance of data -/
/-- a function of the text, as a thing that is asked for its class -/
def FnEq (K : PySem.W.Frag) (a : Addr) : Prop := ∀ (prog : Program) (w : World) (A : Around) (E : Value → Shared → Prop) (s : Shared) (Q : Value → Shared → Prop), A.units + 1 < cLine → K.In s.heap → (∀ tk, Q (.bool true) { s with toks := tk }) →
  wpAny (model prog w) A (compareOp .Eq (.ref a) (.ref a)) Q E s
def FnK (K : PySem.W.Frag) (a : Addr) : Prop := FnEq K a ∧ ∃ P : Heap → Prop, PySem.W.KitX K (.ref a) (.type "function") P ∧ ∀ h : Heap, K.In h → P h
abbrev SeeF (K : PySem.W.Frag) (H : Hp) (v : V) (d : Dat) : Prop := See (FnK K) H v d
def tyD : Dat → String
  | .non => "NoneType" | .bl _ => "bool" | .int _ => "int" | .str _ => "str" | .lst _ => "list" | .tup _ => "tuple" | .dct _ => "dict" | .fn _ => "function"
theorem kit_see {X : Cx} {pins : List (Addr × Obj)} {σ : L2.St} {H : Hp} {s : Shared} {x : V} {u : Value} {d : Dat} (I : Inv X pins σ H s) (rx : RelV x u) (h : SeeF X.K H x d) :
    ∃ P : Heap → Prop, PySem.W.KitX X.K u (.type (tyD d)) P ∧ P s.heap ∧ u ≠ .builtin "__main__.__loader__#opaque" := by
  cases h with
  | non => exact kit_of I rx (.base .non)
  | bl b => exact kit_of I rx (.base (.bl b))
  | int i => exact kit_of I rx (.base (.int i))
  | str z => exact kit_of I rx (.base (.str z))
  | lst ha _ => exact kit_of I rx (.base (.lst ha))
  | tup ha _ => exact kit_of I rx (.base (.tup ha))
  | dct ha _ => exact kit_of I rx (.base (.dK ha))
  | @fn a hf =>
    cases (show u = Value.ref a from rx)
    obtain ⟨_, P, Z, hp⟩ := hf
    exact ⟨P, Z, hp _ I.kIn, fun z => nomatch z⟩
def rIsiD (K : PySem.W.Frag) : List V → Hp → VK → Prop := fun xs H Q => ∃ (x : V) (T : String) (d : Dat) (b : Bool), xs = [x, .ty T] ∧ SeeF K H x d ∧ kitB (tyD d) T = some b ∧ Q (.bl b) H
theorem call_isiD {X : Cx} : CallR X (.builtin "isinstance") (rIsiD X.K) := by
  intro pins s σ H xs us Q I r h
  obtain ⟨x, T, d, b, rfl, hs, e, q⟩ := h
  obtain ⟨u1, u2, rfl, r1, r2⟩ := vals2 r
  cases (show u2 = Value.type T from r2)
  obtain ⟨P, Z, p, hx⟩ := kit_see I r1 hs
  exact PySem.W.kia_one Z I.kIn p (kit_ty e) hx fun tk => ⟨.bl b, H, I.tok tk, rfl, q⟩
def kitBs (a : String) : List String → Option Bool
  | [] => some false
  | T :: Ts => match kitB a T with
    | some true => some true
    | some false => kitBs a Ts
    | none => none
theorem kitAny_of {K : PySem.W.Frag} {a : String} : ∀ {Ts : List String} {b : Bool}, kitBs a Ts = some b → PySem.W.kitAny K (.type a) (Ts.map Value.type) = some b
  | [], b, h => h
  | T :: Ts, b, h => by
    unfold kitBs at h
    split at h
    · rename_i e
      exact kitAny_cons (kit_ty e) (fun z => nomatch z) fun _ => (Option.some.inj h).symm
    · rename_i e
      exact kitAny_cons (kit_ty e) (fun _ => kitAny_of h) (fun z => nomatch z)
    · cases h
def rIsiDT (K : PySem.W.Frag) : List V → Hp → VK → Prop := fun xs H Q => ∃ (x : V) (tp : Addr) (Ts : List String) (d : Dat) (b : Bool), xs = [x, .ref tp] ∧ H tp = some (.tup (Ts.map V.ty)) ∧ SeeF K H x d ∧ kitBs (tyD d) Ts = some b ∧ Q (.bl b) H
theorem cls_tys : ∀ Ts : List String, Paired ClsV (Ts.map V.ty) (Ts.map Value.type)
  | [] => .nil
  | T :: Ts => .cons (.ty T) (cls_tys Ts)
theorem call_isiDT {X : Cx} : CallR X (.builtin "isinstance") (rIsiDT X.K) := by
  intro pins s σ H xs us Q I r h
  obtain ⟨x, tp, Ts, d, b, rfl, hT, hs, e, q⟩ := h
  obtain ⟨u1, u2, rfl, r1, r2⟩ := vals2 r
  cases (show u2 = Value.ref tp from r2)
  obtain ⟨P, Z, p, hx⟩ := kit_see I r1 hs
  obtain ⟨_, its, rv, o, h1, h2, n, h3⟩ := (show ObjOk X.prog X.w H s.heap tp (.tup (Ts.map V.ty)) from I.hok tp _ hT)
  have e3 := ClsV.all (cls_tys Ts) rv
  subst e3
  obtain ⟨oc, od, dt, sl⟩ := o
  simp only at h2 h3
  subst h2 h3
  exact PySem.W.kia_tup Z I.kIn p h1 (kitAny_of e) hx fun tk => ⟨.bl b, H, I.tok tk, rfl, q⟩
/-! what these classes answer -/
def isInt : Dat → Bool | .bl _ => true | .int _ => true | _ => false
def isBool : Dat → Bool | .bl _ => true | _ => false
def isStr : Dat → Bool | .str _ => true | _ => false
def isDct : Dat → Bool | .dct _ => true | _ => false
def isLst : Dat → Bool | .lst _ => true | _ => false
def isTup : Dat → Bool | .tup _ => true | _ => false
theorem kit_int (d : Dat) : kitB (tyD d) "int" = some (isInt d) := by cases d <;> (simp only [tyD, isInt]; decide +kernel)
theorem kit_bool (d : Dat) : kitB (tyD d) "bool" = some (isBool d) := by cases d <;> (simp only [tyD, isBool]; decide +kernel)
theorem kit_str (d : Dat) : kitB (tyD d) "str" = some (isStr d) := by cases d <;> (simp only [tyD, isStr]; decide +kernel)
theorem kit_dct (d : Dat) : kitB (tyD d) "dict" = some (isDct d) := by cases d <;> (simp only [tyD, isDct]; decide +kernel)
theorem kit_lst (d : Dat) : kitB (tyD d) "list" = some (isLst d) := by cases d <;> (simp only [tyD, isLst]; decide +kernel)
theorem kit_tup (d : Dat) : kitB (tyD d) "tuple" = some (isTup d) := by cases d <;> (simp only [tyD, isTup]; decide +kernel)
theorem kit_lt (d : Dat) : kitBs (tyD d) ["list", "tuple"] = some (isLst d || isTup d) := by cases d <;> (simp only [tyD, isLst, isTup]; decide +kernel)
theorem kit_dlt (d : Dat) : kitBs (tyD d) ["dict", "list", "tuple"] = some (isDct d || (isLst d || isTup d)) := by cases d <;> (simp only [tyD, isDct, isLst, isTup]; decide +kernel)
/-- the name of a built-in class -/
theorem pe_tyN {X : Cx} {n : String} {pos : Pos} (hg : Gl X n) (hm : X.mg n = none) (hv : bootBuiltins n = some (.type n)) (hn : (n : Str) ≠ "__name__" := by decide) (hd : ((n : Str) == ("__debug__" : Str)) = false := by decide) : PE X (.Name n pos) (tC (.ty n)) :=
  pe_bltn (v := .ty n) hg hm hv rfl hn hd
/-- what the top has left of the names that are no defs -/
structure Txt (K : PySem.W.Frag) (mg : Str → Option Value) : Prop where
  n_isinstance : mg "isinstance" = none
  n_len : mg "len" = none
  n_all : mg "all" = none
  n_any : mg "any" = none
  n_sum : mg "sum" = none
  n_sorted : mg "sorted" = none
  n_abs : mg "abs" = none
  n_repr : mg "repr" = none
  n_range : mg "range" = none
  n_enumerate : mg "enumerate" = none
  n_zip : mg "zip" = none
  n_int : mg "int" = none
  n_bool : mg "bool" = none
  n_str : mg "str" = none
  n_list : mg "list" = none
  n_tuple : mg "tuple" = none
  n_dict : mg "dict" = none
  c_LETTERS : ∃ t, mg "LETTERS" = some (.str "abcdefghijklmnopqrstuvwxyz" t)
  c_FIGURES : ∃ t, mg "FIGURES" = some (.str "0123456789" t)
  c_MOST : ∃ t, mg "MOST_SIGNS" = some (.int 8 t)
  c_WORDS : ∃ wa, mg "WORDS" = some (.ref wa) ∧ ∀ H : Hp, SqT K H wa (["of", "give", "nothing", "and", "or", "not", "all", "any", "divides", "none", "let", "most", "if", "else", "first", "below", "by", "over"].map fun x : String => V.str x)
  g_gcd : mg "gcd" = some (.builtin "math.gcd")
section
variable {P : Program} {w : World} {K : PySem.W.Frag} {mg : Str → Option Value} {base : Heap}
/-- whether a thing is an integer, a number from 1 on, a list -/
def isWhole (d : Dat) : Bool := isInt d && !isBool d
def spWhole (K : PySem.W.Frag) : Sp := fun vs H Q _ => ∃ v d, vs = [v] ∧ SeeF K H v d ∧ Q (.bl (isWhole d)) H
abbrev s_is_whole : Stmt := top 9
theorem sc_is_whole : FnScope ["thing"] ["thing"] (defScope s_is_whole) := ⟨rfl, rfl, rfl, by decide +kernel, rfl, by decide +kernel, by decide +kernel⟩
theorem ok_is_whole (T : Txt K mg) (a : At K mg "is_whole" s_is_whole ["thing"]) : Ok P w K mg base CX0 1 "is_whole" ["thing"] (spWhole K) := a.ok fun f fd F => by
  refine F.ok sc_is_whole (fun vs H Q E h => ?_) (fun cdv A outer s H vs Q E hr h => ?_)
  · obtain ⟨v, d, rfl, _⟩ := h; rfl
  · obtain ⟨v, d, rfl, hs, q⟩ := h
    refine ⟨_, (pss_one (ps_ret (pe_and (pe_callB call_isiD rfl T.n_isinstance rfl (pa_cons (pv 0) (pa_cons (pe_tyN (n := "int") rfl T.n_int rfl) pa_nil))) (pe_one (pe_not (pe_callB call_isiD rfl T.n_isinstance rfl (pa_cons (pv 0) (pa_cons (pe_tyN (n := "bool") rfl T.n_bool rfl) pa_nil)))))))), ?_⟩
    refine ⟨_, rfl, v, "int", d, _, rfl, hs, kit_int d, _, rfl, ?_⟩
    unfold isWhole at q
    cases e : isInt d with
    | false => rw [e] at q; exact q
    | true =>
      rw [e] at q
      exact ⟨_, rfl, v, "bool", d, _, rfl, hs, kit_bool d, _, rfl, q⟩
end
end K8

set_option Elab.async false
set_option linter.all false
set_option maxRecDepth 100000
set_option maxHeartbeats 4000000
namespace K8
open PySem PySem.Spec PyProof.Rows L2 M8
/-- all but the objects of S is as it was -/
def Exo (S : List Addr) (H H' : Hp) : Prop := ∀ b o, b ∉ S → H b = some o → H' b = some o
theorem Exo.refl (S : List Addr) (H : Hp) : Exo S H H := fun _ _ _ h => h
theorem Exo.trans {S : List Addr} {H H1 H2 : Hp} (a : Exo S H H1) (b : Exo S H1 H2) : Exo S H H2 := fun x o n h => b x o n (a x o n h)
theorem Ex.exo {H H' : Hp} (e : Ex H H') (S : List Addr) : Exo S H H' := fun b o _ h => e b o h
theorem Exo.ex {H H' : Hp} (e : Exo [] H H') : Ex H H' := fun b o h => e b o (by simp) h
theorem Exo.mut {S : List Addr} {H H' : Hp} {p : Addr} {o : HO} (e : Exo S H H') (h : H p = none) : Exo S H (upd H' p o) := fun a u n ha => by
  rw [upd_ne (ne_of_none ha h)]; exact e a u n ha
theorem Exo.own {S : List Addr} {H H' : Hp} {p : Addr} {o : HO} (e : Exo S H H') (h : p ∈ S) : Exo S H (upd H' p o) := fun a u n ha => by
  have q : a ≠ p := fun z => n (by rw [z]; exact h)
  rw [upd_ne q]; exact e a u n ha
theorem yesT {σ : L2.St} {H : Hp} {A B : Hp → Prop} (h : A H) : tYes σ H (fun b H3 => if b = true then A H3 else B H3) := by
  unfold tYes; exact iteT h
/-- what a comprehension's walk asks -/
def LcB (g : TG) (tt : TT) (te : TE) (vs : List Nat) (σ : L2.St) (Q : VK) (J : It) (H1 : Hp) : Prop := ∀ D, H1 D = none → ∃ W : Nat → Nat → Hp → Prop, (∃ m, W 0 m (upd H1 D (.lst []))) ∧ ∀ i m H, W i m H →
  (J.stop i H ∧ Q (.ref D) H) ∨ (J.go i H ∧ ∃ Nx : Hp → Prop, (∀ H', Nx H' → ∃ m', m' < m ∧ W (i + 1) m' H') ∧ ∀ x H', J.yld i H x H' → g x (wipe σ vs) H' fun σ2 H2 => wipe σ2 vs = wipe σ vs ∧ tt σ2 H2 fun b H3 =>
    if b = true then te σ2 H3 fun y H4 => ∃ acc, H4 D = some (.lst acc) ∧ acc.length < sizeLine ∧ Nx (upd H4 D (.lst (acc ++ [y]))) else Nx H3)
theorem tLc_of {wi : TI} {g : TG} {tt : TT} {te : TE} {vs : List Nat} {σ : L2.St} {H : Hp} {Q : VK} (h : wi σ H (LcB g tt te vs σ Q)) : tLc wi g tt te vs σ H Q := h
def DcB (g : TG) (tt : TT) (tk tv : TE) (vs : List Nat) (σ : L2.St) (Q : VK) (J : It) (H1 : Hp) : Prop := ∀ D, H1 D = none → ∃ W : Nat → Nat → Hp → Prop, (∃ m, W 0 m (upd H1 D (.dK []))) ∧ ∀ i m H, W i m H →
  (J.stop i H ∧ Q (.ref D) H) ∨ (J.go i H ∧ ∃ Nx : Hp → Prop, (∀ H', Nx H' → ∃ m', m' < m ∧ W (i + 1) m' H') ∧ ∀ x H', J.yld i H x H' → g x (wipe σ vs) H' fun σ2 H2 => wipe σ2 vs = wipe σ vs ∧ tt σ2 H2 fun b H3 =>
    if b = true then tk σ2 H3 fun y H4 => tv σ2 H4 fun z H5 => ∃ kvs k, y = kV k ∧ H5 D = some (.dK kvs) ∧ kvs.length < sizeLine ∧ Nx (upd H5 D (.dK (putK kvs k z))) else Nx H3)
theorem tDc_of {wi : TI} {g : TG} {tt : TT} {tk tv : TE} {vs : List Nat} {σ : L2.St} {H : Hp} {Q : VK} (h : wi σ H (DcB g tt tk tv vs σ Q)) : tDc wi g tt tk tv vs σ H Q := h
def ForB (g : TG) (tb : TS) (D : Ends) (σ : L2.St) (J : It) (H1 : Hp) : Prop := ∃ W : Nat → Nat → L2.St → Hp → Prop, (∃ m, W 0 m σ H1) ∧ ∀ i m σ H, W i m σ H → (J.stop i H ∧ D.nx σ H) ∨ (J.go i H ∧ ∃ N : L2.St → Hp → Prop, (∀ σ' H', N σ' H' → ∃ m', m' < m ∧ W (i + 1) m' σ' H') ∧
  ∀ x H', J.yld i H x H' → g x σ H' fun σ2 H2 => tb { D with nx := N, ct := N, bk := D.nx } σ2 H2)
theorem tFor_of {wi : TI} {g : TG} {tb : TS} {D : Ends} {σ : L2.St} {H : Hp} (h : wi σ H (ForB g tb D σ)) : tFor wi g tb D σ H := h
section
variable {J : It} {n : Nat} {G : Hp → Prop} {Y : Nat → Hp → V → Hp → Prop}
theorem for_itB (w : Walk J n G Y) {g : TG} {tb : TS} {D : Ends} {σ : L2.St} {H : Hp} (Pv : Nat → L2.St → Hp → Prop) (h0 : Pv 0 σ H) (hG : ∀ i σ H, i ≤ n → Pv i σ H → G H)
    (hs : ∀ i x σ H H', i < n → Pv i σ H → Y i H x H' → g x σ H' fun σ2 H2 => tb { D with nx := Pv (i + 1), ct := Pv (i + 1), bk := D.nx } σ2 H2) (hd : ∀ σ H, Pv n σ H → D.nx σ H) : ForB g tb D σ J H := for_it w Pv h0 hG hs hd
end
section
variable {J : It} {n : Nat} {G : Hp → Prop} {Y : Nat → Hp → V → Hp → Prop}
/-- a list comprehension over any walk, its element and test changing the objects of S alone -/
theorem lc_gen (w : Walk J n G Y) {g : TG} {tt : TT} {te : TE} {vs : List Nat} {σ : L2.St} {H1 : Hp} {Q : VK} (S : List Addr) (M : Nat → Hp → Prop) (A : Nat → List V → Hp → Prop) (hn : n ≤ 1000000) (hS : ∀ b ∈ S, H1 b ≠ none)
    (hG : ∀ H, Exo S H1 H → G H) (hM : ∀ i H H', (∀ b ∈ S, H' b = H b) → M i H → M i H')
    (hA : ∀ i acc H D l0 l, H D = some (.lst l0) → H1 D = none → A i acc H → A i acc (upd H D (.lst l))) (m0 : M 0 H1) (a0 : ∀ D, H1 D = none → A 0 [] (upd H1 D (.lst [])))
    (hs : ∀ i x H H' acc (R : V → Hp → Prop) (R' : Hp → Prop), i < n → Exo S H1 H → M i H → A i acc H → acc.length ≤ i → Y i H x H' →
      (∀ y H4, Exo S H H4 → M (i + 1) H4 → A (i + 1) (acc ++ [y]) H4 → R y H4) → (∀ H4, Exo S H H4 → M (i + 1) H4 → A (i + 1) acc H4 → R' H4) →
      g x (wipe σ vs) H' fun σ2 H2 => wipe σ2 vs = wipe σ vs ∧ tt σ2 H2 fun b H3 => if b = true then te σ2 H3 R else R' H3)
    (hd : ∀ D acc H, H1 D = none → Exo S H1 H → M n H → A n acc H → H D = some (.lst acc) → acc.length ≤ n → Q (.ref D) H) :
    LcB g tt te vs σ Q J H1 := by
  intro D hD
  have nS : D ∉ S := fun z => hS D z hD
  have sl : (1000000 : Nat) < sizeLine := by rw [sizeLine_eq]; decide
  refine lc_it w (fun i H => Exo S H1 H ∧ M i H ∧ ∃ acc, H D = some (.lst acc) ∧ acc.length ≤ i ∧ A i acc H) ⟨(Exo.refl S H1).mut hD, hM 0 _ _ (fun b hb => upd_ne fun z => nS (z ▸ hb)) m0, [], upd_same, Nat.le_refl _, a0 D hD⟩ (fun i H _ p => hG H p.1) ?_ ?_
  · rintro i x H H' hi ⟨e, m, acc, hDH, hl, a⟩ y
    refine hs i x H H' acc _ _ hi e m a hl y (fun z H4 e4 m4 a4 => ?_) (fun H4 e4 m4 a4 => ?_)
    · have h4 := e4 D _ nS hDH
      refine ⟨acc, h4, by omega, (e.trans e4).mut hD, hM _ _ _ (fun b hb => upd_ne fun q => nS (q ▸ hb)) m4, _, upd_same, by rw [List.length_append]; simp; omega, hA _ _ _ _ _ _ h4 hD a4⟩
    · exact ⟨e.trans e4, m4, acc, e4 D _ nS hDH, by omega, a4⟩
  · rintro H ⟨e, m, acc, hDH, hl, a⟩
    exact hd D acc H hD e m a hDH hl
/-- nothing but new things: the values known ahead -/
theorem lc_val (w : Walk J n G Y) {g : TG} {tt : TT} {te : TE} {vs : List Nat} {σ : L2.St} {H1 : Hp} {Q : VK} (V0 : Nat → List V) (hn : n ≤ 1000000) (hV0 : V0 0 = [])
    (hG : ∀ H, Ex H1 H → G H)
    (hs : ∀ i x H H' (R : V → Hp → Prop) (R' : Hp → Prop), i < n → Ex H1 H → Y i H x H' → (∀ y H4, Ex H H4 → V0 (i + 1) = V0 i ++ [y] → R y H4) → (∀ H4, Ex H H4 → V0 (i + 1) = V0 i → R' H4) →
      g x (wipe σ vs) H' fun σ2 H2 => wipe σ2 vs = wipe σ vs ∧ tt σ2 H2 fun b H3 => if b = true then te σ2 H3 R else R' H3)
    (hd : ∀ D H, H1 D = none → Ex H1 H → H D = some (.lst (V0 n)) → Q (.ref D) H) :
    LcB g tt te vs σ Q J H1 :=
  lc_gen w [] (fun _ _ => True) (fun i acc _ => acc = V0 i) hn (fun b hb => by simp at hb) (fun H e => hG H e.ex) (fun _ _ _ _ _ => trivial) (fun _ _ _ _ _ _ _ _ h => h) trivial (fun _ _ => hV0.symm)
    (fun i x H H' acc R R' hi e _ a _ y k k' => by
      subst a
      exact hs i x H H' R R' hi e.ex y (fun z H4 e4 q => k z H4 (e4.exo _) trivial q.symm) (fun H4 e4 q => k' H4 (e4.exo _) trivial q.symm))
    (fun D acc H hD e _ a hDH _ => by subst a; exact hd D H hD e.ex hDH)
/-- a dict comprehension over distinct names, the values integers known ahead -/
theorem dc_names {ns : List Str} (f : Str → Int) (w : Walk J ns.length G Y) {j : Nat} {tv : TE} {vs : List Nat} {σ : L2.St} {H1 : Hp} {Q : VK} (hn : ns.length ≤ 1000000) (hd : ns.Nodup) (hG : ∀ H, Ex H1 H → G H)
    (hY : ∀ (i : Nat) (x : V) (H H' : Hp), i < ns.length → Ex H1 H → Y i H x H' → H' = H ∧ ∃ nm, ns[i]? = some nm ∧ x = .str nm) (hj : (wipe σ vs)[j]? ≠ none) (hw : ∀ x, wipe ((wipe σ vs).set j (some x)) vs = wipe σ vs)
    (hs : ∀ (i : Nat) (nm : Str) (H : Hp) (R : V → Hp → Prop), ns[i]? = some nm → Ex H1 H → (∀ H4, Ex H H4 → R (.int (f nm)) H4) → tv ((wipe σ vs).set j (some (.str nm))) H R)
    (hq : ∀ D H, H1 D = none → Ex H1 H → H D = some (.dK (cK (ns.map fun n => (n, f n)))) → Q (.ref D) H) :
    DcB (gName j) tYes (tVar j) tv vs σ Q J H1 := by
  intro D hD
  have sl : (1000000 : Nat) < sizeLine := by rw [sizeLine_eq]; decide
  let P : Nat → Hp → Prop := fun i H => Ex H1 H ∧ H D = some (.dK (cK ((ns.take i).map fun n => (n, f n))))
  refine ⟨fun i m H => m = ns.length - i ∧ i ≤ ns.length ∧ P i H, ⟨ns.length, by simp, Nat.zero_le _, Ex.new hD, upd_same⟩, ?_⟩
  rintro i m H ⟨rfl, hi, e, hDH⟩
  by_cases hlt : i < ns.length
  · refine .inr ⟨w.goes i H hlt (hG H e), P (i + 1), fun H' p' => ⟨ns.length - (i + 1), by omega, rfl, hlt, p'⟩, fun x H' y => ?_⟩
    obtain ⟨rfl, nm, hnm, rfl⟩ := hY i x H H' hlt e (w.yields i H x H' hlt (hG H e) y)
    refine ⟨hw _, ?_⟩
    unfold tYes
    dsimp only
    rw [if_pos rfl]
    have hjl : j < (wipe σ vs).length := Decidable.byContradiction fun q => hj (List.getElem?_eq_none (by omega))
    refine ⟨.str nm, List.getElem?_set_self hjl, hs i nm H' _ hnm e fun H4 e4 => ?_⟩
    have ht : ns.take (i + 1) = ns.take i ++ [nm] := by
      rw [List.take_add_one, hnm]; rfl
    refine ⟨_, .inr nm, rfl, e4 D _ hDH, ?_, (e.trans e4).mut hD, ?_⟩
    · rw [cK_len, List.length_map, List.length_take]; omega
    · rw [upd_same]
      have hno : nm ∉ ns.take i := by
        intro q
        have h2 : (ns.take i ++ [nm]).Nodup := by rw [← ht]; exact hd.sublist (List.take_sublist _ _)
        rw [List.nodup_append] at h2
        exact h2.2.2 nm q nm (by simp) rfl
      have hany : ((cK ((ns.take i).map fun n => (n, f n))).any fun kv => decide (kv.1 = Sum.inr nm)) = false := by
        rw [List.any_eq_false]
        intro kv hkv
        unfold cK at hkv
        rw [List.map_map] at hkv
        obtain ⟨m, hm, rfl⟩ := List.mem_map.mp hkv
        simp
        intro q
        exact hno (q ▸ hm)
      unfold putK
      rw [hany, if_neg (by simp), ht, List.map_append]
      unfold cK
      rw [List.map_append]; rfl
  · have ei : i = ns.length := by omega
    subst ei
    refine .inl ⟨w.stops H (hG H e), hq D H hD e ?_⟩
    rw [hDH, List.take_length]
end
end K8

set_option Elab.async false
set_option linter.all false
set_option maxRecDepth 100000
set_option maxHeartbeats 4000000
namespace K8
open PySem PySem.Spec PyProof.Rows L2 M8
section
variable {P : Program} {w : World} {K : PySem.W.Frag} {mg : Str → Option Value} {base : Heap}
def geInt (d : Dat) (n : Int) : Bool := match d with | .int i => decide (n ≤ i) | _ => false
def isFrom1 (d : Dat) : Bool := isWhole d && geInt d 1
def spFrom1 (K : PySem.W.Frag) : Sp := fun vs H Q _ => ∃ v d, vs = [v] ∧ SeeF K H v d ∧ Q (.bl (isFrom1 d)) H
abbrev s_is_from_one : Stmt := top 10
theorem sc_is_from_one : FnScope ["thing"] ["thing"] (defScope s_is_from_one) := ⟨rfl, rfl, rfl, by decide +kernel, rfl, by decide +kernel, by decide +kernel⟩
theorem ok_is_from_one (T : Txt K mg) (a : At K mg "is_from_one" s_is_from_one ["thing"]) (Ois_whole : Ok P w K mg base CX0 1 "is_whole" ["thing"] (spWhole K)) : Ok P w K mg base CX0 2 "is_from_one" ["thing"] (spFrom1 K) := a.ok fun f fd F => by
  refine F.ok sc_is_from_one (fun vs H Q E h => ?_) (fun cdv A outer s H vs Q E hr h => ?_)
  · obtain ⟨v, d, rfl, _⟩ := h; rfl
  · obtain ⟨v, d, rfl, hs, q⟩ := h
    refine ⟨_, (pss_one (ps_ret (pe_and (pe_callO Ois_whole (hr.mono (by decide)) rfl (pa_cons (pv 0) pa_nil)) (pe_one (pe_cmpR op_ge (pv 0) pe_int (nomark _)))))), ?_⟩
    refine ⟨_, rfl, v, d, rfl, hs, _, rfl, ?_⟩
    unfold isFrom1 at q
    cases e : isWhole d with
    | false => rw [e] at q; exact q
    | true =>
      rw [e] at q
      cases hs with
      | int i => exact ⟨_, rfl, _, _, rfl, rfl, q⟩
      | bl b => cases e
      | non => cases e
      | str z => cases e
      | lst _ _ => cases e
      | tup _ _ => cases e
      | dct _ _ => cases e
      | fn _ => cases e
def isSq (d : Dat) : Bool := isLst d || isTup d
def spIsList (K : PySem.W.Frag) : Sp := fun vs H Q _ => ∃ v d, vs = [v] ∧ SeeF K H v d ∧ ∀ H', Ex H H' → Q (.bl (isSq d)) H'
abbrev s_is_list : Stmt := top 11
theorem sc_is_list : FnScope ["thing"] ["thing"] (defScope s_is_list) := ⟨rfl, rfl, rfl, by decide +kernel, rfl, by decide +kernel, by decide +kernel⟩
theorem ok_is_list (T : Txt K mg) (a : At K mg "is_list" s_is_list ["thing"]) : Ok P w K mg base CX0 1 "is_list" ["thing"] (spIsList K) := a.ok fun f fd F => by
  refine F.ok sc_is_list (fun vs H Q E h => ?_) (fun cdv A outer s H vs Q E hr h => ?_)
  · obtain ⟨v, d, rfl, _⟩ := h; rfl
  · obtain ⟨v, d, rfl, hs, q⟩ := h
    refine ⟨_, (pss_one (ps_ret (pe_callB call_isiDT rfl T.n_isinstance rfl (pa_cons (pv 0) (pa_cons (pe_tup (pa_cons (pe_tyN (n := "list") rfl T.n_list rfl) (pa_cons (pe_tyN (n := "tuple") rfl T.n_tuple rfl) pa_nil))) pa_nil))))), ?_⟩
    refine ⟨_, rfl, by show 2 ≤ sizeLine; decide, fun p hp => ?_⟩
    exact ⟨v, p, ["list", "tuple"], d, _, rfl, upd_same, hs.mono (Ex.new hp), kit_lt d, q _ (Ex.new hp)⟩
/-! names -/
def letters : Str := "abcdefghijklmnopqrstuvwxyz"
def figures : Str := "0123456789"
def signOk (c : Nat) : Bool := decide (c ∈ letters.cps.toList) || decide (c ∈ figures.cps.toList)
def isRunS (z : Str) : Bool := !decide (z = ("" : Str)) && z.cps.toList.all signOk
def isRun : Dat → Bool | .str z => isRunS z | _ => false
def spRun (K : PySem.W.Frag) : Sp := fun vs H Q _ => ∃ v d, vs = [v] ∧ SeeF K H v d ∧ (∀ z, d = .str z → z.cps.size ≤ 1000000) ∧ ∀ H', Ex H H' → Q (.bl (isRun d)) H'
abbrev s_is_run : Stmt := top 12
theorem sc_is_run : FnScope ["thing", "sign"] ["thing"] (defScope s_is_run) := ⟨rfl, rfl, rfl, by decide +kernel, rfl, by decide +kernel, by decide +kernel⟩
theorem ok_is_run (T : Txt K mg) (a : At K mg "is_run" s_is_run ["thing"]) : Ok P w K mg base CX0 1 "is_run" ["thing"] (spRun K) := a.ok fun f fd F => by
  refine F.ok sc_is_run (fun vs H Q E h => ?_) (fun cdv A outer s H vs Q E hr h => ?_)
  · obtain ⟨v, d, rfl, _⟩ := h; rfl
  · obtain ⟨v, d, rfl, hs, hz, q⟩ := h
    refine ⟨_, (pss_cons (ps_if (PW.pt (pw_or (pt_not (pt_val (pe_callB call_isiD rfl T.n_isinstance rfl (pa_cons (pv 0) (pa_cons (pe_tyN (n := "str") rfl T.n_str rfl) pa_nil))))) (pw_or1 (pt_cmpR op_eq (pv 0) pe_str (nomark _))))) (pss_one (ps_ret pe_bl)) pss_nil)
      (pss_one (ps_ret (pe_callB (cr_all rfl) rfl T.n_all rfl (pa_cons (pe_lc (own := [("sign", 1)]) (g := gName 1) (tt := tYes) rfl sc_is_run.nd (pi_str (pv 0)) (blkOk_by (N := ["thing", "sign"]) (sc := defScope s_is_run) (by decide +kernel)) (fun _ _ _ _ _ => (pg_name (i := 1) sc_is_run.nd rfl (Or.inl rfl))) (fun _ _ _ _ _ => pts_nil) (fun _ _ _ _ _ => (pe_or (pe_cmpR op_inS (pv 1) (pe_glob (v := .str letters) rfl T.c_LETTERS.choose_spec ⟨_, rfl⟩) rfl) (pe_one (pe_cmpR op_inS (pv 1) (pe_glob (v := .str figures) rfl T.c_FIGURES.choose_spec ⟨_, rfl⟩) rfl))))) pa_nil))))), ?_⟩
    refine ⟨_, rfl, v, "str", d, _, rfl, hs, kit_str d, _, rfl, ?_⟩
    cases hs with
    | str z =>
      refine iteF ⟨_, rfl, rfl, _, rfl, ?_⟩
      have hz' := hz z rfl
      by_cases e : z = ("" : Str)
      · have e' : V.str z = V.str "" := by rw [e]
        have e2 : isRunS z = false := by unfold isRunS; rw [decide_eq_true e]; rfl
        rw [decide_eq_true e']
        have q1 := q H (Ex.refl H)
        change Q (.bl (isRunS z)) H at q1
        rw [e2] at q1
        exact iteT q1
      · have e' : ¬ V.str z = V.str "" := fun k => e (V.str.inj k)
        have e2 : isRunS z = z.cps.toList.all signOk := by unfold isRunS; rw [decide_eq_false e]; rfl
        rw [decide_eq_false e']
        refine iteF ?_
        dsimp only [tNext, tRet, tCB, tCons, tNil]
        refine tLc_of ?_
        refine ⟨_, rfl, z, rfl, ?_⟩
        refine lc_val walk_str (fun i => ((z.cps.toList.take i).map signOk).map V.bl) hz' rfl (fun _ _ => trivial) ?_ ?_
        · rintro i x H1 H2 R R' hi e ⟨rfl, c, hc, rfl⟩ k _
          have hc' : z.cps.toList[i]? = some c := by simpa using hc
          have ht : ((z.cps.toList.take (i + 1)).map signOk).map V.bl = ((z.cps.toList.take i).map signOk).map V.bl ++ [V.bl (signOk c)] := by
            rw [List.take_add_one, hc']; simp
          refine ⟨rfl, yesT ?_⟩
          refine ⟨_, rfl, c, letters, rfl, rfl, _, rfl, ?_⟩
          unfold signOk at ht
          by_cases h1 : c ∈ letters.cps.toList
          · rw [decide_eq_true h1] at ht ⊢
            exact iteT (k _ _ (Ex.refl _) ht)
          · rw [decide_eq_false h1] at ht ⊢
            exact iteF ⟨_, rfl, c, figures, rfl, rfl, k _ _ (Ex.refl _) ht⟩
        · intro D H1 hD e hDH
          have hl : z.cps.toList.take z.cps.size = z.cps.toList := List.take_of_length_le (by simp)
          rw [hl] at hDH
          refine ⟨D, _, rfl, SqL.of hDH, ?_⟩
          have q1 := q H1 e
          change Q (.bl (isRunS z)) H1 at q1
          rw [e2] at q1
          rw [List.all_map]
          exact q1
    | bl b => exact iteT (q H (Ex.refl H))
    | non => exact iteT (q H (Ex.refl H))
    | int z => exact iteT (q H (Ex.refl H))
    | lst _ _ => exact iteT (q H (Ex.refl H))
    | tup _ _ => exact iteT (q H (Ex.refl H))
    | dct _ _ => exact iteT (q H (Ex.refl H))
    | fn _ => exact iteT (q H (Ex.refl H))
end
end K8

set_option Elab.async false
set_option linter.all false
set_option maxRecDepth 100000
set_option maxHeartbeats 4000000
namespace K8
open PySem PySem.Spec PyProof.Rows L2 M8
def words : List Str := ["of", "give", "nothing", "and", "or", "not", "all", "any", "divides", "none", "let", "most", "if", "else", "first", "below", "by", "over"]
def isNameS (z : Str) : Bool := isRunS z && (decide (z.cps.size ≤ 8) && (decide (z.cps.getD 0 0 ∈ letters.cps.toList) && !inV (.str z) (words.map V.str)))
def isName : Dat → Bool | .str z => isNameS z | _ => false
def strOk : Dat → Prop | .str z => z.cps.size ≤ 1000000 | _ => True
def flatD : Dat → Bool | .non => true | .bl _ => true | .int _ => true | .str _ => true | _ => false
def keyD : Key → Dat | .inl i => .int i | .inr z => .str z
theorem see_key {F : Addr → Prop} {H : Hp} (k : Key) : See F H (kV k) (keyD k) := by cases k <;> constructor
theorem see_flat {F : Addr → Prop} {H H' : Hp} {v : V} {d : Dat} (h : See F H v d) (f : flatD d = true) : See F H' v d := by
  cases h with
  | non => exact .non
  | bl b => exact .bl b
  | int i => exact .int i
  | str z => exact .str z
  | lst _ _ => cases f
  | tup _ _ => cases f
  | dct _ _ => cases f
  | fn _ => cases f
theorem Ex.unlock {H H2 : Hp} {a : Addr} {u o : HO} (e : Ex (upd H a o) H2) (h : H a = some u) : Ex H (upd H2 a u) := fun b ob hb => by
  by_cases q : b = a
  · rw [q] at hb ⊢; rw [upd_same, ← h, hb]
  · rw [upd_ne q]; exact e b ob (by rw [upd_ne q]; exact hb)
section
variable {P : Program} {w : World} {K : PySem.W.Frag} {mg : Str → Option Value} {base : Heap}
def spName (K : PySem.W.Frag) : Sp := fun vs H Q _ => ∃ v d, vs = [v] ∧ SeeF K H v d ∧ strOk d ∧ ∀ H', Ex H H' → Q (.bl (isName d)) H'
abbrev s_is_name : Stmt := top 13
theorem sc_is_name : FnScope ["thing"] ["thing"] (defScope s_is_name) := ⟨rfl, rfl, rfl, by decide +kernel, rfl, by decide +kernel, by decide +kernel⟩
theorem ok_is_name (T : Txt K mg) (a : At K mg "is_name" s_is_name ["thing"]) (Ois_run : Ok P w K mg base CX0 1 "is_run" ["thing"] (spRun K)) : Ok P w K mg base CX0 2 "is_name" ["thing"] (spName K) := a.ok fun f fd F => by
  refine F.ok sc_is_name (fun vs H Q E h => ?_) (fun cdv A outer s H vs Q E hr h => ?_)
  · obtain ⟨v, d, rfl, _⟩ := h; rfl
  · obtain ⟨v, d, rfl, hs, hz, q⟩ := h
    refine ⟨_, (pss_one (ps_ret (pe_and (pe_callO Ois_run (hr.mono (by decide)) rfl (pa_cons (pv 0) pa_nil)) (pe_and (pe_cmpR op_le (pe_callB call_len_str rfl T.n_len rfl (pa_cons (pv 0) pa_nil)) (pe_glob (v := .int 8) rfl T.c_MOST.choose_spec ⟨_, rfl⟩) (nomark _)) (pe_and (pe_cmpR op_inS (pe_ix ix_str (pv 0) pe_int (fun _ _ => rfl)) (pe_glob (v := .str letters) rfl T.c_LETTERS.choose_spec ⟨_, rfl⟩) rfl) (pe_one (pe_cmpR op_notIn_seq (pv 0) (pe_glob (v := .ref T.c_WORDS.choose) rfl T.c_WORDS.choose_spec.1 rfl) rfl))))))), ?_⟩
    refine ⟨_, rfl, v, d, rfl, hs, fun z e => by subst e; exact hz, fun H1 e1 => ?_⟩
    have q1 := q H1 e1
    cases hs with
    | str z =>
      change Q (.bl (isNameS z)) H1 at q1
      refine ⟨_, rfl, ?_⟩
      change (if isRunS z = true then _ else _)
      unfold isNameS at q1
      cases e : isRunS z with
      | false => rw [e] at q1; exact iteF q1
      | true =>
        rw [e] at q1
        have hne : z.cps.size ≠ 0 := fun k => by
          have : z = ("" : Str) := by
            cases z with
            | mk a => simp at k; subst k; rfl
          rw [this] at e; exact absurd e (by decide +kernel)
        have sl : (1000000 : Nat) ≤ sizeLine := by rw [sizeLine_eq]; decide
        refine iteT ?_
        refine ⟨_, rfl, z, rfl, Nat.le_trans hz sl, _, _, rfl, rfl, _, rfl, ?_⟩
        have ez : decide ((z.length : Int) ≤ 8) = decide (z.cps.size ≤ 8) := decide_eq_decide.mpr (by show ((z.cps.size : Nat) : Int) ≤ 8 ↔ _; omega)
        rw [ez]
        cases e8 : decide (z.cps.size ≤ 8) with
        | false => rw [e8] at q1; exact iteF q1
        | true =>
          rw [e8] at q1
          refine iteT ?_
          have hc : z.cps.toList[0]? = some (z.cps.getD 0 0) := by
            have : 0 < z.cps.size := by omega
            simp [Array.getD, this]
          have ha : atI z.cps.toList 0 = some (z.cps.getD 0 0) := by
            unfold atI ixN
            rw [if_pos (by omega), if_pos (by simp; omega)]
            exact hc
          refine ⟨_, rfl, z, 0, _, rfl, rfl, Nat.le_trans hz sl, ha, _, letters, rfl, rfl, _, rfl, ?_⟩
          cases e9 : decide (z.cps.getD 0 0 ∈ letters.cps.toList) with
          | false => rw [e9] at q1; exact iteF q1
          | true =>
            rw [e9] at q1
            refine iteT ?_
            exact ⟨_, rfl, _, _, rfl, .inr (T.c_WORDS.choose_spec.2 H1), rfl, by decide +kernel, q1⟩
    | bl b => exact ⟨_, rfl, iteF q1⟩
    | non => exact ⟨_, rfl, iteF q1⟩
    | int z => exact ⟨_, rfl, iteF q1⟩
    | lst _ _ => exact ⟨_, rfl, iteF q1⟩
    | tup _ _ => exact ⟨_, rfl, iteF q1⟩
    | dct _ _ => exact ⟨_, rfl, iteF q1⟩
    | fn _ => exact ⟨_, rfl, iteF q1⟩
def keyOk : Key → Prop | .inr z => z.cps.size ≤ 1000000 | _ => True
def dctOk : Dat → Prop | .dct kds => kds.length ≤ 1000 ∧ (∀ p ∈ kds, flatD p.2 = true ∧ keyOk p.1) ∧ (kds.map (·.1)).Nodup | _ => True
def isNumbers : Dat → Bool | .dct kds => kds.all fun p => isName (keyD p.1) && isWhole p.2 | _ => false
def spNumbers (K : PySem.W.Frag) : Sp := fun vs H Q _ => ∃ v d, vs = [v] ∧ SeeF K H v d ∧ dctOk d ∧ ∀ H', Ex H H' → Q (.bl (isNumbers d)) H'
theorem valV_get {kvs : List (Key × V)} (hd : (kvs.map (·.1)).Nodup) {i : Nat} {k : Key} {v : V} (h : kvs[i]? = some (k, v)) : valV kvs k = some v := by
  induction kvs generalizing i with
  | nil => simp at h
  | cons p kvs ih =>
    have hd' := List.nodup_cons.mp hd
    cases i with
    | zero => simp at h; subst h; exact valV_pos rfl
    | succ i =>
      have h' : kvs[i]? = some (k, v) := by simpa using h
      rw [valV_neg fun e => hd'.1 (List.mem_map.mpr ⟨_, List.mem_of_getElem? h', e.symm⟩)]
      exact ih hd'.2 h'
theorem SeeK.keys {F : Addr → Prop} {H : Hp} : ∀ {vs : List (Key × V)} {ds : List (Key × Dat)}, SeeK F H vs ds → vs.map (·.1) = ds.map (·.1)
  | _, _, .nil => rfl
  | _, _, .cons _ t => by simp [SeeK.keys t]
abbrev s_is_numbers : Stmt := top 14
theorem sc_is_numbers : FnScope ["thing", "name"] ["thing"] (defScope s_is_numbers) := ⟨rfl, rfl, rfl, by decide +kernel, rfl, by decide +kernel, by decide +kernel⟩
theorem ok_is_numbers (T : Txt K mg) (a : At K mg "is_numbers" s_is_numbers ["thing"]) (Ois_name : Ok P w K mg base CX0 2 "is_name" ["thing"] (spName K)) (Ois_whole : Ok P w K mg base CX0 1 "is_whole" ["thing"] (spWhole K)) : Ok P w K mg base CX0 3 "is_numbers" ["thing"] (spNumbers K) := a.ok fun f fd F => by
  refine F.ok sc_is_numbers (fun vs H Q E h => ?_) (fun cdv A outer s H vs Q E hr h => ?_)
  · obtain ⟨v, d, rfl, _⟩ := h; rfl
  · obtain ⟨v, d, rfl, hs, hok, q⟩ := h
    refine ⟨_, (pss_cons (ps_if (pt_not (pt_val (pe_callB call_isiD rfl T.n_isinstance rfl (pa_cons (pv 0) (pa_cons (pe_tyN (n := "dict") rfl T.n_dict rfl) pa_nil))))) (pss_one (ps_ret pe_bl)) pss_nil)
      (pss_one (ps_ret (pe_callB (cr_all rfl) rfl T.n_all rfl (pa_cons (pe_lock (pe_lc (own := [("name", 1)]) (g := gName 1) (tt := tYes) rfl sc_is_numbers.nd (pi_keys (pv 0)) (blkOk_by (N := ["thing", "name"]) (sc := defScope s_is_numbers) (by decide +kernel)) (fun _ _ _ _ _ => (pg_name (i := 1) sc_is_numbers.nd rfl (Or.inl rfl))) (fun _ _ _ _ _ => pts_nil) (fun _ _ _ _ _ => (pe_and (pe_callO Ois_name (hr.mono (by decide)) rfl (pa_cons (pv 1) pa_nil)) (pe_one (pe_callO Ois_whole (hr.mono (by decide)) rfl (pa_cons (pe_dget (hu_of hr) (pv 0) (pv 1) (fun _ _ => rfl)) pa_nil))))))) pa_nil))))), ?_⟩
    refine ⟨_, rfl, v, "dict", d, _, rfl, hs, kit_dct d, _, rfl, ?_⟩
    cases hs with
    | @dct a kvs kds ha hk =>
      refine iteF ?_
      dsimp only [tNext, tRet, tCB, tCons, tNil]
      obtain ⟨hl, hf, hnd⟩ := hok
      have hlen := hk.len
      refine ⟨a, .dK kvs, ha, trivial, fun od => ?_⟩
      refine tLc_of ?_
      refine ⟨_, rfl, a, od, rfl, .inl ⟨kvs, upd_same, ?_⟩⟩
      refine lc_val walk_keys (fun i => ((kds.take i).map fun p => isName (keyD p.1) && isWhole p.2).map V.bl) (by omega) rfl (fun H1 e => e _ _ upd_same) ?_ ?_
      · rintro i x H1 H2 R R' hi e ⟨rfl, k, z, hkz, rfl⟩ kk _
        obtain ⟨d, hd, hsd⟩ := hk.get hkz
        have hm := List.mem_of_getElem? hd
        have hfd := hf _ hm
        have ht : ((kds.take (i + 1)).map fun p => isName (keyD p.1) && isWhole p.2).map V.bl = ((kds.take i).map fun p => isName (keyD p.1) && isWhole p.2).map V.bl ++ [V.bl (isName (keyD k) && isWhole d)] := by
          rw [List.take_add_one, hd]; simp
        refine ⟨rfl, yesT ?_⟩
        refine ⟨_, rfl, _, _, rfl, see_key k, by cases k <;> first | trivial | exact hfd.2, fun H3 e3 => ⟨_, rfl, ?_⟩⟩
        have hD3 : H3 a = some (.frz od (.dK kvs)) := e3 _ _ (e _ _ upd_same)
        have hv : valV kvs k = some z := valV_get (by rw [hk.keys]; exact hnd) hkz
        cases e1 : isName (keyD k) with
        | false => rw [e1] at ht; exact iteF (kk _ _ e3 ht)
        | true =>
          rw [e1] at ht
          refine iteT ⟨_, rfl, _, rfl, a, z, rfl, .inl ⟨kvs, k, .inr ⟨od, hD3⟩, rfl, hv.symm⟩, z, d, rfl, see_flat hsd hfd.1, kk _ _ e3 ht⟩
      · intro D H1 hD e hDH
        have hx := e _ _ upd_same
        have hDa : D ≠ a := fun z => by rw [z, upd_same] at hD; cases hD
        have hl2 : kds.take kvs.length = kds := List.take_of_length_le (by omega)
        rw [hl2] at hDH
        refine ⟨hx, D, _, rfl, SqL.of (by rw [upd_ne hDa]; exact hDH), ?_⟩
        have q1 := q _ (e.unlock ha)
        rw [List.all_map]
        exact q1
    | bl b => exact iteT (q H (Ex.refl H))
    | non => exact iteT (q H (Ex.refl H))
    | int z => exact iteT (q H (Ex.refl H))
    | str z => exact iteT (q H (Ex.refl H))
    | lst _ _ => exact iteT (q H (Ex.refl H))
    | tup _ _ => exact iteT (q H (Ex.refl H))
    | fn _ => exact iteT (q H (Ex.refl H))
end
end K8

set_option Elab.async false
set_option linter.all false
set_option maxRecDepth 100000
set_option maxHeartbeats 4000000
namespace K8
open PySem PySem.Spec PyProof.Rows L2 M8
section
variable {P : Program} {w : World} {K : PySem.W.Frag} {mg : Str → Option Value} {base : Heap}
def items : Dat → List Dat | .lst ds => ds | .tup ds => ds | _ => []
/-- a list or a tuple shows its items -/
theorem see_sq {F : Addr → Prop} {H : Hp} {v : V} {d : Dat} (h : See F H v d) (s : isSq d = true) : ∃ a xs, v = .ref a ∧ (H a = some (.lst xs) ∨ H a = some (.tup xs)) ∧ SeeL F H xs (items d) := by
  cases h with
  | lst ha t => exact ⟨_, _, rfl, .inl ha, t⟩
  | tup ha t => exact ⟨_, _, rfl, .inr ha, t⟩
  | non => cases s
  | bl b => cases s
  | int i => cases s
  | str z => cases s
  | dct _ _ => cases s
  | fn _ => cases s
def isTerm (d : Dat) : Bool := isSq d && (match items d with | [x, k] => isNumbers x && isWhole k | _ => false)
def termOk (d : Dat) : Prop := ∀ x ∈ items d, dctOk x
def spTerm (K : PySem.W.Frag) : Sp := fun vs H Q _ => ∃ v d, vs = [v] ∧ SeeF K H v d ∧ termOk d ∧ ∀ H', Ex H H' → Q (.bl (isTerm d)) H'
theorem dec_len {xs : List V} {n : Nat} : decide (V.int (xs.length : Int) = V.int (n : Int)) = decide (xs.length = n) := decide_eq_decide.mpr ⟨fun h => by have := V.int.inj h; omega, fun h => by rw [h]⟩
abbrev s_is_term : Stmt := top 16
theorem sc_is_term : FnScope ["thing"] ["thing"] (defScope s_is_term) := ⟨rfl, rfl, rfl, by decide +kernel, rfl, by decide +kernel, by decide +kernel⟩
theorem ok_is_term (T : Txt K mg) (a : At K mg "is_term" s_is_term ["thing"]) (Ois_list : Ok P w K mg base CX0 1 "is_list" ["thing"] (spIsList K)) (Ois_numbers : Ok P w K mg base CX0 3 "is_numbers" ["thing"] (spNumbers K)) (Ois_whole : Ok P w K mg base CX0 1 "is_whole" ["thing"] (spWhole K)) : Ok P w K mg base CX0 4 "is_term" ["thing"] (spTerm K) := a.ok fun f fd F => by
  refine F.ok sc_is_term (fun vs H Q E h => ?_) (fun cdv A outer s H vs Q E hr h => ?_)
  · obtain ⟨v, d, rfl, _⟩ := h; rfl
  · obtain ⟨v, d, rfl, hs, hok, q⟩ := h
    refine ⟨_, (pss_one (ps_ret (pe_and (pe_callO Ois_list (hr.mono (by decide)) rfl (pa_cons (pv 0) pa_nil)) (pe_and (pe_cmpR op_eq (pe_callB (len_qK (K := K) rfl) rfl T.n_len rfl (pa_cons (pv 0) pa_nil)) pe_int (nomark _)) (pe_and (pe_callO Ois_numbers (hr.mono (by decide)) rfl (pa_cons (pe_ix (ix_qK (K := K) rfl) (pv 0) pe_int (fun _ _ => rfl)) pa_nil)) (pe_one (pe_callO Ois_whole (hr.mono (by decide)) rfl (pa_cons (pe_ix (ix_qK (K := K) rfl) (pv 0) pe_int (fun _ _ => rfl)) pa_nil)))))))), ?_⟩
    refine ⟨_, rfl, v, d, rfl, hs, fun H1 e1 => ⟨_, rfl, ?_⟩⟩
    have q1 := q H1 e1
    unfold isTerm at q q1
    cases e : isSq d with
    | false => rw [e] at q1; exact iteF q1
    | true =>
      rw [e] at q q1
      refine iteT ?_
      obtain ⟨p, xs, rfl, hp, hx⟩ := see_sq (hs.mono e1) e
      have hlen := hx.len
      refine ⟨_, rfl, p, xs, rfl, SqQ.or hp, rfl, _, rfl, ?_⟩
      have dl : decide (V.int (xs.length : Int) = V.int 2) = decide (xs.length = 2) := dec_len (n := 2)
      rw [dl]
      by_cases h2 : xs.length = 2
      · rw [decide_eq_true h2]
        refine iteT ?_
        match hi : items d, hx, hlen with
        | [x, k], .cons h1 (.cons h3 .nil), _ =>
          refine ⟨_, rfl, p, _, 0, _, rfl, rfl, SqQ.or hp, at0, _, x, rfl, h1, hok x (by rw [hi]; simp), fun H2 e2 => ⟨_, rfl, ?_⟩⟩
          have q2 := q H2 (e1.trans e2)
          rw [hi] at q2
          change Q (.bl (isNumbers x && isWhole k)) H2 at q2
          cases en : isNumbers x with
          | false => rw [en] at q2; exact iteF q2
          | true =>
            rw [en] at q2
            exact iteT ⟨_, rfl, p, _, 1, _, rfl, rfl, SqQ.or (hp.imp (e2 _ _) (e2 _ _)), at1, _, k, rfl, h3.mono e2, q2⟩
        | [], _, hl => rw [hl] at h2; cases h2
        | [_], _, hl => rw [hl] at h2; cases h2
        | _ :: _ :: _ :: _, _, hl => rw [hl] at h2; simp at h2
      · rw [decide_eq_false h2]
        refine iteF ?_
        have : (match items d with | [x, k] => isNumbers x && isWhole k | _ => false) = false := by
          split
          · rename_i x k hi; rw [hi] at hlen; exact absurd hlen h2
          · rfl
        rw [this] at q1
        exact q1
/-! the names of a term, ascending -/
def NewT (H H' : Hp) (v : V) (c : Coef) (k : Int) : Prop := ∃ q d, v = .ref q ∧ H q = none ∧ H d = none ∧ H' q = some (.tup [.ref d, .int k]) ∧ H' d = some (.dK (cK c)) ∧ Ex H H'
theorem NewT.at {H H' : Hp} {v : V} {c : Coef} {k : Int} (n : NewT H H' v c k) : TermAt H' v c k := by
  obtain ⟨q, d, rfl, _, _, h1, h2, _⟩ := n
  exact ⟨q, d, rfl, .inr h1, h2⟩
theorem NewT.ex {H H' : Hp} {v : V} {c : Coef} {k : Int} (n : NewT H H' v c k) : Ex H H' := by
  obtain ⟨q, d, rfl, _, _, h1, h2, e⟩ := n; exact e
/-- few names, no name twice -/
structure Few (c : Coef) : Prop where
  nd : (keys c).Nodup
  len : c.length ≤ 60
theorem Few.canon {c : Coef} (h : Few c) : Few (canon c) := ⟨canon_nodup h.nd, by
  have : (M8.canon c).length ≤ c.length := by
    unfold M8.canon nz
    rw [List.length_map, srt_length, List.length_map]
    exact List.length_filter_le _ _
  have := h.len; omega⟩
theorem Few.mapc {c : Coef} (h : Few c) (f : Int → Int) : Few (mapc f c) := ⟨by rw [keys_mapc]; exact h.nd, by unfold M8.mapc; rw [List.length_map]; exact h.len⟩
theorem nz_len {c : Coef} (h : Few c) : (nz c).length ≤ 60 := by
  unfold nz
  rw [srt_length, List.length_map]
  exact Nat.le_trans (List.length_filter_le _ _) h.len
theorem get_cK {c : Coef} {i : Nat} {n : Str} {z : Int} (h : c[i]? = some (n, z)) : (cK c)[i]? = some (.inr n, .int z) := by unfold cK; rw [List.getElem?_map, h]; rfl
theorem keys_cK (c : Coef) : (cK c).map (·.1) = (keys c).map Sum.inr := by unfold cK keys; rw [List.map_map, List.map_map]; rfl
theorem valV_co {c : Coef} {n : Str} (h : n ∈ keys c) (hn : (keys c).Nodup) : valV (cK c) (.inr n) = some (.int (co c n)) := by
  obtain ⟨i, hi⟩ := look_some h hn
  rw [valV_cK, hi]; unfold co; rw [hi]; rfl
def spNamesOf : Sp := fun vs H Q _ => ∃ v c k, vs = [v] ∧ TermAt H v c k ∧ Few c ∧ ∀ p H', H p = none → Ex H H' → H' p = some (.lst ((nz c).map V.str)) → Q (.ref p) H'
abbrev s_names_of : Stmt := top 17
theorem sc_names_of : FnScope ["term", "coefficients", "name"] ["term"] (defScope s_names_of) := ⟨rfl, rfl, rfl, by decide +kernel, rfl, by decide +kernel, by decide +kernel⟩
theorem ok_names_of (T : Txt K mg) (a : At K mg "names_of" s_names_of ["term"]) : Ok P w K mg base CX0 1 "names_of" ["term"] spNamesOf := a.ok fun f fd F => by
  refine F.ok sc_names_of (fun vs H Q E h => ?_) (fun cdv A outer s H vs Q E hr h => ?_)
  · obtain ⟨v, c, k, rfl, _⟩ := h; rfl
  · obtain ⟨v, c, k, rfl, ⟨p, d, rfl, hp, hd⟩, few, q⟩ := h
    refine ⟨_, (pss_cons (ps_set (i := 1) sc_names_of.nd rfl (Or.inr rfl) (pe_ix (ix_qK (K := K) rfl) (pv 0) pe_int (fun _ _ => rfl)))
      (pss_one (ps_ret (pe_callB cr_sortedS rfl T.n_sorted rfl (pa_cons (pe_lock (pe_lc (own := [("name", 2)]) (g := gName 2) (tt := _) rfl sc_names_of.nd (pi_keys (pv 1)) (blkOk_by (N := ["term", "coefficients", "name"]) (sc := defScope s_names_of) (by decide +kernel)) (fun _ _ _ _ _ => (pg_name (i := 2) sc_names_of.nd rfl (Or.inl rfl))) (fun _ _ _ _ _ => (pts_one (pt_cmpR op_ne (pe_dget (hu_of hr) (pv 1) (pv 2) (fun _ _ => rfl)) pe_int (nomark _)))) (fun _ _ _ _ _ => (pv 2)))) pa_nil))))), ?_⟩
    refine ⟨_, rfl, p, _, 0, _, rfl, rfl, SqQ.or hp, at0, ?_⟩
    dsimp only [tNext, tRet, tCB, tCons, tNil, gName]
    refine ⟨d, _, hd, trivial, fun od => ?_⟩
    refine tLc_of ?_
    refine ⟨_, rfl, d, od, rfl, .inl ⟨_, upd_same, ?_⟩⟩
    have hl : (cK c).length = c.length := cK_len c
    refine lc_val walk_keys (fun i => (((c.take i).filter fun p => decide (p.2 ≠ 0)).map (·.1)).map V.str) (by have := few.len; omega) rfl (fun H1 e => e _ _ upd_same) ?_ ?_
    · rintro i x H1 H2 R R' hi e ⟨rfl, k', z, hkz, rfl⟩ kk kk'
      have hci : i < c.length := by omega
      obtain ⟨⟨n, y⟩, hcy'⟩ : ∃ p : Str × Int, c[i]? = some p := ⟨c[i], List.getElem?_eq_getElem hci⟩
      rw [get_cK hcy'] at hkz
      cases hkz
      have hm : n ∈ keys c := List.mem_map.mpr ⟨(n, y), List.mem_of_getElem? hcy', rfl⟩
      have hco : co c n = y := co_of_mem few.nd (List.mem_of_getElem? hcy')
      have hD3 : H2 d = some (.frz od (.dK (cK c))) := e _ _ upd_same
      have ht : c.take (i + 1) = c.take i ++ [(n, y)] := by rw [List.take_add_one, hcy']; rfl
      refine ⟨rfl, ?_⟩
      refine ⟨_, rfl, _, rfl, d, _, rfl, .inl ⟨cK c, .inr n, .inr ⟨od, hD3⟩, rfl, (valV_co hm few.nd).symm⟩, rfl, _, rfl, ?_⟩
      rw [hco]
      by_cases hy : y = 0
      · have e1 : (!decide (V.int y = V.int 0)) = false := by rw [hy]; rfl
        rw [e1]
        refine iteF (kk' _ (Ex.refl _) ?_)
        rw [ht, List.filter_append, hy]; simp
      · have e1 : (!decide (V.int y = V.int 0)) = true := by rw [decide_eq_false fun z => hy (V.int.inj z)]; rfl
        rw [e1]
        refine iteT ⟨_, rfl, kk _ _ (Ex.refl _) ?_⟩
        rw [ht, List.filter_append, List.map_append, List.map_append, List.filter_cons, if_pos (by simpa using hy)]; rfl
    · intro D H1 hD e hDH
      have hx := e _ _ upd_same
      have hDd : D ≠ d := fun z => by rw [z, upd_same] at hD; cases hD
      have hl2 : c.take (cK c).length = c := List.take_of_length_le (by omega)
      rw [hl2] at hDH
      have ex := e.unlock hd
      refine ⟨hx, D, _, rfl, SqL.of (by rw [upd_ne hDd]; exact hDH), ?_, fun ys p2 hperm hsort hp2 => ?_⟩
      · rw [List.length_map]
        have := List.length_filter_le (fun p : Str × Int => decide (p.2 ≠ 0)) c
        have := few.len; omega
      · refine q p2 _ (ex.free hp2) (ex.mut (ex.free hp2)) ?_
        rw [upd_same]
        have : nz c = ys := srt_eq hperm (sorted_pw hsort)
        rw [this]
end
end K8

set_option Elab.async false
set_option linter.all false
set_option maxRecDepth 100000
set_option maxHeartbeats 4000000
namespace K8
open PySem PySem.Spec PyProof.Rows L2 M8
/-! x in a written tuple of texts, x flat or a list of texts -/
def rInT (K : PySem.W.Frag) : R2 := fun x y H Q => ∃ d ds, Dp K H x d ∧ Dp K H y (.tuple ds) ∧ SeqAt.shaped d = true ∧ SeqAt.shaped (.tuple ds) = true ∧ Q (.bl (ds.any fun z => PyData.eqv z d)) H
theorem op_inT {X : Cx} (hu : X.A.units + 65 < cLine) : OpR X (compareOp .In) (rInT X.K) := by
  intro pins s σ H x y v u Q I rx ry h
  obtain ⟨d, ds, hd, he, sd, se, q⟩ := h
  obtain ⟨as, r1⟩ := Dp.reads I d x v hd rx
  obtain ⟨bs, r2⟩ := Dp.reads I (.tuple ds) y u he ry
  have hroom : X.A.units + 1 + min (PyData.depthAll ds) d.depth < cLine := room_in_shaped sd hu
  exact SeqAt.in_tuple_reads r2 r1 (SeqAt.canLay_of_shaped se) (SeqAt.canLay_of_shaped sd) hroom ⟨.bl _, H, I, rfl, q⟩
theorem op_in_z {X : Cx} (hu : X.A.units + 65 < cLine) : OpR X (compareOp .In) (fun x y H Q => rIn X.K false x y H Q ∨ rInT X.K x y H Q) := OpR.or op_in_seq (op_inT hu)
theorem hu65 {A : Around} {k : Nat} (hr : Room (k + 1) A) : A.units + 65 < cLine := by have := hr.un; omega
/-! {name: f(term[0][name]) for name in term[0]} -/
theorem mapc_keys {c : Coef} (few : Few c) (f : Int → Int) : (keys c).map (fun n => (n, f (co c n))) = mapc f c := by
  unfold keys mapc
  rw [List.map_map]
  refine List.map_congr_left fun p hp => ?_
  obtain ⟨n, i⟩ := p
  show (n, f (co c n)) = (n, f i)
  rw [co_of_mem few.nd hp]
theorem dc_lock {H : Hp} {d : Addr} {c : Coef} {td tv : TE} {j : Nat} {vs : List Nat} {σ : L2.St} {Q : VK} (f : Int → Int) (hd : H d = some (.dK (cK c))) (few : Few c)
    (htd : ∀ (H2 : Hp) (R : V → Hp → Prop), (∀ b o, b ≠ d → H b = some o → H2 b = some o) → R (.ref d) H2 → td σ H2 R) (hj : (wipe σ vs)[j]? ≠ none) (hw : ∀ x, wipe ((wipe σ vs).set j (some x)) vs = wipe σ vs)
    (hv : ∀ (nm : Str) (H2 : Hp) (od : Obj) (R : V → Hp → Prop), nm ∈ keys c → H2 d = some (.frz od (.dK (cK c))) → (∀ b o, b ≠ d → H b = some o → H2 b = some o) → (∀ H4, Ex H2 H4 → R (.int (f (co c nm))) H4) → tv ((wipe σ vs).set j (some (.str nm))) H2 R)
    (hq : ∀ p H', H p = none → Ex H H' → H' p = some (.dK (cK (mapc f c))) → Q (.ref p) H') : tLockE (tDc (iKeys td) (gName j) tYes (tVar j) tv vs) σ H Q := by
  refine ⟨d, _, hd, trivial, fun od => ?_⟩
  refine tDc_of ?_
  have out : ∀ H2 : Hp, Ex (upd H d (.frz od (.dK (cK c)))) H2 → ∀ b o, b ≠ d → H b = some o → H2 b = some o := fun H2 e b o hb h => e b o (by rw [upd_ne hb]; exact h)
  refine htd _ _ (fun b o hb h => by rw [upd_ne hb]; exact h) ⟨d, od, rfl, .inl ⟨_, upd_same, ?_⟩⟩
  have hl : (cK c).length = (keys c).length := by rw [cK_len]; unfold keys; rw [List.length_map]
  have w := walk_keys (d := d) (o := od) (kvs := cK c)
  rw [hl] at w
  refine dc_names (ns := keys c) (fun n => f (co c n)) w (by have := few.len; rw [← hl, cK_len]; omega) few.nd (fun H1 e => e _ _ upd_same) ?_ hj hw ?_ ?_
  · rintro i x H1 H2 hi e ⟨rfl, k', z, hkz, rfl⟩
    obtain ⟨⟨n, y⟩, hcy⟩ : ∃ p : Str × Int, c[i]? = some p := ⟨c[i]'(by rw [← hl, cK_len] at hi; exact hi), List.getElem?_eq_getElem _⟩
    rw [get_cK hcy] at hkz
    cases hkz
    exact ⟨rfl, n, by unfold keys; rw [List.getElem?_map, hcy]; rfl, rfl⟩
  · intro i nm H1 R hnm e k
    exact hv nm H1 od R (List.mem_of_getElem? hnm) (e _ _ upd_same) (out H1 e) k
  · intro p H1 hp e hp1
    have hx := e _ _ upd_same
    have hpd : p ≠ d := fun z => by rw [z, upd_same] at hp; cases hp
    rw [mapc_keys few] at hp1
    exact ⟨hx, hq p _ (by rw [upd_ne hpd] at hp; exact hp) (e.unlock hd) (by rw [upd_ne hpd]; exact hp1)⟩
section
variable {P : Program} {w : World} {K : PySem.W.Frag} {mg : Str → Option Value} {base : Heap}
def spTold : Sp := fun vs H Q _ => ∃ v c k, vs = [v] ∧ TermAt H v c k ∧ Few c ∧ ∀ u H', NewT H H' u (canon c) k → Q u H'
abbrev s_told_term : Stmt := top 18
theorem sc_told_term : FnScope ["term", "name"] ["term"] (defScope s_told_term) := ⟨rfl, rfl, rfl, by decide +kernel, rfl, by decide +kernel, by decide +kernel⟩
theorem ok_told_term (T : Txt K mg) (a : At K mg "told_term" s_told_term ["term"]) (Onames_of : Ok P w K mg base CX0 1 "names_of" ["term"] spNamesOf) : Ok P w K mg base CX0 2 "told_term" ["term"] spTold := a.ok fun f fd F => by
  refine F.ok sc_told_term (fun vs H Q E h => ?_) (fun cdv A outer s H vs Q E hr h => ?_)
  · obtain ⟨v, c, k, rfl, _⟩ := h; rfl
  · obtain ⟨v, c, k, rfl, ⟨p, d, rfl, hp, hd⟩, few, q⟩ := h
    refine ⟨_, (pss_one (ps_ret (pe_tup (pa_cons (pe_dc (own := [("name", 1)]) (g := gName 1) (tt := tYes) rfl sc_told_term.nd (pi_list (pe_callO Onames_of (hr.mono (by decide)) rfl (pa_cons (pv 0) pa_nil))) (blkOk_by (N := ["term", "name"]) (sc := defScope s_told_term) (by decide +kernel)) (fun _ _ _ _ _ => (pg_name (i := 1) sc_told_term.nd rfl (Or.inl rfl))) (fun _ _ _ _ _ => pts_nil) (fun _ _ _ _ _ => (pv 1)) (fun _ _ _ _ _ => (pe_dget (hu_of hr) (pe_ix (ix_qK (K := K) rfl) (pv 0) pe_int (fun _ _ => rfl)) (pv 1) (fun _ _ => rfl)))) (pa_cons (pe_ix (ix_qK (K := K) rfl) (pv 0) pe_int (fun _ _ => rfl)) pa_nil))))), ?_⟩
    dsimp only [tNext, tRet, tTup, tCons, tNil]
    refine tDc_of ?_
    refine ⟨_, rfl, _, c, k, rfl, ⟨p, d, rfl, hp, hd⟩, few, fun l H1 hl e1 hl1 => ?_⟩
    refine ⟨l, rfl, ⟨_, SqL.of hl1⟩, ?_⟩
    have hlen : ((nz c).map V.str).length = (nz c).length := List.length_map _
    have wk := walk_list (K := K) (a := l) (xs := (nz c).map V.str)
    rw [hlen] at wk
    refine dc_names (ns := nz c) (co c) wk (by have := nz_len few; omega) (nz_nodup few.nd) (fun H2 e => SqL.of (e _ _ hl1)) ?_ (by simp [wipe, L2.start]) (fun _ => rfl) ?_ ?_
    · rintro i x H2 H3 hi e ⟨rfl, hx⟩
      rw [List.getElem?_map] at hx
      obtain ⟨n, hn, rfl⟩ := Option.map_eq_some_iff.mp hx
      exact ⟨rfl, n, hn, rfl⟩
    · intro i nm H2 R hnm e kk
      have e2 := e1.trans e
      have hm : nm ∈ keys c := Decidable.byContradiction fun z => (mem_nz few.nd).mp (List.mem_of_getElem? hnm) (co_notin z)
      exact ⟨_, rfl, p, _, 0, _, rfl, rfl, SqQ.or (hp.imp (e2 _ _) (e2 _ _)), at0, _, rfl, d, _, rfl, .inl ⟨cK c, .inr nm, .inl (e2 _ _ hd), rfl, (valV_co hm few.nd).symm⟩, kk _ (Ex.refl _)⟩
    · intro D H2 hD e hD2
      have e2 := e1.trans e
      refine ⟨_, rfl, p, _, 1, _, rfl, rfl, SqQ.or (hp.imp (e2 _ _) (e2 _ _)), at1, by show 2 ≤ sizeLine; decide, fun t ht => ?_⟩
      refine q _ _ ⟨t, D, rfl, e2.free ht, e1.free hD, upd_same, ?_, e2.mut (e2.free ht)⟩
      rw [upd_ne (ne_of_none hD2 ht)]
      exact hD2
def spScaled : Sp := fun vs H Q _ => ∃ v c k m, vs = [v, .int m] ∧ TermAt H v c k ∧ Few c ∧ (-(2 ^ 64) < m ∧ m < 2 ^ 64) ∧ ∀ u H', NewT H H' u (canon (mapc (fun i => m * i) c)) (m * k) → Q u H'
abbrev s_scaled : Stmt := top 19
theorem sc_scaled : FnScope ["term", "number", "name"] ["term", "number"] (defScope s_scaled) := ⟨rfl, rfl, rfl, by decide +kernel, rfl, by decide +kernel, by decide +kernel⟩
theorem ok_scaled (T : Txt K mg) (a : At K mg "scaled" s_scaled ["term", "number"]) (Otold_term : Ok P w K mg base CX0 2 "told_term" ["term"] spTold) : Ok P w K mg base CX0 3 "scaled" ["term", "number"] spScaled := a.ok fun f fd F => by
  refine F.ok sc_scaled (fun vs H Q E h => ?_) (fun cdv A outer s H vs Q E hr h => ?_)
  · obtain ⟨v, c, k, m, rfl, _⟩ := h; rfl
  · obtain ⟨v, c, k, m, rfl, ⟨p, d, rfl, hp, hd⟩, few, hm, q⟩ := h
    refine ⟨_, (pss_one (ps_ret (pe_callO Otold_term (hr.mono (by decide)) rfl (pa_cons (pe_tup (pa_cons (pe_lock (pe_dc (own := [("name", 2)]) (g := gName 2) (tt := tYes) rfl sc_scaled.nd (pi_keys (pe_ix (ix_qK (K := K) rfl) (pv 0) pe_int (fun _ _ => rfl))) (blkOk_by (N := ["term", "number", "name"]) (sc := defScope s_scaled) (by decide +kernel)) (fun _ _ _ _ _ => (pg_name (i := 2) sc_scaled.nd rfl (Or.inl rfl))) (fun _ _ _ _ _ => pts_nil) (fun _ _ _ _ _ => (pv 2)) (fun _ _ _ _ _ => (pe_op op_mul (pv 1) (pe_dget (hu_of hr) (pe_ix (ix_qK (K := K) rfl) (pv 0) pe_int (fun _ _ => rfl)) (pv 2) (fun _ _ => rfl)))))) (pa_cons (pe_op op_mul (pv 1) (pe_ix (ix_qK (K := K) rfl) (pv 0) pe_int (fun _ _ => rfl))) pa_nil))) pa_nil)))), ?_⟩
    have pd : p ≠ d := fun z => by rw [z, hd] at hp; rcases hp with hp | hp <;> cases hp
    dsimp only [tNext, tRet, tC0, tTup, tCons, tNil]
    refine dc_lock (fun i => m * i) hd few (fun H2 R o r => ⟨_, rfl, p, _, 0, _, rfl, rfl, SqQ.or (hp.imp (o _ _ pd) (o _ _ pd)), at0, r⟩) (by simp [wipe, L2.start]) (fun _ => rfl) ?_ ?_
    · intro nm H2 od R hnm h2 o kk
      exact ⟨_, rfl, _, rfl, p, _, 0, _, rfl, rfl, SqQ.or (hp.imp (o _ _ pd) (o _ _ pd)), at0, _, rfl, d, _, rfl, .inl ⟨cK c, .inr nm, .inr ⟨od, h2⟩, rfl, (valV_co hnm few.nd).symm⟩, _, _, rfl, rfl, .inl hm, kk _ (Ex.refl _)⟩
    · intro D H1 hD e hD1
      refine ⟨_, rfl, _, rfl, p, _, 1, _, rfl, rfl, SqQ.or (hp.imp (e _ _) (e _ _)), at1, _, _, rfl, rfl, .inl hm, by show 2 ≤ sizeLine; decide, fun t ht => ?_⟩
      refine ⟨_, _, _, rfl, ⟨t, D, rfl, .inr upd_same, by rw [upd_ne (ne_of_none hD1 ht)]; exact hD1⟩, few.mapc _, fun u H' N => ?_⟩
      obtain ⟨t2, d2, rfl, n1, n2, h1, h2, e2⟩ := N
      have ee : Ex H (upd H1 t (.tup [.ref D, .int (m * k)])) := e.mut (e.free ht)
      exact q _ _ ⟨t2, d2, rfl, ee.free n1, ee.free n2, h1, h2, ee.trans e2⟩
end
end K8

set_option Elab.async false
set_option linter.all false
set_option maxRecDepth 100000
set_option maxHeartbeats 4000000
namespace K8
open PySem PySem.Spec PyProof.Rows L2 M8
section
variable {P : Program} {w : World} {K : PySem.W.Frag} {mg : Str → Option Value} {base : Heap}
def spDivided : Sp := fun vs H Q _ => ∃ v c k g, vs = [v, .int g] ∧ TermAt H v c k ∧ Few c ∧ (0 < g ∧ g < 1073741824) ∧ ∀ u H', NewT H H' u (canon (mapc (fun i => i / g) c)) (k / g) → Q u H'
abbrev s__divided : Stmt := top 25
theorem sc__divided : FnScope ["term", "number", "name"] ["term", "number"] (defScope s__divided) := ⟨rfl, rfl, rfl, by decide +kernel, rfl, by decide +kernel, by decide +kernel⟩
theorem ok__divided (T : Txt K mg) (a : At K mg "_divided" s__divided ["term", "number"]) (Otold_term : Ok P w K mg base CX0 2 "told_term" ["term"] spTold) : Ok P w K mg base CX0 3 "_divided" ["term", "number"] spDivided := a.ok fun f fd F => by
  refine F.ok sc__divided (fun vs H Q E h => ?_) (fun cdv A outer s H vs Q E hr h => ?_)
  · obtain ⟨v, c, k, m, rfl, _⟩ := h; rfl
  · obtain ⟨v, c, k, m, rfl, ⟨p, d, rfl, hp, hd⟩, few, hm, q⟩ := h
    refine ⟨_, (pss_one (ps_ret (pe_callO Otold_term (hr.mono (by decide)) rfl (pa_cons (pe_tup (pa_cons (pe_lock (pe_dc (own := [("name", 2)]) (g := gName 2) (tt := tYes) rfl sc__divided.nd (pi_keys (pe_ix (ix_qK (K := K) rfl) (pv 0) pe_int (fun _ _ => rfl))) (blkOk_by (N := ["term", "number", "name"]) (sc := defScope s__divided) (by decide +kernel)) (fun _ _ _ _ _ => (pg_name (i := 2) sc__divided.nd rfl (Or.inl rfl))) (fun _ _ _ _ _ => pts_nil) (fun _ _ _ _ _ => (pv 2)) (fun _ _ _ _ _ => (pe_op op_fdiv (pe_dget (hu_of hr) (pe_ix (ix_qK (K := K) rfl) (pv 0) pe_int (fun _ _ => rfl)) (pv 2) (fun _ _ => rfl)) (pv 1))))) (pa_cons (pe_op op_fdiv (pe_ix (ix_qK (K := K) rfl) (pv 0) pe_int (fun _ _ => rfl)) (pv 1)) pa_nil))) pa_nil)))), ?_⟩
    have pd : p ≠ d := fun z => by rw [z, hd] at hp; rcases hp with hp | hp <;> cases hp
    dsimp only [tNext, tRet, tC0, tTup, tCons, tNil]
    refine dc_lock (fun i => i / m) hd few (fun H2 R o r => ⟨_, rfl, p, _, 0, _, rfl, rfl, SqQ.or (hp.imp (o _ _ pd) (o _ _ pd)), at0, r⟩) (by simp [wipe, L2.start]) (fun _ => rfl) ?_ ?_
    · intro nm H2 od R hnm h2 o kk
      exact ⟨_, rfl, p, _, 0, _, rfl, rfl, SqQ.or (hp.imp (o _ _ pd) (o _ _ pd)), at0, _, rfl, d, _, rfl, .inl ⟨cK c, .inr nm, .inr ⟨od, h2⟩, rfl, (valV_co hnm few.nd).symm⟩, _, rfl, _, _, rfl, rfl, hm, kk _ (Ex.refl _)⟩
    · intro D H1 hD e hD1
      refine ⟨_, rfl, p, _, 1, _, rfl, rfl, SqQ.or (hp.imp (e _ _) (e _ _)), at1, _, rfl, _, _, rfl, rfl, hm, by show 2 ≤ sizeLine; decide, fun t ht => ?_⟩
      refine ⟨_, _, _, rfl, ⟨t, D, rfl, .inr upd_same, by rw [upd_ne (ne_of_none hD1 ht)]; exact hD1⟩, few.mapc _, fun u H' N => ?_⟩
      obtain ⟨t2, d2, rfl, n1, n2, h1, h2, e2⟩ := N
      have ee : Ex H (upd H1 t (.tup [.ref D, .int (k / m)])) := e.mut (e.free ht)
      exact q _ _ ⟨t2, d2, rfl, ee.free n1, ee.free n2, h1, h2, ee.trans e2⟩
def spRests : Sp := fun vs H Q _ => ∃ v c k g, vs = [v, .int g] ∧ TermAt H v c k ∧ Few c ∧ 0 < g ∧ ∀ u H', NewT H H' u (canon (mapc (fun i => i % g) c)) (k % g) → Q u H'
abbrev s__rests : Stmt := top 26
theorem sc__rests : FnScope ["term", "number", "name"] ["term", "number"] (defScope s__rests) := ⟨rfl, rfl, rfl, by decide +kernel, rfl, by decide +kernel, by decide +kernel⟩
theorem ok__rests (T : Txt K mg) (a : At K mg "_rests" s__rests ["term", "number"]) (Otold_term : Ok P w K mg base CX0 2 "told_term" ["term"] spTold) : Ok P w K mg base CX0 3 "_rests" ["term", "number"] spRests := a.ok fun f fd F => by
  refine F.ok sc__rests (fun vs H Q E h => ?_) (fun cdv A outer s H vs Q E hr h => ?_)
  · obtain ⟨v, c, k, m, rfl, _⟩ := h; rfl
  · obtain ⟨v, c, k, m, rfl, ⟨p, d, rfl, hp, hd⟩, few, hm, q⟩ := h
    refine ⟨_, (pss_one (ps_ret (pe_callO Otold_term (hr.mono (by decide)) rfl (pa_cons (pe_tup (pa_cons (pe_lock (pe_dc (own := [("name", 2)]) (g := gName 2) (tt := tYes) rfl sc__rests.nd (pi_keys (pe_ix (ix_qK (K := K) rfl) (pv 0) pe_int (fun _ _ => rfl))) (blkOk_by (N := ["term", "number", "name"]) (sc := defScope s__rests) (by decide +kernel)) (fun _ _ _ _ _ => (pg_name (i := 2) sc__rests.nd rfl (Or.inl rfl))) (fun _ _ _ _ _ => pts_nil) (fun _ _ _ _ _ => (pv 2)) (fun _ _ _ _ _ => (pe_op op_mod (pe_dget (hu_of hr) (pe_ix (ix_qK (K := K) rfl) (pv 0) pe_int (fun _ _ => rfl)) (pv 2) (fun _ _ => rfl)) (pv 1))))) (pa_cons (pe_op op_mod (pe_ix (ix_qK (K := K) rfl) (pv 0) pe_int (fun _ _ => rfl)) (pv 1)) pa_nil))) pa_nil)))), ?_⟩
    have pd : p ≠ d := fun z => by rw [z, hd] at hp; rcases hp with hp | hp <;> cases hp
    dsimp only [tNext, tRet, tC0, tTup, tCons, tNil]
    refine dc_lock (fun i => i % m) hd few (fun H2 R o r => ⟨_, rfl, p, _, 0, _, rfl, rfl, SqQ.or (hp.imp (o _ _ pd) (o _ _ pd)), at0, r⟩) (by simp [wipe, L2.start]) (fun _ => rfl) ?_ ?_
    · intro nm H2 od R hnm h2 o kk
      exact ⟨_, rfl, p, _, 0, _, rfl, rfl, SqQ.or (hp.imp (o _ _ pd) (o _ _ pd)), at0, _, rfl, d, _, rfl, .inl ⟨cK c, .inr nm, .inr ⟨od, h2⟩, rfl, (valV_co hnm few.nd).symm⟩, _, rfl, _, _, rfl, rfl, hm, kk _ (Ex.refl _)⟩
    · intro D H1 hD e hD1
      refine ⟨_, rfl, p, _, 1, _, rfl, rfl, SqQ.or (hp.imp (e _ _) (e _ _)), at1, _, rfl, _, _, rfl, rfl, hm, by show 2 ≤ sizeLine; decide, fun t ht => ?_⟩
      refine ⟨_, _, _, rfl, ⟨t, D, rfl, .inr upd_same, by rw [upd_ne (ne_of_none hD1 ht)]; exact hD1⟩, few.mapc _, fun u H' N => ?_⟩
      obtain ⟨t2, d2, rfl, n1, n2, h1, h2, e2⟩ := N
      have ee : Ex H (upd H1 t (.tup [.ref D, .int (k % m)])) := e.mut (e.free ht)
      exact q _ _ ⟨t2, d2, rfl, ee.free n1, ee.free n2, h1, h2, ee.trans e2⟩
def spTurned : Sp := fun vs H Q _ => ∃ v c k, vs = [v] ∧ TermAt H v c k ∧ Few c ∧ ∀ u H', NewT H H' u (canon (mapc (fun i => -1 * i) c)) (-1 * k) → Q u H'
abbrev s_turned : Stmt := top 20
theorem sc_turned : FnScope ["term"] ["term"] (defScope s_turned) := ⟨rfl, rfl, rfl, by decide +kernel, rfl, by decide +kernel, by decide +kernel⟩
theorem ok_turned (T : Txt K mg) (a : At K mg "turned" s_turned ["term"]) (Oscaled : Ok P w K mg base CX0 3 "scaled" ["term", "number"] spScaled) : Ok P w K mg base CX0 4 "turned" ["term"] spTurned := a.ok fun f fd F => by
  refine F.ok sc_turned (fun vs H Q E h => ?_) (fun cdv A outer s H vs Q E hr h => ?_)
  · obtain ⟨v, c, k, rfl, _⟩ := h; rfl
  · obtain ⟨v, c, k, rfl, ht, few, q⟩ := h
    refine ⟨_, (pss_one (ps_ret (pe_callO Oscaled (hr.mono (by decide)) rfl (pa_cons (pv 0) (pa_cons (pe_un un_neg pe_int) pa_nil))))), ?_⟩
    exact ⟨_, rfl, _, rfl, _, _, _, _, rfl, ht, few, ⟨by decide, by decide⟩, q⟩
def spDivisor : Sp := fun vs H Q _ => ∃ v c k g0, vs = [v, .int g0] ∧ TermAt H v c k ∧ Few c ∧ ∀ H', Ex H H' → Q (.int (dvs g0 c)) H'
abbrev s__divisor_of : Stmt := top 24
theorem sc__divisor_of : FnScope ["term", "number", "divisor", "name"] ["term", "number"] (defScope s__divisor_of) := ⟨rfl, rfl, rfl, by decide +kernel, rfl, by decide +kernel, by decide +kernel⟩
theorem ok__divisor_of (T : Txt K mg) (a : At K mg "_divisor_of" s__divisor_of ["term", "number"]) (Onames_of : Ok P w K mg base CX0 1 "names_of" ["term"] spNamesOf) : Ok P w K mg base CX0 2 "_divisor_of" ["term", "number"] spDivisor := a.ok fun f fd F => by
  refine F.ok sc__divisor_of (fun vs H Q E h => ?_) (fun cdv A outer s H vs Q E hr h => ?_)
  · obtain ⟨v, c, k, m, rfl, _⟩ := h; rfl
  · obtain ⟨v, c, k, m, rfl, ⟨p, d, rfl, hp, hd⟩, few, q⟩ := h
    refine ⟨_, (pss_cons (ps_set (i := 2) sc__divisor_of.nd rfl (Or.inl rfl) (pv 1))
      (pss_cons (ps_for PassesOwn.never rfl (pi_list (pe_callO Onames_of (hr.mono (by decide)) rfl (pa_cons (pv 0) pa_nil))) (pg_name (i := 3) sc__divisor_of.nd rfl (Or.inl rfl)) (pss_one (ps_set (i := 2) sc__divisor_of.nd rfl (Or.inl rfl) (pe_callBfun cr_gcd rfl T.g_gcd (pa_cons (pv 2) (pa_cons (pe_dget (hu_of hr) (pe_ix (ix_qK (K := K) rfl) (pv 0) pe_int (fun _ _ => rfl)) (pv 3) (fun _ _ => rfl)) pa_nil))))))
      (pss_one (ps_ret (pv 2))))), ?_⟩
    refine ⟨_, rfl, ?_⟩
    dsimp only [tSeq, gName]
    refine tFor_of ?_
    refine ⟨_, rfl, _, c, k, rfl, ⟨p, d, rfl, hp, hd⟩, few, fun l H1 hl e1 hl1 => ⟨l, rfl, ⟨_, SqL.of hl1⟩, ?_⟩⟩
    have hlen : ((nz c).map V.str).length = (nz c).length := List.length_map _
    have wk := walk_list (K := K) (a := l) (xs := (nz c).map V.str)
    rw [hlen] at wk
    refine for_itB wk (fun i σ H' => ∃ x, σ = [some (.ref p), some (.int m), some (.int (((nz c).take i).foldl (fun g n => gcdI g (co c n)) m)), x] ∧ Ex H1 H') ⟨_, rfl, Ex.refl _⟩ (fun i σ H' _ ⟨_, _, e⟩ => SqL.of (e _ _ hl1)) ?_ ?_
    · rintro i x σ H2 H3 hi ⟨y, rfl, e⟩ ⟨rfl, hx⟩
      rw [List.getElem?_map] at hx
      obtain ⟨n, hn, rfl⟩ := Option.map_eq_some_iff.mp hx
      have e2 := e1.trans e
      have hm : n ∈ keys c := Decidable.byContradiction fun z => (mem_nz few.nd).mp (List.mem_of_getElem? hn) (co_notin z)
      refine ⟨_, rfl, _, rfl, p, _, 0, _, rfl, rfl, SqQ.or (hp.imp (e2 _ _) (e2 _ _)), at0, _, rfl, d, _, rfl, .inl ⟨cK c, .inr n, .inl (e2 _ _ hd), rfl, (valV_co hm few.nd).symm⟩, _, _, rfl, ?_⟩
      refine ⟨some (.str n), ?_, e⟩
      rw [List.take_add_one, hn, List.foldl_append]; rfl
    · rintro σ H2 ⟨y, rfl, e⟩
      rw [List.take_length]
      exact ⟨_, rfl, q H2 (e1.trans e)⟩
end
end K8

set_option Elab.async false
set_option linter.all false
set_option maxRecDepth 100000
set_option maxHeartbeats 4000000
namespace K8
open PySem PySem.Spec PyProof.Rows L2 M8
/-! a test told, new throughout; a truth -/
def NewTst (H H' : Hp) (u : V) : Tst → Prop
  | .row c k => ∃ q t d, u = .ref q ∧ H q = none ∧ H t = none ∧ H d = none ∧ H' q = some (.tup [.str "row", .ref t]) ∧ H' t = some (.tup [.ref d, .int k]) ∧ H' d = some (.dK (cK c)) ∧ Ex H H'
  | .same c k => ∃ q t d, u = .ref q ∧ H q = none ∧ H t = none ∧ H d = none ∧ H' q = some (.tup [.str "same", .ref t]) ∧ H' t = some (.tup [.ref d, .int k]) ∧ H' d = some (.dK (cK c)) ∧ Ex H H'
  | .div m c k => ∃ q t d, u = .ref q ∧ H q = none ∧ H t = none ∧ H d = none ∧ H' q = some (.tup [.str "by", .int m, .ref t]) ∧ H' t = some (.tup [.ref d, .int k]) ∧ H' d = some (.dK (cK c)) ∧ Ex H H'
def NewR (H H' : Hp) (u : V) : Res → Prop
  | .inl b => u = .bl b ∧ Ex H H'
  | .inr t => NewTst H H' u t
theorem NewT.pair {H H1 : Hp} {v : V} {c : Coef} {k : Int} (n : NewT H H1 v c k) {q : Addr} (hq : H1 q = none) (pre : List V) : ∃ t d, v = .ref t ∧ H q = none ∧ H t = none ∧ H d = none ∧ upd H1 q (.tup (pre ++ [v])) q = some (.tup (pre ++ [.ref t])) ∧
    upd H1 q (.tup (pre ++ [v])) t = some (.tup [.ref d, .int k]) ∧ upd H1 q (.tup (pre ++ [v])) d = some (.dK (cK c)) ∧ Ex H (upd H1 q (.tup (pre ++ [v]))) := by
  obtain ⟨t, d, rfl, ht, hd, h1, h2, e⟩ := n
  refine ⟨t, d, rfl, e.free hq, ht, hd, upd_same, ?_, ?_, e.mut (e.free hq)⟩
  · rw [upd_ne (ne_of_none h1 hq)]; exact h1
  · rw [upd_ne (ne_of_none h2 hq)]; exact h2
/-- coefficients within a thousand million -/
def Lim (c : Coef) : Prop := ∀ p ∈ c, p.2.natAbs ≤ 1000000000
theorem dvs_lim {c : Coef} (few : Few c) (l : Lim c) (h : dvs 0 c ≠ 0) : 0 < dvs 0 c ∧ dvs 0 c < 1073741824 := by
  refine ⟨dvs_pos few.nd h, ?_⟩
  cases e : canon c with
  | nil => exact absurd ((dvs_zero few.nd).mpr e) h
  | cons p r =>
    have hp : p ∈ canon c := by rw [e]; simp
    have := dvs_le (g0 := 0) (b := 1000000000) few.nd hp (by have := l p (canon_sub few.nd hp); omega)
    omega
theorem dec_int0 {i j : Int} : decide (V.int i = V.int j) = decide (i = j) := decide_eq_decide.mpr ⟨fun h => V.int.inj h, fun h => by rw [h]⟩
theorem dec_len0 {n : Nat} : decide (V.int (n : Int) = V.int 0) = decide (n = 0) := decide_eq_decide.mpr ⟨fun h => by have := V.int.inj h; omega, fun h => by rw [h]; rfl⟩
section
variable {P : Program} {w : World} {K : PySem.W.Frag} {mg : Str → Option Value} {base : Heap}
def spTRow : Sp := fun vs H Q _ => ∃ v c k, vs = [v] ∧ TermAt H v c k ∧ Few c ∧ Lim c ∧ ∀ u H', NewR H H' u (pRow c k) → Q u H'
abbrev s__tight_row : Stmt := top 27
theorem sc__tight_row : FnScope ["term", "divisor"] ["term"] (defScope s__tight_row) := ⟨rfl, rfl, rfl, by decide +kernel, rfl, by decide +kernel, by decide +kernel⟩
theorem ok__tight_row (T : Txt K mg) (a : At K mg "_tight_row" s__tight_row ["term"]) (O_divisor_of : Ok P w K mg base CX0 2 "_divisor_of" ["term", "number"] spDivisor) (O_divided : Ok P w K mg base CX0 3 "_divided" ["term", "number"] spDivided) : Ok P w K mg base CX0 4 "_tight_row" ["term"] spTRow := a.ok fun f fd F => by
  refine F.ok sc__tight_row (fun vs H Q E h => ?_) (fun cdv A outer s H vs Q E hr h => ?_)
  · obtain ⟨v, c, k, rfl, _⟩ := h; rfl
  · obtain ⟨v, c, k, rfl, ht, few, lim, q⟩ := h
    refine ⟨_, (pss_cons (ps_set (i := 1) sc__tight_row.nd rfl (Or.inl rfl) (pe_callO O_divisor_of (hr.mono (by decide)) rfl (pa_cons (pv 0) (pa_cons pe_int pa_nil))))
      (pss_cons (ps_if (pt_cmpR op_eq (pv 1) pe_int (nomark _)) (pss_one (ps_ret (pe_cmpR op_ge (pe_ix (ix_qK (K := K) rfl) (pv 0) pe_int (fun _ _ => rfl)) pe_int (nomark _)))) pss_nil)
      (pss_one (ps_ret (pe_tup (pa_cons pe_str (pa_cons (pe_callO O_divided (hr.mono (by decide)) rfl (pa_cons (pv 0) (pa_cons (pv 1) pa_nil))) pa_nil))))))), ?_⟩
    refine ⟨_, rfl, _, _, _, _, rfl, ht, few, fun H1 e1 => ?_⟩
    refine ⟨_, rfl, rfl, _, rfl, ?_⟩
    rw [dec_int0]
    obtain ⟨p, d, rfl, hp, hd⟩ := ht
    have q' := q
    unfold pRow at q'
    by_cases hz : dvs 0 c = 0
    · rw [decide_eq_true hz]
      rw [if_pos hz] at q'
      exact iteT ⟨_, rfl, p, _, 1, _, rfl, rfl, SqQ.or (hp.imp (e1 _ _) (e1 _ _)), at1, _, _, rfl, rfl, q' _ _ ⟨rfl, e1⟩⟩
    · rw [decide_eq_false hz]
      rw [if_neg hz] at q'
      refine iteF ?_
      refine ⟨_, rfl, _, rfl, _, _, _, _, rfl, ⟨p, d, rfl, hp.imp (e1 _ _) (e1 _ _), e1 _ _ hd⟩, few, dvs_lim few lim hz, fun u H2 N => ⟨by show 2 ≤ sizeLine; decide, fun t ht => ?_⟩⟩
      obtain ⟨t', d', rfl, z1, z2, z3, z4, z5, z6, z7⟩ := N.pair ht [V.str "row"]
      exact q' _ _ ⟨t, t', d', rfl, e1.free z1, e1.free z2, e1.free z3, z4, z5, z6, e1.trans z7⟩
def spTSame : Sp := fun vs H Q _ => ∃ v c k, vs = [v] ∧ TermAt H v c k ∧ Few c ∧ Lim c ∧ ∀ u H', NewR H H' u (pSame c k) → Q u H'
abbrev s__tight_same : Stmt := top 28
theorem sc__tight_same : FnScope ["term", "divisor"] ["term"] (defScope s__tight_same) := ⟨rfl, rfl, rfl, by decide +kernel, rfl, by decide +kernel, by decide +kernel⟩
theorem ok__tight_same (T : Txt K mg) (a : At K mg "_tight_same" s__tight_same ["term"]) (O_divisor_of : Ok P w K mg base CX0 2 "_divisor_of" ["term", "number"] spDivisor) (O_divided : Ok P w K mg base CX0 3 "_divided" ["term", "number"] spDivided) (Onames_of : Ok P w K mg base CX0 1 "names_of" ["term"] spNamesOf) (Oturned : Ok P w K mg base CX0 4 "turned" ["term"] spTurned) : Ok P w K mg base CX0 5 "_tight_same" ["term"] spTSame := a.ok fun f fd F => by
  refine F.ok sc__tight_same (fun vs H Q E h => ?_) (fun cdv A outer s H vs Q E hr h => ?_)
  · obtain ⟨v, c, k, rfl, _⟩ := h; rfl
  · obtain ⟨v, c, k, rfl, ht, few, lim, q⟩ := h
    refine ⟨_, (pss_cons (ps_set (i := 1) sc__tight_same.nd rfl (Or.inl rfl) (pe_callO O_divisor_of (hr.mono (by decide)) rfl (pa_cons (pv 0) (pa_cons pe_int pa_nil))))
      (pss_cons (ps_if (pt_cmpR op_eq (pv 1) pe_int (nomark _)) (pss_one (ps_ret (pe_cmpR op_eq (pe_ix (ix_qK (K := K) rfl) (pv 0) pe_int (fun _ _ => rfl)) pe_int (nomark _)))) pss_nil)
      (pss_cons (ps_if (pt_cmpR op_ne (pe_op op_mod (pe_ix (ix_qK (K := K) rfl) (pv 0) pe_int (fun _ _ => rfl)) (pv 1)) pe_int (nomark _)) (pss_one (ps_ret pe_bl)) pss_nil)
      (pss_cons (ps_if (pt_cmpR op_lt (pe_dget (hu_of hr) (pe_ix (ix_qK (K := K) rfl) (pv 0) pe_int (fun _ _ => rfl)) (pe_ix (ix_qK (K := K) rfl) (pe_callO Onames_of (hr.mono (by decide)) rfl (pa_cons (pv 0) pa_nil)) pe_int (fun _ _ => rfl)) (fun _ _ => rfl)) pe_int (nomark _)) (pss_one (ps_ret (pe_tup (pa_cons pe_str (pa_cons (pe_callO Oturned (hr.mono (by decide)) rfl (pa_cons (pe_callO O_divided (hr.mono (by decide)) rfl (pa_cons (pv 0) (pa_cons (pv 1) pa_nil))) pa_nil)) pa_nil))))) pss_nil)
      (pss_one (ps_ret (pe_tup (pa_cons pe_str (pa_cons (pe_callO O_divided (hr.mono (by decide)) rfl (pa_cons (pv 0) (pa_cons (pv 1) pa_nil))) pa_nil))))))))), ?_⟩
    refine ⟨_, rfl, _, _, _, _, rfl, ht, few, fun H1 e1 => ?_⟩
    refine ⟨_, rfl, rfl, _, rfl, ?_⟩
    rw [dec_int0]
    obtain ⟨p, d, rfl, hp, hd⟩ := ht
    have q' := q
    unfold pSame at q'
    have hp1 := hp.imp (e1 _ _) (e1 _ _)
    by_cases hz : dvs 0 c = 0
    · rw [decide_eq_true hz]
      rw [if_pos hz] at q'
      refine iteT ⟨_, rfl, p, _, 1, _, rfl, rfl, SqQ.or hp1, at1, rfl, ?_⟩
      rw [dec_int0]
      exact q' _ _ ⟨rfl, e1⟩
    · rw [decide_eq_false hz]
      rw [if_neg hz] at q'
      have lm := dvs_lim few lim hz
      refine iteF ?_
      refine ⟨_, rfl, p, _, 1, _, rfl, rfl, SqQ.or hp1, at1, _, rfl, _, _, rfl, rfl, lm.1, rfl, _, rfl, ?_⟩
      rw [dec_int0]
      by_cases hk : k % dvs 0 c = 0
      · rw [decide_eq_true hk]
        rw [if_neg (show ¬ (k % dvs 0 c ≠ 0) from fun z => z hk)] at q'
        refine iteF ?_
        have hne : nz c ≠ [] := fun z => hz ((dvs_zero few.nd).mpr (by unfold M8.canon; rw [z]; rfl))
        obtain ⟨n0, r0, hn0⟩ : ∃ n0 r0, nz c = n0 :: r0 := by
          cases e : nz c with
          | nil => exact absurd e hne
          | cons n r => exact ⟨n, r, rfl⟩
        refine ⟨_, rfl, p, _, 0, _, rfl, rfl, SqQ.or hp1, at0, _, rfl, _, _, _, rfl, ⟨p, d, rfl, hp1, e1 _ _ hd⟩, few, fun l H2 hl e2 hl2 => ?_⟩
        rw [hn0] at hl2
        have hm : n0 ∈ keys c := Decidable.byContradiction fun z => (mem_nz few.nd (n := n0)).mp (by rw [hn0]; simp) (co_notin z)
        refine ⟨l, _, 0, _, rfl, rfl, SqQ.l hl2, at0, d, _, rfl, .inl ⟨cK c, .inr n0, .inl (e2 _ _ (e1 _ _ hd)), rfl, (valV_co hm few.nd).symm⟩, _, _, rfl, rfl, _, rfl, ?_⟩
        have ehd : (nz c).headD "" = n0 := by rw [hn0]; rfl
        rw [ehd] at q'
        have e12 := e1.trans e2
        have hp2 := hp.imp (e12 _ _) (e12 _ _)
        by_cases hc : co c n0 < 0
        · rw [decide_eq_true hc]
          rw [if_pos hc] at q'
          refine iteT ?_
          refine ⟨_, rfl, _, rfl, _, _, _, _, rfl, ⟨p, d, rfl, hp2, e12 _ _ hd⟩, few, lm, fun u H3 N => ?_⟩
          refine ⟨_, _, _, rfl, N.at, (few.mapc _).canon, fun u2 H4 N2 => ⟨by show 2 ≤ sizeLine; decide, fun t ht => ?_⟩⟩
          obtain ⟨t', d', rfl, z1, z2, z3, z4, z5, z6, z7⟩ := N2.pair ht [V.str "same"]
          have e3 := e12.trans N.ex
          exact q' _ _ ⟨t, t', d', rfl, e3.free z1, e3.free z2, e3.free z3, z4, z5, z6, e3.trans z7⟩
        · rw [decide_eq_false hc]
          rw [if_neg hc] at q'
          refine iteF ?_
          refine ⟨_, rfl, _, rfl, _, _, _, _, rfl, ⟨p, d, rfl, hp2, e12 _ _ hd⟩, few, lm, fun u H3 N => ⟨by show 2 ≤ sizeLine; decide, fun t ht => ?_⟩⟩
          obtain ⟨t', d', rfl, z1, z2, z3, z4, z5, z6, z7⟩ := N.pair ht [V.str "same"]
          exact q' _ _ ⟨t, t', d', rfl, e12.free z1, e12.free z2, e12.free z3, z4, z5, z6, e12.trans z7⟩
      · rw [decide_eq_false hk]
        rw [if_pos (show k % dvs 0 c ≠ 0 from hk)] at q'
        exact iteT (q' _ _ ⟨rfl, e1⟩)
def spTBy : Sp := fun vs H Q _ => ∃ v m c k, vs = [.int m, v] ∧ TermAt H v c k ∧ Few c ∧ 0 < m ∧ m ≤ 1000 ∧ ∀ u H', NewR H H' u (pBy m c k) → Q u H'
abbrev s__tight_by : Stmt := top 29
theorem sc__tight_by : FnScope ["many", "term", "rests", "divisor"] ["many", "term"] (defScope s__tight_by) := ⟨rfl, rfl, rfl, by decide +kernel, rfl, by decide +kernel, by decide +kernel⟩
theorem ok__tight_by (T : Txt K mg) (a : At K mg "_tight_by" s__tight_by ["many", "term"]) (O_rests : Ok P w K mg base CX0 3 "_rests" ["term", "number"] spRests) (O_divisor_of : Ok P w K mg base CX0 2 "_divisor_of" ["term", "number"] spDivisor) (O_divided : Ok P w K mg base CX0 3 "_divided" ["term", "number"] spDivided) (Onames_of : Ok P w K mg base CX0 1 "names_of" ["term"] spNamesOf) : Ok P w K mg base CX0 5 "_tight_by" ["many", "term"] spTBy := a.ok fun f fd F => by
  refine F.ok sc__tight_by (fun vs H Q E h => ?_) (fun cdv A outer s H vs Q E hr h => ?_)
  · obtain ⟨v, m, c, k, rfl, _⟩ := h; rfl
  · obtain ⟨v, m, c, k, rfl, ht, few, m0, m1, q⟩ := h
    refine ⟨_, (pss_cons (ps_set (i := 2) sc__tight_by.nd rfl (Or.inl rfl) (pe_callO O_rests (hr.mono (by decide)) rfl (pa_cons (pv 1) (pa_cons (pv 0) pa_nil))))
      (pss_cons (ps_set (i := 3) sc__tight_by.nd rfl (Or.inl rfl) (pe_callO O_divisor_of (hr.mono (by decide)) rfl (pa_cons (pv 2) (pa_cons (pv 0) pa_nil))))
      (pss_cons (ps_if (pt_cmpR op_ne (pe_op op_mod (pe_ix (ix_qK (K := K) rfl) (pv 2) pe_int (fun _ _ => rfl)) (pv 3)) pe_int (nomark _)) (pss_one (ps_ret pe_bl)) pss_nil)
      (pss_cons (ps_if (pt_cmpR op_eq (pe_callB (len_qK (K := K) rfl) rfl T.n_len rfl (pa_cons (pe_callO Onames_of (hr.mono (by decide)) rfl (pa_cons (pv 2) pa_nil)) pa_nil)) pe_int (nomark _)) (pss_one (ps_ret pe_bl)) pss_nil)
      (pss_one (ps_ret (pe_tup (pa_cons pe_str (pa_cons (pe_op op_fdiv (pv 0) (pv 3)) (pa_cons (pe_callO O_divided (hr.mono (by decide)) rfl (pa_cons (pv 2) (pa_cons (pv 3) pa_nil))) pa_nil)))))))))), ?_⟩
    refine ⟨_, rfl, _, rfl, _, _, _, _, rfl, ht, few, m0, fun u H1 N => ?_⟩
    have q' := q
    unfold pBy at q'
    have fr : Few (rsts m c) := (few.mapc _).canon
    have N' : NewT H H1 u (rsts m c) (k % m) := N
    have dd : dvs m (rsts m c) ∣ m := dvs_dvd0 _ _
    have d0 : 0 ≤ dvs m (rsts m c) := dvs_nn (by omega) _
    have dz : dvs m (rsts m c) ≠ 0 := fun z => by rw [z] at dd; have := Int.zero_dvd.mp dd; omega
    have dle := Int.le_of_dvd m0 dd
    refine ⟨_, rfl, _, rfl, _, _, _, _, rfl, N'.at, fr, fun H2 e2 => ?_⟩
    obtain ⟨p, d, rfl, n1, n2, h1, h2, e1⟩ := N'
    have e12 := e1.trans e2
    refine ⟨_, rfl, p, _, 1, _, rfl, rfl, SqQ.t (e2 _ _ h1), at1, _, rfl, _, _, rfl, rfl, (by show 0 < dvs m (rsts m c); omega), rfl, _, rfl, ?_⟩
    rw [dec_int0]
    by_cases hk : k % m % dvs m (rsts m c) = 0
    · rw [decide_eq_true hk]
      rw [if_neg (show ¬ (k % m % dvs m (rsts m c) ≠ 0) from fun z => z hk)] at q'
      refine iteF ?_
      refine ⟨_, rfl, _, _, _, rfl, ⟨p, d, rfl, .inr (e2 _ _ h1), e2 _ _ h2⟩, fr, fun l H3 hl e3 hl3 => ?_⟩
      refine ⟨l, _, rfl, SqQ.l hl3, rfl, _, rfl, ?_⟩
      have e13 := e12.trans e3
      have dl : decide (V.int ((((nz (rsts m c)).map V.str).length : Nat) : Int) = V.int 0) = decide ((nz (rsts m c)).length = 0) := by
        rw [List.length_map]; exact dec_len0
      rw [dl]
      by_cases hn : (nz (rsts m c)).length = 0
      · rw [decide_eq_true hn]
        rw [if_pos hn] at q'
        exact iteT (q' _ _ ⟨rfl, e13⟩)
      · rw [decide_eq_false hn]
        rw [if_neg hn] at q'
        refine iteF ?_
        refine ⟨_, rfl, _, rfl, _, _, rfl, rfl, ⟨by show 0 < dvs m (rsts m c); omega, by show dvs m (rsts m c) < 1073741824; omega⟩, _, rfl, _, rfl, _, _, _, _, rfl, ⟨p, d, rfl, .inr (e3 _ _ (e2 _ _ h1)), e3 _ _ (e2 _ _ h2)⟩, fr, ⟨by omega, by omega⟩, fun u H4 N => ⟨by show 3 ≤ sizeLine; decide, fun t ht => ?_⟩⟩
        obtain ⟨t', d', rfl, z1, z2, z3, z4, z5, z6, z7⟩ := N.pair ht [V.str "by", V.int (m / dvs m (rsts m c))]
        exact q' _ _ ⟨t, t', d', rfl, e13.free z1, e13.free z2, e13.free z3, z4, z5, z6, e13.trans z7⟩
    · rw [decide_eq_false hk]
      rw [if_pos (show k % m % dvs m (rsts m c) ≠ 0 from hk)] at q'
      exact iteT (q' _ _ ⟨rfl, e12⟩)
end
end K8

set_option Elab.async false
set_option linter.all false
set_option maxRecDepth 100000
set_option maxHeartbeats 4000000
namespace K8
open PySem PySem.Spec PyProof.Rows L2 M8
/-! tests of any object -/
def headRS : Dat → Bool | .str z => inV (.str z) [.str "row", .str "same"] | _ => false
def headBy : Dat → Bool | .str z => decide (z = ("by" : Str)) | _ => false
def isTest (d : Dat) : Bool := isSq d && (match items d with | [h, t] => headRS h && isTerm t | [h, m, t] => headBy h && (isFrom1 m && isTerm t) | _ => false)
/-- what stands ahead: flat, or a list of one text -/
def headOk (d : Dat) : Prop := (flatD d = true ∧ ∀ b, d ≠ .bl b) ∨ d = .lst [.str "row"]
def testOk (d : Dat) : Prop := match items d with | [h, t] => headOk h ∧ termOk t | [h, _, t] => (flatD h = true) ∧ termOk t | _ => True
def spTest (K : PySem.W.Frag) : Sp := fun vs H Q _ => ∃ v d, vs = [v] ∧ SeeF K H v d ∧ testOk d ∧ ∀ H', Ex H H' → Q (.bl (isTest d)) H'
theorem flatV_see {F : Addr → Prop} {H : Hp} {v : V} {d : Dat} (h : See F H v d) (f : flatD d = true) : flatV v = true := by
  cases h <;> first | rfl | cases f
theorem shaped_l : SeqAt.shaped (PyData.list [PyData.str "row"]) = true := by simp [SeqAt.shaped, PyData.canLay0, PyData.canLayAll0, PyData.depth, PyData.depthAll]; decide +kernel
theorem shaped_t : SeqAt.shaped (PyData.tuple [PyData.str "row", PyData.str "same"]) = true := by simp [SeqAt.shaped, PyData.canLay0, PyData.canLayAll0, PyData.depth, PyData.depthAll]; decide +kernel
section
variable {P : Program} {w : World} {K : PySem.W.Frag} {mg : Str → Option Value} {base : Heap}
theorem len_dec {xs : List V} {n : Nat} {m : Int} (hm : m = (n : Int)) : decide (V.int ((xs.length : Nat) : Int) = V.int m) = decide (xs.length = n) := by rw [hm]; exact dec_len
abbrev s_is_test : Stmt := top 22
theorem sc_is_test : FnScope ["thing"] ["thing"] (defScope s_is_test) := ⟨rfl, rfl, rfl, by decide +kernel, rfl, by decide +kernel, by decide +kernel⟩
theorem ok_is_test (T : Txt K mg) (a : At K mg "is_test" s_is_test ["thing"]) (Ois_list : Ok P w K mg base CX0 1 "is_list" ["thing"] (spIsList K)) (Ois_from_one : Ok P w K mg base CX0 2 "is_from_one" ["thing"] (spFrom1 K)) (Ois_term : Ok P w K mg base CX0 4 "is_term" ["thing"] (spTerm K)) : Ok P w K mg base CX0 5 "is_test" ["thing"] (spTest K) := a.ok fun f fd F => by
  refine F.ok sc_is_test (fun vs H Q E h => ?_) (fun cdv A outer s H vs Q E hr h => ?_)
  · obtain ⟨v, d, rfl, _⟩ := h; rfl
  · obtain ⟨v, d, rfl, hs, hok, q⟩ := h
    refine ⟨_, (pss_cons (ps_if (pt_not (pt_val (pe_callO Ois_list (hr.mono (by decide)) rfl (pa_cons (pv 0) pa_nil)))) (pss_one (ps_ret pe_bl)) pss_nil)
      (pss_cons (ps_if (pt_cmpR op_eq (pe_callB (len_qK (K := K) rfl) rfl T.n_len rfl (pa_cons (pv 0) pa_nil)) pe_int (nomark _)) (pss_one (ps_ret (pe_and (pe_cmpR (op_in_z (hu65 hr)) (pe_ix (ix_qK (K := K) rfl) (pv 0) pe_int (fun _ _ => rfl)) (pe_tup (pa_cons pe_str (pa_cons pe_str pa_nil))) rfl) (pe_one (pe_callO Ois_term (hr.mono (by decide)) rfl (pa_cons (pe_ix (ix_qK (K := K) rfl) (pv 0) pe_int (fun _ _ => rfl)) pa_nil)))))) pss_nil)
      (pss_one (ps_ret (pe_and (pe_cmpR op_eq (pe_callB (len_qK (K := K) rfl) rfl T.n_len rfl (pa_cons (pv 0) pa_nil)) pe_int (nomark _)) (pe_and (pe_cmpR op_eq (pe_ix (ix_qK (K := K) rfl) (pv 0) pe_int (fun _ _ => rfl)) pe_str (nomark _)) (pe_and (pe_callO Ois_from_one (hr.mono (by decide)) rfl (pa_cons (pe_ix (ix_qK (K := K) rfl) (pv 0) pe_int (fun _ _ => rfl)) pa_nil)) (pe_one (pe_callO Ois_term (hr.mono (by decide)) rfl (pa_cons (pe_ix (ix_qK (K := K) rfl) (pv 0) pe_int (fun _ _ => rfl)) pa_nil)))))))))), ?_⟩
    refine ⟨_, rfl, v, d, rfl, hs, fun H1 e1 => ⟨_, rfl, ?_⟩⟩
    have q1 := q H1 e1
    unfold isTest at q q1
    cases e : isSq d with
    | false => rw [e] at q1; exact iteT q1
    | true =>
      rw [e] at q q1
      refine iteF ?_
      obtain ⟨p, xs, rfl, hp, hx⟩ := see_sq (hs.mono e1) e
      have hlen := hx.len
      refine ⟨_, rfl, p, xs, rfl, SqQ.or hp, rfl, _, rfl, ?_⟩
      rw [len_dec (n := 2) (m := 2) rfl]
      by_cases h2 : xs.length = 2
      · rw [decide_eq_true h2]
        refine iteT ?_
        match hi : items d, hx, hlen with
        | [x, k], .cons (v := vx) h1 (.cons h3 .nil), _ =>
          have hok' : headOk x ∧ termOk k := by have z := hok; unfold testOk at z; rw [hi] at z; exact z
          rw [hi] at q q1
          refine ⟨_, rfl, p, _, 0, _, rfl, rfl, SqQ.or hp, at0, by show 2 ≤ sizeLine; decide, fun tp htp => ?_⟩
          have e2 : Ex H1 (upd H1 tp (.tup [.str "row", .str "same"])) := Ex.new htp
          have fin : ∀ b : Bool, b = headRS x → (∃ c, V.bl b = V.bl c ∧ if c = true then tC0 (spTerm K) (tCons (tOp (rIxQ K) (tVar 0) (tC (V.int 1))) tNil) (L2.start ["thing"] [V.ref p]) (upd H1 tp (.tup [.str "row", .str "same"])) Q else Q (.bl false) (upd H1 tp (.tup [.str "row", .str "same"]))) := by
            intro b hb
            refine ⟨b, rfl, ?_⟩
            have q2 := q _ (e1.trans e2)
            change Q (.bl (headRS x && isTerm k)) _ at q2
            rw [← hb] at q2
            cases b with
            | false => exact iteF q2
            | true =>
              refine iteT ⟨_, rfl, p, _, 1, _, rfl, rfl, SqQ.or (hp.imp (e2 _ _) (e2 _ _)), at1, _, k, rfl, h3.mono e2, hok'.2, fun H3 e3 => ?_⟩
              have q3 := q _ ((e1.trans e2).trans e3)
              change Q (.bl (headRS x && isTerm k)) _ at q3
              rw [← hb] at q3
              exact q3
          rcases hok'.1 with ⟨hf, hb⟩ | rfl
          · refine .inl ⟨tp, _, rfl, .inr (SqT.of upd_same), flatV_see h1 hf, rfl, fin _ ?_⟩
            cases h1 with
            | str z => rfl
            | non => rfl
            | int i => rfl
            | bl b => exact absurd rfl (hb b)
            | lst _ _ => cases hf
            | tup _ _ => cases hf
            | dct _ _ => cases hf
            | fn _ => cases hf
          · refine .inr ?_
            cases h1 with
            | lst ha t =>
              cases t with
              | cons t1 t2 =>
                cases t1; cases t2
                refine ⟨.list [.str "row"], [.str "row", .str "same"], .lst (SqL.of (e2 _ _ ha)) (.cons (.str _) .nil), .tup (SqT.of upd_same) (.cons (.str _) (.cons (.str _) .nil)), shaped_l, shaped_t, fin _ (by simp [PyData.eqv, headRS])⟩
        | [], _, hl => rw [hl] at h2; cases h2
        | [_], _, hl => rw [hl] at h2; cases h2
        | _ :: _ :: _ :: _, _, hl => rw [hl] at h2; simp at h2
      · rw [decide_eq_false h2]
        refine iteF ?_
        refine ⟨_, rfl, p, xs, rfl, SqQ.or hp, rfl, _, rfl, ?_⟩
        rw [len_dec (n := 3) (m := 3) rfl]
        by_cases h3 : xs.length = 3
        · rw [decide_eq_true h3]
          refine iteT ?_
          match hi : items d, hx, hlen with
          | [x, m, k], .cons (v := vx) h1 (.cons hm (.cons h4 .nil)), _ =>
            have hok' : flatD x = true ∧ termOk k := by have z := hok; unfold testOk at z; rw [hi] at z; exact z
            rw [hi] at q q1
            change Q (.bl (headBy x && (isFrom1 m && isTerm k))) H1 at q1
            change ∀ H', Ex H H' → Q (.bl (headBy x && (isFrom1 m && isTerm k))) H' at q
            refine ⟨_, rfl, p, _, 0, _, rfl, rfl, SqQ.or hp, at0, ?_⟩
            have sc : scal vx (.str "by") = true ∧ decide (vx = .str "by") = headBy x := by
              cases h1 with
              | str z => exact ⟨rfl, decide_eq_decide.mpr ⟨fun h => V.str.inj h, fun h => by rw [h]⟩⟩
              | non => exact ⟨rfl, rfl⟩
              | int i => exact ⟨rfl, rfl⟩
              | bl b => exact ⟨rfl, rfl⟩
              | lst _ _ => cases hok'.1
              | tup _ _ => cases hok'.1
              | dct _ _ => cases hok'.1
              | fn _ => cases hok'.1
            refine ⟨sc.1, _, rfl, ?_⟩
            rw [sc.2]
            cases eb : headBy x with
            | false => rw [eb] at q1; exact iteF q1
            | true =>
              rw [eb] at q q1
              refine iteT ?_
              refine ⟨_, rfl, p, _, 1, _, rfl, rfl, SqQ.or hp, at1, _, m, rfl, hm, _, rfl, ?_⟩
              cases em : isFrom1 m with
              | false => rw [em] at q1; exact iteF q1
              | true =>
                rw [em] at q
                exact iteT ⟨_, rfl, p, _, 2, _, rfl, rfl, SqQ.or hp, at2, _, k, rfl, h4, hok'.2, fun H3 e3 => q _ (e1.trans e3)⟩
          | [], _, hl => rw [hl] at h3; cases h3
          | [_], _, hl => rw [hl] at h3; cases h3
          | [_, _], _, hl => rw [hl] at h3; cases h3
          | _ :: _ :: _ :: _ :: _, _, hl => rw [hl] at h3; simp at h3
        · rw [decide_eq_false h3]
          refine iteF ?_
          have : (match items d with | [h, t] => headRS h && isTerm t | [h, m, t] => headBy h && (isFrom1 m && isTerm t) | _ => false) = false := by
            split
            · rename_i x k hi; rw [hi] at hlen; exact absurd hlen h2
            · rename_i x m k hi; rw [hi] at hlen; exact absurd hlen h3
            · rfl
          rw [this] at q1
          exact q1
end
end K8

set_option Elab.async false
set_option linter.all false
set_option maxRecDepth 100000
set_option maxHeartbeats 4000000
namespace K8
open PySem PySem.Spec PyProof.Rows L2 M8
/-! the error's class -/
abbrev s_init : Stmt := inClass (top 3) 0
theorem sc_init : FnScope ["self", "test"] ["self", "test"] (defScope s_init) := ⟨rfl, rfl, rfl, by decide +kernel, rfl, by decide +kernel, by decide +kernel⟩
structure BadC (K : PySem.W.Frag) (mg : Str → Option Value) (C : Addr) : Prop where
  gC : mg "BadTest" = some (.ref C)
  ox : OexC K C
  xf : XfC K C
  no : PySem.W.findIn K (.ref C) "test" = some none
  te : PySem.W.exmOne K (.ref C) (.ref C) = some true
  ini : ∃ fI fd, PySem.W.findIn K (.ref C) "__init__" = some (some (.ref fI)) ∧ PySem.W.typeIn K (.ref fI) = some (.type "function") ∧ Fun K "__init__" "BadTest.__init__" s_init fI fd ∧ Binds K fd ["self", "test"] []
section
variable {P : Program} {w : World} {K : PySem.W.Frag} {mg : Str → Option Value} {base : Heap} {C : Addr}
def spInit (C : Addr) : Sp := fun vs H Q _ => ∃ a v, vs = [.ref a, v] ∧ H a = some (exo a C none) ∧ ∀ dx, H dx = none → dx ≠ a → Q .non (upd (upd H dx (exd dx [("test", v)])) a (exo a C (some dx)))
theorem ok_init (B : BadC K mg C) {f : Addr} {fd : FuncData} (F : Fun K "__init__" "BadTest.__init__" s_init f fd) : FnOk P w K mg base CX0 1 f fd ["self", "test"] (spInit C) := by
  refine F.ok sc_init (fun vs H Q E h => ?_) (fun cdv A outer s H vs Q E hr h => ?_)
  · obtain ⟨a, v, rfl, _⟩ := h; rfl
  · obtain ⟨a, v, rfl, ha, q⟩ := h
    refine ⟨_, pss_one (ps_ost (pv 0) (pv 1)), ?_⟩
    exact ⟨_, rfl, _, rfl, a, C, rfl, B.ox, B.no, .inl ⟨ha, fun dx hd hn => q dx hd hn⟩⟩
/-! a test in whatever lists and tuples -/
def IsTerm (d : Dat) (c : Coef) (k : Int) : Prop := isSq d = true ∧ items d = [.dct (cD c), .int k]
def IsTst (d : Dat) : Tst → Prop
  | .row c k => isSq d = true ∧ ∃ t, items d = [.str "row", t] ∧ IsTerm t c k
  | .same c k => isSq d = true ∧ ∃ t, items d = [.str "same", t] ∧ IsTerm t c k
  | .div m c k => isSq d = true ∧ ∃ t, items d = [.str "by", .int m, t] ∧ IsTerm t c k
theorem see_term {H : Hp} {v : V} {d : Dat} {c : Coef} {k : Int} (h : SeeF K H v d) (t : IsTerm d c k) : TermAt H v c k := by
  obtain ⟨a, xs, rfl, hp, hx⟩ := see_sq h t.1
  rw [t.2] at hx
  cases hx with
  | cons h1 hx =>
    cases h1 with
    | dct hd hk =>
      cases hx with
      | cons h2 hx =>
        cases h2; cases hx
        exact ⟨a, _, rfl, hp, by rw [← cK_of hk]; exact hd⟩
/-- names of the program's kind -/
structure Good (c : Coef) : Prop where
  few : Few c
  lim : Lim c
  nm : ∀ n ∈ keys c, isNameS n = true ∧ n.cps.size ≤ 1000000
theorem isTerm_of {d : Dat} {c : Coef} {k : Int} (t : IsTerm d c k) (g : Good c) : isTerm d = true ∧ termOk d := by
  refine ⟨?_, ?_⟩
  · unfold isTerm
    rw [t.1, t.2]
    show (isNumbers (.dct (cD c)) && isWhole (.int k)) = true
    have : isNumbers (.dct (cD c)) = true := by
      show ((cD c).all fun p => isName (keyD p.1) && isWhole p.2) = true
      rw [List.all_eq_true]
      intro p hp
      obtain ⟨q, hq, rfl⟩ := List.mem_map.mp hp
      show (isNameS q.1 && true) = true
      rw [(g.nm q.1 (List.mem_map.mpr ⟨q, hq, rfl⟩)).1]; rfl
    rw [this]; rfl
  · intro x hx
    rw [t.2] at hx
    rcases List.mem_cons.mp hx with rfl | hx
    · refine ⟨by unfold cD; rw [List.length_map]; have := g.few.len; omega, fun p hp => ?_, ?_⟩
      · obtain ⟨q, hq, rfl⟩ := List.mem_map.mp hp
        exact ⟨rfl, (g.nm q.1 (List.mem_map.mpr ⟨q, hq, rfl⟩)).2⟩
      · have e : (cD c).map (·.1) = (keys c).map Sum.inr := by unfold cD keys; rw [List.map_map, List.map_map]; rfl
        rw [e]
        exact List.Pairwise.map _ (fun a b h => fun z => h (Sum.inr.inj z)) g.few.nd
    · rcases List.mem_cons.mp hx with rfl | hx
      · trivial
      · cases hx
theorem isTst_of {d : Dat} {t : Tst} (h : IsTst d t) (g : Good (coef t)) (hm : mOk t) : isTest d = true ∧ testOk d := by
  cases t with
  | row c k =>
    obtain ⟨h1, t, h2, h3⟩ := h
    obtain ⟨i1, i2⟩ := isTerm_of h3 g
    unfold isTest testOk
    rw [h1, h2]
    refine ⟨?_, .inl ⟨rfl, fun b z => by cases z⟩, i2⟩
    show (headRS (.str "row") && isTerm t) = true
    rw [i1]; rfl
  | same c k =>
    obtain ⟨h1, t, h2, h3⟩ := h
    obtain ⟨i1, i2⟩ := isTerm_of h3 g
    unfold isTest testOk
    rw [h1, h2]
    refine ⟨?_, .inl ⟨rfl, fun b z => by cases z⟩, i2⟩
    show (headRS (.str "same") && isTerm t) = true
    rw [i1]; rfl
  | div m c k =>
    obtain ⟨h1, t, h2, h3⟩ := h
    obtain ⟨i1, i2⟩ := isTerm_of h3 g
    unfold isTest testOk
    rw [h1, h2]
    refine ⟨?_, rfl, i2⟩
    show (headBy (.str "by") && (isFrom1 (.int m) && isTerm t)) = true
    have : isFrom1 (.int m) = true := by
      show (true && decide (1 ≤ m)) = true
      have := hm.1; simp; omega
    rw [i1, this]; rfl
theorem NewTst.ex {H H1 H2 : Hp} {u : V} {t : Tst} (e : Ex H H1) (n : NewTst H1 H2 u t) : NewTst H H2 u t := by
  cases t with
  | row c k => obtain ⟨q, t, d, h, h1, h2, h3, h4, h5, h6, h7⟩ := n; exact ⟨q, t, d, h, e.free h1, e.free h2, e.free h3, h4, h5, h6, e.trans h7⟩
  | same c k => obtain ⟨q, t, d, h, h1, h2, h3, h4, h5, h6, h7⟩ := n; exact ⟨q, t, d, h, e.free h1, e.free h2, e.free h3, h4, h5, h6, e.trans h7⟩
  | div m c k => obtain ⟨q, t, d, h, h1, h2, h3, h4, h5, h6, h7⟩ := n; exact ⟨q, t, d, h, e.free h1, e.free h2, e.free h3, h4, h5, h6, e.trans h7⟩
theorem NewR.ex {H H1 H2 : Hp} {u : V} {r : Res} (e : Ex H H1) (n : NewR H1 H2 u r) : NewR H H2 u r := by
  cases r with
  | inl b => exact ⟨n.1, e.trans n.2⟩
  | inr t => exact NewTst.ex e n
def spTight (K : PySem.W.Frag) (C : Addr) : Sp := fun vs H Q E => ∃ v d, vs = [v] ∧ SeeF K H v d ∧
  ((∃ t, IsTst d t ∧ Good (coef t) ∧ mOk t ∧ ∀ u H', NewR H H' u (pTight t) → Q u H') ∨ (testOk d ∧ isTest d = false ∧ ∀ dd H', H dd = none → Ex H H' → H' dd = some (.xd [("test", v)]) → E (.ref C) (some dd) H'))
abbrev s_tight : Stmt := top 30
theorem sc_tight : FnScope ["test"] ["test"] (defScope s_tight) := ⟨rfl, rfl, rfl, by decide +kernel, rfl, by decide +kernel, by decide +kernel⟩
theorem fn_tight (T : Txt K mg) (B : BadC K mg C) (Ois_test : Ok P w K mg base CX0 5 "is_test" ["thing"] (spTest K)) (O_tight_row : Ok P w K mg base CX0 4 "_tight_row" ["term"] spTRow) (O_tight_same : Ok P w K mg base CX0 5 "_tight_same" ["term"] spTSame) (O_tight_by : Ok P w K mg base CX0 5 "_tight_by" ["many", "term"] spTBy) {f : Addr} {fd : FuncData} (F : Fun K "tight" "tight" s_tight f fd) :
    FnOk P w K mg base (L2.CX P w) 6 f fd ["test"] (spTight K C) := by
  obtain ⟨fI, fdI, iC, tI, FI, bI⟩ := B.ini
  have GI : FnOk P w K mg base CX0 1 fI fdI ["self", "test"] (spInit C) := ok_init B FI
  refine F.okX sc_tight (fun vs H Q E h => ?_) (fun cdv A outer s H vs Q E hr h => ?_)
  · obtain ⟨v, d, rfl, _⟩ := h; rfl
  · obtain ⟨v, d, rfl, hs, q⟩ := h
    refine ⟨_, (pss_cons (ps_if (pt_not (pt_val (pe_callO Ois_test (hr.mono (by first | decide | omega)) rfl (pa_cons (pv 0) pa_nil)))) (pss_one (ps_raise rfl (takes_of rfl rfl rfl rfl) (pmk_oex B.ox iC tI GI (hr.mono (by decide)) bI .nil pass0 rfl B.gC (pa_cons (pv 0) pa_nil)))) pss_nil)
      (pss_cons (ps_if (pt_cmpR op_eq (pe_ix (ix_qK (K := K) rfl) (pv 0) pe_int (fun _ _ => rfl)) pe_str (nomark _)) (pss_one (ps_ret (pe_callO O_tight_row (hr.mono (by first | decide | omega)) rfl (pa_cons (pe_ix (ix_qK (K := K) rfl) (pv 0) pe_int (fun _ _ => rfl)) pa_nil)))) pss_nil)
      (pss_cons (ps_if (pt_cmpR op_eq (pe_ix (ix_qK (K := K) rfl) (pv 0) pe_int (fun _ _ => rfl)) pe_str (nomark _)) (pss_one (ps_ret (pe_callO O_tight_same (hr.mono (by first | decide | omega)) rfl (pa_cons (pe_ix (ix_qK (K := K) rfl) (pv 0) pe_int (fun _ _ => rfl)) pa_nil)))) pss_nil)
      (pss_one (ps_ret (pe_callO O_tight_by (hr.mono (by first | decide | omega)) rfl (pa_cons (pe_ix (ix_qK (K := K) rfl) (pv 0) pe_int (fun _ _ => rfl)) (pa_cons (pe_ix (ix_qK (K := K) rfl) (pv 0) pe_int (fun _ _ => rfl)) pa_nil)))))))), ?_⟩
    rcases q with ⟨t, ht, g, hm, q⟩ | ⟨hok, hno, q⟩
    · obtain ⟨i1, i2⟩ := isTst_of ht g hm
      refine ⟨_, rfl, v, d, rfl, hs, i2, fun H1 e1 => ⟨_, rfl, ?_⟩⟩
      rw [i1]
      refine iteF ?_
      have hs1 := hs.mono e1
      cases t with
      | row c k =>
        obtain ⟨h1, td, h2, h3⟩ := ht
        obtain ⟨p, xs, rfl, hp, hx⟩ := see_sq hs1 h1
        rw [h2] at hx
        cases hx with
        | cons y1 hx =>
          cases y1
          cases hx with
          | cons y2 hx =>
            cases hx
            refine ⟨_, rfl, p, _, 0, _, rfl, rfl, SqQ.or hp, at0, rfl, _, rfl, iteT ?_⟩
            exact ⟨_, rfl, p, _, 1, _, rfl, rfl, SqQ.or hp, at1, _, c, k, rfl, see_term y2 h3, g.few, g.lim, fun u H2 n => q u H2 (NewR.ex e1 n)⟩
      | same c k =>
        obtain ⟨h1, td, h2, h3⟩ := ht
        obtain ⟨p, xs, rfl, hp, hx⟩ := see_sq hs1 h1
        rw [h2] at hx
        cases hx with
        | cons y1 hx =>
          cases y1
          cases hx with
          | cons y2 hx =>
            cases hx
            refine ⟨_, rfl, p, _, 0, _, rfl, rfl, SqQ.or hp, at0, rfl, _, rfl, iteF ?_⟩
            refine ⟨_, rfl, p, _, 0, _, rfl, rfl, SqQ.or hp, at0, rfl, _, rfl, iteT ?_⟩
            exact ⟨_, rfl, p, _, 1, _, rfl, rfl, SqQ.or hp, at1, _, c, k, rfl, see_term y2 h3, g.few, g.lim, fun u H2 n => q u H2 (NewR.ex e1 n)⟩
      | div m c k =>
        obtain ⟨h1, td, h2, h3⟩ := ht
        obtain ⟨p, xs, rfl, hp, hx⟩ := see_sq hs1 h1
        rw [h2] at hx
        cases hx with
        | cons y1 hx =>
          cases y1
          cases hx with
          | cons y2 hx =>
            cases y2
            cases hx with
            | cons y3 hx =>
              cases hx
              refine ⟨_, rfl, p, _, 0, _, rfl, rfl, SqQ.or hp, at0, rfl, _, rfl, iteF ?_⟩
              refine ⟨_, rfl, p, _, 0, _, rfl, rfl, SqQ.or hp, at0, rfl, _, rfl, iteF ?_⟩
              exact ⟨_, rfl, p, _, 1, _, rfl, rfl, SqQ.or hp, at1, _, rfl, p, _, 2, _, rfl, rfl, SqQ.or hp, at2, _, m, c, k, rfl, see_term y3 h3, g.few, hm.1, hm.2, fun u H2 n => q u H2 (NewR.ex e1 n)⟩
    · refine ⟨_, rfl, v, d, rfl, hs, hok, fun H1 e1 => ⟨_, rfl, ?_⟩⟩
      rw [hno]
      refine iteT ?_
      refine ⟨_, rfl, by show 1 ≤ 1000; decide, fun a ha => ⟨a, v, rfl, upd_same, fun dx hd hn => ⟨rfl, dx, _, upd_same, by rw [upd_ne hn, upd_same], by rw [upd_ne hn] at hd; exact hd, ?_⟩⟩⟩
      have hd1 : H1 dx = none := by rw [upd_ne hn] at hd; exact hd
      refine q dx _ (e1.free hd1) (fun b o hb => ?_) upd_same
      have hb1 := e1 _ _ hb
      have n1 : b ≠ dx := ne_of_none hb1 hd1
      have n2 : b ≠ a := ne_of_none hb1 ha
      rw [upd_ne n1, del_ne n2, upd_ne n2, upd_ne n1, upd_ne n2]
      exact hb1
theorem ok_tight (T : Txt K mg) (B : BadC K mg C) (a : At K mg "tight" s_tight ["test"]) (Ois_test : Ok P w K mg base CX0 5 "is_test" ["thing"] (spTest K)) (O_tight_row : Ok P w K mg base CX0 4 "_tight_row" ["term"] spTRow) (O_tight_same : Ok P w K mg base CX0 5 "_tight_same" ["term"] spTSame) (O_tight_by : Ok P w K mg base CX0 5 "_tight_by" ["many", "term"] spTBy) :
    Ok P w K mg base (L2.CX P w) 6 "tight" ["test"] (spTight K C) := a.ok fun f fd F => fn_tight T B Ois_test O_tight_row O_tight_same O_tight_by F
end
end K8

set_option Elab.async false
set_option linter.all false
set_option maxRecDepth 100000
set_option maxHeartbeats 4000000
namespace K8
open PySem PySem.Spec PyProof.Rows L2 M8
/-! what is drawn -/
def Spr (H : Hp) (a : Addr) (B : Nat) : Prop := ∃ c m n : Int, H a = some (.lst [.int c, .int m, .int n]) ∧ 0 ≤ c ∧ 0 ≤ m ∧ m < 2147483648 ∧ 0 ≤ n ∧ n ≤ (B : Int)
def lot : Nat := 1000000000000
theorem Spr.ne {H : Hp} {a : Addr} {B : Nat} (h : Spr H a B) : H a ≠ none := by
  obtain ⟨c, m, n, e, _⟩ := h; rw [e]; simp
theorem Spr.mono {H : Hp} {a : Addr} {B B' : Nat} (h : Spr H a B) (l : B ≤ B') : Spr H a B' := by
  obtain ⟨c, m, n, e, h1, h2, h3, h4, h5⟩ := h; exact ⟨c, m, n, e, h1, h2, h3, h4, by omega⟩
theorem Spr.ex {H H' : Hp} {a : Addr} {B : Nat} (h : Spr H a B) (e : Ex H H') : Spr H' a B := by
  obtain ⟨c, m, n, e1, h⟩ := h; exact ⟨c, m, n, e _ _ e1, h⟩
theorem Spr.at {H H' : Hp} {a : Addr} {B : Nat} (h : Spr H a B) (e : H' a = H a) : Spr H' a B := by
  obtain ⟨c, m, n, e1, h⟩ := h; exact ⟨c, m, n, by rw [e]; exact e1, h⟩
theorem SqL.exo {K : PySem.W.Frag} {S : List Addr} {H H' : Hp} {l : Addr} {xs : List V} (h : SqL K H l xs) (e : Exo S H H') (n : l ∉ S) : SqL K H' l xs := by
  rcases h with (h | ⟨o, h⟩) | h
  · exact .inl (.inl (e _ _ n h))
  · exact .inl (.inr ⟨o, e _ _ n h⟩)
  · exact .inr h
theorem SqT.exo {K : PySem.W.Frag} {S : List Addr} {H H' : Hp} {l : Addr} {xs : List V} (h : SqT K H l xs) (e : Exo S H H') (n : l ∉ S) : SqT K H' l xs := by
  rcases h with (h | ⟨o, h⟩) | h
  · exact .inl (.inl (e _ _ n h))
  · exact .inl (.inr ⟨o, e _ _ n h⟩)
  · exact .inr h
theorem SqQ.exo {K : PySem.W.Frag} {S : List Addr} {H H' : Hp} {l : Addr} {xs : List V} (h : SqQ K H l xs) (e : Exo S H H') (n : l ∉ S) : SqQ K H' l xs := h.imp (fun h => SqL.exo h e n) (fun h => SqT.exo h e n)
theorem not1 {l a : Addr} (h : l ≠ a) : l ∉ [a] := by simpa using h
section
variable {P : Program} {w : World} {K : PySem.W.Frag} {mg : Str → Option Value} {base : Heap}
def spDraw : Sp := fun vs H Q _ => ∃ a many B, vs = [.ref a, .int many] ∧ Spr H a B ∧ B < lot ∧ 0 < many ∧ many < 1073741824 ∧ ∀ d H', 0 ≤ d → d < many → Exo [a] H H' → Spr H' a (B + 1) → Q (.int d) H'
abbrev s__law_draw : Stmt := top 33
theorem sc__law_draw : FnScope ["spring", "many", "digit", "mixed"] ["spring", "many"] (defScope s__law_draw) := ⟨rfl, rfl, rfl, by decide +kernel, rfl, by decide +kernel, by decide +kernel⟩
theorem ok__law_draw (T : Txt K mg) (a : At K mg "_law_draw" s__law_draw ["spring", "many"]) : Ok P w K mg base CX0 1 "_law_draw" ["spring", "many"] spDraw := a.ok fun f fd F => by
  refine F.ok sc__law_draw (fun vs H Q E h => ?_) (fun cdv A outer s H vs Q E hr h => ?_)
  · obtain ⟨a, many, B, rfl, _⟩ := h; rfl
  · obtain ⟨a, many, B, rfl, ⟨c, m, n, ha, h1, h2, h3, h4, h5⟩, hB, hm0, hm1, q⟩ := h
    refine ⟨_, (pss_cons (ps_if (pt_cmpR op_gt (pe_ix (ix_qK (K := K) rfl) (pv 0) pe_int (fun _ _ => rfl)) pe_int (nomark _)) (pss_cons (ps_set (i := 2) sc__law_draw.nd rfl (Or.inl rfl) (pe_op op_mod (pe_callTy call_int1 rfl T.n_int rfl (pa_cons (pe_ix (ix_qK (K := K) rfl) (pv 0) pe_int (fun _ _ => rfl)) pa_nil)) (pv 1)))
      (pss_cons (ps_asg (pe_op op_fdiv (pe_ix (ix_qK (K := K) rfl) (pv 0) pe_int (fun _ _ => rfl)) (pv 1)) (pg_sub (pv 0) pe_int set_list))
      (pss_one (ps_ret (pv 2))))) pss_nil)
      (pss_cons (ps_asg (pe_op op_add (pe_ix (ix_qK (K := K) rfl) (pv 0) pe_int (fun _ _ => rfl)) pe_int) (pg_sub (pv 0) pe_int set_list))
      (pss_cons (ps_set (i := 3) sc__law_draw.nd rfl (Or.inl rfl) (pe_op op_mod (pe_op op_pow (pe_callTy call_int1 rfl T.n_int rfl (pa_cons (pe_op op_add (pe_op op_add (pe_ix (ix_qK (K := K) rfl) (pv 0) pe_int (fun _ _ => rfl)) (pe_op op_mul pe_int (pe_ix (ix_qK (K := K) rfl) (pv 0) pe_int (fun _ _ => rfl)))) pe_int) pa_nil)) pe_int) pe_int))
      (pss_one (ps_ret (pe_op op_mod (pe_op op_fdiv (pe_op op_mod (pe_op op_pow (pe_callTy call_int1 rfl T.n_int rfl (pa_cons (pe_op op_add (pe_op op_mul (pv 3) pe_int) (pe_op op_mul pe_int (pe_ix (ix_qK (K := K) rfl) (pv 0) pe_int (fun _ _ => rfl)))) pa_nil)) pe_int) pe_int) pe_int) (pv 1))))))), ?_⟩
    have hlot : lot = 1000000000000 := rfl
    refine ⟨_, rfl, a, _, 0, _, rfl, rfl, SqQ.l ha, at0, _, _, rfl, rfl, _, rfl, ?_⟩
    by_cases hc : 0 < c
    · rw [decide_eq_true hc]
      refine iteT ?_
      refine ⟨_, rfl, a, _, 0, _, rfl, rfl, SqQ.l ha, at0, .inl ⟨_, rfl, ?_⟩⟩
      refine ⟨_, rfl, _, _, rfl, rfl, hm0, ?_⟩
      refine ⟨_, rfl, a, _, 0, _, rfl, rfl, SqQ.l ha, at0, _, rfl, _, _, rfl, rfl, ⟨hm0, hm1⟩, ?_⟩
      refine ⟨_, rfl, a, _, 0, 0, rfl, rfl, ha, rfl, ?_⟩
      refine ⟨_, rfl, ?_⟩
      refine q _ _ (Int.emod_nonneg _ (by omega)) (Int.emod_lt_of_pos _ hm0) ((Exo.refl _ _).own (by simp)) ?_
      exact ⟨c / many, m, n, upd_same, Int.ediv_nonneg h1 (by omega), h2, h3, h4, by omega⟩
    · rw [decide_eq_false hc]
      refine iteF ?_
      refine ⟨_, rfl, a, _, 2, _, rfl, rfl, SqQ.l ha, at2, _, _, rfl, rfl, ?_⟩
      refine ⟨_, rfl, a, _, 2, 2, rfl, rfl, ha, rfl, ?_⟩
      have ha2 : upd H a (.lst ([V.int c, V.int m, V.int n].set 2 (.int (n + 1)))) a = some (.lst [.int c, .int m, .int (n + 1)]) := upd_same
      refine ⟨_, rfl, a, _, 1, _, rfl, rfl, SqQ.l ha2, at1, _, rfl, a, _, 2, _, rfl, rfl, SqQ.l ha2, at2, _, _, rfl, rfl, .inl ⟨by decide, by decide⟩, _, _, rfl, rfl, _, _, rfl, rfl, .inl ⟨_, rfl, ?_⟩⟩
      refine ⟨_, _, rfl, rfl, ⟨by decide, by decide, by rw [hlot] at hB; omega⟩, _, _, rfl, rfl, by show (0:Int) < 2147483647; decide, ?_⟩
      have z0 := Int.emod_nonneg ((m + 6364137 * (n + 1) + 1442695) ^ (3 : Int).toNat) (show (2147483647 : Int) ≠ 0 by decide)
      have z1 := Int.emod_lt_of_pos ((m + 6364137 * (n + 1) + 1442695) ^ (3 : Int).toNat) (show (0 : Int) < 2147483647 by decide)
      generalize hz : (m + 6364137 * (n + 1) + 1442695) ^ (3 : Int).toNat % 2147483647 = z at z0 z1
      refine ⟨_, rfl, _, _, rfl, rfl, .inr ⟨by decide, by decide⟩, _, rfl, a, _, 2, _, rfl, rfl, SqQ.l ha2, at2, _, _, rfl, rfl, .inl ⟨by decide, by decide⟩, _, _, rfl, rfl, .inl ⟨_, rfl, ?_⟩⟩
      refine ⟨_, _, rfl, rfl, ⟨by decide, by decide, by rw [hlot] at hB; omega⟩, _, _, rfl, rfl, by show (0:Int) < 2147483629; decide, _, _, rfl, rfl, ⟨by decide, by decide⟩, _, rfl, _, _, rfl, rfl, hm0, ?_⟩
      refine q _ _ (Int.emod_nonneg _ (by omega)) (Int.emod_lt_of_pos _ hm0) ((Exo.refl _ _).own (by simp)) ?_
      exact ⟨c, m, n + 1, upd_same, h1, h2, h3, by omega, by omega⟩
def spPick (K : PySem.W.Frag) : Sp := fun vs H Q _ => ∃ a l xs B, vs = [.ref a, .ref l] ∧ Spr H a B ∧ B < lot ∧ l ≠ a ∧ SqQ K H l xs ∧ 0 < xs.length ∧ xs.length < 1000000 ∧ ∀ (i : Nat) y H', xs[i]? = some y → Exo [a] H H' → Spr H' a (B + 1) → Q y H'
abbrev s__law_pick : Stmt := top 34
theorem sc__law_pick : FnScope ["spring", "some"] ["spring", "some"] (defScope s__law_pick) := ⟨rfl, rfl, rfl, by decide +kernel, rfl, by decide +kernel, by decide +kernel⟩
theorem ok__law_pick (T : Txt K mg) (a : At K mg "_law_pick" s__law_pick ["spring", "some"]) (O_law_draw : Ok P w K mg base CX0 1 "_law_draw" ["spring", "many"] spDraw) : Ok P w K mg base CX0 2 "_law_pick" ["spring", "some"] (spPick K) := a.ok fun f fd F => by
  refine F.ok sc__law_pick (fun vs H Q E h => ?_) (fun cdv A outer s H vs Q E hr h => ?_)
  · obtain ⟨a, l, xs, B, rfl, _⟩ := h; rfl
  · obtain ⟨a, l, xs, B, rfl, hs, hB, hl, hx, h0, h1, q⟩ := h
    refine ⟨_, (pss_one (ps_ret (pe_ix (ix_qK (K := K) rfl) (pv 1) (pe_callO O_law_draw (hr.mono (by decide)) rfl (pa_cons (pv 0) (pa_cons (pe_callB (len_qK (K := K) rfl) rfl T.n_len rfl (pa_cons (pv 1) pa_nil)) pa_nil))) (fun _ _ => rfl)))), ?_⟩
    refine ⟨_, rfl, _, rfl, _, rfl, l, xs, rfl, hx, ?_⟩
    refine ⟨a, _, B, rfl, hs, hB, by omega, by omega, fun d H' d0 d1 e s' => ?_⟩
    have hd : d.toNat < xs.length := by omega
    have hg : xs[d.toNat]? = some xs[d.toNat] := List.getElem?_eq_getElem hd
    have hdd : d = ((d.toNat : Nat) : Int) := by omega
    refine ⟨l, xs, d, _, rfl, rfl, hx.exo e (not1 hl), atZ d0 hg, q _ _ _ hg e s'⟩
theorem seqIx {i : Int} {n : Nat} (h0 : 0 ≤ i) (h1 : i < n) : seqIndex? i n = some i.toNat := by
  unfold seqIndex?
  first
    | (rw [if_pos (by omega)]; done)
    | (simp; omega)
theorem erase_perm {α : Type} : ∀ (l : List α) (k : Nat) (h : k < l.length), (l[k] :: l.eraseIdx k).Perm l
  | x :: l, 0, _ => .refl _
  | x :: l, k + 1, h => by
    have hk : k < l.length := by simpa using h
    have ih := erase_perm l k hk
    rw [List.eraseIdx_cons_succ, List.getElem_cons_succ]
    exact (List.Perm.swap x (l[k]'hk) (l.eraseIdx k)).trans (List.Perm.cons x ih)
def spMixed (K : PySem.W.Frag) : Sp := fun vs H Q _ => ∃ a l xs B, vs = [.ref a, .ref l] ∧ Spr H a B ∧ B + 64 < lot ∧ SqQ K H l xs ∧ xs.length ≤ 63 ∧
  ∀ p ys H', H p = none → Exo [a] H H' → Spr H' a (B + xs.length) → ys.Perm xs → H' p = some (.lst ys) → Q (.ref p) H'
abbrev s__law_mixed : Stmt := top 35
theorem sc__law_mixed : FnScope ["spring", "some", "left", "k"] ["spring", "some"] (defScope s__law_mixed) := ⟨rfl, rfl, rfl, by decide +kernel, rfl, by decide +kernel, by decide +kernel⟩
theorem ok__law_mixed (T : Txt K mg) (a : At K mg "_law_mixed" s__law_mixed ["spring", "some"]) (O_law_draw : Ok P w K mg base CX0 1 "_law_draw" ["spring", "many"] spDraw) : Ok P w K mg base CX0 2 "_law_mixed" ["spring", "some"] (spMixed K) := a.ok fun f fd F => by
  refine F.ok sc__law_mixed (fun vs H Q E h => ?_) (fun cdv A outer s H vs Q E hr h => ?_)
  · obtain ⟨a, l, xs, B, rfl, _⟩ := h; rfl
  · obtain ⟨a, l, xs, B, rfl, hs, hB, hx, h0, q⟩ := h
    refine ⟨_, (pss_cons (ps_set (i := 2) sc__law_mixed.nd rfl (Or.inr rfl) (pe_callTy call_list_of rfl T.n_list rfl (pa_cons (pv 1) pa_nil)))
      (pss_one (ps_ret (pe_lc (own := [("k", 3)]) (g := gName 3) (tt := tYes) rfl sc__law_mixed.nd (pi_range1 rfl T.n_range (pa_cons (pe_callB (len_qK (K := K) rfl) rfl T.n_len rfl (pa_cons (pv 2) pa_nil)) pa_nil)) (blkOk_by (N := ["spring", "some", "left", "k"]) (sc := defScope s__law_mixed) (by decide +kernel)) (fun _ _ _ _ _ => (pg_name (i := 3) sc__law_mixed.nd rfl (Or.inl rfl))) (fun _ _ _ _ _ => pts_nil) (fun _ _ _ _ _ => (pe_bmK (K := K) rfl (pe_bm PySem.F.plainAttrs_list PySem.F.slot_list_pop PySem.F.type_list_pop mt_popAt (pv 2) (pa_cons (pe_callO O_law_draw (hr.mono (by decide)) rfl (pa_cons (pv 0) (pa_cons (pe_callB (len_qK (K := K) rfl) rfl T.n_len rfl (pa_cons (pv 2) pa_nil)) pa_nil))) pa_nil)))))))), ?_⟩
    refine ⟨_, rfl, l, xs, rfl, hx, fun L hL => ?_⟩
    dsimp only [tNext, tRet, gName]
    refine tLc_of ?_
    have hla : upd H L (.lst xs) L = some (.lst xs) := upd_same
    have nLa : L ≠ a := fun z => hs.ne (z ▸ hL)
    refine ⟨_, rfl, L, xs, rfl, SqQ.l hla, _, rfl, by omega, by omega, ?_⟩
    have e0 : ((xs.length : Nat) : Int).toNat = xs.length := by omega
    rw [e0]
    refine lc_gen walk_range [a, L] (fun i H' => Spr H' a (B + i)) (fun i acc H' => ∃ rest, H' L = some (.lst rest) ∧ rest.length + i = xs.length ∧ (acc ++ rest).Perm xs) (by omega) ?_ (fun _ _ => trivial) ?_ ?_ ?_ ?_ ?_ ?_
    · intro b hb
      rcases List.mem_cons.mp hb with rfl | hb
      · rw [upd_ne nLa.symm]; exact hs.ne
      · rcases List.mem_cons.mp hb with rfl | hb
        · rw [upd_same]; simp
        · cases hb
    · intro i H1 H2 hb h
      exact h.at (hb a (by simp))
    · rintro i acc H1 D l0 l1 hD hn ⟨rest, hr, h2⟩
      have : L ≠ D := fun z => by rw [← z, upd_same] at hn; cases hn
      exact ⟨rest, by rw [upd_ne this]; exact hr, h2⟩
    · exact hs.at (upd_ne nLa.symm)
    · intro D hn
      have : L ≠ D := fun z => by rw [← z, upd_same] at hn; cases hn
      exact ⟨xs, by rw [upd_ne this, upd_same], by simp, .refl _⟩
    · rintro i x H1 H2 acc R R' hi e m ⟨rest, hr, hl, hp⟩ hacc ⟨rfl, rfl⟩ k k'
      refine ⟨rfl, yesT ?_⟩
      refine ⟨_, rfl, .inl ⟨rfl, _, SqL.of hr⟩, ?_⟩
      refine ⟨_, rfl, _, rfl, L, rest, rfl, SqQ.l hr, ?_⟩
      refine ⟨a, _, B + i, rfl, m, by omega, by omega, by omega, fun d H3 d0 d1 e3 s3 => ?_⟩
      have hr3 : H3 L = some (.lst rest) := e3 _ _ (not1 nLa) hr
      have hd : d.toNat < rest.length := by omega
      have hg : rest[d.toNat]? = some rest[d.toNat] := List.getElem?_eq_getElem hd
      refine ⟨L, rest, d, d.toNat, _, rfl, rfl, hr3, by omega, by omega, seqIx d0 d1, hg, ?_⟩
      refine k _ _ (fun b o nb hb => ?_) ?_ ⟨_, upd_same, ?_, ?_⟩
      · have n1 : b ≠ L := fun z => nb (by simp [z])
        have n2 : b ∉ [a] := fun z => nb (by simp at z; simp [z])
        rw [upd_ne n1]; exact e3 b o n2 hb
      · exact (s3.mono (by omega)).at (upd_ne nLa.symm)
      · rw [List.length_eraseIdx_of_lt hd]; omega
      · refine List.Perm.trans ?_ hp
        rw [List.append_assoc]
        refine List.Perm.append_left acc ?_
        exact erase_perm rest _ hd
    · rintro D acc H1 hD e m ⟨rest, hr, hl, hp⟩ hDH hacc
      have hD' : H D = none := by
        have : D ≠ L := fun z => by rw [z, upd_same] at hD; cases hD
        rw [upd_ne this] at hD; exact hD
      have : rest = [] := List.eq_nil_of_length_eq_zero (by omega)
      rw [this, List.append_nil] at hp
      refine q D acc H1 hD' (fun b o nb hb => ?_) m hp hDH
      have n1 : b ≠ L := ne_of_none hb hL
      exact e b o (fun z => by rcases List.mem_cons.mp z with z | z; exact nb (by simp [z]); exact n1 (by simpa using z)) (by rw [upd_ne n1]; exact hb)
end
end K8

set_option Elab.async false
set_option linter.all false
set_option maxRecDepth 100000
set_option maxHeartbeats 4000000
namespace K8
open PySem PySem.Spec PyProof.Rows L2 M8
section
variable {P : Program} {w : World} {K : PySem.W.Frag} {mg : Str → Option Value} {base : Heap}
def spSpring (K : PySem.W.Frag) : Sp := fun vs H Q _ => ∃ (a : Addr) (ns : List Int) (t : Int), vs = [.ref a, .int t] ∧ SqL K H a (ns.map V.int) ∧ ns.length ≤ 63 ∧ 0 ≤ t ∧ t ≤ 1000 ∧ ∀ p H', H p = none → Ex H H' → Spr H' p 0 → Q (.ref p) H'
abbrev s__law_spring : Stmt := top 32
theorem sc__law_spring : FnScope ["script", "turn", "cell", "mix", "at", "one"] ["script", "turn"] (defScope s__law_spring) := ⟨rfl, rfl, rfl, by decide +kernel, rfl, by decide +kernel, by decide +kernel⟩
theorem ok__law_spring (T : Txt K mg) (a : At K mg "_law_spring" s__law_spring ["script", "turn"]) : Ok P w K mg base CX0 1 "_law_spring" ["script", "turn"] (spSpring K) := a.ok fun f fd F => by
  refine F.ok sc__law_spring (fun vs H Q E h => ?_) (fun cdv A outer s H vs Q E hr h => ?_)
  · obtain ⟨a, ns, t, rfl, _⟩ := h; rfl
  · obtain ⟨a, ns, t, rfl, hS, hn, t0, t1, q⟩ := h
    refine ⟨_, (pss_cons (ps_par (i := 2) (j := 3) rfl sc__law_spring.nd rfl rfl (by decide) rfl rfl (pa_cons (pe_ifExp (pt_cmpR op_lt (pv 1) (pe_callB (len_qK (K := K) rfl) rfl T.n_len rfl (pa_cons (pv 0) pa_nil)) (nomark _)) (pe_ix (ix_qK (K := K) rfl) (pv 0) (pv 1) (fun _ _ => rfl)) (pe_op op_add (pe_op op_mul pe_int (pv 1)) (pe_callB (len_qK (K := K) rfl) rfl T.n_len rfl (pa_cons (pv 0) pa_nil)))) (pa_cons (pe_op op_add pe_int (pe_op op_mul pe_int (pv 1))) pa_nil)) rfl)
      (pss_cons (ps_for PassesOwn.never rfl (pi_enum rfl T.n_enumerate (pa_cons (pe_slice sl_list (pv 0) po_none (po_some pe_int)) pa_nil)) (pg_tup rfl (pgs_cons (pg_name (i := 4) sc__law_spring.nd rfl (Or.inl rfl)) (pgs_cons (pg_name (i := 5) sc__law_spring.nd rfl (Or.inl rfl)) pgs_nil))) (pss_one (ps_set (i := 3) sc__law_spring.nd rfl (Or.inl rfl) (pe_op op_mod (pe_callTy call_int1 rfl T.n_int rfl (pa_cons (pe_op op_add (pe_op op_add (pe_op op_add (pe_op op_mul (pv 3) pe_int) (pv 5)) (pe_op op_mul pe_int (pv 4))) pe_int) pa_nil)) pe_int))))
      (pss_one (ps_ret (pe_lst (pa_cons (pe_ifExp (pt_cmpR op_ge (pv 2) (pe_op op_pow pe_int pe_int) (nomark _)) (pv 2) pe_int) (pa_cons (pe_op op_mod (pe_callTy call_int1 rfl T.n_int rfl (pa_cons (pe_op op_add (pv 3) (pe_op op_mul (pv 2) pe_int)) pa_nil)) pe_int) (pa_cons pe_int pa_nil)))))))), ?_⟩
    have rest : ∀ (cell mix : Int), tSeq (tFor (iEnum K (tCons (tSl (rSlL K) (tVar 0) tNoPart (tPart (tC (.int 63)))) tNil)) (gTup K 2 (gCons (gName 4) (gCons (gName 5) gNil)))
        (tAsg (tOp (rI (fun _ j => 0 < j) fun i j => V.int (i % j)) (tCB (fun xs H Q => (∃ i, xs = [V.int i] ∧ Q (.int i) H) ∨ ∃ k, xs = [V.bl k] ∧ Q (.int (if k then 1 else 0)) H) (tCons (tOp (rI0 fun i j => V.int (i + j)) (tOp (rI0 fun i j => V.int (i + j)) (tOp (rI0 fun i j => V.int (i + j)) (tOp (rI CMul fun i j => V.int (i * j)) (tVar 3) (tC (.int 69069))) (tVar 5)) (tOp (rI CMul fun i j => V.int (i * j)) (tC (.int 5)) (tVar 4))) (tC (.int 1))) tNil)) (tC (.int 2147483629))) (gName 3)))
        (tRet (tLst (tCons (tIf (tTest (tOp (rI0 fun i j => V.bl (decide (j ≤ i))) (tVar 2) (tOp (rI CPow fun i j => V.int (i ^ j.toNat)) (tC (.int 10)) (tC (.int 18))))) (tVar 2) (tC (.int 0))) (tCons (tOp (rI (fun _ j => 0 < j) fun i j => V.int (i % j)) (tCB (fun xs H Q => (∃ i, xs = [V.int i] ∧ Q (.int i) H) ∨ ∃ k, xs = [V.bl k] ∧ Q (.int (if k then 1 else 0)) H) (tCons (tOp (rI0 fun i j => V.int (i + j)) (tVar 3) (tOp (rI CMul fun i j => V.int (i * j)) (tVar 2) (tC (.int 31)))) tNil)) (tC (.int 2147483647))) (tCons (tC (.int 0)) tNil)))))
        { nx := fun _ H' => Q .non H', rt := Q } [some (.ref a), some (.int t), some (.int cell), some (.int mix), none, none] H := by
      intro cell mix
      dsimp only [tSeq]
      refine tFor_of ?_
      refine ⟨_, rfl, _, rfl, a, _, rfl, hS, fun L hL => ?_⟩
      refine ⟨L, _, rfl, SqL.of upd_same, ?_⟩
      generalize hxs : cutV (ns.map V.int) none (some 63) = xs
      have hall : ∀ x ∈ xs, ∃ i, x = V.int i := by
        intro x hx
        rw [← hxs] at hx
        have := List.mem_of_mem_drop (List.mem_of_mem_take hx)
        obtain ⟨i, _, rfl⟩ := List.mem_map.mp this
        exact ⟨i, rfl⟩
      refine for_itB walk_enum (fun i σ H' => ∃ (m : Int) (x y : Option V), σ = [some (.ref a), some (.int t), some (.int cell), some (.int m), x, y] ∧ Ex (upd H L (.lst xs)) H') ⟨mix, none, none, rfl, Ex.refl _⟩ (fun i σ H' _ ⟨_, _, _, _, e⟩ => SqL.of (e _ _ upd_same)) ?_ ?_
      · rintro i x σ H1 H2 hi ⟨m, x4, x5, rfl, e⟩ ⟨tp, y1, y2, rfl, htp, rfl, e1, e2⟩
        cases e1
        obtain ⟨z, rfl⟩ := hall y2 (List.mem_of_getElem? e2)
        refine ⟨tp, _, rfl, SqT.of upd_same, rfl, _, _, rfl, _, _, rfl, rfl, ?_⟩
        refine ⟨_, rfl, _, _, rfl, rfl, .inr ⟨by decide, by decide⟩, _, rfl, _, _, rfl, rfl, _, rfl, _, _, rfl, rfl, .inl ⟨by decide, by decide⟩, _, _, rfl, rfl, _, _, rfl, rfl, .inl ⟨_, rfl, _, _, rfl, rfl, by show (0:Int) < 2147483629; decide, ?_⟩⟩
        exact ⟨_, _, _, rfl, e.mut (e.free htp)⟩
      · rintro σ H1 ⟨m, x4, x5, rfl, e⟩
        have ee : Ex H H1 := (Ex.new hL).trans e
        refine ⟨_, rfl, _, _, rfl, rfl, ⟨by decide, by decide, by decide⟩, _, _, rfl, rfl, _, rfl, ?_⟩
        have fin : ∀ c : Int, 0 ≤ c → tCons (tOp (rI (fun _ j => 0 < j) fun i j => V.int (i % j)) (tCB (fun xs H Q => (∃ i, xs = [V.int i] ∧ Q (.int i) H) ∨ ∃ k, xs = [V.bl k] ∧ Q (.int (if k then 1 else 0)) H) (tCons (tOp (rI0 fun i j => V.int (i + j)) (tVar 3) (tOp (rI CMul fun i j => V.int (i * j)) (tVar 2) (tC (.int 31)))) tNil)) (tC (.int 2147483647))) (tCons (tC (.int 0)) tNil) [some (.ref a), some (.int t), some (.int cell), some (.int m), x4, x5] H1
            fun xs H2 => (V.int c :: xs).length ≤ sizeLine ∧ ∀ p, H2 p = none → Q (.ref p) (upd H2 p (.lst (V.int c :: xs))) := by
          intro c hc
          refine ⟨_, rfl, _, rfl, _, _, rfl, rfl, .inr ⟨by decide, by decide⟩, _, _, rfl, rfl, .inl ⟨_, rfl, _, _, rfl, rfl, by show (0:Int) < 2147483647; decide, by show 3 ≤ sizeLine; decide, fun p hp => ?_⟩⟩
          have z0 := Int.emod_nonneg (m + cell * 31) (show (2147483647 : Int) ≠ 0 by decide)
          have z1 := Int.emod_lt_of_pos (m + cell * 31) (show (0 : Int) < 2147483647 by decide)
          exact q p _ (ee.free hp) (ee.mut (ee.free hp)) ⟨c, _, 0, upd_same, hc, z0, by omega, by decide, by decide⟩
        by_cases hc : (10 : Int) ^ (18 : Int).toNat ≤ cell
        · rw [decide_eq_true hc]
          have : (0 : Int) ≤ cell := Int.le_trans (by decide) hc
          exact iteT ⟨_, rfl, fin cell this⟩
        · rw [decide_eq_false hc]
          exact iteF (fin 0 (by decide))
    refine ⟨_, rfl, _, rfl, a, _, rfl, .inl hS, _, _, rfl, rfl, _, rfl, ?_⟩
    have lp : ((ns.map V.int).length : Int) = (ns.length : Int) := by rw [List.length_map]
    rw [lp]
    by_cases ht : t < (ns.length : Int)
    · rw [decide_eq_true ht]
      have hk : t.toNat < ns.length := by omega
      have hg : (ns.map V.int)[t.toNat]? = some (.int (ns[t.toNat]'hk)) := by rw [List.getElem?_map, List.getElem?_eq_getElem hk]; rfl
      refine iteT ⟨_, rfl, _, rfl, a, _, t, _, rfl, rfl, .inl hS, atZ t0 hg, ?_⟩
      exact ⟨_, rfl, _, _, rfl, rfl, .inl ⟨by decide, by decide⟩, _, _, rfl, rfl, _, _, rfl, rest _ _⟩
    · rw [decide_eq_false ht]
      refine iteF ⟨_, rfl, _, _, rfl, rfl, .inl ⟨by decide, by decide⟩, _, rfl, a, _, rfl, .inl hS, _, _, rfl, rfl, ?_⟩
      exact ⟨_, rfl, _, _, rfl, rfl, .inl ⟨by decide, by decide⟩, _, _, rfl, rfl, _, _, rfl, rest _ _⟩
end
end K8

set_option Elab.async false
set_option linter.all false
set_option maxRecDepth 100000
set_option maxHeartbeats 4000000
namespace K8
open PySem PySem.Spec PyProof.Rows L2 M8
def rEqF (K : PySem.W.Frag) : R2 := fun x y H Q => ∃ a, x = .ref a ∧ y = .ref a ∧ FnK K a ∧ Q (.bl true) H
theorem op_eqF {X : Cx} {K : PySem.W.Frag} (hu : X.A.units + 1 < cLine) (hK : X.K = K) : OpR X (compareOp .Eq) (rEqF K) := by
  subst hK
  intro pins s σ H x y v u Q I rx ry h
  obtain ⟨a, rfl, rfl, hf, q⟩ := h
  cases (show v = Value.ref a from rx)
  cases (show u = Value.ref a from ry)
  exact hf.1 _ _ _ _ _ _ hu I.kIn fun tk => ⟨.bl true, H, I.tok tk, rfl, q⟩
theorem op_eq_z {X : Cx} {K : PySem.W.Frag} (hu : X.A.units + 1 < cLine) (hK : X.K = K) : OpR X (compareOp .Eq) (fun x y H Q => rEq x y H Q ∨ rEqF K x y H Q) := OpR.or op_eq (op_eqF hu hK)
theorem walk_zipT {K : PySem.W.Frag} {a b : Addr} {xs ys : List V} {n : Nat} (hn : n = min xs.length ys.length) : Walk (RZ.ItzT K a b) n (fun H => SqT K H a xs ∧ SqT K H b ys) (YPair (fun i => xs[i]?) (fun i => ys[i]?)) := by
  subst hn
  constructor
  · intro i H hi q
    exact ⟨xs, ys, xs[i]'(by omega), ys[i]'(by omega), q.1, q.2, List.getElem?_eq_getElem _, List.getElem?_eq_getElem _⟩
  · intro H q
    exact ⟨xs, ys, q.1, q.2, by omega⟩
  · intro i H v H' _ q y
    obtain ⟨t, x, z, h1, h2, h3, h4, h5⟩ := y
    exact ⟨t, x, z, h1, h2, h3, h4 xs q.1, h5 ys q.2⟩
/-! the law's own look at two things -/
def rows (kds : List (Key × Dat)) : Dat := .lst (kds.map fun p => .tup [keyD p.1, p.2])
def Step (G : Dat → Prop) : Dat → Prop
  | .lst ds => ds.length ≤ 1000 ∧ ∀ d ∈ ds, G d
  | .tup ds => ds.length ≤ 1000 ∧ ∀ d ∈ ds, G d
  | .dct kds => G (rows kds)
  | _ => True
def Dep : Nat → Dat → Prop
  | 0 => Step fun _ => False
  | n + 1 => Step (Dep n)
def spSameG (K : PySem.W.Frag) (G : Dat → Prop) : Sp := fun vs H Q _ => ∃ v u d, vs = [v, u] ∧ SeeF K H v d ∧ SeeF K H u d ∧ G d ∧ ∀ H', Ex H H' → Q (.bl true) H'
theorem see_rows {F : Addr → Prop} {H : Hp} : ∀ {ts : List Addr} {kvs : List (Key × V)} {kds : List (Key × Dat)}, Paired (fun (t : Addr) (q : Key × V) => H t = some (.tup [kV q.1, q.2])) ts kvs → SeeK F H kvs kds →
    SeeL F H (ts.map V.ref) (kds.map fun p => .tup [keyD p.1, p.2])
  | _, _, _, .nil, .nil => .nil
  | _, _, _, .cons h t, .cons s k => .cons (.tup h (.cons (see_key _) (.cons s .nil))) (see_rows t k)
section
variable {P : Program} {w : World} {K : PySem.W.Frag} {mg : Str → Option Value} {base : Heap}
abbrev s__law_same : Stmt := top 36
theorem sc__law_same : FnScope ["found", "due", "one", "other"] ["found", "due"] (defScope s__law_same) := ⟨rfl, rfl, rfl, by decide +kernel, rfl, by decide +kernel, by decide +kernel⟩
theorem zip_all {K : PySem.W.Frag} {G : Dat → Prop} {sub : Sp} (hsub : ∀ (v u : V) (d : Dat) (H : Hp) (Q : VK) (E : XK), SeeF K H v d → SeeF K H u d → G d → (∀ H', Ex H H' → Q (.bl true) H') → sub [v, u] H Q E)
    {J : It} {n : Nat} {Gd : Hp → Prop} {xs ys : List V} {ds : List Dat} {σ : L2.St} {H : Hp} {Q : VK} (wk : Walk J n Gd (YPair (fun i => xs[i]?) (fun i => ys[i]?))) (hG : ∀ H', Ex H H' → Gd H') (hn : n = ds.length) (h1 : n ≤ 1000) (hx : SeeL (FnK K) H xs ds) (hy : SeeL (FnK K) H ys ds) (hg : ∀ d ∈ ds, G d)
    (hw : ∀ x y, wipe (((wipe σ [2, 3]).set 2 (some x)).set 3 (some y)) [2, 3] = wipe σ [2, 3]) (h2 : ∀ x y, (((wipe σ [2, 3]).set 2 (some x)).set 3 (some y))[2]? = some (some x)) (h3 : ∀ x y, (((wipe σ [2, 3]).set 2 (some x)).set 3 (some y))[3]? = some (some y))
    (q : ∀ D H', H D = none → Ex H H' → H' D = some (.lst ((List.replicate n true).map V.bl)) → Q (.ref D) H') :
    LcB (gTup K 2 (gCons (gName 2) (gCons (gName 3) gNil))) tYes (tC0 sub (tCons (tVar 2) (tCons (tVar 3) tNil))) [2, 3] σ Q J H := by
  refine lc_val wk (fun i => (List.replicate i true).map V.bl) (by omega) rfl hG ?_ ?_
  · rintro i x H1 H2 R R' hi e ⟨t, y1, y2, rfl, ht, rfl, e1, e2⟩ k _
    obtain ⟨d, hd, s1⟩ := hx.getV e1
    obtain ⟨d', hd', s2⟩ := hy.getV e2
    have : d' = d := by rw [hd] at hd'; exact (Option.some.inj hd').symm
    subst this
    refine ⟨t, _, rfl, SqT.of upd_same, rfl, _, _, rfl, _, _, rfl, rfl, hw _ _, yesT ?_⟩
    have e3 : Ex H (upd H1 t (.tup [y1, y2])) := e.mut (e.free ht)
    refine ⟨_, h2 _ _, _, h3 _ _, hsub _ _ _ _ _ _ (s1.mono e3) (s2.mono e3) (hg _ (List.mem_of_getElem? hd)) fun H3 e4 => k _ _ ((Ex.new ht).trans e4) ?_⟩
    rw [List.replicate_succ', List.map_append]; rfl
  · intro D H1 hD e hDH
    exact q D H1 hD e hDH
theorem ok_same_step (T : Txt K mg) (a : At K mg "_law_same" s__law_same ["found", "due"]) {k : Nat} {sub : Sp} {G : Dat → Prop} (O_law_same : Ok P w K mg base CX0 k "_law_same" ["found", "due"] sub)
    (hsub : ∀ (v u : V) (d : Dat) (H : Hp) (Q : VK) (E : XK), SeeF K H v d → SeeF K H u d → G d → (∀ H', Ex H H' → Q (.bl true) H') → sub [v, u] H Q E) : Ok P w K mg base CX0 (k + 1) "_law_same" ["found", "due"] (spSameG K (Step G)) := a.ok fun f fd F => by
  refine F.ok sc__law_same (fun vs H Q E h => ?_) (fun cdv A outer s H vs Q E hr h => ?_)
  · obtain ⟨v, u, d, rfl, _⟩ := h; rfl
  · obtain ⟨v, u, d, rfl, hv, hu', hg, q⟩ := h
    refine ⟨_, (pss_cons (ps_if (pt_val (pe_callB call_isiD rfl T.n_isinstance rfl (pa_cons (pv 1) (pa_cons (pe_tyN (n := "dict") rfl T.n_dict rfl) pa_nil)))) (pss_one (ps_ret (pe_and (pe_callB call_isiD rfl T.n_isinstance rfl (pa_cons (pv 0) (pa_cons (pe_tyN (n := "dict") rfl T.n_dict rfl) pa_nil))) (pe_one (pe_callO O_law_same hr rfl (pa_cons (LiI.pe_listItems rfl (pv 0) rfl T.n_list rfl) (pa_cons (LiI.pe_listItems rfl (pv 1) rfl T.n_list rfl) pa_nil))))))) pss_nil)
      (pss_cons (ps_if (pt_val (pe_callB call_isiDT rfl T.n_isinstance rfl (pa_cons (pv 1) (pa_cons (pe_tup (pa_cons (pe_tyN (n := "list") rfl T.n_list rfl) (pa_cons (pe_tyN (n := "tuple") rfl T.n_tuple rfl) pa_nil))) pa_nil)))) (pss_cons (ps_if (PW.pt (pw_or (pt_cmpR op_ne (pe_callB call_isiD rfl T.n_isinstance rfl (pa_cons (pv 0) (pa_cons (pe_tyN (n := "list") rfl T.n_list rfl) pa_nil))) (pe_callB call_isiD rfl T.n_isinstance rfl (pa_cons (pv 1) (pa_cons (pe_tyN (n := "list") rfl T.n_list rfl) pa_nil))) (nomark _)) (pw_or1 (pt_cmpR op_ne (pe_callB call_isiD rfl T.n_isinstance rfl (pa_cons (pv 0) (pa_cons (pe_tyN (n := "tuple") rfl T.n_tuple rfl) pa_nil))) (pe_callB call_isiD rfl T.n_isinstance rfl (pa_cons (pv 1) (pa_cons (pe_tyN (n := "tuple") rfl T.n_tuple rfl) pa_nil))) (nomark _))))) (pss_one (ps_ret pe_bl)) pss_nil)
      (pss_one (ps_ret (pe_and (pe_cmpR op_eq (pe_callB (len_qK (K := K) rfl) rfl T.n_len rfl (pa_cons (pv 0) pa_nil)) (pe_callB (len_qK (K := K) rfl) rfl T.n_len rfl (pa_cons (pv 1) pa_nil)) (nomark _)) (pe_one (pe_callB (cr_all rfl) rfl T.n_all rfl (pa_cons (pe_lc (own := [("one", 2), ("other", 3)]) (g := gTup K 2 (gCons (gName 2) (gCons (gName 3) gNil))) (tt := tYes) rfl sc__law_same.nd (RZ.pi_zipA rfl T.n_zip (pa_cons (pv 0) (pa_cons (pv 1) pa_nil))) (blkOk_by (N := ["found", "due", "one", "other"]) (sc := defScope s__law_same) (by decide +kernel)) (fun _ _ _ _ _ => (pg_tup rfl (pgs_cons (pg_name (i := 2) sc__law_same.nd rfl (Or.inl rfl)) (pgs_cons (pg_name (i := 3) sc__law_same.nd rfl (Or.inl rfl)) pgs_nil)))) (fun _ _ _ _ _ => pts_nil) (fun _ _ _ _ _ => (pe_callO O_law_same hr rfl (pa_cons (pv 2) (pa_cons (pv 3) pa_nil))))) pa_nil))))))) pss_nil)
      (pss_cons (ps_if (PW.pt (pw_or (pt_val (pe_callB call_isiDT rfl T.n_isinstance rfl (pa_cons (pv 0) (pa_cons (pe_tup (pa_cons (pe_tyN (n := "dict") rfl T.n_dict rfl) (pa_cons (pe_tyN (n := "list") rfl T.n_list rfl) (pa_cons (pe_tyN (n := "tuple") rfl T.n_tuple rfl) pa_nil)))) pa_nil)))) (pw_or1 (pt_cmpR op_ne (pe_callB call_isiD rfl T.n_isinstance rfl (pa_cons (pv 0) (pa_cons (pe_tyN (n := "bool") rfl T.n_bool rfl) pa_nil))) (pe_callB call_isiD rfl T.n_isinstance rfl (pa_cons (pv 1) (pa_cons (pe_tyN (n := "bool") rfl T.n_bool rfl) pa_nil))) (nomark _))))) (pss_one (ps_ret pe_bl)) pss_nil)
      (pss_one (ps_ret (pe_cmpR (op_eq_z (hu_of hr) (K := K) rfl) (pv 0) (pv 1) (nomark _))))))), ?_⟩
    refine ⟨_, rfl, u, "dict", d, _, rfl, hu', kit_dct d, _, rfl, ?_⟩
    have sq : ∀ (H0 : Hp) (ds : List Dat) (xs ys : List V), Ex H H0 → SeeL (FnK K) H0 xs ds → SeeL (FnK K) H0 ys ds → ds.length ≤ 1000 → (∀ d ∈ ds, G d) → ∀ b1 b2 : Addr, v = .ref b1 → u = .ref b2 → ((SqL K H0 b1 xs ∧ SqL K H0 b2 ys ∧ (∀ H', Ex H0 H' → SqL K H' b1 xs ∧ SqL K H' b2 ys)) ∨ (SqT K H0 b1 xs ∧ SqT K H0 b2 ys ∧ (∀ H', Ex H0 H' → SqT K H' b1 xs ∧ SqT K H' b2 ys))) →
        tAndV (tOp rEq (tCB (rLenQ K) (tCons (tVar 0) tNil)) (tCB (rLenQ K) (tCons (tVar 1) tNil))) (tCB (rAll K) (tCons (tLc (RZ.iZipA K (tCons (tVar 0) (tCons (tVar 1) tNil))) (gTup K 2 (gCons (gName 2) (gCons (gName 3) gNil))) tYes (tC0 sub (tCons (tVar 2) (tCons (tVar 3) tNil))) [2, 3]) tNil)) [some v, some u, none, none] H0 Q := by
      rintro H0 ds xs ys e0 hx hy hl hgd b1 b2 rfl rfl hsq
      have l1 := hx.len
      have l2 := hy.len
      have q1 : SqQ K H0 b1 xs := hsq.elim (fun z => .inl z.1) (fun z => .inr z.1)
      have q2 : SqQ K H0 b2 ys := hsq.elim (fun z => .inl z.2.1) (fun z => .inr z.2.1)
      refine ⟨_, rfl, b1, xs, rfl, q1, _, rfl, b2, ys, rfl, q2, rfl, _, rfl, ?_⟩
      have e1 : decide (V.int ((xs.length : Nat) : Int) = V.int ((ys.length : Nat) : Int)) = true := decide_eq_true (by rw [l1, l2])
      rw [e1]
      refine iteT ?_
      dsimp only [tCB, tCons, tNil]
      refine tLc_of ?_
      have fin : ∀ D H', H0 D = none → Ex H0 H' → H' D = some (.lst ((List.replicate ds.length true).map V.bl)) → rAll K [.ref D] H' Q := by
        intro D H' hD e hDH
        refine ⟨D, _, rfl, SqL.of hDH, ?_⟩
        have : (List.replicate ds.length true).all id = true := by rw [List.all_eq_true]; intro x hx; exact (List.mem_replicate.mp hx).2
        rw [this]
        exact q H' (e0.trans e)
      have hn : ds.length = min xs.length ys.length := by omega
      refine ⟨_, rfl, _, rfl, b1, b2, xs, ys, rfl, ?_⟩
      rcases hsq with ⟨z1, z2, z3⟩ | ⟨z1, z2, z3⟩
      · exact .inl ⟨z1, z2, zip_all hsub (walk_zip hn) z3 rfl hl hx hy hgd (fun _ _ => rfl) (fun _ _ => rfl) (fun _ _ => rfl) fin⟩
      · exact .inr ⟨z1, z2, zip_all hsub (walk_zipT hn) z3 rfl hl hx hy hgd (fun _ _ => rfl) (fun _ _ => rfl) (fun _ _ => rfl) fin⟩
    cases hu' with
    | @dct b2 kvs2 kds h2 k2 =>
      refine iteT ?_
      cases hv with
      | @dct b1 kvs1 _ h1 k1 =>
        refine ⟨_, rfl, _, "dict", .dct kds, _, rfl, .dct h1 k1, kit_dct _, _, rfl, iteT ?_⟩
        refine ⟨_, rfl, b1, kvs1, rfl, h1, fun H1 p1 ts1 e1 n1 _ _ hp1 hr1 => ?_⟩
        refine ⟨_, rfl, b2, kvs2, rfl, e1 _ _ h2, fun H2 p2 ts2 e2 n2 _ _ hp2 hr2 => ?_⟩
        have s1 : SeeF K H1 (.ref p1) (rows kds) := .lst hp1 (see_rows hr1 (SeeK.mono e1 k1))
        have s2 : SeeF K H2 (.ref p2) (rows kds) := .lst hp2 (see_rows hr2 (SeeK.mono (Ex.trans e1 e2) k2))
        exact hsub _ _ _ _ _ _ (s1.mono e2) s2 hg fun H3 e3 => q _ (Ex.trans (Ex.trans e1 e2) e3)
    | @lst b2 ys ds h2 k2 =>
      refine iteF ?_
      cases hv with
      | @lst b1 xs _ h1 k1 =>
        refine ⟨_, rfl, by show 2 ≤ sizeLine; decide, fun tp htp => ⟨_, tp, ["list", "tuple"], _, _, rfl, upd_same, .lst ((Ex.new htp) _ _ h2) (SeeL.mono (Ex.new htp) k2), kit_lt (.lst ds), _, rfl, iteT ?_⟩⟩
        have e0 : Ex H (upd H tp (.tup (["list", "tuple"].map V.ty))) := Ex.new htp
        have v1 := See.lst (F := FnK K) (e0 _ _ h1) (SeeL.mono e0 k1)
        have v2 := See.lst (F := FnK K) (e0 _ _ h2) (SeeL.mono e0 k2)
        refine ⟨_, rfl, _, "list", _, _, rfl, v1, kit_lst _, _, rfl, _, "list", _, _, rfl, v2, kit_lst _, rfl, _, rfl, iteF ?_⟩
        refine ⟨_, rfl, _, "tuple", _, _, rfl, v1, kit_tup _, _, rfl, _, "tuple", _, _, rfl, v2, kit_tup _, rfl, _, rfl, iteF ?_⟩
        exact sq _ ds xs ys e0 (SeeL.mono e0 k1) (SeeL.mono e0 k2) hg.1 hg.2 b1 b2 rfl rfl (.inl ⟨SqL.of (e0 _ _ h1), SqL.of (e0 _ _ h2), fun H' e => ⟨SqL.of (e _ _ (e0 _ _ h1)), SqL.of (e _ _ (e0 _ _ h2))⟩⟩)
    | @tup b2 ys ds h2 k2 =>
      refine iteF ?_
      cases hv with
      | @tup b1 xs _ h1 k1 =>
        refine ⟨_, rfl, by show 2 ≤ sizeLine; decide, fun tp htp => ⟨_, tp, ["list", "tuple"], _, _, rfl, upd_same, .tup ((Ex.new htp) _ _ h2) (SeeL.mono (Ex.new htp) k2), kit_lt (.tup ds), _, rfl, iteT ?_⟩⟩
        have e0 : Ex H (upd H tp (.tup (["list", "tuple"].map V.ty))) := Ex.new htp
        have v1 := See.tup (F := FnK K) (e0 _ _ h1) (SeeL.mono e0 k1)
        have v2 := See.tup (F := FnK K) (e0 _ _ h2) (SeeL.mono e0 k2)
        refine ⟨_, rfl, _, "list", _, _, rfl, v1, kit_lst _, _, rfl, _, "list", _, _, rfl, v2, kit_lst _, rfl, _, rfl, iteF ?_⟩
        refine ⟨_, rfl, _, "tuple", _, _, rfl, v1, kit_tup _, _, rfl, _, "tuple", _, _, rfl, v2, kit_tup _, rfl, _, rfl, iteF ?_⟩
        exact sq _ ds xs ys e0 (SeeL.mono e0 k1) (SeeL.mono e0 k2) hg.1 hg.2 b1 b2 rfl rfl (.inr ⟨SqT.of (e0 _ _ h1), SqT.of (e0 _ _ h2), fun H' e => ⟨SqT.of (e _ _ (e0 _ _ h1)), SqT.of (e _ _ (e0 _ _ h2))⟩⟩)
    | non => cases hv with
      | non =>
        refine iteF ?_
        refine ⟨_, rfl, by show 2 ≤ sizeLine; decide, fun tp htp => ⟨_, tp, ["list", "tuple"], .non, _, rfl, upd_same, .non, kit_lt .non, _, rfl, iteF ?_⟩⟩
        refine ⟨_, rfl, by show 3 ≤ sizeLine; decide, fun t2 h2 => ⟨_, t2, ["dict", "list", "tuple"], .non, _, rfl, upd_same, .non, kit_dlt .non, _, rfl, iteF ?_⟩⟩
        refine ⟨_, rfl, _, "bool", .non, _, rfl, .non, kit_bool .non, _, rfl, _, "bool", .non, _, rfl, .non, kit_bool .non, rfl, _, rfl, iteF ?_⟩
        exact ⟨_, rfl, _, rfl, .inl ⟨rfl, by rw [decide_eq_true rfl]; exact q _ (Ex.trans (Ex.new htp) (Ex.new h2))⟩⟩
    | bl b => cases hv with
      | bl _ =>
        refine iteF ?_
        refine ⟨_, rfl, by show 2 ≤ sizeLine; decide, fun tp htp => ⟨_, tp, ["list", "tuple"], (.bl b), _, rfl, upd_same, (.bl b), kit_lt (.bl b), _, rfl, iteF ?_⟩⟩
        refine ⟨_, rfl, by show 3 ≤ sizeLine; decide, fun t2 h2 => ⟨_, t2, ["dict", "list", "tuple"], (.bl b), _, rfl, upd_same, (.bl b), kit_dlt (.bl b), _, rfl, iteF ?_⟩⟩
        refine ⟨_, rfl, _, "bool", (.bl b), _, rfl, (.bl b), kit_bool (.bl b), _, rfl, _, "bool", (.bl b), _, rfl, (.bl b), kit_bool (.bl b), rfl, _, rfl, iteF ?_⟩
        exact ⟨_, rfl, _, rfl, .inl ⟨rfl, by rw [decide_eq_true rfl]; exact q _ (Ex.trans (Ex.new htp) (Ex.new h2))⟩⟩
    | int i => cases hv with
      | int _ =>
        refine iteF ?_
        refine ⟨_, rfl, by show 2 ≤ sizeLine; decide, fun tp htp => ⟨_, tp, ["list", "tuple"], (.int i), _, rfl, upd_same, (.int i), kit_lt (.int i), _, rfl, iteF ?_⟩⟩
        refine ⟨_, rfl, by show 3 ≤ sizeLine; decide, fun t2 h2 => ⟨_, t2, ["dict", "list", "tuple"], (.int i), _, rfl, upd_same, (.int i), kit_dlt (.int i), _, rfl, iteF ?_⟩⟩
        refine ⟨_, rfl, _, "bool", (.int i), _, rfl, (.int i), kit_bool (.int i), _, rfl, _, "bool", (.int i), _, rfl, (.int i), kit_bool (.int i), rfl, _, rfl, iteF ?_⟩
        exact ⟨_, rfl, _, rfl, .inl ⟨rfl, by rw [decide_eq_true rfl]; exact q _ (Ex.trans (Ex.new htp) (Ex.new h2))⟩⟩
    | str z => cases hv with
      | str _ =>
        refine iteF ?_
        refine ⟨_, rfl, by show 2 ≤ sizeLine; decide, fun tp htp => ⟨_, tp, ["list", "tuple"], (.str z), _, rfl, upd_same, (.str z), kit_lt (.str z), _, rfl, iteF ?_⟩⟩
        refine ⟨_, rfl, by show 3 ≤ sizeLine; decide, fun t2 h2 => ⟨_, t2, ["dict", "list", "tuple"], (.str z), _, rfl, upd_same, (.str z), kit_dlt (.str z), _, rfl, iteF ?_⟩⟩
        refine ⟨_, rfl, _, "bool", (.str z), _, rfl, (.str z), kit_bool (.str z), _, rfl, _, "bool", (.str z), _, rfl, (.str z), kit_bool (.str z), rfl, _, rfl, iteF ?_⟩
        exact ⟨_, rfl, _, rfl, .inl ⟨rfl, by rw [decide_eq_true rfl]; exact q _ (Ex.trans (Ex.new htp) (Ex.new h2))⟩⟩
    | fn hf => cases hv with
      | fn _ =>
        refine iteF ?_
        refine ⟨_, rfl, by show 2 ≤ sizeLine; decide, fun tp htp => ⟨_, tp, ["list", "tuple"], (.fn _), _, rfl, upd_same, (.fn hf), kit_lt (.fn _), _, rfl, iteF ?_⟩⟩
        refine ⟨_, rfl, by show 3 ≤ sizeLine; decide, fun t2 h2 => ⟨_, t2, ["dict", "list", "tuple"], (.fn _), _, rfl, upd_same, (.fn hf), kit_dlt (.fn _), _, rfl, iteF ?_⟩⟩
        refine ⟨_, rfl, _, "bool", (.fn _), _, rfl, (.fn hf), kit_bool (.fn _), _, rfl, _, "bool", (.fn _), _, rfl, (.fn hf), kit_bool (.fn _), rfl, _, rfl, iteF ?_⟩
        exact ⟨_, rfl, _, rfl, .inr ⟨_, rfl, rfl, hf, q _ (Ex.trans (Ex.new htp) (Ex.new h2))⟩⟩

theorem Step.imp {G G' : Dat → Prop} (h : ∀ d, G d → G' d) : ∀ d, Step G d → Step G' d
  | .lst _, x => ⟨x.1, fun d m => h d (x.2 d m)⟩
  | .tup _, x => ⟨x.1, fun d m => h d (x.2 d m)⟩
  | .dct _, x => h _ x
  | .non, _ => trivial
  | .bl _, _ => trivial
  | .int _, _ => trivial
  | .str _, _ => trivial
  | .fn _, _ => trivial
theorem ok_same (T : Txt K mg) (a : At K mg "_law_same" s__law_same ["found", "due"]) : ∀ n, Ok P w K mg base CX0 (n + 2) "_law_same" ["found", "due"] (spSameG K (Dep n))
  | 0 => ok_same_step T a (sub := fun _ _ _ _ => False) (a.ok fun f fd F => F.ok sc__law_same (fun vs H Q E h => h.elim) (fun cdv A outer s H vs Q E hr h => h.elim)) (fun _ _ _ _ _ _ _ _ h _ => h.elim)
  | n + 1 => ok_same_step T a (ok_same T a n) (fun v u d H Q E h1 h2 h3 h4 => ⟨v, u, d, rfl, h1, h2, h3, h4⟩)
end
end K8

set_option Elab.async false
set_option linter.all false
set_option maxRecDepth 100000
set_option maxHeartbeats 4000000
namespace K8
open PySem PySem.Spec PyProof.Rows L2 M8
/-! a heap without the spring -/
def sans (a : Addr) (H : Hp) : Hp := fun b => if b = a then none else H b
theorem sans_ne {a b : Addr} {H : Hp} (h : b ≠ a) : sans a H b = H b := if_neg h
theorem sans_ex (a : Addr) (H : Hp) : Ex (sans a H) H := fun b o h => by
  unfold sans at h
  split at h
  · cases h
  · exact h
theorem Exo.sans {a : Addr} {H H' : Hp} (e : Exo [a] H H') : Ex (sans a H) (sans a H') := fun b o h => by
  unfold K8.sans at h
  split at h
  · cases h
  · rename_i n
    rw [sans_ne n]; exact e b o (by simpa using n) h
theorem Ex.sans {a : Addr} {H H' : Hp} (e : Ex H H') : Ex (sans a H) (sans a H') := (e.exo [a]).sans
theorem Exo.at1 {a : Addr} {H H' : Hp} {b : Addr} {o : HO} (e : Exo [a] H H') (n : b ≠ a) (h : H b = some o) : H' b = some o := e b o (by simpa using n) h
theorem Exo.free {S : List Addr} {H H' : Hp} {p : Addr} (e : Exo S H H') (n : p ∉ S) (h : H' p = none) : H p = none := by
  cases q : H p with
  | none => rfl
  | some o => rw [e p o n q] at h; cases h
/-! pairs made into a dict -/
theorem putK_new {kvs : List (Key × V)} {k : Key} {v : V} (h : k ∉ kvs.map (·.1)) : putK kvs k v = kvs ++ [(k, v)] := by
  unfold putK
  rw [if_neg]
  rw [Bool.not_eq_true, List.any_eq_false]
  intro kv hkv z
  exact h (List.mem_map.mpr ⟨kv, hkv, by simpa using z⟩)
theorem mergeK_app : ∀ (more kvs : List (Key × V)), ((kvs ++ more).map (·.1)).Nodup → mergeK kvs more = kvs ++ more
  | [], kvs, _ => by simp [mergeK]
  | kv :: more, kvs, h => by
    unfold mergeK
    rw [List.foldl_cons]
    have h1 : kv.1 ∉ kvs.map (·.1) := by
      intro z
      rw [List.map_append, List.map_cons, List.nodup_append] at h
      exact h.2.2 _ z _ (by simp) rfl
    rw [putK_new h1]
    have := mergeK_app more (kvs ++ [(kv.1, kv.2)]) (by simpa using h)
    unfold mergeK at this
    rw [this]; simp
theorem mergeK_nil {kvs : List (Key × V)} (h : (kvs.map (·.1)).Nodup) : mergeK [] kvs = kvs := mergeK_app kvs [] (by simpa using h)
def rDictC (K : PySem.W.Frag) : List V → Hp → VK → Prop := fun xs H Q => ∃ (a : Addr) (ps : List Addr) (kvs : List (Key × V)), xs = [.ref a] ∧ H a = some (.lst (ps.map V.ref)) ∧ Paired (fun p kv => H p = some (.tup [kV kv.1, kv.2])) ps kvs ∧ (kvs.map (·.1)).Nodup ∧
    ∀ p, H p = none → Q (.ref p) (upd H p (.dK kvs))
theorem Paired.imp {α β : Type} {R R' : α → β → Prop} (h : ∀ a b, R a b → R' a b) : ∀ {as : List α} {bs : List β}, Paired R as bs → Paired R' as bs
  | _, _, .nil => .nil
  | _, _, .cons x t => .cons (h _ _ x) (Paired.imp h t)
theorem Paired.app {α β : Type} {R : α → β → Prop} : ∀ {as cs : List α} {bs ds : List β}, Paired R as bs → Paired R cs ds → Paired R (as ++ cs) (bs ++ ds)
  | _, _, _, _, .nil, h => h
  | _, _, _, _, .cons x t, h => .cons x (Paired.app t h)
theorem call_dictC {X : Cx} {K : PySem.W.Frag} (hK : X.K = K) (hc : X.calm = true) : CallR X (.type "dict") (rDictC K) := by
  subst hK
  intro pins s σ H xs us Q I r q
  obtain ⟨a, ps, kvs, ex, ha, hp, hn, q⟩ := q
  refine call_dictP hc pins s σ H xs us Q I r ⟨a, ps, kvs, ex, SqL.of ha, Paired.imp (fun _ _ h => SqT.of h) hp, ?_⟩
  rw [mergeK_nil hn]; exact q
theorem cK_nodup {c : Coef} (h : (keys c).Nodup) : ((cK c).map (·.1)).Nodup := by
  rw [keys_cK]
  exact List.Pairwise.map _ (fun a b h => fun z => h (Sum.inr.inj z)) h
theorem keys_app (c d : Coef) : keys (c ++ d) = keys c ++ keys d := by unfold keys; rw [List.map_append]
theorem cK_app (c d : Coef) : cK (c ++ d) = cK c ++ cK d := by unfold cK; rw [List.map_append]
/-! a comprehension of pairs of a name and a number -/
def PairAt (H : Hp) (p : Addr) (kv : Str × Int) : Prop := H p = some (.tup [.str kv.1, .int kv.2])
theorem pairs_cK {H : Hp} : ∀ {ps : List Addr} {c : Coef}, Paired (PairAt H) ps c → Paired (fun p kv => H p = some (.tup [kV kv.1, kv.2])) ps (cK c)
  | _, _, .nil => .nil
  | _, _, .cons h t => .cons h (pairs_cK t)
theorem Paired.exo {S : List Addr} {H H' : Hp} (e : Exo S H H') : ∀ {ps : List Addr} {c : Coef}, (∀ p ∈ ps, p ∉ S) → Paired (PairAt H) ps c → Paired (PairAt H') ps c
  | _, _, _, .nil => .nil
  | _, _, n, .cons h t => .cons (e _ _ (n _ (by simp)) h) (Paired.exo e (fun p hp => n p (by simp [hp])) t)
theorem lc_pairs {J : It} {n : Nat} {G : Hp → Prop} {Y : Nat → Hp → V → Hp → Prop} (w : Walk J n G Y) {g : TG} {tt : TT} {te : TE} {vs : List Nat} {σ : L2.St} {H1 : Hp} {Q : VK} (S : List Addr) (M : Nat → Hp → Prop) (Iv : Nat → Coef → Prop) (hn : n ≤ 1000000)
    (hG : ∀ H, Exo S H1 H → G H) (hM : ∀ i H H', (∀ b ∈ S, H' b = H b) → M i H → M i H') (hMS : ∀ i H, M i H → ∀ b ∈ S, H b ≠ none) (m0 : M 0 H1) (i0 : Iv 0 [])
    (hs : ∀ i x H H' c (R : V → Hp → Prop) (R' : Hp → Prop), i < n → Exo S H1 H → M i H → Iv i c → Y i H x H' →
      (∀ p nm z H4, H p = none → Exo S H H4 → M (i + 1) H4 → Iv (i + 1) (c ++ [(nm, z)]) → H4 p = some (.tup [.str nm, .int z]) → R (.ref p) H4) → (∀ H4, Exo S H H4 → M (i + 1) H4 → Iv (i + 1) c → R' H4) →
      g x (wipe σ vs) H' fun σ2 H2 => wipe σ2 vs = wipe σ vs ∧ tt σ2 H2 fun b H3 => if b = true then te σ2 H3 R else R' H3)
    (hd : ∀ D ps c H, H1 D = none → Exo S H1 H → M n H → Iv n c → H D = some (.lst (ps.map V.ref)) → Paired (PairAt H) ps c → Q (.ref D) H) :
    LcB g tt te vs σ Q J H1 := by
  refine lc_gen w S M (fun i acc H => ∃ ps c, acc = ps.map V.ref ∧ Paired (PairAt H) ps c ∧ Iv i c ∧ ∀ p ∈ ps, p ∉ S) hn (hMS 0 _ m0) hG hM ?_ m0 ?_ ?_ ?_
  · rintro i acc H D l0 l hD hN ⟨ps, c, e1, e2, e3, e4⟩
    refine ⟨ps, c, e1, ?_, e3, e4⟩
    have : ∀ {ps : List Addr} {c : Coef}, Paired (PairAt H) ps c → Paired (PairAt (upd H D (.lst l))) ps c := by
      intro ps c h
      refine Paired.imp (fun p kv h => ?_) h
      show upd H D (.lst l) p = _
      rw [upd_ne fun z => by rw [z] at h; rw [show H D = _ from h] at hD; cases hD]
      exact h
    exact this e2
  · intro D hD
    exact ⟨[], [], rfl, .nil, i0, by simp⟩
  · rintro i x H H' acc R R' hi e m ⟨ps, c, rfl, e2, e3, e4⟩ hl y k k'
    refine hs i x H H' c R R' hi e m e3 y (fun p nm z H4 hp e' m' i' h4 => ?_) (fun H4 e' m' i' => k' H4 e' m' ⟨ps, c, rfl, Paired.exo e' e4 e2, i', e4⟩)
    refine k _ _ e' m' ⟨ps ++ [p], c ++ [(nm, z)], by simp, Paired.app (Paired.exo e' e4 e2) (.cons h4 .nil), i', fun q hq => ?_⟩
    rcases List.mem_append.mp hq with hq | hq
    · exact e4 q hq
    · have : q = p := by simpa using hq
      rw [this]
      exact fun z => hMS i H m p z hp
  · rintro D acc H hD e m ⟨ps, c, rfl, e2, e3, e4⟩ hDH hl
    exact hd D ps c H hD e m e3 hDH e2
/-! literals -/
def tLit (K : PySem.W.Frag) (Γ : List (Nat × Dat)) (d : Dat) : TE := fun σ H Q => (∀ p ∈ Γ, ∃ v, σ[p.1]? = some (some v) ∧ SeeF K H v p.2) ∧ ∀ v H', Ex H H' → SeeF K H' v d → Q v H'
def tLits (K : PySem.W.Frag) (Γ : List (Nat × Dat)) (ds : List Dat) : TA := fun σ H Q => (∀ p ∈ Γ, ∃ v, σ[p.1]? = some (some v) ∧ SeeF K H v p.2) ∧ ∀ vs H', Ex H H' → SeeL (FnK K) H' vs ds → Q vs H'
section
variable {X : Cx} {K : PySem.W.Frag} {Γ : List (Nat × Dat)}
theorem PE.lit {e : Expr} {v : V} {d : Dat} (h : PE X e (tC v)) (hs : ∀ H, SeeF K H v d) : PE X e (tLit K Γ d) := ⟨fun pins s σ H Q I q => h.run pins s σ H Q I (q.2 _ _ (Ex.refl _) (hs H))⟩
theorem PE.litV {e : Expr} {i : Nat} {d : Dat} (h : PE X e (tVar i)) (hi : (i, d) ∈ Γ) : PE X e (tLit K Γ d) := ⟨fun pins s σ H Q I q => h.run pins s σ H Q I (by
  obtain ⟨v, h1, h2⟩ := q.1 _ hi
  exact ⟨v, h1, q.2 _ _ (Ex.refl _) h2⟩)⟩
theorem ls_nil : PA X [] (tLits K Γ []) := ⟨fun pos pins s σ H Q I q => pa_nil.run pos pins s σ H Q I (q.2 _ _ (Ex.refl _) .nil)⟩
theorem ls_cons {e : Expr} {es : List Expr} {d : Dat} {ds : List Dat} (h : PE X e (tLit K Γ d)) (hr : PA X es (tLits K Γ ds)) (hs : starEach (e :: es) X.env = (false, eval e X.env) :: starEach es X.env := by rfl) : PA X (e :: es) (tLits K Γ (d :: ds)) :=
  ⟨fun pos pins s σ H Q I q => (pa_cons h hr hs).run pos pins s σ H Q I ⟨q.1, fun v H1 e1 s1 => ⟨fun p hp => by
    obtain ⟨v, h1, h2⟩ := q.1 p hp
    exact ⟨v, h1, h2.mono e1⟩, fun vs H2 e2 s2 => q.2 _ _ (e1.trans e2) (.cons (s1.mono e2) s2)⟩⟩⟩
theorem big15 (n : Nat) (h : n ≤ 1000000) : n ≤ sizeLine := by rw [sizeLine_eq]; omega
theorem lt_tup {es : List Expr} {ds : List Dat} {x1} {pos : Pos} (h : PA X es (tLits K Γ ds)) (hn : ds.length ≤ 1000000 := by decide) : PE X (.Tuple es x1 pos) (tLit K Γ (.tup ds)) :=
  ⟨fun pins s σ H Q I q => (pe_tup h).run pins s σ H Q I ⟨q.1, fun vs H1 e1 s1 => ⟨by rw [s1.len]; exact big15 _ hn, fun p hp => q.2 _ _ (e1.mut (e1.free hp)) (.tup upd_same (SeeL.mono (Ex.new hp) s1))⟩⟩⟩
theorem lt_lst {es : List Expr} {ds : List Dat} {pos : Pos} (h : PA X es (tLits K Γ ds)) (hn : ds.length ≤ 1000000 := by decide) : PE X (.List es pos) (tLit K Γ (.lst ds)) :=
  ⟨fun pins s σ H Q I q => (pe_lst h).run pins s σ H Q I ⟨q.1, fun vs H1 e1 s1 => ⟨by rw [s1.len]; exact big15 _ hn, fun p hp => q.2 _ _ (e1.mut (e1.free hp)) (.lst upd_same (SeeL.mono (Ex.new hp) s1))⟩⟩⟩
theorem lt_dnil {pos : Pos} : PE X (.Dict [] [] pos) (tLit K Γ (.dct [])) := ⟨fun pins s σ H Q I q => pe_dnewK.run pins s σ H Q I (fun p hp => q.2 _ _ (Ex.new hp) (.dct upd_same .nil))⟩
/-- a dict written with one key -/
theorem lt_d1 {pos : Pos} {k e : Expr} {key : Key} {v : V} {d : Dat} (hk : PE X k (tC (kV key))) (hv : PE X e (tC v)) (hs : ∀ H, SeeF K H v d) : PE X (.Dict [some k] [e] pos) (tLit K Γ (.dct [(key, d)])) := by
  refine ⟨fun pins s σ H Q I q => (pe_disp (pps_cons hk hv pps_nil) rfl rfl (by simp) (by simp)).run pins s σ H Q I ?_⟩
  intro p hp
  refine ⟨upd_same, [(key, v)], rfl, by simp, q.2 _ _ ((Ex.new hp).mut hp) (.dct upd_same (.cons (hs _) .nil))⟩
end
end K8

set_option Elab.async false
set_option linter.all false
set_option maxRecDepth 100000
set_option maxHeartbeats 4000000
namespace K8
open PySem PySem.Spec PyProof.Rows L2 M8
/-! list(d.values()) -/
def tListVals (te : TE) : TE := fun σ H Q => te σ H fun x H1 => ∃ (d : Addr) (kvs : List (Key × V)), x = .ref d ∧ H1 d = some (.dK kvs) ∧ ∀ p, H1 p = none → Q (.ref p) (upd H1 p (.lst (kvs.map (·.2))))
section
variable {X : Cx} {e : Expr} {te : TE} {p apos cpos pos : Pos}
theorem vals_snd : ∀ {kvs : List (Key × V)} {vs : List (Key × Value)}, KV kvs vs → Vals (kvs.map (·.2)) (vs.map (·.2)) := by
  intro kvs vs r
  unfold KV at r
  induction r with
  | nil => exact .nil
  | cons h t ih => exact .cons h.2 ih
theorem pe_listValues (hc : X.calm = true) (he : PE X e te) (hg : Gl X "list") (hm : X.mg "list" = none) (hv : bootBuiltins "list" = some (.type "list")) (hbase : attributeBase e "values" X.env (eval e X.env) = eval e X.env := by rfl) (hline : (apos.endLine == cpos.line) = true := by rfl)
    (hs : starEach [.Call (.Attribute e "values" apos) [] [] cpos] X.env = (false, eval (.Call (.Attribute e "values" apos) [] [] cpos) X.env) :: starEach [] X.env := by rfl) :
    PE X (.Call (.Name "list" p) [.Call (.Attribute e "values" apos) [] [] cpos] [] pos) (tListVals te) := by
  refine ⟨fun pins s σ H Q I hq => ?_⟩
  refine wpAny_Call_Name_kw (ld_blt I hg hm hv ?_)
  refine PyProof.Rows.callWith_type1 ?_ hs rfl
  rw [hs]
  show wpAny _ _ (spliced ((false, eval (.Call (.Attribute e "values" apos) [] [] cpos) X.env) :: backTo pos (starEach [] X.env))) _ _ s
  refine Calls.spliced_cons ?_
  refine wpAny_Call_method (T := "dict") (id := "dict.values") hbase rfl hline F.plainAttrs_dict F.slot_dict_values F.type_dict_values (thn (he.run pins s σ H _ I hq) fun u s1 ⟨x, H1, I1, rx, d, kvs, ex, hd, q⟩ => ?_)
  subst ex
  obtain rfl : u = Value.ref d := rx
  obtain ⟨hz, hs0, vs, kv, hdo⟩ := I1.hok d _ hd
  obtain ⟨ep, hat⟩ := hdo.dictAt
  have lk : kvs.length = vs.length := Paired.length kv
  have I2 : Inv X pins σ H1 { s1 with heap := s1.heap.push { cls := .type "dict_values", data := .fields #[.ref d] } } := I1.kept (t' := s1.toks) fun b ob q => Heap.get?_push_of_some _ q
  refine ⟨hdo.typeIs, hdo.mapOf.noDict, ?_⟩
  show wpAny _ _ (callWith cpos (.builtin "dict.values") [.ref d] [] []) _ X.xe s1
  refine method_meetsIn F.slot_dict_values F.entry_dict_values rfl (PySem.evalArgs_none ⟨rfl, hdo.typeIs, F.args_dict_values_1 _, _, meets_dict_values (mixKind X.prog X.w) d hs0, ⟨vs, hdo⟩, ?_⟩)
  refine Calls.spliced_nil ?_
  refine PySem.W.kdl_call (PySem.W.kdl_values (knd := mixKind X.prog X.w) (kvs := vs) (ep := ep)) (I1.ok.hd hc) ⟨⟨_, Heap.get?_push_size _ rfl, rfl, rfl⟩, hat.push _⟩ (by omega) fun h' tk acc c' hk hD hacc => ?_
  have hva : acc.toList = vs.map (·.2) := PySem.W.kdl_vals_eq _ (by rw [Array.length_toList]; exact hacc.1) fun j v e => hacc.2 j v (by rw [← Array.getElem?_toList]; exact e)
  refine ⟨.ref _, _, I2.laid (t' := tk) (o := .lst (kvs.map (·.2))) hk (Nat.le_refl _) (show ObjOk X.prog X.w _ _ _ (.lst (kvs.map (·.2))) from ⟨by rw [List.length_map]; exact hz, acc.toList, c', by rw [hva]; exact vals_snd kv, by rw [Array.toArray_toList]; exact hD⟩), rfl, q _ (I2.hok.fresh (Nat.le_refl _))⟩
/-- d == {} -/
def rEq0 : R2 := fun x y H Q => ∃ a b ks, x = .ref a ∧ y = .ref b ∧ H a = some (.dK ks) ∧ H b = some (.dK []) ∧ Q (.bl ks.isEmpty) H
theorem op_eq0 (hu : X.A.units + 1 < cLine) : OpR X (compareOp .Eq) rEq0 := by
  intro pins s σ H x y v u Q I rx ry h
  obtain ⟨a, b, ks, rfl, rfl, ea, eb, q⟩ := h
  obtain rfl : v = Value.ref a := rx
  obtain rfl : u = Value.ref b := ry
  obtain ⟨_, ya, va, ra, da⟩ := (show ObjOk X.prog X.w H s.heap a (.dK ks) from I.hok a _ ea)
  obtain ⟨_, yb, vb, rb, db⟩ := (show ObjOk X.prog X.w H s.heap b (.dK []) from I.hok b _ eb)
  have hla : ks.length = va.length := ra.length
  have hlb : 0 = vb.length := rb.length
  refine PySem.W.keq_eq (knd := mixKind X.prog X.w) (r := true) ya yb da db (by omega) (fun hl => ?_) (fin_bl I q ?_)
  · have hk : ks = [] := List.eq_nil_of_length_eq_zero (by omega)
    subst hk
    exact hits_all rb ra (by simp)
  · cases ks with
    | nil => simp at hla; simp [← hla, ← hlb]
    | cons p t =>
      have : va.length ≠ vb.length := by simp at hla; omega
      simp [this]
end
/-! pairs of a dict's own names, made into a dict -/
theorem lp_lock {H : Hp} {d : Addr} {c : Coef} {td te : TE} {tt : TT} {j : Nat} {vs : List Nat} {σ : L2.St} {Q : VK} (f : Str × Int → Int) (kp : Str × Int → Bool) (hd : H d = some (.dK (cK c))) (few : Few c)
    (htd : ∀ (H2 : Hp) (R : V → Hp → Prop), (∀ b o, b ≠ d → H b = some o → H2 b = some o) → R (.ref d) H2 → td σ H2 R) (hj : (wipe σ vs)[j]? ≠ none) (hw : ∀ x, wipe ((wipe σ vs).set j (some x)) vs = wipe σ vs)
    (hv : ∀ (n : Str) (z : Int) (H2 : Hp) (od : Obj) (R : V → Hp → Prop) (R' : Hp → Prop), (n, z) ∈ c → H2 d = some (.frz od (.dK (cK c))) → (∀ b o, b ≠ d → H b = some o → H2 b = some o) →
      (kp (n, z) = true → ∀ p H4, H2 p = none → Ex H2 H4 → H4 p = some (.tup [.str n, .int (f (n, z))]) → R (.ref p) H4) → (kp (n, z) = false → ∀ H4, Ex H2 H4 → R' H4) →
      tt ((wipe σ vs).set j (some (.str n))) H2 fun b H3 => if b = true then te ((wipe σ vs).set j (some (.str n))) H3 R else R' H3)
    (hq : ∀ D ps H', H D = none → Ex H H' → H' D = some (.lst (ps.map V.ref)) → Paired (PairAt H') ps ((c.filter kp).map fun p => (p.1, f p)) → Q (.ref D) H') :
    tLockE (tLc (iKeys td) (gName j) tt te vs) σ H Q := by
  refine ⟨d, _, hd, trivial, fun od => ?_⟩
  refine tLc_of ?_
  have out : ∀ H2 : Hp, Ex (upd H d (.frz od (.dK (cK c)))) H2 → ∀ b o, b ≠ d → H b = some o → H2 b = some o := fun H2 e b o hb h => e b o (by rw [upd_ne hb]; exact h)
  refine htd _ _ (fun b o hb h => by rw [upd_ne hb]; exact h) ⟨d, od, rfl, .inl ⟨_, upd_same, ?_⟩⟩
  have hl : (cK c).length = c.length := cK_len c
  refine lc_pairs walk_keys [] (fun _ _ => True) (fun i c' => c' = ((c.take i).filter kp).map fun p => (p.1, f p)) (by have := few.len; omega) (fun H1 e => e.ex _ _ upd_same) (fun _ _ _ _ _ => trivial) (fun _ _ _ b hb => by simp at hb) trivial rfl ?_ ?_
  · rintro i x H1 H2 c' R R' hi e _ rfl ⟨rfl, k', z, hkz, rfl⟩ k1 k2
    have hci : i < c.length := by omega
    obtain ⟨⟨n, y⟩, hcy⟩ : ∃ p : Str × Int, c[i]? = some p := ⟨c[i], List.getElem?_eq_getElem hci⟩
    rw [get_cK hcy] at hkz
    cases hkz
    have ht : c.take (i + 1) = c.take i ++ [(n, y)] := by rw [List.take_add_one, hcy]; rfl
    have hjl : j < (wipe σ vs).length := Decidable.byContradiction fun q => hj (List.getElem?_eq_none (by omega))
    refine ⟨hw _, hv n y H2 od R R' (List.mem_of_getElem? hcy) (e.ex _ _ upd_same) (out _ e.ex) (fun hk p H4 hp e4 h4 => ?_) (fun hk H4 e4 => ?_)⟩
    · refine k1 p n (f (n, y)) H4 hp (e4.exo _) trivial ?_ h4
      rw [ht, List.filter_append, List.map_append, List.filter_cons, if_pos hk]; rfl
    · refine k2 H4 (e4.exo _) trivial ?_
      rw [ht, List.filter_append, List.filter_cons, if_neg (by rw [hk]; simp)]; simp
  · rintro D ps c' H1 hD e _ rfl hDH hp
    have hx := e.ex _ _ upd_same
    have hDd : D ≠ d := fun z => by rw [z, upd_same] at hD; cases hD
    have ht : c.take (cK c).length = c := List.take_of_length_le (by omega)
    rw [ht] at hp
    refine ⟨hx, hq D ps _ (by rw [upd_ne hDd] at hD; exact hD) (e.ex.unlock hd) (by rw [upd_ne hDd]; exact hDH) (Paired.imp (fun p kv h => ?_) hp)⟩
    show upd H1 d _ p = _
    rw [upd_ne fun z => by rw [z] at h; rw [show H1 d = _ from h] at hx; cases hx]
    exact h
theorem keys_fm {c : Coef} {f : Str × Int → Int} {kp : Str × Int → Bool} (h : (keys c).Nodup) : (keys ((c.filter kp).map fun p => (p.1, f p))).Nodup := by
  unfold keys
  rw [List.map_map]
  exact h.sublist (List.filter_sublist.map _)
theorem dp_lock {K : PySem.W.Frag} {H : Hp} {d : Addr} {c : Coef} {td te : TE} {tt : TT} {j : Nat} {vs : List Nat} {σ : L2.St} {Q : VK} (f : Str × Int → Int) (kp : Str × Int → Bool) (hd : H d = some (.dK (cK c))) (few : Few c)
    (htd : ∀ (H2 : Hp) (R : V → Hp → Prop), (∀ b o, b ≠ d → H b = some o → H2 b = some o) → R (.ref d) H2 → td σ H2 R) (hj : (wipe σ vs)[j]? ≠ none) (hw : ∀ x, wipe ((wipe σ vs).set j (some x)) vs = wipe σ vs)
    (hv : ∀ (n : Str) (z : Int) (H2 : Hp) (od : Obj) (R : V → Hp → Prop) (R' : Hp → Prop), (n, z) ∈ c → H2 d = some (.frz od (.dK (cK c))) → (∀ b o, b ≠ d → H b = some o → H2 b = some o) →
      (kp (n, z) = true → ∀ p H4, H2 p = none → Ex H2 H4 → H4 p = some (.tup [.str n, .int (f (n, z))]) → R (.ref p) H4) → (kp (n, z) = false → ∀ H4, Ex H2 H4 → R' H4) →
      tt ((wipe σ vs).set j (some (.str n))) H2 fun b H3 => if b = true then te ((wipe σ vs).set j (some (.str n))) H3 R else R' H3)
    (hq : ∀ p H', H p = none → Ex H H' → H' p = some (.dK (cK ((c.filter kp).map fun p => (p.1, f p)))) → Q (.ref p) H') :
    tCB (rDictC K) (tCons (tLockE (tLc (iKeys td) (gName j) tt te vs)) tNil) σ H Q := by
  refine lp_lock f kp hd few htd hj hw hv fun D ps H' hD e hDH hp => ?_
  refine ⟨D, ps, _, rfl, hDH, pairs_cK hp, cK_nodup (keys_fm few.nd), fun r hr => hq r _ (e.free hr) (e.mut (e.free hr)) upd_same⟩
/-- the whole dict's pairs -/
theorem yesK {σ : L2.St} {H : Hp} {A : Hp → Prop} {B : Hp → Prop} (h : A H) : tYes σ H (fun b H3 => if b = true then A H3 else B H3) := yesT h
theorem filt_all (c : Coef) (f : Str × Int → Int) : ((c.filter fun _ => true).map fun p => (p.1, f p)) = c.map fun p => (p.1, f p) := by rw [List.filter_eq_self.mpr (by simp)]
end K8

set_option Elab.async false
set_option linter.all false
set_option maxRecDepth 100000
set_option maxHeartbeats 4000000
namespace K8
open PySem PySem.Spec PyProof.Rows L2 M8
/-! what a term comes to, whether a test is so -/
def worth (c : Coef) (k : Int) (cn : Coef) : Int := k + ((c.filter fun p => decide (p.2 ≠ 0)).map fun p => p.2 * co cn p.1).sum
def so (cn : Coef) : Tst → Bool
  | .row c k => decide (0 ≤ worth c k cn)
  | .same c k => decide (worth c k cn = 0)
  | .div m c k => decide (worth c k cn % m = 0)
def PairT (H : Hp) (t d : Addr) (c : Coef) (k : Int) : Prop := H t = some (.tup [.ref d, .int k]) ∧ H d = some (.dK (cK c))
def TAt (H : Hp) (q t d : Addr) : Tst → Prop
  | .row c k => H q = some (.tup [.str "row", .ref t]) ∧ PairT H t d c k
  | .same c k => H q = some (.tup [.str "same", .ref t]) ∧ PairT H t d c k
  | .div m c k => H q = some (.tup [.str "by", .int m, .ref t]) ∧ PairT H t d c k
section
variable {P : Program} {w : World} {K : PySem.W.Frag} {mg : Str → Option Value} {base : Heap}
def spWorth : Sp := fun vs H Q _ => ∃ p d nd c k cn, vs = [.ref p, .ref nd] ∧ PairT H p d c k ∧ H nd = some (.dK (cK cn)) ∧ nd ≠ d ∧ Few c ∧ Lim c ∧ (keys cn).Nodup ∧ (∀ p ∈ c, p.2 ≠ 0 → p.1 ∈ keys cn) ∧ ∀ H', Ex H H' → Q (.int (worth c k cn)) H'
abbrev s__law_w_worth : Stmt := top 42
theorem sc__law_w_worth : FnScope ["term", "numbers", "name"] ["term", "numbers"] (defScope s__law_w_worth) := ⟨rfl, rfl, rfl, by decide +kernel, rfl, by decide +kernel, by decide +kernel⟩
theorem ok__law_w_worth (T : Txt K mg) (a : At K mg "_law_w_worth" s__law_w_worth ["term", "numbers"]) : Ok P w K mg base CX0 1 "_law_w_worth" ["term", "numbers"] spWorth := a.ok fun f fd F => by
  refine F.ok sc__law_w_worth (fun vs H Q E h => ?_) (fun cdv A outer s H vs Q E hr h => ?_)
  · obtain ⟨p, d, nd, c, k, cn, rfl, _⟩ := h; rfl
  · obtain ⟨p, d, nd, c, k, cn, rfl, ⟨hp, hd⟩, hn, ndd, few, lim, ndn, hin, q⟩ := h
    refine ⟨_, (pss_one (ps_ret (pe_op op_add (pe_ix (ix_qK (K := K) rfl) (pv 0) pe_int (fun _ _ => rfl)) (pe_callB (cr_sum rfl) rfl T.n_sum rfl (pa_cons (pe_lock (pe_lc (own := [("name", 2)]) (g := gName 2) (tt := _) rfl sc__law_w_worth.nd (pi_keys (pe_ix (ix_qK (K := K) rfl) (pv 0) pe_int (fun _ _ => rfl))) (blkOk_by (N := ["term", "numbers", "name"]) (sc := defScope s__law_w_worth) (by decide +kernel)) (fun _ _ _ _ _ => (pg_name (i := 2) sc__law_w_worth.nd rfl (Or.inl rfl))) (fun _ _ _ _ _ => (pts_one (pt_cmpR op_ne (pe_dget (hu_of hr) (pe_ix (ix_qK (K := K) rfl) (pv 0) pe_int (fun _ _ => rfl)) (pv 2) (fun _ _ => rfl)) pe_int (nomark _)))) (fun _ _ _ _ _ => (pe_op op_mul (pe_dget (hu_of hr) (pe_ix (ix_qK (K := K) rfl) (pv 0) pe_int (fun _ _ => rfl)) (pv 2) (fun _ _ => rfl)) (pe_dget (hu_of hr) (pv 1) (pv 2) (fun _ _ => rfl)))))) pa_nil))))), ?_⟩
    have pd : p ≠ d := fun z => by rw [z, hd] at hp; cases hp
    refine ⟨_, rfl, p, _, 1, _, rfl, rfl, SqQ.t hp, at1, ?_⟩
    dsimp only [tNext, tRet, tCB, tCons, tNil, gName]
    refine ⟨d, _, hd, trivial, fun od => ?_⟩
    refine tLc_of ?_
    have hp0 : upd H d (.frz od (.dK (cK c))) p = some (.tup [.ref d, .int k]) := by rw [upd_ne pd]; exact hp
    have hn0 : upd H d (.frz od (.dK (cK c))) nd = some (.dK (cK cn)) := by rw [upd_ne ndd]; exact hn
    refine ⟨_, rfl, p, _, 0, _, rfl, rfl, SqQ.t hp0, at0, d, od, rfl, .inl ⟨_, upd_same, ?_⟩⟩
    have hl : (cK c).length = c.length := cK_len c
    refine lc_val walk_keys (fun i => (((c.take i).filter fun p => decide (p.2 ≠ 0)).map fun p => p.2 * co cn p.1).map V.int) (by have := few.len; omega) rfl (fun H1 e => e _ _ upd_same) ?_ ?_
    · rintro i x H1 H2 R R' hi e ⟨rfl, k', z, hkz, rfl⟩ kk kk'
      have hci : i < c.length := by omega
      obtain ⟨⟨n, y⟩, hcy'⟩ : ∃ p : Str × Int, c[i]? = some p := ⟨c[i], List.getElem?_eq_getElem hci⟩
      rw [get_cK hcy'] at hkz
      cases hkz
      have hmem := List.mem_of_getElem? hcy'
      have hm : n ∈ keys c := List.mem_map.mpr ⟨(n, y), hmem, rfl⟩
      have hco : co c n = y := co_of_mem few.nd hmem
      have hD3 : H2 d = some (.frz od (.dK (cK c))) := e _ _ upd_same
      have hP3 := e _ _ hp0
      have hN3 := e _ _ hn0
      have ht : c.take (i + 1) = c.take i ++ [(n, y)] := by rw [List.take_add_one, hcy']; rfl
      refine ⟨rfl, ?_⟩
      refine ⟨_, rfl, p, _, 0, _, rfl, rfl, SqQ.t hP3, at0, _, rfl, d, _, rfl, .inl ⟨cK c, .inr n, .inr ⟨od, hD3⟩, rfl, (valV_co hm few.nd).symm⟩, rfl, _, rfl, ?_⟩
      rw [hco]
      by_cases hy : y = 0
      · have e1 : (!decide (V.int y = V.int 0)) = false := by rw [hy]; rfl
        rw [e1]
        refine iteF (kk' _ (Ex.refl _) ?_)
        rw [ht, List.filter_append, hy]; simp
      · have e1 : (!decide (V.int y = V.int 0)) = true := by rw [decide_eq_false fun z => hy (V.int.inj z)]; rfl
        rw [e1]
        refine iteT ⟨_, rfl, p, _, 0, _, rfl, rfl, SqQ.t hP3, at0, _, rfl, d, _, rfl, .inl ⟨cK c, .inr n, .inr ⟨od, hD3⟩, rfl, (valV_co hm few.nd).symm⟩, ?_⟩
        refine ⟨_, rfl, _, rfl, nd, _, rfl, .inl ⟨cK cn, .inr n, .inl hN3, rfl, (valV_co (hin _ hmem hy) ndn).symm⟩, _, _, rfl, rfl, .inl ?_, kk _ _ (Ex.refl _) ?_⟩
        · rw [hco]; have := lim _ hmem; simp only at this; constructor <;> omega
        · rw [hco, ht, List.filter_append, List.map_append, List.map_append, List.filter_cons, if_pos (by simpa using hy)]; rfl
    · intro D H1 hD e hDH
      have hx := e _ _ upd_same
      have hDd : D ≠ d := fun z => by rw [z, upd_same] at hD; cases hD
      have hl2 : c.take (cK c).length = c := List.take_of_length_le (by omega)
      rw [hl2] at hDH
      have ex := e.unlock hd
      refine ⟨hx, D, _, rfl, SqL.of (by rw [upd_ne hDd]; exact hDH), _, _, rfl, rfl, q _ ex⟩
def spIsSo : Sp := fun vs H Q _ => ∃ q t d nd ts cn, vs = [.ref q, .ref nd] ∧ TAt H q t d ts ∧ H nd = some (.dK (cK cn)) ∧ nd ≠ d ∧ Few (coef ts) ∧ Lim (coef ts) ∧ mOk ts ∧ (keys cn).Nodup ∧ (∀ p ∈ coef ts, p.2 ≠ 0 → p.1 ∈ keys cn) ∧ ∀ H', Ex H H' → Q (.bl (so cn ts)) H'
abbrev s__law_w_is_so : Stmt := top 43
theorem sc__law_w_is_so : FnScope ["body", "numbers", "some", "comes", "part"] ["body", "numbers"] (defScope s__law_w_is_so) := ⟨rfl, rfl, rfl, by decide +kernel, rfl, by decide +kernel, by decide +kernel⟩
theorem ok__law_w_is_so (T : Txt K mg) (a : At K mg "_law_w_is_so" s__law_w_is_so ["body", "numbers"]) (O_law_w_worth : Ok P w K mg base CX0 1 "_law_w_worth" ["term", "numbers"] spWorth) : Ok P w K mg base CX0 2 "_law_w_is_so" ["body", "numbers"] spIsSo := by
  have O_law_w_is_so : Ok P w K mg base CX0 1 "_law_w_is_so" ["body", "numbers"] (fun _ _ _ _ => False) := a.ok fun f fd F => F.ok sc__law_w_is_so (fun vs H Q E h => h.elim) (fun cdv A outer s H vs Q E hr h => h.elim)
  refine a.ok fun f fd F => ?_
  refine F.ok sc__law_w_is_so (fun vs H Q E h => ?_) (fun cdv A outer s H vs Q E hr h => ?_)
  · obtain ⟨q, t, d, nd, ts, cn, rfl, _⟩ := h; rfl
  · obtain ⟨q, t, d, nd, ts, cn, rfl, ht, hn, ndd, few, lim, hm, ndn, hin, qq⟩ := h
    refine ⟨_, (pss_cons (ps_if (pt_cmpR op_eq (pe_ix (ix_qK (K := K) rfl) (pv 0) pe_int (fun _ _ => rfl)) pe_str (nomark _)) (pss_one (ps_ret (pe_not (pe_callO O_law_w_is_so hr rfl (pa_cons (pe_ix (ix_qK (K := K) rfl) (pv 0) pe_int (fun _ _ => rfl)) (pa_cons (pv 1) pa_nil)))))) pss_nil)
      (pss_cons (ps_if (pt_cmpR op_in_seq (pe_ix (ix_qK (K := K) rfl) (pv 0) pe_int (fun _ _ => rfl)) (pe_tup (pa_cons pe_str (pa_cons pe_str pa_nil))) rfl) (pss_cons (ps_setLc (i := 2) (own := [("part", 4)]) (g := gName 4) (tt := tYes) rfl sc__law_w_is_so.nd rfl rfl (sw_true rfl rfl rfl (by decide +kernel)) (pi_list (pe_ix (ix_qK (K := K) rfl) (pv 0) pe_int (fun _ _ => rfl))) (blkOk_by (N := ["body", "numbers", "some", "comes", "part"]) (sc := defScope s__law_w_is_so) (by decide +kernel)) (fun _ _ _ _ _ => (pg_name (i := 4) sc__law_w_is_so.nd rfl (Or.inl rfl))) (fun _ _ _ _ _ => pts_nil) (fun _ _ _ _ _ => (pe_callO O_law_w_is_so hr rfl (pa_cons (pv 4) (pa_cons (pv 1) pa_nil)))))
      (pss_one (ps_ret (pe_ifExp (pt_cmpR op_eq (pe_ix (ix_qK (K := K) rfl) (pv 0) pe_int (fun _ _ => rfl)) pe_str (nomark _)) (pe_callB (cr_all rfl) rfl T.n_all rfl (pa_cons (pv 2) pa_nil)) (pe_callB (cr_any rfl) rfl T.n_any rfl (pa_cons (pv 2) pa_nil)))))) pss_nil)
      (pss_cons (ps_set (i := 3) sc__law_w_is_so.nd rfl (Or.inl rfl) (pe_callO O_law_w_worth (hr.mono (by decide)) rfl (pa_cons (pe_ix (ix_qK (K := K) rfl) (pv 0) (pe_un un_neg pe_int) (fun _ _ => rfl)) (pa_cons (pv 1) pa_nil))))
      (pss_cons (ps_if (pt_cmpR op_eq (pe_ix (ix_qK (K := K) rfl) (pv 0) pe_int (fun _ _ => rfl)) pe_str (nomark _)) (pss_one (ps_ret (pe_cmpR op_eq (pe_op op_mod (pe_callTy call_int1 rfl T.n_int rfl (pa_cons (pv 3) pa_nil)) (pe_ix (ix_qK (K := K) rfl) (pv 0) pe_int (fun _ _ => rfl))) pe_int (nomark _)))) pss_nil)
      (pss_one (ps_ret (pe_ifExp (pt_cmpR op_eq (pe_ix (ix_qK (K := K) rfl) (pv 0) pe_int (fun _ _ => rfl)) pe_str (nomark _)) (pe_cmpR op_ge (pv 3) pe_int (nomark _)) (pe_cmpR op_eq (pv 3) pe_int (nomark _))))))))), ?_⟩
    have kst : ∀ (r : V) (xs : List V) (z : Str), H q = some (.tup (.str z :: xs)) → z ≠ "not" → z ≠ "all" → z ≠ "any" → True := fun _ _ _ _ _ _ _ => trivial
    cases ts with
    | row c k =>
      obtain ⟨hq, hp, hd⟩ := ht
      refine ⟨_, rfl, q, _, 0, _, rfl, rfl, SqQ.t hq, at0, rfl, _, rfl, iteF ?_⟩
      refine ⟨_, rfl, q, _, 0, _, rfl, rfl, SqQ.t hq, at0, by show 2 ≤ sizeLine; decide, fun tp htp => ?_⟩
      have e1 : Ex H (upd H tp (.tup [.str "all", .str "any"])) := Ex.new htp
      refine ⟨tp, _, rfl, .inr (SqT.of upd_same), rfl, rfl, _, rfl, iteF ?_⟩
      refine ⟨_, rfl, _, rfl, q, _, _, _, rfl, rfl, SqQ.t (e1 _ _ hq), (by rfl), _, rfl, t, d, nd, c, k, cn, rfl, ⟨e1 _ _ hp, e1 _ _ hd⟩, e1 _ _ hn, ndd, few, lim, ndn, hin, fun H2 e2 => ?_⟩
      have e3 := e1.trans e2
      refine ⟨_, rfl, q, _, 0, _, rfl, rfl, SqQ.t (e3 _ _ hq), at0, rfl, _, rfl, iteF ?_⟩
      refine ⟨_, rfl, q, _, 0, _, rfl, rfl, SqQ.t (e3 _ _ hq), at0, rfl, _, rfl, iteT ?_⟩
      exact ⟨_, rfl, _, _, rfl, rfl, qq _ e3⟩
    | same c k =>
      obtain ⟨hq, hp, hd⟩ := ht
      refine ⟨_, rfl, q, _, 0, _, rfl, rfl, SqQ.t hq, at0, rfl, _, rfl, iteF ?_⟩
      refine ⟨_, rfl, q, _, 0, _, rfl, rfl, SqQ.t hq, at0, by show 2 ≤ sizeLine; decide, fun tp htp => ?_⟩
      have e1 : Ex H (upd H tp (.tup [.str "all", .str "any"])) := Ex.new htp
      refine ⟨tp, _, rfl, .inr (SqT.of upd_same), rfl, rfl, _, rfl, iteF ?_⟩
      refine ⟨_, rfl, _, rfl, q, _, _, _, rfl, rfl, SqQ.t (e1 _ _ hq), (by rfl), _, rfl, t, d, nd, c, k, cn, rfl, ⟨e1 _ _ hp, e1 _ _ hd⟩, e1 _ _ hn, ndd, few, lim, ndn, hin, fun H2 e2 => ?_⟩
      have e3 := e1.trans e2
      refine ⟨_, rfl, q, _, 0, _, rfl, rfl, SqQ.t (e3 _ _ hq), at0, rfl, _, rfl, iteF ?_⟩
      refine ⟨_, rfl, q, _, 0, _, rfl, rfl, SqQ.t (e3 _ _ hq), at0, rfl, _, rfl, iteF ?_⟩
      have := qq _ e3
      refine ⟨_, rfl, rfl, ?_⟩
      rw [show decide (V.int (worth c k cn) = V.int 0) = so cn (.same c k) from decide_eq_decide.mpr ⟨fun z => V.int.inj z, fun z => by rw [z]⟩]
      exact this
    | div m c k =>
      obtain ⟨hq, hp, hd⟩ := ht
      refine ⟨_, rfl, q, _, 0, _, rfl, rfl, SqQ.t hq, at0, rfl, _, rfl, iteF ?_⟩
      refine ⟨_, rfl, q, _, 0, _, rfl, rfl, SqQ.t hq, at0, by show 2 ≤ sizeLine; decide, fun tp htp => ?_⟩
      have e1 : Ex H (upd H tp (.tup [.str "all", .str "any"])) := Ex.new htp
      refine ⟨tp, _, rfl, .inr (SqT.of upd_same), rfl, rfl, _, rfl, iteF ?_⟩
      refine ⟨_, rfl, _, rfl, q, _, _, _, rfl, rfl, SqQ.t (e1 _ _ hq), (by rfl), _, rfl, t, d, nd, c, k, cn, rfl, ⟨e1 _ _ hp, e1 _ _ hd⟩, e1 _ _ hn, ndd, few, lim, ndn, hin, fun H2 e2 => ?_⟩
      have e3 := e1.trans e2
      refine ⟨_, rfl, q, _, 0, _, rfl, rfl, SqQ.t (e3 _ _ hq), at0, rfl, _, rfl, iteT ?_⟩
      have := qq _ e3
      refine ⟨_, rfl, .inl ⟨_, rfl, _, rfl, q, _, 1, _, rfl, rfl, SqQ.t (e3 _ _ hq), at1, _, _, rfl, rfl, hm.1, rfl, ?_⟩⟩
      rw [show decide (V.int (worth c k cn % m) = V.int 0) = so cn (.div m c k) from decide_eq_decide.mpr ⟨fun z => V.int.inj z, fun z => by rw [z]⟩]
      exact this
end
end K8

set_option Elab.async false
set_option linter.all false
set_option maxRecDepth 100000
set_option maxHeartbeats 4000000
namespace K8
open PySem PySem.Spec PyProof.Rows L2 M8
def NewP (H H' : Hp) (t d : Addr) (c : Coef) (k : Int) : Prop := H t = none ∧ H d = none ∧ PairT H' t d c k
def spToldL : Sp := fun vs H Q _ => ∃ v c k, vs = [v] ∧ TermAt H v c k ∧ Few c ∧ ∀ t d H', Ex H H' → NewP H H' t d (canon c) k → Q (.ref t) H'
section
variable {P : Program} {w : World} {K : PySem.W.Frag} {mg : Str → Option Value} {base : Heap}
abbrev s__law_w_told : Stmt := top 38
theorem sc__law_w_told : FnScope ["term", "name"] ["term"] (defScope s__law_w_told) := ⟨rfl, rfl, rfl, by decide +kernel, rfl, by decide +kernel, by decide +kernel⟩
theorem ok__law_w_told (T : Txt K mg) (a : At K mg "_law_w_told" s__law_w_told ["term"]) : Ok P w K mg base CX0 1 "_law_w_told" ["term"] spToldL := a.ok fun f fd F => by
  refine F.ok sc__law_w_told (fun vs H Q E h => ?_) (fun cdv A outer s H vs Q E hr h => ?_)
  · obtain ⟨v, c, k, rfl, _⟩ := h; rfl
  · obtain ⟨v, c, k, rfl, ⟨p, d, rfl, hp, hd⟩, few, q⟩ := h
    refine ⟨_, (pss_one (ps_ret (pe_tup (pa_cons (pe_callTy (call_dictC (K := K) rfl rfl) rfl T.n_dict rfl (pa_cons (pe_lc (own := [("name", 1)]) (g := gName 1) (tt := _) rfl sc__law_w_told.nd (pi_list (pe_callB (call_sortedD rfl) rfl T.n_sorted rfl (pa_cons (pe_ix (ix_qK (K := K) rfl) (pv 0) pe_int (fun _ _ => rfl)) pa_nil))) (blkOk_by (N := ["term", "name"]) (sc := defScope s__law_w_told) (by decide +kernel)) (fun _ _ _ _ _ => (pg_name (i := 1) sc__law_w_told.nd rfl (Or.inl rfl))) (fun _ _ _ _ _ => (pts_one (pt_cmpR op_ne (pe_dget (hu_of hr) (pe_ix (ix_qK (K := K) rfl) (pv 0) pe_int (fun _ _ => rfl)) (pv 1) (fun _ _ => rfl)) pe_int (nomark _)))) (fun _ _ _ _ _ => (pe_tup (pa_cons (pv 1) (pa_cons (pe_dget (hu_of hr) (pe_ix (ix_qK (K := K) rfl) (pv 0) pe_int (fun _ _ => rfl)) (pv 1) (fun _ _ => rfl)) pa_nil))))) pa_nil)) (pa_cons (pe_ix (ix_qK (K := K) rfl) (pv 0) pe_int (fun _ _ => rfl)) pa_nil))))), ?_⟩
    have pd : p ≠ d := fun z => by rw [z, hd] at hp; rcases hp with hp | hp <;> cases hp
    dsimp only [tNext, tRet, tCB, tCons, tNil, gName, tTup]
    refine tLc_of ?_
    refine ⟨_, rfl, p, _, 0, _, rfl, rfl, SqQ.or hp, at0, d, cK c, keys c, rfl, .inl hd, keys_cK c, ?_, fun ys L hperm hsort hL => ?_⟩
    · have := few.len; unfold keys; rw [List.length_map]; omega
    have hys : srt (keys c) = ys := srt_eq hperm (sorted_pw hsort)
    have hyn : ys.Nodup := hperm.nodup_iff.mpr few.nd
    have hyl : ys.length ≤ 60 := by rw [hperm.length_eq]; unfold keys; rw [List.length_map]; exact few.len
    have e0 : Ex H (upd H L (.lst (ys.map V.str))) := Ex.new hL
    refine ⟨L, rfl, ⟨_, SqL.of upd_same⟩, ?_⟩
    refine lc_pairs walk_list [] (fun _ _ => True) (fun i c' => c' = ((ys.take i).filter fun n => decide (co c n ≠ 0)).map fun n => (n, co c n)) (by rw [List.length_map]; omega) (fun H1 e => SqL.of (e.ex _ _ upd_same)) (fun _ _ _ _ _ => trivial) (fun _ _ _ b hb => by simp at hb) trivial rfl ?_ ?_
    · rintro i x H1 H2 c' R R' hi e _ rfl ⟨rfl, hx⟩ k1 k2
      rw [List.length_map] at hi
      obtain ⟨n, hn, rfl⟩ : ∃ n, ys[i]? = some n ∧ x = .str n := by
        rw [List.getElem?_map, List.getElem?_eq_getElem hi] at hx
        exact ⟨ys[i], List.getElem?_eq_getElem hi, (Option.some.inj hx).symm⟩
      have e3 : Ex H H2 := e0.trans e.ex
      have hm : n ∈ keys c := hperm.mem_iff.mp (List.mem_of_getElem? hn)
      have ht : ys.take (i + 1) = ys.take i ++ [n] := by rw [List.take_add_one, hn]; rfl
      refine ⟨rfl, ?_⟩
      refine ⟨_, rfl, p, _, 0, _, rfl, rfl, SqQ.or (hp.imp (e3 _ _) (e3 _ _)), at0, _, rfl, d, _, rfl, .inl ⟨cK c, .inr n, .inl (e3 _ _ hd), rfl, (valV_co hm few.nd).symm⟩, rfl, _, rfl, ?_⟩
      by_cases hy : co c n = 0
      · have e1 : (!decide (V.int (co c n) = V.int 0)) = false := by rw [hy]; rfl
        rw [e1]
        refine iteF (k2 _ (Exo.refl _ _) trivial ?_)
        rw [ht, List.filter_append, List.filter_cons, if_neg (by simpa using hy)]; simp
      · have e1 : (!decide (V.int (co c n) = V.int 0)) = true := by rw [decide_eq_false fun z => hy (V.int.inj z)]; rfl
        rw [e1]
        refine iteT ⟨_, rfl, _, rfl, p, _, 0, _, rfl, rfl, SqQ.or (hp.imp (e3 _ _) (e3 _ _)), at0, _, rfl, d, _, rfl, .inl ⟨cK c, .inr n, .inl (e3 _ _ hd), rfl, (valV_co hm few.nd).symm⟩, by show 2 ≤ sizeLine; decide, fun r hr => ?_⟩
        refine k1 r n (co c n) _ hr ((Ex.new hr).exo _) trivial ?_ upd_same
        rw [ht, List.filter_append, List.map_append, List.filter_cons, if_pos (by simpa using hy)]; rfl
    · rintro D ps c' H1 hD e _ hc hDH hps
      rw [List.length_map, List.take_length] at hc
      have hcc : c' = canon c := by rw [hc]; unfold canon; rw [nz_eq few.nd, hys]
      have e3 : Ex H H1 := e0.trans e.ex
      refine ⟨D, ps, _, rfl, hDH, pairs_cK hps, cK_nodup (by rw [hcc]; exact canon_nodup few.nd), fun r hr => ?_⟩
      have e4 := e3.mut (e3.free hr) (o := .dK (cK c'))
      refine ⟨_, rfl, p, _, 1, _, rfl, rfl, SqQ.or (hp.imp (e4 _ _) (e4 _ _)), at1, by show 2 ≤ sizeLine; decide, fun t ht => ?_⟩
      have ht1 : H1 t = none := by
        by_cases z : t = r
        · rw [z]; exact hr
        · rw [upd_ne z] at ht; exact ht
      refine q t r _ (e4.mut (e4.free ht)) ⟨e4.free ht, e3.free hr, upd_same, ?_⟩
      have hrt : r ≠ t := fun z => by rw [← z, upd_same] at ht; cases ht
      rw [upd_ne hrt, upd_same, hcc]
noncomputable def canonT : Tst → Tst | .row c k => .row (canon c) k | .same c k => .same (canon c) k | .div m c k => .div m (canon c) k
def NewA (H H' : Hp) (q t d : Addr) (ts : Tst) : Prop := H q = none ∧ H t = none ∧ H d = none ∧ TAt H' q t d ts
def spBodyTold : Sp := fun vs H Q _ => ∃ q t d ts, vs = [.ref q] ∧ TAt H q t d ts ∧ Few (coef ts) ∧ ∀ q' t' d' H', Ex H H' → NewA H H' q' t' d' (canonT ts) → Q (.ref q') H'
abbrev s__law_w_body_told : Stmt := top 39
theorem sc__law_w_body_told : FnScope ["body", "part"] ["body"] (defScope s__law_w_body_told) := ⟨rfl, rfl, rfl, by decide +kernel, rfl, by decide +kernel, by decide +kernel⟩
theorem ok__law_w_body_told (T : Txt K mg) (a : At K mg "_law_w_body_told" s__law_w_body_told ["body"]) (O_law_w_told : Ok P w K mg base CX0 1 "_law_w_told" ["term"] spToldL) : Ok P w K mg base CX0 2 "_law_w_body_told" ["body"] spBodyTold := by
  have O_law_w_body_told : Ok P w K mg base CX0 1 "_law_w_body_told" ["body"] (fun _ _ _ _ => False) := a.ok fun f fd F => F.ok sc__law_w_body_told (fun vs H Q E h => h.elim) (fun cdv A outer s H vs Q E hr h => h.elim)
  refine a.ok fun f fd F => ?_
  refine F.ok sc__law_w_body_told (fun vs H Q E h => ?_) (fun cdv A outer s H vs Q E hr h => ?_)
  · obtain ⟨q, t, d, ts, rfl, _⟩ := h; rfl
  · obtain ⟨q, t, d, ts, rfl, ht, few, qq⟩ := h
    refine ⟨_, (pss_cons (ps_if (pt_cmpR op_in_seq (pe_ix (ix_qK (K := K) rfl) (pv 0) pe_int (fun _ _ => rfl)) (pe_tup (pa_cons pe_str (pa_cons pe_str pa_nil))) rfl) (pss_one (ps_ret (pe_tup (pa_cons (pe_ix (ix_qK (K := K) rfl) (pv 0) pe_int (fun _ _ => rfl)) (pa_cons (pe_lc (own := [("part", 1)]) (g := gName 1) (tt := tYes) rfl sc__law_w_body_told.nd (pi_list (pe_ix (ix_qK (K := K) rfl) (pv 0) pe_int (fun _ _ => rfl))) (blkOk_by (N := ["body", "part"]) (sc := defScope s__law_w_body_told) (by decide +kernel)) (fun _ _ _ _ _ => (pg_name (i := 1) sc__law_w_body_told.nd rfl (Or.inl rfl))) (fun _ _ _ _ _ => pts_nil) (fun _ _ _ _ _ => (pe_callO O_law_w_body_told hr rfl (pa_cons (pv 1) pa_nil)))) pa_nil))))) pss_nil)
      (pss_cons (ps_if (pt_cmpR op_eq (pe_ix (ix_qK (K := K) rfl) (pv 0) pe_int (fun _ _ => rfl)) pe_str (nomark _)) (pss_one (ps_ret (pe_tup (pa_cons pe_str (pa_cons (pe_callO O_law_w_body_told hr rfl (pa_cons (pe_ix (ix_qK (K := K) rfl) (pv 0) pe_int (fun _ _ => rfl)) pa_nil)) pa_nil))))) pss_nil)
      (pss_one (ps_ret (pe_ifExp (pt_cmpR op_eq (pe_ix (ix_qK (K := K) rfl) (pv 0) pe_int (fun _ _ => rfl)) pe_str (nomark _)) (pe_tup (pa_cons pe_str (pa_cons (pe_ix (ix_qK (K := K) rfl) (pv 0) pe_int (fun _ _ => rfl)) (pa_cons (pe_callO O_law_w_told (hr.mono (by decide)) rfl (pa_cons (pe_ix (ix_qK (K := K) rfl) (pv 0) pe_int (fun _ _ => rfl)) pa_nil)) pa_nil)))) (pe_tup (pa_cons (pe_ix (ix_qK (K := K) rfl) (pv 0) pe_int (fun _ _ => rfl)) (pa_cons (pe_callO O_law_w_told (hr.mono (by decide)) rfl (pa_cons (pe_ix (ix_qK (K := K) rfl) (pv 0) pe_int (fun _ _ => rfl)) pa_nil)) pa_nil)))))))), ?_⟩
    have fin : ∀ {H0 H1 H2 : Hp} {t' d' : Addr} {c : Coef} {k : Int} {r : Addr} {o : HO}, Ex H H0 → Ex H0 H1 → NewP H0 H1 t' d' c k → H1 r = none → Ex H (upd H1 r o) ∧ H r = none ∧ H t' = none ∧ H d' = none ∧ PairT (upd H1 r o) t' d' c k := by
      intro H0 H1 H2 t' d' c k r o e0 e1 n hr
      have e2 := e0.trans e1
      exact ⟨e2.mut (e2.free hr), e2.free hr, e0.free n.1, e0.free n.2.1, by rw [PairT, upd_ne (ne_of_none n.2.2.1 hr), upd_ne (ne_of_none n.2.2.2 hr)]; exact n.2.2⟩
    cases ts with
    | row c k =>
      obtain ⟨hq, hp, hd⟩ := ht
      refine ⟨_, rfl, q, _, 0, _, rfl, rfl, SqQ.t hq, at0, by show 2 ≤ sizeLine; decide, fun tp htp => ?_⟩
      have e1 : Ex H (upd H tp (.tup [.str "all", .str "any"])) := Ex.new htp
      refine ⟨tp, _, rfl, .inr (SqT.of upd_same), rfl, rfl, _, rfl, iteF ?_⟩
      refine ⟨_, rfl, q, _, 0, _, rfl, rfl, SqQ.t (e1 _ _ hq), at0, rfl, _, rfl, iteF ?_⟩
      refine ⟨_, rfl, q, _, 0, _, rfl, rfl, SqQ.t (e1 _ _ hq), at0, rfl, _, rfl, iteF ?_⟩
      refine ⟨_, rfl, q, _, 0, _, rfl, rfl, SqQ.t (e1 _ _ hq), at0, _, rfl, q, _, 1, _, rfl, rfl, SqQ.t (e1 _ _ hq), at1, _, c, k, rfl, ⟨t, d, rfl, .inr (e1 _ _ hp), e1 _ _ hd⟩, few, fun t' d' H2 e2 n => ?_⟩
      refine ⟨by show 2 ≤ sizeLine; decide, fun r hr => ?_⟩
      obtain ⟨f1, f2, f3, f4, f5⟩ := fin (H2 := H) e1 e2 n hr (o := .tup [.str "row", .ref t'])
      exact qq r t' d' _ f1 ⟨f2, f3, f4, upd_same, f5⟩
    | same c k =>
      obtain ⟨hq, hp, hd⟩ := ht
      refine ⟨_, rfl, q, _, 0, _, rfl, rfl, SqQ.t hq, at0, by show 2 ≤ sizeLine; decide, fun tp htp => ?_⟩
      have e1 : Ex H (upd H tp (.tup [.str "all", .str "any"])) := Ex.new htp
      refine ⟨tp, _, rfl, .inr (SqT.of upd_same), rfl, rfl, _, rfl, iteF ?_⟩
      refine ⟨_, rfl, q, _, 0, _, rfl, rfl, SqQ.t (e1 _ _ hq), at0, rfl, _, rfl, iteF ?_⟩
      refine ⟨_, rfl, q, _, 0, _, rfl, rfl, SqQ.t (e1 _ _ hq), at0, rfl, _, rfl, iteF ?_⟩
      refine ⟨_, rfl, q, _, 0, _, rfl, rfl, SqQ.t (e1 _ _ hq), at0, _, rfl, q, _, 1, _, rfl, rfl, SqQ.t (e1 _ _ hq), at1, _, c, k, rfl, ⟨t, d, rfl, .inr (e1 _ _ hp), e1 _ _ hd⟩, few, fun t' d' H2 e2 n => ?_⟩
      refine ⟨by show 2 ≤ sizeLine; decide, fun r hr => ?_⟩
      obtain ⟨f1, f2, f3, f4, f5⟩ := fin (H2 := H) e1 e2 n hr (o := .tup [.str "same", .ref t'])
      exact qq r t' d' _ f1 ⟨f2, f3, f4, upd_same, f5⟩
    | div m c k =>
      obtain ⟨hq, hp, hd⟩ := ht
      refine ⟨_, rfl, q, _, 0, _, rfl, rfl, SqQ.t hq, at0, by show 2 ≤ sizeLine; decide, fun tp htp => ?_⟩
      have e1 : Ex H (upd H tp (.tup [.str "all", .str "any"])) := Ex.new htp
      refine ⟨tp, _, rfl, .inr (SqT.of upd_same), rfl, rfl, _, rfl, iteF ?_⟩
      refine ⟨_, rfl, q, _, 0, _, rfl, rfl, SqQ.t (e1 _ _ hq), at0, rfl, _, rfl, iteF ?_⟩
      refine ⟨_, rfl, q, _, 0, _, rfl, rfl, SqQ.t (e1 _ _ hq), at0, rfl, _, rfl, iteT ?_⟩
      refine ⟨_, rfl, q, _, 1, _, rfl, rfl, SqQ.t (e1 _ _ hq), at1, _, rfl, q, _, 2, _, rfl, rfl, SqQ.t (e1 _ _ hq), at2, _, c, k, rfl, ⟨t, d, rfl, .inr (e1 _ _ hp), e1 _ _ hd⟩, few, fun t' d' H2 e2 n => ?_⟩
      refine ⟨by show 3 ≤ sizeLine; decide, fun r hr => ?_⟩
      obtain ⟨f1, f2, f3, f4, f5⟩ := fin (H2 := H) e1 e2 n hr (o := .tup [.str "by", .int m, .ref t'])
      exact qq r t' d' _ f1 ⟨f2, f3, f4, upd_same, f5⟩
end
end K8

set_option Elab.async false
set_option linter.all false
set_option maxRecDepth 100000
set_option maxHeartbeats 4000000
namespace K8
open PySem PySem.Spec PyProof.Rows L2 M8
def pool : List Str := ["b", "a", "x", "y1", "zed", "k9", "eight888", "q", "m", "u2", "aa", "b0", "h"]
def unS : V → Str | .str s => s | _ => ""
structure Nms (ns : List Str) : Prop where
  nd : ns.Nodup
  l1 : 1 ≤ ns.length
  l4 : ns.length ≤ 4
  mem : ∀ n ∈ ns, n ∈ pool
theorem pool_nd : pool.Nodup := by decide +kernel
theorem pool_nm : ∀ n ∈ pool, isNameS n = true ∧ n.cps.size ≤ 1000000 := by decide +kernel
theorem zero_nm : isNameS "zero0" = true ∧ ("zero0" : Str).cps.size ≤ 1000000 := by decide +kernel
theorem zero_out : ("zero0" : Str) ∉ pool := by decide +kernel
theorem cutV_take {xs : List V} {i : Int} (h : 0 ≤ i) : cutV xs none (some i) = xs.take i.toNat := by
  unfold cutV HT.sIx
  simp only [List.drop_zero, Nat.sub_zero]
  try rw [if_neg (by omega)]
  try simp only [List.drop_zero, Nat.sub_zero]
  by_cases z : i.toNat ≤ xs.length
  · congr 1; omega
  · rw [List.take_of_length_le (by omega), List.take_of_length_le (by omega)]
section
variable {P : Program} {w : World} {K : PySem.W.Frag} {mg : Str → Option Value} {base : Heap}
def spNames : Sp := fun vs H Q _ => ∃ a B, vs = [.ref a, .int 1, .int 4] ∧ Spr H a B ∧ B + 100 < lot ∧ ∀ p ns H', H p = none → Exo [a] H H' → Spr H' a (B + 14) → Nms ns → H' p = some (.lst (ns.map V.str)) → Q (.ref p) H'
abbrev s__law_w_names : Stmt := top 37
theorem sc__law_w_names : FnScope ["spring", "least", "most", "some"] ["spring", "least", "most"] (defScope s__law_w_names) := ⟨rfl, rfl, rfl, by decide +kernel, rfl, by decide +kernel, by decide +kernel⟩
theorem ok__law_w_names (T : Txt K mg) (a : At K mg "_law_w_names" s__law_w_names ["spring", "least", "most"]) (O_law_draw : Ok P w K mg base CX0 1 "_law_draw" ["spring", "many"] spDraw) (O_law_mixed : Ok P w K mg base CX0 2 "_law_mixed" ["spring", "some"] (spMixed K)) : Ok P w K mg base CX0 3 "_law_w_names" ["spring", "least", "most"] spNames := a.ok fun f fd F => by
  refine F.ok sc__law_w_names (fun vs H Q E h => ?_) (fun cdv A outer s H vs Q E hr h => ?_)
  · obtain ⟨a, B, rfl, _⟩ := h; rfl
  · obtain ⟨a, B, rfl, hs, hB, q⟩ := h
    refine ⟨_, (pss_cons (ps_set (i := 3) sc__law_w_names.nd rfl (Or.inl rfl) (pe_lst (pa_cons pe_str (pa_cons pe_str (pa_cons pe_str (pa_cons pe_str (pa_cons pe_str (pa_cons pe_str (pa_cons pe_str (pa_cons pe_str (pa_cons pe_str (pa_cons pe_str (pa_cons pe_str (pa_cons pe_str (pa_cons pe_str pa_nil)))))))))))))))
      (pss_one (ps_ret (pe_slice sl_list (pe_callO O_law_mixed (hr.mono (by decide)) rfl (pa_cons (pv 0) (pa_cons (pv 3) pa_nil))) po_none (po_some (pe_op op_add (pv 1) (pe_callO O_law_draw (hr.mono (by decide)) rfl (pa_cons (pv 0) (pa_cons (pe_op op_add (pe_op op_sub (pv 2) (pv 1)) pe_int) pa_nil))))))))), ?_⟩
    refine ⟨by rw [sizeLine_eq]; decide, fun L hL => ?_⟩
    have hs1 := hs.ex (Ex.new (o := .lst (pool.map V.str)) hL)
    refine ⟨_, rfl, _, rfl, a, L, pool.map V.str, B, rfl, hs1, by omega, SqQ.l upd_same, by decide, fun p ys H1 hp e1 s1 hperm h1 => ?_⟩
    refine ⟨_, rfl, _, rfl, _, rfl, _, rfl, _, _, rfl, rfl, _, _, rfl, rfl, a, _, _, rfl, s1, ?_, by decide, by decide, fun d H2 d0 d1 e2 s2 => ⟨_, _, rfl, rfl, ?_⟩⟩
    · show B + 13 < lot; omega
    have npa : p ≠ a := fun z => by rw [z] at hp; exact hs1.ne hp
    have hp2 := e2.at1 npa h1
    refine ⟨_, rfl, p, ys, rfl, SqL.of hp2, fun r hr => ?_⟩
    rw [cutV_take (by omega)]
    obtain ⟨ns, rfl⟩ : ∃ ns : List Str, ys = ns.map V.str := by
      have : ∀ y ∈ ys, ∃ n : Str, y = .str n := fun y hy => by
        obtain ⟨n, _, rfl⟩ := List.mem_map.mp (hperm.mem_iff.mp hy)
        exact ⟨n, rfl⟩
      clear hperm h1 hp2
      induction ys with
      | nil => exact ⟨[], rfl⟩
      | cons y ys ih =>
        obtain ⟨n, rfl⟩ := this y (by simp)
        obtain ⟨ns, rfl⟩ := ih fun z hz => this z (by simp [hz])
        exact ⟨n :: ns, rfl⟩
    have hpn : ns.Perm pool := by
      have := hperm.map unS
      rwa [List.map_map, List.map_map, show (unS ∘ V.str) = id from rfl, List.map_id, List.map_id] at this
    rw [← List.map_take]
    have hlen : ns.length = 13 := hpn.length_eq
    have hH : Exo [a] H (upd H2 r (.lst ((ns.take (1 + d).toNat).map V.str))) := ((((Ex.new hL).exo _).trans e1).trans e2).mut (by
      have h2 := e2.free (by simpa using fun z : r = a => s2.ne (by rw [← z]; exact hr)) hr
      have h3 := e1.free (by simpa using fun z : r = a => s2.ne (by rw [← z]; exact hr)) h2
      exact (Ex.new hL).free h3)
    have nra : r ≠ a := fun z => s2.ne (by rw [← z]; exact hr)
    refine q r (ns.take (1 + d).toNat) _ ?_ hH ((s2.at (upd_ne nra.symm)).mono ?_) ⟨(hpn.nodup_iff.mpr pool_nd).sublist (List.take_sublist _ _), ?_, ?_, fun n hn => hpn.mem_iff.mp (List.mem_of_mem_take hn)⟩ upd_same
    · have h2 := e2.free (by simpa using nra) hr
      have h3 := e1.free (by simpa using nra) h2
      exact (Ex.new hL).free h3
    · show B + 13 + 1 ≤ B + 14; omega
    · rw [List.length_take]; omega
    · rw [List.length_take]; omega
end
end K8

set_option Elab.async false
set_option linter.all false
set_option maxRecDepth 100000
set_option maxHeartbeats 4000000
namespace K8
open PySem PySem.Spec PyProof.Rows L2 M8
structure TermIn (ns : List Str) (g : Int) (c : Coef) : Prop where
  nd : (keys c).Nodup
  sub : ∀ n ∈ keys c, n ∈ ns
  far : ∀ p ∈ c, -g ≤ p.2 ∧ p.2 ≤ g
def spTermW : Sp := fun vs H Q _ => ∃ a l ns g B, vs = [.ref a, .ref l, .int g] ∧ Spr H a B ∧ B + 200 < lot ∧ H l = some (.lst (ns.map V.str)) ∧ l ≠ a ∧ ns.Nodup ∧ ns.length ≤ 4 ∧ 0 < g ∧ g ≤ 100000 ∧
  ∀ t d c k H', Exo [a] H H' → Spr H' a (B + 13) → NewP H H' t d c k → TermIn ns g c → -(3 * g) ≤ k ∧ k ≤ 3 * g → Q (.ref t) H'
theorem _root_.List.subset_of_nodup_length {α : Type} [DecidableEq α] : ∀ {l m : List α}, l.Nodup → (∀ x ∈ l, x ∈ m) → l.length ≤ m.length
  | [], _, _, _ => Nat.zero_le _
  | x :: l, m, h, hs => by
    have hx : x ∈ m := hs x (by simp)
    have h1 : l.length ≤ (m.erase x).length := List.subset_of_nodup_length (List.nodup_cons.mp h).2 fun y hy => by
      have hne : y ≠ x := fun z => (List.nodup_cons.mp h).1 (z ▸ hy)
      exact (List.mem_erase_of_ne hne).mpr (hs y (by simp [hy]))
    rw [List.length_erase_of_mem hx] at h1
    have := List.length_pos_of_mem hx
    simp; omega
section
variable {P : Program} {w : World} {K : PySem.W.Frag} {mg : Str → Option Value} {base : Heap}
abbrev s__law_w_term : Stmt := top 40
theorem sc__law_w_term : FnScope ["spring", "names", "great", "found", "name"] ["spring", "names", "great"] (defScope s__law_w_term) := ⟨rfl, rfl, rfl, by decide +kernel, rfl, by decide +kernel, by decide +kernel⟩
theorem ok__law_w_term (T : Txt K mg) (a : At K mg "_law_w_term" s__law_w_term ["spring", "names", "great"]) (O_law_draw : Ok P w K mg base CX0 1 "_law_draw" ["spring", "many"] spDraw) (O_law_mixed : Ok P w K mg base CX0 2 "_law_mixed" ["spring", "some"] (spMixed K)) : Ok P w K mg base CX0 3 "_law_w_term" ["spring", "names", "great"] spTermW := a.ok fun f fd F => by
  refine F.ok sc__law_w_term (fun vs H Q E h => ?_) (fun cdv A outer s H vs Q E hr h => ?_)
  · obtain ⟨a, l, ns, g, B, rfl, _⟩ := h; rfl
  · obtain ⟨a, l, ns, g, B, rfl, hs, hB, hl, hla, hnd, h4, g0, g1, q⟩ := h
    refine ⟨_, (pss_cons (ps_set (i := 3) sc__law_w_term.nd rfl (Or.inl rfl) pe_dnewK)
      (pss_cons (ps_for PassesOwn.never rfl (pi_list (pe_callO O_law_mixed (hr.mono (by decide)) rfl (pa_cons (pv 0) (pa_cons (pv 1) pa_nil)))) (pg_name (i := 4) sc__law_w_term.nd rfl (Or.inl rfl)) (pss_one (ps_if (pt_cmpR op_gt (pe_callO O_law_draw (hr.mono (by decide)) rfl (pa_cons (pv 0) (pa_cons pe_int pa_nil))) pe_int (nomark _)) (pss_one (ps_dput (hu_of hr) (pv 3) (pv 4) (pe_op op_sub (pe_callO O_law_draw (hr.mono (by decide)) rfl (pa_cons (pv 0) (pa_cons (pe_op op_add (pe_op op_mul pe_int (pv 2)) pe_int) pa_nil))) (pv 2)) rfl)) pss_nil)))
      (pss_one (ps_ret (pe_tup (pa_cons (pv 3) (pa_cons (pe_op op_sub (pe_callO O_law_draw (hr.mono (by decide)) rfl (pa_cons (pv 0) (pa_cons (pe_op op_add (pe_op op_mul pe_int (pv 2)) pe_int) pa_nil))) (pe_op op_mul pe_int (pv 2))) pa_nil))))))), ?_⟩
    intro d hd
    have nda : d ≠ a := fun z => hs.ne (by rw [← z]; exact hd)
    have hs0 := hs.ex (Ex.new (o := .dK []) hd)
    dsimp only [tNext, tSeq, gName]
    refine tFor_of ?_
    refine ⟨_, rfl, _, rfl, a, l, _, B, rfl, hs0, by omega, SqQ.l ((Ex.new hd) _ _ hl), by rw [List.length_map]; omega, fun L ys H1 hL e1 s1 hperm h1 => ?_⟩
    rw [List.length_map] at s1
    have npn : ns.length ≤ 4 := h4
    obtain ⟨ms, rfl, hpm⟩ : ∃ ms : List Str, ys = ms.map V.str ∧ ms.Perm ns := by
      refine ⟨ys.map unS, ?_, ?_⟩
      · rw [List.map_map]
        have : ∀ y ∈ ys, (V.str ∘ unS) y = y := fun y hy => by
          obtain ⟨n, _, rfl⟩ := List.mem_map.mp (hperm.mem_iff.mp hy); rfl
        rw [List.map_congr_left this, List.map_id']
      · have := hperm.map unS
        rwa [List.map_map, show (unS ∘ V.str) = id from rfl, List.map_id] at this
    have hml : ms.length = ns.length := hpm.length_eq
    have hmn : ms.Nodup := hpm.nodup_iff.mpr hnd
    have hd1 : H1 d = some (.dK (cK [])) := e1.at1 nda upd_same
    have nLa : L ≠ a := fun z => hs0.ne (by rw [← z]; exact hL)
    have nLd : L ≠ d := fun z => by rw [z, upd_same] at hL; cases hL
    refine ⟨L, rfl, ⟨_, SqL.of h1⟩, ?_⟩
    refine for_itB walk_list (fun i σ H' => ∃ (x : Option V) (c : Coef), σ = [some (.ref a), some (.ref l), some (.int g), some (.ref d), x] ∧ Exo [a, d] H1 H' ∧ H' d = some (.dK (cK c)) ∧ Spr H' a (B + 4 + 2 * i) ∧ TermIn (ms.take i) g c)
      ⟨none, [], rfl, Exo.refl _ _, hd1, s1.mono (by omega), by simp [keys], by simp [keys], by simp⟩ (fun i σ H' _ ⟨_, _, _, e, _⟩ => SqL.of (e _ _ (by simp [nLa, nLd]) h1)) ?_ ?_
    · rintro i x σ H2 H3 hi ⟨x4, c, rfl, e, hdc, s2, hc⟩ ⟨rfl, hx⟩
      rw [List.length_map] at hi
      obtain ⟨n, hn, rfl⟩ : ∃ n, ms[i]? = some n ∧ x = .str n := by
        rw [List.getElem?_map, List.getElem?_eq_getElem hi] at hx
        exact ⟨ms[i], List.getElem?_eq_getElem hi, (Option.some.inj hx).symm⟩
      have ht : ms.take (i + 1) = ms.take i ++ [n] := by rw [List.take_add_one, hn]; rfl
      have hno : n ∉ keys c := fun z => by
        have h2 : (ms.take i ++ [n]).Nodup := by rw [← ht]; exact hmn.sublist (List.take_sublist _ _)
        rw [List.nodup_append] at h2
        exact h2.2.2 n (hc.sub n z) n (by simp) rfl
      have sub : ∀ n' ∈ keys c, n' ∈ ms.take (i + 1) := fun n' h => by rw [ht]; exact List.mem_append_left _ (hc.sub n' h)
      refine ⟨_, rfl, a, _, _, rfl, s2, by omega, by decide, by decide, fun u H4 u0 u1 e4 s4 => ?_⟩
      refine ⟨_, _, rfl, rfl, _, rfl, ?_⟩
      have e5 : Exo [a, d] H1 H4 := e.trans fun b o nb h => e4 b o (fun z => nb (by simp at z; simp [z])) h
      have hd4 : H4 d = some (.dK (cK c)) := e4.at1 nda hdc
      by_cases hu : 0 < u
      · rw [decide_eq_true hu]
        refine iteT ?_
        refine ⟨_, rfl, _, rfl, _, _, rfl, rfl, .inl ⟨by decide, by decide⟩, _, _, rfl, rfl, a, _, _, rfl, s4, by omega, by omega, by omega, fun y H5 y0 y1 e6 s6 => ?_⟩
        refine ⟨_, rfl, _, _, rfl, rfl, _, rfl, _, rfl, d, _, rfl, .inl ⟨cK c, .inr n, e6.at1 nda hd4, rfl, ?_, rfl⟩, ?_⟩
        · have : c.length ≤ 4 := by
            have h1 : (keys c).length ≤ (ms.take i).length := (List.subset_of_nodup_length hc.nd hc.sub)
            unfold keys at h1
            rw [List.length_map, List.length_take] at h1
            omega
          rw [cK_len, sizeLine_eq]; omega
        · have hp : putK (cK c) (.inr n) (.int (y - g)) = cK (c ++ [(n, y - g)]) := by
            rw [putK_new (by rw [keys_cK]; simpa using hno), cK_app]; rfl
          rw [hp]
          refine ⟨_, _, rfl, ?_, upd_same, (s6.at (upd_ne nda.symm)).mono (by omega), ?_⟩
          · exact (e5.trans fun b o nb h => e6 b o (fun z => nb (by simp at z; simp [z])) h).own (by simp)
          · refine ⟨?_, ?_, ?_⟩
            · rw [keys_app, List.nodup_append]
              exact ⟨hc.nd, by simp [keys], fun z hz z' hz' e => hno (by rw [show z' = n by simpa [keys] using hz'] at e; rw [← e]; exact hz)⟩
            · intro n' h'
              rw [keys_app] at h'
              rcases List.mem_append.mp h' with h' | h'
              · exact sub n' h'
              · rw [show n' = n by simpa [keys] using h', ht]; simp
            · intro q' hq
              rcases List.mem_append.mp hq with hq | hq
              · exact hc.far q' hq
              · rw [show q' = (n, y - g) by simpa using hq]; constructor <;> (show _ ≤ _; simp only; omega)
      · rw [decide_eq_false hu]
        exact iteF ⟨_, c, rfl, e5, hd4, s4.mono (by omega), hc.nd, sub, hc.far⟩
    · rintro σ H2 ⟨x4, c, rfl, e, hdc, s2, hc⟩
      rw [List.length_map] at s2 hc
      rw [List.take_length] at hc
      refine ⟨_, rfl, _, rfl, _, rfl, _, _, rfl, rfl, .inl ⟨by decide, by decide⟩, _, _, rfl, rfl, a, _, _, rfl, s2, by omega, by omega, by omega, fun y H3 y0 y1 e3 s3 => ?_⟩
      refine ⟨_, rfl, _, _, rfl, rfl, .inl ⟨by decide, by decide⟩, _, _, rfl, rfl, by show 2 ≤ sizeLine; decide, fun t ht => ?_⟩
      have hd3 : H3 d = some (.dK (cK c)) := e3.at1 nda hdc
      have nta : t ≠ a := fun z => s3.ne (by rw [← z]; exact ht)
      have ntd : t ≠ d := fun z => by rw [z, hd3] at ht; cases ht
      have eA : Exo [a, d] H1 H3 := e.trans fun b o nb h => e3 b o (fun z => nb (by simp at z; simp [z])) h
      have eB : Exo [a] H H3 := fun b o nb h => by
        have nbd : b ≠ d := ne_of_none h hd
        refine eA b o (by simp at nb; simp [nb, nbd]) (e1 b o nb ?_)
        rw [upd_ne nbd]; exact h
      have ht0 : H t = none := eB.free (by simpa using nta) ht
      refine q t d c (y - 3 * g) _ (eB.mut ht0) ((s3.at (upd_ne nta.symm)).mono (by omega)) ⟨ht0, hd, upd_same, by rw [upd_ne ntd.symm]; exact hd3⟩ ⟨hc.nd, fun n hn => hpm.mem_iff.mp (hc.sub n hn), hc.far⟩ ⟨by omega, by omega⟩
end
end K8

set_option Elab.async false
set_option linter.all false
set_option maxRecDepth 100000
set_option maxHeartbeats 4000000
namespace K8
open PySem PySem.Spec PyProof.Rows L2 M8
def kst : Tst → Int | .row _ k => k | .same _ k => k | .div _ _ k => k
structure TstIn (ns : List Str) (g : Int) (ts : Tst) : Prop where
  t : TermIn ns g (coef ts)
  k : -(3 * g) ≤ kst ts ∧ kst ts ≤ 3 * g
  m : mOk ts
def spTestW : Sp := fun vs H Q _ => ∃ a l ns g B, vs = [.ref a, .ref l, .int g] ∧ Spr H a B ∧ B + 200 < lot ∧ H l = some (.lst (ns.map V.str)) ∧ l ≠ a ∧ ns.Nodup ∧ ns.length ≤ 4 ∧ 0 < g ∧ g ≤ 100000 ∧
  ∀ q t d ts H', Exo [a] H H' → Spr H' a (B + 16) → NewA H H' q t d ts → TstIn ns g ts → Q (.ref q) H'
theorem Exo.freeS {a p : Addr} {B : Nat} {H H' : Hp} (e : Exo [a] H H') (s : Spr H' a B) (h : H' p = none) : H p = none ∧ p ≠ a := by
  have n : p ≠ a := fun z => s.ne (by rw [← z]; exact h)
  exact ⟨e.free (by simpa using n) h, n⟩
section
variable {P : Program} {w : World} {K : PySem.W.Frag} {mg : Str → Option Value} {base : Heap}
abbrev s__law_w_test : Stmt := top 41
theorem sc__law_w_test : FnScope ["spring", "names", "great", "term", "way"] ["spring", "names", "great"] (defScope s__law_w_test) := ⟨rfl, rfl, rfl, by decide +kernel, rfl, by decide +kernel, by decide +kernel⟩
theorem ok__law_w_test (T : Txt K mg) (a : At K mg "_law_w_test" s__law_w_test ["spring", "names", "great"]) (O_law_draw : Ok P w K mg base CX0 1 "_law_draw" ["spring", "many"] spDraw) (O_law_w_term : Ok P w K mg base CX0 3 "_law_w_term" ["spring", "names", "great"] spTermW) : Ok P w K mg base CX0 4 "_law_w_test" ["spring", "names", "great"] spTestW := a.ok fun f fd F => by
  refine F.ok sc__law_w_test (fun vs H Q E h => ?_) (fun cdv A outer s H vs Q E hr h => ?_)
  · obtain ⟨a, l, ns, g, B, rfl, _⟩ := h; rfl
  · obtain ⟨a, l, ns, g, B, rfl, hs, hB, hl, hla, hnd, h4, g0, g1, q⟩ := h
    refine ⟨_, (pss_cons (ps_par (i := 3) (j := 4) rfl sc__law_w_test.nd rfl rfl (by decide) rfl rfl (pa_cons (pe_callO O_law_w_term (hr.mono (by decide)) rfl (pa_cons (pv 0) (pa_cons (pv 1) (pa_cons (pv 2) pa_nil)))) (pa_cons (pe_callO O_law_draw (hr.mono (by decide)) rfl (pa_cons (pv 0) (pa_cons pe_int pa_nil))) pa_nil)) rfl)
      (pss_cons (ps_if (pt_cmpR op_eq (pv 4) pe_int (nomark _)) (pss_one (ps_ret (pe_tup (pa_cons pe_str (pa_cons (pe_op op_add pe_int (pe_callO O_law_draw (hr.mono (by decide)) rfl (pa_cons (pv 0) (pa_cons pe_int pa_nil)))) (pa_cons (pv 3) pa_nil)))))) pss_nil)
      (pss_one (ps_ret (pe_tup (pa_cons (pe_ifExp (pt_cmpR op_eq (pv 4) pe_int (nomark _)) pe_str pe_str) (pa_cons (pv 3) pa_nil))))))), ?_⟩
    refine ⟨_, rfl, _, rfl, _, rfl, a, l, ns, g, B, rfl, hs, by omega, hl, hla, hnd, h4, g0, g1, fun t d c k H1 e1 s1 n hc hk => ?_⟩
    refine ⟨_, rfl, a, _, _, rfl, s1, by omega, by decide, by decide, fun y H2 y0 y1 e2 s2 => ?_⟩
    refine ⟨_, _, rfl, ?_⟩
    have e3 := e1.trans e2
    obtain ⟨n1, n2, n3, n4⟩ := n
    have nta : t ≠ a := fun z => hs.ne (by rw [← z]; exact n1)
    have nda : d ≠ a := fun z => hs.ne (by rw [← z]; exact n2)
    have p2 : PairT H2 t d c k := ⟨e2.at1 nta n3, e2.at1 nda n4⟩
    have fin : ∀ {H3 : Hp} {r : Addr} {o : HO}, Exo [a] H H3 → Spr H3 a (B + 15) → PairT H3 t d c k → H3 r = none → Exo [a] H (upd H3 r o) ∧ Spr (upd H3 r o) a (B + 16) ∧ H r = none ∧ PairT (upd H3 r o) t d c k := by
      intro H3 r o e s p hr
      obtain ⟨f1, f2⟩ := e.freeS s hr
      exact ⟨e.mut f1, (s.at (upd_ne f2.symm)).mono (by omega), f1, by rw [PairT, upd_ne (ne_of_none p.1 hr), upd_ne (ne_of_none p.2 hr)]; exact p⟩
    refine ⟨_, rfl, rfl, _, rfl, ?_⟩
    by_cases h5 : y = 5
    · rw [decide_eq_true (by rw [h5])]
      refine iteT ?_
      refine ⟨_, rfl, a, _, _, rfl, s2, by omega, by decide, by decide, fun z H3 z0 z1 e4 s4 => ⟨_, _, rfl, rfl, _, rfl, by show 3 ≤ sizeLine; decide, fun r hr => ?_⟩⟩
      obtain ⟨f1, f2, f3, f4⟩ := fin (o := .tup [.str "by", .int (1 + z), .ref t]) (e3.trans e4) (s4.mono (by omega)) ⟨e4.at1 nta p2.1, e4.at1 nda p2.2⟩ hr
      exact q r t d (.div (1 + z) c k) _ f1 f2 ⟨f3, n1, n2, upd_same, f4⟩ ⟨hc, hk, by constructor <;> omega⟩
    · rw [decide_eq_false fun z => h5 (V.int.inj z)]
      refine iteF ?_
      refine ⟨_, rfl, rfl, _, rfl, ?_⟩
      by_cases h6 : y = 4
      · rw [decide_eq_true (by rw [h6])]
        refine iteT ?_
        refine ⟨_, rfl, by show 2 ≤ sizeLine; decide, fun r hr => ?_⟩
        obtain ⟨f1, f2, f3, f4⟩ := fin (o := .tup [.str "same", .ref t]) e3 (s2.mono (by omega)) p2 hr
        exact q r t d (.same c k) _ f1 f2 ⟨f3, n1, n2, upd_same, f4⟩ ⟨hc, hk, trivial⟩
      · rw [decide_eq_false fun z => h6 (V.int.inj z)]
        refine iteF ?_
        refine ⟨_, rfl, by show 2 ≤ sizeLine; decide, fun r hr => ?_⟩
        obtain ⟨f1, f2, f3, f4⟩ := fin (o := .tup [.str "row", .ref t]) e3 (s2.mono (by omega)) p2 hr
        exact q r t d (.row c k) _ f1 f2 ⟨f3, n1, n2, upd_same, f4⟩ ⟨hc, hk, trivial⟩
end
end K8

set_option Elab.async false
set_option linter.all false
set_option maxRecDepth 100000
set_option maxHeartbeats 4000000
namespace K8
open PySem PySem.Spec PyProof.Rows L2 M8
def spTurnL : Sp := fun vs H Q _ => ∃ p d c k, vs = [.ref p] ∧ PairT H p d c k ∧ Few c ∧ ∀ t d' H', Ex H H' → NewP H H' t d' (mapc (fun i => 0 - i) c) (0 - k) → Q (.ref t) H'
section
variable {P : Program} {w : World} {K : PySem.W.Frag} {mg : Str → Option Value} {base : Heap}
abbrev s__law_w_turned : Stmt := top 46
theorem sc__law_w_turned : FnScope ["term", "name"] ["term"] (defScope s__law_w_turned) := ⟨rfl, rfl, rfl, by decide +kernel, rfl, by decide +kernel, by decide +kernel⟩
theorem ok__law_w_turned (T : Txt K mg) (a : At K mg "_law_w_turned" s__law_w_turned ["term"]) : Ok P w K mg base CX0 1 "_law_w_turned" ["term"] spTurnL := a.ok fun f fd F => by
  refine F.ok sc__law_w_turned (fun vs H Q E h => ?_) (fun cdv A outer s H vs Q E hr h => ?_)
  · obtain ⟨p, d, c, k, rfl, _⟩ := h; rfl
  · obtain ⟨p, d, c, k, rfl, ⟨hp, hd⟩, few, q⟩ := h
    refine ⟨_, (pss_one (ps_ret (pe_tup (pa_cons (pe_callTy (call_dictC (K := K) rfl rfl) rfl T.n_dict rfl (pa_cons (pe_lock (pe_lc (own := [("name", 1)]) (g := gName 1) (tt := tYes) rfl sc__law_w_turned.nd (pi_keys (pe_ix (ix_qK (K := K) rfl) (pv 0) pe_int (fun _ _ => rfl))) (blkOk_by (N := ["term", "name"]) (sc := defScope s__law_w_turned) (by decide +kernel)) (fun _ _ _ _ _ => (pg_name (i := 1) sc__law_w_turned.nd rfl (Or.inl rfl))) (fun _ _ _ _ _ => pts_nil) (fun _ _ _ _ _ => (pe_tup (pa_cons (pv 1) (pa_cons (pe_op op_sub pe_int (pe_dget (hu_of hr) (pe_ix (ix_qK (K := K) rfl) (pv 0) pe_int (fun _ _ => rfl)) (pv 1) (fun _ _ => rfl))) pa_nil)))))) pa_nil)) (pa_cons (pe_op op_sub pe_int (pe_ix (ix_qK (K := K) rfl) (pv 0) pe_int (fun _ _ => rfl))) pa_nil))))), ?_⟩
    have pd : p ≠ d := fun z => by rw [z, hd] at hp; cases hp
    dsimp only [tNext, tRet, tTup, tCons, tNil]
    refine dp_lock (fun p => 0 - p.2) (fun _ => true) hd few (fun H2 R o r => ⟨_, rfl, p, _, 0, _, rfl, rfl, SqQ.t (o _ _ pd hp), at0, r⟩) (by simp [wipe, L2.start]) (fun _ => rfl) ?_ ?_
    · intro n z H2 od R R' hm2 h2 o k1 k2
      have hmk : n ∈ keys c := List.mem_map.mpr ⟨(n, z), hm2, rfl⟩
      have hco : co c n = z := co_of_mem few.nd hm2
      refine yesT ⟨_, rfl, _, rfl, p, _, 0, _, rfl, rfl, SqQ.t (o _ _ pd hp), at0, _, rfl, d, _, rfl, .inl ⟨cK c, .inr n, .inr ⟨od, h2⟩, rfl, (valV_co hmk few.nd).symm⟩, _, _, rfl, rfl, by show 2 ≤ sizeLine; decide, fun r hr => ?_⟩
      rw [hco]
      exact k1 rfl r _ hr (Ex.new hr) upd_same
    · intro D H2 hD e hD2
      rw [filt_all] at hD2
      refine ⟨_, rfl, p, _, 1, _, rfl, rfl, SqQ.t (e _ _ hp), at1, _, _, rfl, rfl, by show 2 ≤ sizeLine; decide, fun t ht => ?_⟩
      refine q t D _ (e.mut (e.free ht)) ⟨e.free ht, hD, upd_same, ?_⟩
      rw [upd_ne (ne_of_none hD2 ht)]; exact hD2
theorem mul_far {w g i : Int} (h0 : 1 ≤ w) (h1 : w ≤ 10) (h2 : -g ≤ i) (h3 : i ≤ g) : -(10 * g) ≤ w * i ∧ w * i ≤ 10 * g := by
  have : w = 1 ∨ w = 2 ∨ w = 3 ∨ w = 4 ∨ w = 5 ∨ w = 6 ∨ w = 7 ∨ w = 8 ∨ w = 9 ∨ w = 10 := by omega
  rcases this with rfl | rfl | rfl | rfl | rfl | rfl | rfl | rfl | rfl | rfl <;> omega
def tagS : Tst → String | .row _ _ => "row" | .same _ _ => "same" | .div _ _ _ => "by"
theorem TAt.view {H : Hp} {q t d : Addr} {ts : Tst} (h : TAt H q t d ts) : ∃ xs, H q = some (.tup xs) ∧ atI xs 0 = some (.str (tagS ts)) ∧ atI xs (-1) = some (.ref t) ∧ PairT H t d (coef ts) (kst ts) := by
  cases ts with
  | row c k => exact ⟨_, h.1, rfl, rfl, h.2⟩
  | same c k => exact ⟨_, h.1, rfl, rfl, h.2⟩
  | div m c k => exact ⟨_, h.1, rfl, rfl, h.2⟩
theorem TAt.exo {a : Addr} {H H' : Hp} {q t d : Addr} {ts : Tst} (e : Exo [a] H H') (nq : q ≠ a) (nt : t ≠ a) (nd : d ≠ a) (h : TAt H q t d ts) : TAt H' q t d ts := by
  cases ts with
  | row c k => exact ⟨e.at1 nq h.1, e.at1 nt h.2.1, e.at1 nd h.2.2⟩
  | same c k => exact ⟨e.at1 nq h.1, e.at1 nt h.2.1, e.at1 nd h.2.2⟩
  | div m c k => exact ⟨e.at1 nq h.1, e.at1 nt h.2.1, e.at1 nd h.2.2⟩
theorem TAt.ex {H H' : Hp} {q t d : Addr} {ts : Tst} (e : Ex H H') (h : TAt H q t d ts) : TAt H' q t d ts := by
  cases ts with
  | row c k => exact ⟨e _ _ h.1, e _ _ h.2.1, e _ _ h.2.2⟩
  | same c k => exact ⟨e _ _ h.1, e _ _ h.2.1, e _ _ h.2.2⟩
  | div m c k => exact ⟨e _ _ h.1, e _ _ h.2.1, e _ _ h.2.2⟩
theorem TermIn.mapc {ns : List Str} {g g' : Int} {c : Coef} {f : Int → Int} (h : TermIn ns g c) (hf : ∀ i, -g ≤ i → i ≤ g → -g' ≤ f i ∧ f i ≤ g') : TermIn ns g' (mapc f c) := by
  refine ⟨by rw [keys_mapc]; exact h.nd, by rw [keys_mapc]; exact h.sub, fun p hp => ?_⟩
  unfold M8.mapc at hp
  obtain ⟨q, hq, rfl⟩ := List.mem_map.mp hp
  exact hf _ (h.far q hq).1 (h.far q hq).2
theorem TermIn.few {ns : List Str} {g : Int} {c : Coef} (h : TermIn ns g c) (h4 : ns.length ≤ 4) : Few c := ⟨h.nd, by
  have := List.subset_of_nodup_length h.nd h.sub
  unfold keys at this; rw [List.length_map] at this; omega⟩
def spDrawn : Sp := fun vs H Q _ => ∃ a l ns g B, vs = [.ref a, .ref l, .int g] ∧ Spr H a B ∧ B + 300 < lot ∧ H l = some (.lst (ns.map V.str)) ∧ l ≠ a ∧ ns.Nodup ∧ ns.length ≤ 4 ∧ 0 < g ∧ g ≤ 100000 ∧
  ∀ q t d ts H', Exo [a] H H' → Spr H' a (B + 19) → NewA H H' q t d ts → TstIn ns (10 * g) ts → Q (.ref q) H'
abbrev s__law_drawn : Stmt := top 50
theorem sc__law_drawn : FnScope ["spring", "names", "great", "test", "many", "more", "coefficients", "constant", "term", "name"] ["spring", "names", "great"] (defScope s__law_drawn) := ⟨rfl, rfl, rfl, by decide +kernel, rfl, by decide +kernel, by decide +kernel⟩
theorem ok__law_drawn (T : Txt K mg) (a : At K mg "_law_drawn" s__law_drawn ["spring", "names", "great"]) (O_law_draw : Ok P w K mg base CX0 1 "_law_draw" ["spring", "many"] spDraw) (O_law_pick : Ok P w K mg base CX0 2 "_law_pick" ["spring", "some"] (spPick K)) (O_law_w_test : Ok P w K mg base CX0 4 "_law_w_test" ["spring", "names", "great"] spTestW) : Ok P w K mg base CX0 5 "_law_drawn" ["spring", "names", "great"] spDrawn := a.ok fun f fd F => by
  refine F.ok sc__law_drawn (fun vs H Q E h => ?_) (fun cdv A outer s H vs Q E hr h => ?_)
  · obtain ⟨a, l, ns, g, B, rfl, _⟩ := h; rfl
  · obtain ⟨a, l, ns, g, B, rfl, hs, hB, hl, hla, hnd, h4, g0, g1, q⟩ := h
    refine ⟨_, (pss_cons (ps_set (i := 3) sc__law_drawn.nd rfl (Or.inl rfl) (pe_callO O_law_w_test (hr.mono (by decide)) rfl (pa_cons (pv 0) (pa_cons (pv 1) (pa_cons (pv 2) pa_nil)))))
      (pss_cons (ps_asg (pe_tup (pa_cons (pe_callO O_law_pick (hr.mono (by decide)) rfl (pa_cons (pv 0) (pa_cons (pe_lst (pa_cons pe_int (pa_cons pe_int (pa_cons pe_int (pa_cons pe_int (pa_cons pe_int pa_nil)))))) pa_nil))) (pa_cons (pe_callO O_law_draw (hr.mono (by decide)) rfl (pa_cons (pv 0) (pa_cons pe_int pa_nil))) pa_nil))) (pg_tup rfl (pgs_cons (pg_name (i := 4) sc__law_drawn.nd rfl (Or.inr rfl)) (pgs_cons (pg_name (i := 5) sc__law_drawn.nd rfl (Or.inl rfl)) pgs_nil))))
      (pss_cons (ps_asg (pe_ix (ix_qK (K := K) rfl) (pv 3) (pe_un un_neg pe_int) (fun _ _ => rfl)) (pg_tup rfl (pgs_cons (pg_name (i := 6) sc__law_drawn.nd rfl (Or.inr rfl)) (pgs_cons (pg_name (i := 7) sc__law_drawn.nd rfl (Or.inl rfl)) pgs_nil))))
      (pss_cons (ps_set (i := 8) sc__law_drawn.nd rfl (Or.inl rfl) (pe_tup (pa_cons (pe_callTy (call_dictC (K := K) rfl rfl) rfl T.n_dict rfl (pa_cons (pe_lock (pe_lc (own := [("name", 9)]) (g := gName 9) (tt := tYes) rfl sc__law_drawn.nd (pi_keys (pv 6)) (blkOk_by (N := ["spring", "names", "great", "test", "many", "more", "coefficients", "constant", "term", "name"]) (sc := defScope s__law_drawn) (by decide +kernel)) (fun _ _ _ _ _ => (pg_name (i := 9) sc__law_drawn.nd rfl (Or.inl rfl))) (fun _ _ _ _ _ => pts_nil) (fun _ _ _ _ _ => (pe_tup (pa_cons (pv 9) (pa_cons (pe_op op_mul (pv 4) (pe_dget (hu_of hr) (pv 6) (pv 9) (fun _ _ => rfl))) pa_nil)))))) pa_nil)) (pa_cons (pe_op op_mul (pv 7) (pe_ifExp (pt_truth (pv 5) (fun _ => rfl)) (pv 4) pe_int)) pa_nil))))
      (pss_cons (ps_if (pt_cmpR op_eq (pe_ix (ix_qK (K := K) rfl) (pv 3) pe_int (fun _ _ => rfl)) pe_str (nomark _)) (pss_one (ps_ret (pe_tup (pa_cons pe_str (pa_cons (pe_callO O_law_pick (hr.mono (by decide)) rfl (pa_cons (pv 0) (pa_cons (pe_lst (pa_cons pe_int (pa_cons pe_int (pa_cons pe_int (pa_cons pe_int (pa_cons pe_int (pa_cons pe_int (pa_cons pe_int pa_nil)))))))) pa_nil))) (pa_cons (pv 8) pa_nil)))))) pss_nil)
      (pss_one (ps_ret (pe_tup (pa_cons (pe_ix (ix_qK (K := K) rfl) (pv 3) pe_int (fun _ _ => rfl)) (pa_cons (pv 8) pa_nil)))))))))), ?_⟩
    refine ⟨_, rfl, _, rfl, _, rfl, a, l, ns, g, B, rfl, hs, by omega, hl, hla, hnd, h4, g0, g1, fun q0 t0 d0 ts H1 e1 s1 n hts => ?_⟩
    refine ⟨_, rfl, by show 5 ≤ sizeLine; decide, fun L hL => ?_⟩
    have nLa : L ≠ a := fun z => s1.ne (by rw [← z]; exact hL)
    refine ⟨a, L, _, _, rfl, s1.ex (Ex.new hL), by omega, nLa, SqQ.l upd_same, by decide, by decide, fun i y H2 hy e2 s2 => ?_⟩
    obtain ⟨many, rfl, hm0, hm1⟩ : ∃ many : Int, y = .int many ∧ 1 ≤ many ∧ many ≤ 10 := by
      match i, hy with
      | 0, hy => cases hy; exact ⟨_, rfl, by decide, by decide⟩
      | 1, hy => cases hy; exact ⟨_, rfl, by decide, by decide⟩
      | 2, hy => cases hy; exact ⟨_, rfl, by decide, by decide⟩
      | 3, hy => cases hy; exact ⟨_, rfl, by decide, by decide⟩
      | 4, hy => cases hy; exact ⟨_, rfl, by decide, by decide⟩
      | n + 5, hy => simp at hy
    refine ⟨_, rfl, a, _, _, rfl, s2, by omega, by decide, by decide, fun u H3 u0 u1 e3 s3 => ?_⟩
    refine ⟨by show 2 ≤ sizeLine; decide, fun tp htp => ⟨tp, _, rfl, SqT.of upd_same, rfl, _, _, rfl, _, _, rfl, rfl, ?_⟩⟩
    obtain ⟨nq, nt, nd, hT⟩ := n
    have qa : q0 ≠ a := fun z => hs.ne (by rw [← z]; exact nq)
    have ta : t0 ≠ a := fun z => hs.ne (by rw [← z]; exact nt)
    have da : d0 ≠ a := fun z => hs.ne (by rw [← z]; exact nd)
    have tpa : tp ≠ a := fun z => s3.ne (by rw [← z]; exact htp)
    have eA : Exo [a] H1 H3 := (((Ex.new hL).exo _).trans e2).trans e3
    have fr : ∀ {r : Addr}, H3 r = none → r ≠ a → H r = none := fun h n => e1.free (by simpa using n) (eA.free (by simpa using n) h)
    have e4 : Exo [a] H1 (upd H3 tp (.tup [.int many, .int u])) := eA.mut (eA.free (by simpa using tpa) htp)
    have s4 : Spr (upd H3 tp (.tup [.int many, .int u])) a (B + 18) := (s3.at (upd_ne tpa.symm)).mono (by omega)
    have hT4 := hT.exo e4 qa ta da
    obtain ⟨xs, hq, hx0, hx1, hp, hd⟩ := hT4.view
    have fewc := hts.t.few h4
    refine ⟨_, rfl, _, rfl, q0, xs, _, _, rfl, rfl, SqQ.t hq, hx1, t0, _, rfl, SqT.of hp, rfl, _, _, rfl, _, _, rfl, rfl, ?_⟩
    dsimp only [tSeq, tAsg, tTup, tCons, tNil, gName]
    refine dp_lock (fun p => many * p.2) (fun _ => true) hd fewc (fun H2 R o r => ⟨_, rfl, r⟩) (by simp [wipe, L2.start]) (fun _ => rfl) ?_ ?_
    · intro n z H2 od R R' hm2 h2 o k1 k2
      have hmk : n ∈ keys (coef ts) := List.mem_map.mpr ⟨(n, z), hm2, rfl⟩
      have hco : co (coef ts) n = z := co_of_mem fewc.nd hm2
      refine yesT ⟨_, rfl, _, rfl, _, rfl, _, rfl, d0, _, rfl, .inl ⟨cK (coef ts), .inr n, .inr ⟨od, h2⟩, rfl, (valV_co hmk fewc.nd).symm⟩, _, _, rfl, rfl, .inl ⟨by omega, by omega⟩, by show 2 ≤ sizeLine; decide, fun r hr => ?_⟩
      rw [hco]
      exact k1 rfl r _ hr (Ex.new hr) upd_same
    · intro D H5 hD e5 hD5
      rw [filt_all] at hD5
      have ec := (show Exo [a] H (upd H3 tp (.tup [.int many, .int u])) from e1.trans e4).trans (e5.exo _)
      have hDn : D ≠ a := fun z => s4.ne (by rw [← z]; exact hD)
      have hD0 : H D = none := (e1.trans e4).free (by simpa using hDn) hD
      refine ⟨_, rfl, _, rfl, _, rfl, ?_⟩
      have hu : u = 0 ∨ u = 1 := by omega
      rcases hu with rfl | rfl
      · refine iteF ?_
        refine ⟨_, _, rfl, rfl, .inr ⟨by omega, by omega⟩, by show 2 ≤ sizeLine; decide, fun t ht => ?_⟩
        have tna : t ≠ a := fun z => (s4.ex e5).ne (by rw [← z]; exact ht)
        have ht0 : H t = none := ec.free (by simpa using tna) ht
        have tnD : D ≠ t := ne_of_none hD5 ht
        have e6 : Exo [a] H (upd H5 t (.tup [.ref D, .int (kst ts * 1)])) := ec.mut ht0
        have s6 : Spr (upd H5 t (.tup [.ref D, .int (kst ts * 1)])) a (B + 18) := (s4.ex e5).at (upd_ne tna.symm)
        have p6 : PairT (upd H5 t (.tup [.ref D, .int (kst ts * 1)])) t D (mapc (fun i => many * i) (coef ts)) (kst ts * 1) := ⟨upd_same, by rw [upd_ne tnD]; exact hD5⟩
        have hq6 : upd H5 t (.tup [.ref D, .int (kst ts * 1)]) q0 = some (.tup xs) := by rw [upd_ne (ne_of_none (e5 _ _ hq) ht)]; exact e5 _ _ hq
        have hin : TermIn ns (10 * g) (mapc (fun i => many * i) (coef ts)) := hts.t.mapc fun i h1 h2 => mul_far hm0 hm1 h1 h2
        have hkk : -(3 * (10 * g)) ≤ kst ts * 1 ∧ kst ts * 1 ≤ 3 * (10 * g) := by
          have h := mul_far (show (1:Int) ≤ 1 by omega) (show (1 : Int) ≤ 10 by omega) hts.k.1 hts.k.2
          rw [Int.mul_comm (kst ts)]; constructor <;> omega
        refine ⟨_, rfl, q0, xs, 0, _, rfl, rfl, SqQ.t hq6, hx0, rfl, _, rfl, ?_⟩
        cases ts with
        | row c k =>
          refine iteF ?_
          refine ⟨_, rfl, q0, xs, 0, _, rfl, rfl, SqQ.t hq6, hx0, _, rfl, by show 2 ≤ sizeLine; decide, fun r hr => ?_⟩
          have rna : r ≠ a := fun z => s6.ne (by rw [← z]; exact hr)
          have hr0 : H r = none := e6.free (by simpa using rna) hr
          exact q r t D (.row _ _) _ (e6.mut hr0) ((s6.at (upd_ne rna.symm)).mono (by omega)) ⟨hr0, ht0, hD0, upd_same, by rw [PairT, upd_ne (ne_of_none p6.1 hr), upd_ne (ne_of_none p6.2 hr)]; exact p6⟩ ⟨hin, hkk, trivial⟩
        | same c k =>
          refine iteF ?_
          refine ⟨_, rfl, q0, xs, 0, _, rfl, rfl, SqQ.t hq6, hx0, _, rfl, by show 2 ≤ sizeLine; decide, fun r hr => ?_⟩
          have rna : r ≠ a := fun z => s6.ne (by rw [← z]; exact hr)
          have hr0 : H r = none := e6.free (by simpa using rna) hr
          exact q r t D (.same _ _) _ (e6.mut hr0) ((s6.at (upd_ne rna.symm)).mono (by omega)) ⟨hr0, ht0, hD0, upd_same, by rw [PairT, upd_ne (ne_of_none p6.1 hr), upd_ne (ne_of_none p6.2 hr)]; exact p6⟩ ⟨hin, hkk, trivial⟩
        | div m c k =>
          refine iteT ?_
          refine ⟨_, rfl, by show 7 ≤ sizeLine; decide, fun L2' hL2' => ?_⟩
          have lna : L2' ≠ a := fun z => s6.ne (by rw [← z]; exact hL2')
          refine ⟨a, L2', _, _, rfl, s6.ex (Ex.new hL2'), by omega, lna, SqQ.l upd_same, by decide, by decide, fun i y H7 hy e7 s7 => ?_⟩
          obtain ⟨M, rfl, hM0, hM1⟩ : ∃ M : Int, y = .int M ∧ 1 ≤ M ∧ M ≤ 60 := by
            match i, hy with
            | 0, hy => cases hy; exact ⟨_, rfl, by decide, by decide⟩
            | 1, hy => cases hy; exact ⟨_, rfl, by decide, by decide⟩
            | 2, hy => cases hy; exact ⟨_, rfl, by decide, by decide⟩
            | 3, hy => cases hy; exact ⟨_, rfl, by decide, by decide⟩
            | 4, hy => cases hy; exact ⟨_, rfl, by decide, by decide⟩
            | 5, hy => cases hy; exact ⟨_, rfl, by decide, by decide⟩
            | 6, hy => cases hy; exact ⟨_, rfl, by decide, by decide⟩
            | n + 7, hy => simp at hy
          refine ⟨_, rfl, by show 3 ≤ sizeLine; decide, fun r hr => ?_⟩
          have e67 := ((Ex.new (o := .lst [.int 1, .int 2, .int 4, .int 6, .int 12, .int 30, .int 60]) hL2').exo [a]).trans e7
          have e8 := e6.trans e67
          have rna : r ≠ a := fun z => s7.ne (by rw [← z]; exact hr)
          have hr0 : H r = none := e8.free (by simpa using rna) hr
          have p7 : PairT H7 t D _ _ := ⟨e67.at1 tna p6.1, e67.at1 hDn p6.2⟩
          exact q r t D (.div M _ _) _ (e8.mut hr0) ((s7.at (upd_ne rna.symm)).mono (by omega)) ⟨hr0, ht0, hD0, upd_same, by rw [PairT, upd_ne (ne_of_none p7.1 hr), upd_ne (ne_of_none p7.2 hr)]; exact p7⟩ ⟨hin, hkk, by constructor <;> omega⟩
      · refine iteT ?_
        refine ⟨_, rfl, _, _, rfl, rfl, .inr ⟨by omega, by omega⟩, by show 2 ≤ sizeLine; decide, fun t ht => ?_⟩
        have tna : t ≠ a := fun z => (s4.ex e5).ne (by rw [← z]; exact ht)
        have ht0 : H t = none := ec.free (by simpa using tna) ht
        have tnD : D ≠ t := ne_of_none hD5 ht
        have e6 : Exo [a] H (upd H5 t (.tup [.ref D, .int (kst ts * many)])) := ec.mut ht0
        have s6 : Spr (upd H5 t (.tup [.ref D, .int (kst ts * many)])) a (B + 18) := (s4.ex e5).at (upd_ne tna.symm)
        have p6 : PairT (upd H5 t (.tup [.ref D, .int (kst ts * many)])) t D (mapc (fun i => many * i) (coef ts)) (kst ts * many) := ⟨upd_same, by rw [upd_ne tnD]; exact hD5⟩
        have hq6 : upd H5 t (.tup [.ref D, .int (kst ts * many)]) q0 = some (.tup xs) := by rw [upd_ne (ne_of_none (e5 _ _ hq) ht)]; exact e5 _ _ hq
        have hin : TermIn ns (10 * g) (mapc (fun i => many * i) (coef ts)) := hts.t.mapc fun i h1 h2 => mul_far hm0 hm1 h1 h2
        have hkk : -(3 * (10 * g)) ≤ kst ts * many ∧ kst ts * many ≤ 3 * (10 * g) := by
          have h := mul_far (show (1:Int) ≤ many by omega) (show (many : Int) ≤ 10 by omega) hts.k.1 hts.k.2
          rw [Int.mul_comm (kst ts)]; constructor <;> omega
        refine ⟨_, rfl, q0, xs, 0, _, rfl, rfl, SqQ.t hq6, hx0, rfl, _, rfl, ?_⟩
        cases ts with
        | row c k =>
          refine iteF ?_
          refine ⟨_, rfl, q0, xs, 0, _, rfl, rfl, SqQ.t hq6, hx0, _, rfl, by show 2 ≤ sizeLine; decide, fun r hr => ?_⟩
          have rna : r ≠ a := fun z => s6.ne (by rw [← z]; exact hr)
          have hr0 : H r = none := e6.free (by simpa using rna) hr
          exact q r t D (.row _ _) _ (e6.mut hr0) ((s6.at (upd_ne rna.symm)).mono (by omega)) ⟨hr0, ht0, hD0, upd_same, by rw [PairT, upd_ne (ne_of_none p6.1 hr), upd_ne (ne_of_none p6.2 hr)]; exact p6⟩ ⟨hin, hkk, trivial⟩
        | same c k =>
          refine iteF ?_
          refine ⟨_, rfl, q0, xs, 0, _, rfl, rfl, SqQ.t hq6, hx0, _, rfl, by show 2 ≤ sizeLine; decide, fun r hr => ?_⟩
          have rna : r ≠ a := fun z => s6.ne (by rw [← z]; exact hr)
          have hr0 : H r = none := e6.free (by simpa using rna) hr
          exact q r t D (.same _ _) _ (e6.mut hr0) ((s6.at (upd_ne rna.symm)).mono (by omega)) ⟨hr0, ht0, hD0, upd_same, by rw [PairT, upd_ne (ne_of_none p6.1 hr), upd_ne (ne_of_none p6.2 hr)]; exact p6⟩ ⟨hin, hkk, trivial⟩
        | div m c k =>
          refine iteT ?_
          refine ⟨_, rfl, by show 7 ≤ sizeLine; decide, fun L2' hL2' => ?_⟩
          have lna : L2' ≠ a := fun z => s6.ne (by rw [← z]; exact hL2')
          refine ⟨a, L2', _, _, rfl, s6.ex (Ex.new hL2'), by omega, lna, SqQ.l upd_same, by decide, by decide, fun i y H7 hy e7 s7 => ?_⟩
          obtain ⟨M, rfl, hM0, hM1⟩ : ∃ M : Int, y = .int M ∧ 1 ≤ M ∧ M ≤ 60 := by
            match i, hy with
            | 0, hy => cases hy; exact ⟨_, rfl, by decide, by decide⟩
            | 1, hy => cases hy; exact ⟨_, rfl, by decide, by decide⟩
            | 2, hy => cases hy; exact ⟨_, rfl, by decide, by decide⟩
            | 3, hy => cases hy; exact ⟨_, rfl, by decide, by decide⟩
            | 4, hy => cases hy; exact ⟨_, rfl, by decide, by decide⟩
            | 5, hy => cases hy; exact ⟨_, rfl, by decide, by decide⟩
            | 6, hy => cases hy; exact ⟨_, rfl, by decide, by decide⟩
            | n + 7, hy => simp at hy
          refine ⟨_, rfl, by show 3 ≤ sizeLine; decide, fun r hr => ?_⟩
          have e67 := ((Ex.new (o := .lst [.int 1, .int 2, .int 4, .int 6, .int 12, .int 30, .int 60]) hL2').exo [a]).trans e7
          have e8 := e6.trans e67
          have rna : r ≠ a := fun z => s7.ne (by rw [← z]; exact hr)
          have hr0 : H r = none := e8.free (by simpa using rna) hr
          have p7 : PairT H7 t D _ _ := ⟨e67.at1 tna p6.1, e67.at1 hDn p6.2⟩
          exact q r t D (.div M _ _) _ (e8.mut hr0) ((s7.at (upd_ne rna.symm)).mono (by omega)) ⟨hr0, ht0, hD0, upd_same, by rw [PairT, upd_ne (ne_of_none p7.1 hr), upd_ne (ne_of_none p7.2 hr)]; exact p7⟩ ⟨hin, hkk, by constructor <;> omega⟩
end
end K8

set_option Elab.async false
set_option linter.all false
set_option maxRecDepth 100000
set_option maxHeartbeats 4000000
namespace K8
open PySem PySem.Spec PyProof.Rows L2 M8
/-! the law hands a thing over: other lists, other order, one more coefficient 0 -/
def Hnd0 (d d' : Dat) : Prop := match d with
  | .dct _ => ∃ c c', d = .dct (cD c) ∧ d' = .dct (cD c') ∧ (c'.Perm c ∨ c'.Perm (c ++ [(("zero0" : Str), (0 : Int))]))
  | _ => d' = d
inductive Pair2 {α : Type} (R : α → α → Prop) : List α → List α → Prop
  | nil : Pair2 R [] []
  | cons {x y : α} {xs ys : List α} : R x y → Pair2 R xs ys → Pair2 R (x :: xs) (y :: ys)
theorem Pair2.snoc {α : Type} {R : α → α → Prop} : ∀ {xs ys : List α} {x y : α}, Pair2 R xs ys → R x y → Pair2 R (xs ++ [x]) (ys ++ [y])
  | _, _, _, _, .nil, h => .cons h .nil
  | _, _, _, _, .cons a t, h => .cons a (Pair2.snoc t h)
/-- one level more -/
def HndS (R : Dat → Dat → Prop) (d d' : Dat) : Prop := match d with
  | .lst ds => isSq d' = true ∧ Pair2 R ds (items d')
  | .tup ds => isSq d' = true ∧ Pair2 R ds (items d')
  | d => Hnd0 d d'
def Pre0 : Dat → Prop
  | .dct kds => ∃ c, kds = cD c ∧ c.length ≤ 4 ∧ (keys c).Nodup ∧ ("zero0" : Str) ∉ keys c
  | .lst _ => False | .tup _ => False | .fn _ => False
  | _ => True
def PreS (G : Dat → Prop) : Dat → Prop
  | .lst ds => ds.length ≤ 4 ∧ ∀ d ∈ ds, G d
  | .tup ds => ds.length ≤ 4 ∧ ∀ d ∈ ds, G d
  | d => Pre0 d
def sansL (N : List Addr) (H : Hp) : Hp := fun b => if b ∈ N then none else H b
theorem sansL_ex (N : List Addr) (H : Hp) : Ex (sansL N H) H := fun b o h => by
  unfold sansL at h
  split at h
  · cases h
  · exact h
theorem sansL_at {N : List Addr} {H : Hp} {b : Addr} {o : HO} (n : b ∉ N) (h : H b = some o) : sansL N H b = some o := by
  unfold sansL; rw [if_neg n]; exact h
theorem sansL_mono {N N' : List Addr} {H H' : Hp} (e : ∀ b o, b ∉ N → H b = some o → b ∉ N' ∧ H' b = some o) : Ex (sansL N H) (sansL N' H') := fun b o h => by
  unfold sansL at h
  split at h
  · cases h
  · rename_i n
    exact sansL_at (e b o n h).1 (e b o n h).2
theorem pi_lt {X : Cx} {tg e : Expr} {t : TE} (h : PE X e t) : PI X tg e (fun σ H R => iList X.K t σ H R ∨ iTup X.K t σ H R) :=
  ⟨fun pins s σ H R I q => q.elim (fun q => (pi_list h).run pins s σ H R I q) (fun q => (pi_tup h).run pins s σ H R I q)⟩
theorem lc_genD {J : It} {n : Nat} {G : Hp → Prop} {Y : Nat → Hp → V → Hp → Prop} (w : Walk J n G Y) {g : TG} {tt : TT} {te : TE} {vs : List Nat} {σ : L2.St} {H1 : Hp} {Q : VK} (S : List Addr) (M : Nat → Hp → Prop) (A : Addr → Nat → List V → Hp → Prop) (hn : n ≤ 1000000) (hS : ∀ b ∈ S, H1 b ≠ none)
    (hG : ∀ H, Exo S H1 H → G H) (hM : ∀ i H H', (∀ b ∈ S, H' b = H b) → M i H → M i H')
    (hA : ∀ i acc H D l0 l, H D = some (.lst l0) → H1 D = none → A D i acc H → A D i acc (upd H D (.lst l))) (m0 : M 0 H1) (a0 : ∀ D, H1 D = none → A D 0 [] (upd H1 D (.lst [])))
    (hs : ∀ i x H H' D acc (R : V → Hp → Prop) (R' : Hp → Prop), i < n → Exo S H1 H → M i H → H1 D = none → H D = some (.lst acc) → A D i acc H → acc.length ≤ i → Y i H x H' →
      (∀ y H4, Exo S H H4 → M (i + 1) H4 → A D (i + 1) (acc ++ [y]) H4 → R y H4) → (∀ H4, Exo S H H4 → M (i + 1) H4 → A D (i + 1) acc H4 → R' H4) →
      g x (wipe σ vs) H' fun σ2 H2 => wipe σ2 vs = wipe σ vs ∧ tt σ2 H2 fun b H3 => if b = true then te σ2 H3 R else R' H3)
    (hd : ∀ D acc H, H1 D = none → Exo S H1 H → M n H → A D n acc H → H D = some (.lst acc) → acc.length ≤ n → Q (.ref D) H) :
    LcB g tt te vs σ Q J H1 := by
  intro D hD
  have nS : D ∉ S := fun z => hS D z hD
  have sl : (1000000 : Nat) < sizeLine := by rw [sizeLine_eq]; decide
  refine lc_it w (fun i H => Exo S H1 H ∧ M i H ∧ ∃ acc, H D = some (.lst acc) ∧ acc.length ≤ i ∧ A D i acc H) ⟨(Exo.refl S H1).mut hD, hM 0 _ _ (fun b hb => upd_ne fun z => nS (z ▸ hb)) m0, [], upd_same, Nat.le_refl _, a0 D hD⟩ (fun i H _ p => hG H p.1) ?_ ?_
  · rintro i x H H' hi ⟨e, m, acc, hDH, hl, a⟩ y
    refine hs i x H H' D acc _ _ hi e m hD hDH a hl y (fun z H4 e4 m4 a4 => ?_) (fun H4 e4 m4 a4 => ?_)
    · have h4 := e4 D _ nS hDH
      refine ⟨acc, h4, by omega, (e.trans e4).mut hD, hM _ _ _ (fun b hb => upd_ne fun q => nS (q ▸ hb)) m4, _, upd_same, by rw [List.length_append]; simp; omega, hA _ _ _ _ _ _ h4 hD a4⟩
    · exact ⟨e.trans e4, m4, acc, e4 D _ nS hDH, by omega, a4⟩
  · rintro H ⟨e, m, acc, hDH, hl, a⟩
    exact hd D acc H hD e m a hDH hl
theorem paired_perm {α β : Type} {R : α → β → Prop} {us ts : List α} (p : us.Perm ts) : ∀ {cs : List β}, Paired R ts cs → ∃ cs', cs'.Perm cs ∧ Paired R us cs' := by
  induction p with
  | nil => intro cs h; exact ⟨cs, .refl _, h⟩
  | cons x p ih =>
    intro cs h
    cases h with
    | cons h t =>
      obtain ⟨cs', p', h'⟩ := ih t
      exact ⟨_, p'.cons _, .cons h h'⟩
  | swap x y l =>
    intro cs h
    cases h with
    | cons h t =>
      cases t with
      | cons h2 t => exact ⟨_, .swap _ _ _, .cons h2 (.cons h t)⟩
  | trans p1 p2 ih1 ih2 =>
    intro cs h
    obtain ⟨c1, q1, h1⟩ := ih2 h
    obtain ⟨c2, q2, h2⟩ := ih1 h1
    exact ⟨c2, q2.trans q1, h2⟩
def unR : V → Addr | .ref a => a | _ => 0
theorem perm_refs {ys : List V} {ts : List Addr} (h : ys.Perm (ts.map V.ref)) : ∃ us : List Addr, ys = us.map V.ref ∧ us.Perm ts := by
  refine ⟨ys.map unR, ?_, ?_⟩
  · rw [List.map_map]
    have : ∀ y ∈ ys, (V.ref ∘ unR) y = y := fun y hy => by
      obtain ⟨n, _, rfl⟩ := List.mem_map.mp (h.mem_iff.mp hy); rfl
    rw [List.map_congr_left this, List.map_id']
  · have := h.map unR
    rwa [List.map_map, show (unR ∘ V.ref) = id from rfl, List.map_id] at this
theorem keys_perm {c c' : Coef} (h : c'.Perm c) : (keys c').Perm (keys c) := h.map _
theorem cK_perm {kvs : List (Key × V)} {c : Coef} (h : kvs.Perm (cK c)) : ∃ c', kvs = cK c' ∧ c'.Perm c := by
  let un : Key × V → Str × Int := fun p => (match p.1 with | .inr s => s | .inl _ => "", match p.2 with | .int i => i | _ => 0)
  have hu : ∀ d : Coef, (cK d).map un = d := fun d => by
    unfold cK; rw [List.map_map]
    exact List.map_id'' (fun _ => rfl) d
  refine ⟨kvs.map un, ?_, ?_⟩
  · unfold cK; rw [List.map_map]
    have : ∀ y ∈ kvs, ((fun p : Str × Int => ((Sum.inr p.1, V.int p.2) : Key × V)) ∘ un) y = y := fun y hy => by
      have := h.mem_iff.mp hy
      unfold cK at this
      obtain ⟨n, _, rfl⟩ := List.mem_map.mp this; rfl
    rw [List.map_congr_left this, List.map_id']
  · have := h.map un
    rwa [hu] at this
def spHand (K : PySem.W.Frag) (b : Nat) (G : Dat → Prop) (R : Dat → Dat → Prop) : Sp := fun vs H Q _ => ∃ a v d B N, vs = [.ref a, v] ∧ Spr H a B ∧ B + b + 100 < lot ∧ a ∈ N ∧ (∀ b ∈ N, H b ≠ none) ∧ SeeF K (sansL N H) v d ∧ G d ∧
  ∀ v' d' H', Exo [a] H H' → Spr H' a (B + b) → SeeF K (sansL N H') v' d' → R d d' → Q v' H'
section
variable {P : Program} {w : World} {K : PySem.W.Frag} {mg : Str → Option Value} {base : Heap}
abbrev s__law_w_handed : Stmt := top 45
theorem sc__law_w_handed : FnScope ["spring", "thing", "rows", "some", "part"] ["spring", "thing"] (defScope s__law_w_handed) := ⟨rfl, rfl, rfl, by decide +kernel, rfl, by decide +kernel, by decide +kernel⟩
theorem ok_hand_step (T : Txt K mg) (a : At K mg "_law_w_handed" s__law_w_handed ["spring", "thing"]) (O_law_draw : Ok P w K mg base CX0 1 "_law_draw" ["spring", "many"] spDraw) (O_law_mixed : Ok P w K mg base CX0 2 "_law_mixed" ["spring", "some"] (spMixed K)) {k b : Nat} {G : Dat → Prop} {R : Dat → Dat → Prop} (O_law_w_handed : Ok P w K mg base CX0 (k+2) "_law_w_handed" ["spring", "thing"] (spHand K b G R)) : Ok P w K mg base CX0 (k+3) "_law_w_handed" ["spring", "thing"] (spHand K (4 * b + 8) (PreS G) (HndS R)) := a.ok fun f fd F => by
  refine F.ok sc__law_w_handed (fun vs H Q E h => ?_) (fun cdv A outer s H vs Q E hr h => ?_)
  · obtain ⟨a, v, d, B, N, rfl, _⟩ := h; rfl
  · obtain ⟨a, v, d, B, N, rfl, hs, hB, haN, hN, hv, hg, q⟩ := h
    refine ⟨_, (pss_cons (ps_if (pt_val (pe_callB call_isiD rfl T.n_isinstance rfl (pa_cons (pv 1) (pa_cons (pe_tyN (n := "dict") rfl T.n_dict rfl) pa_nil)))) (pss_cons (ps_set (i := 2) sc__law_w_handed.nd rfl (Or.inl rfl) (pe_callO O_law_mixed (hr.mono (by first | decide | omega)) rfl (pa_cons (pv 0) (pa_cons (LiI.pe_listItems rfl (pv 1) rfl T.n_list rfl) pa_nil))))
      (pss_one (ps_ret (pe_callTy (call_dictC (K := K) rfl rfl) rfl T.n_dict rfl (pa_cons (pe_op op_cat (pv 2) (pe_op op_rep (pe_lst (pa_cons (pe_tup (pa_cons pe_str (pa_cons pe_int pa_nil))) pa_nil)) (pe_callTy call_int1 rfl T.n_int rfl (pa_cons (pe_cmpR op_eq (pe_callO O_law_draw (hr.mono (by first | decide | omega)) rfl (pa_cons (pv 0) (pa_cons pe_int pa_nil))) pe_int (nomark _)) pa_nil)))) pa_nil))))) pss_nil)
      (pss_cons (ps_if (pt_val (pe_callB call_isiDT rfl T.n_isinstance rfl (pa_cons (pv 1) (pa_cons (pe_tup (pa_cons (pe_tyN (n := "list") rfl T.n_list rfl) (pa_cons (pe_tyN (n := "tuple") rfl T.n_tuple rfl) pa_nil))) pa_nil)))) (pss_cons (ps_setLc (i := 3) (own := [("part", 4)]) (g := gName 4) (tt := tYes) rfl sc__law_w_handed.nd rfl rfl (sw_true rfl rfl rfl (by decide +kernel)) (pi_lt (pv 1)) (blkOk_by (N := ["spring", "thing", "rows", "some", "part"]) (sc := defScope s__law_w_handed) (by decide +kernel)) (fun _ _ _ _ _ => (pg_name (i := 4) sc__law_w_handed.nd rfl (Or.inl rfl))) (fun _ _ _ _ _ => pts_nil) (fun _ _ _ _ _ => (pe_callO O_law_w_handed hr rfl (pa_cons (pv 0) (pa_cons (pv 4) pa_nil)))))
      (pss_one (ps_ret (pe_ifExp (pt_cmpR op_eq (pe_callO O_law_draw (hr.mono (by first | decide | omega)) rfl (pa_cons (pv 0) (pa_cons pe_int pa_nil))) pe_int (nomark _)) (pv 3) (pe_callTy call_tuple_of rfl T.n_tuple rfl (pa_cons (pv 3) pa_nil)))))) pss_nil)
      (pss_one (ps_ret (pv 1))))), ?_⟩
    have hv1 := See.mono (sansL_ex N H) hv
    have newN : ∀ {H' : Hp} {p : Addr}, Exo [a] H H' → (∃ B', Spr H' a B') → H' p = none → p ∉ N := by
      intro H' p e ⟨B', s'⟩ hp hpN
      by_cases z : p = a
      · exact s'.ne (by rw [← z]; exact hp)
      · exact hN p hpN (e.free (by simpa using z) hp)
    refine ⟨_, rfl, v, "dict", d, _, rfl, hv1, kit_dct d, _, rfl, ?_⟩
    cases hv with
    | @dct p kvs kds h1 k1 =>
      refine iteT ?_
      obtain ⟨c, rfl, h4, hnd, hz⟩ : Pre0 (.dct kds) := hg
      have hkv := cK_of k1
      subst hkv
      have hpH := sansL_ex N H _ _ h1
      refine ⟨_, rfl, _, rfl, p, cK c, rfl, hpH, fun H1 L ts e1 hL _ _ hL1 hts => ?_⟩
      have hlt : ts.length = c.length := by rw [hts.length, cK_len]
      refine ⟨a, L, ts.map V.ref, B, rfl, hs.ex e1, by omega, SqQ.l hL1, by rw [List.length_map]; omega, fun Y ys H2 hY e2 s2 hperm hY2 => ?_⟩
      obtain ⟨us, rfl, hup⟩ := perm_refs hperm
      have nYa : Y ≠ a := fun z => (hs.ex e1).ne (by rw [← z]; exact hY)
      refine ⟨_, rfl, by show 2 ≤ sizeLine; decide, fun z hz0 => ⟨by show 1 ≤ sizeLine; decide, fun Z hZ => ?_⟩⟩
      have z1 : Ex H2 (upd H2 z (.tup [.str "zero0", .int 0])) := Ex.new hz0
      have z2 : Ex H2 (upd (upd H2 z (.tup [.str "zero0", .int 0])) Z (.lst [.ref z])) := z1.mut (z1.free hZ)
      have nza : z ≠ a := fun e => s2.ne (by rw [← e]; exact hz0)
      have nZa : Z ≠ a := fun e => s2.ne (by rw [← e]; exact z1.free hZ)
      have nzZ : z ≠ Z := ne_of_none upd_same hZ
      refine ⟨_, rfl, a, _, _, rfl, s2.ex z2, by rw [List.length_map]; omega, by decide, by decide, fun u H3 u0 u1 e3 s3 => ?_⟩
      have e13 : Exo [a] H1 H3 := (e2.trans (z2.exo _)).trans e3
      have hz3 : H3 z = some (.tup [.str "zero0", .int 0]) := e3.at1 nza (by rw [upd_ne nzZ, upd_same])
      have hZ3 : H3 Z = some (.lst [.ref z]) := e3.at1 nZa upd_same
      have hY3 : H3 Y = some (.lst (us.map V.ref)) := e3.at1 nYa (z2 _ _ hY2)
      obtain ⟨kvs', hkp, hpu⟩ := paired_perm hup hts
      obtain ⟨c', rfl, hcp⟩ := cK_perm hkp
      have hnd' : (keys c').Nodup := (keys_perm hcp).nodup_iff.mpr hnd
      have hz' : ("zero0" : Str) ∉ keys c' := fun h => hz ((keys_perm hcp).mem_iff.mp h)
      have hl' : c'.length = c.length := hcp.length_eq
      have hul : us.length = c.length := by rw [hup.length_eq, hlt]
      have at3 : ∀ {H4 : Hp}, Ex H3 H4 → Paired (fun p kv => H4 p = some (.tup [kV kv.1, kv.2])) us (cK c') := fun e4 => Paired.imp (fun p kv h => e4 _ _ (e13.at1 (fun z => by
        obtain ⟨x1, x2, x3, x4, _⟩ := hs.ex e1
        rw [z, x4] at h; cases h) h)) hpu
      refine ⟨rfl, .inr ⟨_, rfl, ?_⟩⟩
      have done : ∀ (D : Addr) (cc : Coef) (H5 : Hp), Exo [a] H H5 → Spr H5 a (B + 5) → H5 D = none → (cc.Perm c ∨ cc.Perm (c ++ [(("zero0" : Str), (0 : Int))])) → Q (.ref D) (upd H5 D (.dK (cK cc))) := by
        intro D cc H5 e5 s5 hD hcc
        have nDa : D ≠ a := fun e => s5.ne (by rw [← e]; exact hD)
        have nDN : D ∉ N := newN e5 ⟨_, s5⟩ hD
        refine q (.ref D) (.dct (cD cc)) _ (e5.mut (e5.free (by simpa using nDa) hD)) ((s5.at (upd_ne nDa.symm)).mono (by omega)) (.dct (sansL_at nDN upd_same) (seeK_c _)) ⟨c, cc, rfl, rfl, hcc⟩
      have e03 : Exo [a] H H3 := (Ex.exo e1 _).trans e13
      have s3' : Spr H3 a (B + 5) := s3.mono (by rw [List.length_map]; omega)
      by_cases hu0 : u = 0
      · rw [show decide (V.int u = V.int 0) = true from decide_eq_true (by rw [hu0])]
        refine ⟨Z, _, _, rfl, rfl, hZ3, by decide, by decide, by rw [sizeLine_eq]; simp, fun Rp hRp => ?_⟩
        have r1 : Ex H3 (upd H3 Rp (.lst (List.replicate (Int.toNat (if true = true then 1 else 0)) [V.ref z]).flatten)) := Ex.new hRp
        refine ⟨Y, Rp, _, _, rfl, rfl, r1 _ _ hY3, upd_same, by rw [List.length_map, hul, sizeLine_eq]; show c.length + 1 ≤ _; omega, fun C hC => ?_⟩
        have r2 := r1.mut (r1.free hC) (o := .lst (us.map V.ref ++ (List.replicate (Int.toNat (if true = true then 1 else 0)) [V.ref z]).flatten))
        refine ⟨C, us ++ [z], cK (c' ++ [(("zero0" : Str), (0 : Int))]), rfl, by rw [upd_same, List.map_append]; rfl, ?_, cK_nodup ?_, fun D hD => ?_⟩
        · rw [cK_app]
          exact Paired.app (at3 r2) (.cons (r2 _ _ hz3) .nil)
        · rw [keys_app, List.nodup_append]
          exact ⟨hnd', by simp [keys], fun x hx y hy e => hz' (by rw [show y = "zero0" by simpa [keys] using hy] at e; rw [← e]; exact hx)⟩
        · exact done D _ _ (e03.trans (r2.exo _)) (s3'.ex r2) hD (.inr (hcp.append_right _))
      · rw [show decide (V.int u = V.int 0) = false from decide_eq_false fun e => hu0 (V.int.inj e)]
        refine ⟨Z, _, _, rfl, rfl, hZ3, by decide, by decide, by rw [sizeLine_eq]; simp, fun Rp hRp => ?_⟩
        have r1 : Ex H3 (upd H3 Rp (.lst (List.replicate (Int.toNat (if false = true then 1 else 0)) [V.ref z]).flatten)) := Ex.new hRp
        refine ⟨Y, Rp, _, _, rfl, rfl, r1 _ _ hY3, upd_same, by rw [List.length_map, hul, sizeLine_eq]; show c.length + 0 ≤ _; omega, fun C hC => ?_⟩
        have r2 := r1.mut (r1.free hC) (o := .lst (us.map V.ref ++ (List.replicate (Int.toNat (if false = true then 1 else 0)) [V.ref z]).flatten))
        refine ⟨C, us, cK c', rfl, by rw [upd_same]; show some (HO.lst (us.map V.ref ++ [])) = _; rw [List.append_nil], at3 r2, cK_nodup hnd', fun D hD => ?_⟩
        exact done D _ _ (e03.trans (r2.exo _)) (s3'.ex r2) hD (.inl hcp)
    | @lst a1 xs ds h1 k1 =>
      refine iteF ?_
      have hpH := sansL_ex N H _ _ h1
      have e0H : ∀ {tp : Addr}, H tp = none → Ex H (upd H tp (.tup (["list", "tuple"].map V.ty))) := fun h => Ex.new h
      refine ⟨_, rfl, by show 2 ≤ sizeLine; decide, fun tp htp => ⟨_, tp, ["list", "tuple"], .lst ds, _, rfl, upd_same, See.mono (e0H htp) hv1, kit_lt (.lst ds), _, rfl, iteT ?_⟩⟩
      have e0 := e0H htp
      have hs0 := hs.ex e0
      have hN0 : ∀ b ∈ N, upd H tp (.tup (["list", "tuple"].map V.ty)) b ≠ none := fun b hb => by
        have := hN b hb
        rw [upd_ne (fun z => this (by rw [z]; exact htp))]; exact this
      have hl := k1.len
      obtain ⟨hl4, hgd⟩ : ds.length ≤ 4 ∧ ∀ d ∈ ds, G d := hg
      dsimp only [tSeq, gName]
      refine tLc_of ?_
      refine .inl ⟨_, rfl, a1, rfl, ⟨xs, SqL.of (e0 _ _ hpH)⟩, ?_⟩
      refine lc_genD (walk_list (xs := xs)) [a] (fun i H' => Spr H' a (B + i * b)) (fun D i acc H' => ∃ ds', SeeL (FnK K) (sansL (D :: N) H') acc ds' ∧ Pair2 R (ds.take i) ds') (by omega) (fun b hb => by rw [show b = a by simpa using hb]; exact hs0.ne) ?_ (fun i H1 H2 hb h => h.at (hb a (by simp))) ?_ (by simpa using hs0) ?_ ?_ ?_
      · intro H1 e
        have nal : a1 ≠ a := fun z => by
          unfold sansL at h1
          rw [z, if_pos haN] at h1; cases h1
        exact SqL.of (e.at1 nal (e0 _ _ hpH))
      · rintro i acc H1 D l0 l hD hN1 ⟨ds', h1', h2'⟩
        exact ⟨ds', SeeL.mono (sansL_mono fun b o nb hb => ⟨nb, by rw [upd_ne fun z => nb (by simp [z])]; exact hb⟩) h1', h2'⟩
      · intro D hD
        exact ⟨[], .nil, .nil⟩
      · rintro i x H1 H2 D acc R1 R2 hi e m hD hDH ⟨ds', h1', h2'⟩ hacc ⟨rfl, hx⟩ k' _
        obtain ⟨dd, hdd, sd⟩ := k1.getV hx
        have hi' : i < ds.length := by omega
        refine ⟨rfl, yesT ⟨_, rfl, _, rfl, a, x, dd, B + i * b, D :: N, rfl, m, ?_, by simp [haN], ?_, ?_, hgd _ (List.mem_of_getElem? hdd), fun v' d' H4 e4 s4 sv hr' => ?_⟩⟩
        · have : i * b ≤ 3 * b := Nat.mul_le_mul_right _ (by omega)
          omega
        · intro b' hb'
          rcases List.mem_cons.mp hb' with rfl | hb'
          · rw [hDH]; simp
          · by_cases z : b' = a
            · rw [z]; exact m.ne
            · have h0 := hN0 b' hb'
              cases hq0 : upd H tp (.tup (["list", "tuple"].map V.ty)) b' with
              | none => exact absurd hq0 h0
              | some o => rw [e.at1 z hq0]; simp
        · refine See.mono (sansL_mono fun b' o nb hb' => ?_) sd
          have nba : b' ≠ a := fun z => nb (by rw [z]; exact haN)
          have hb0 := e0 _ _ hb'
          refine ⟨fun z => ?_, e.at1 nba hb0⟩
          rcases List.mem_cons.mp z with z | z
          · have hD' : upd H tp (.tup (["list", "tuple"].map V.ty)) D = none := hD
            rw [z, hD'] at hb0; cases hb0
          · exact nb z
        · have hDa : D ≠ a := fun z => hs0.ne (by rw [← z]; exact hD)
          refine k' v' H4 e4 (s4.mono (by rw [Nat.succ_mul]; omega)) ⟨ds' ++ [d'], SeeL.append (SeeL.mono (sansL_mono fun b' o nb hb' => ⟨nb, e4.at1 (fun z => nb (by rw [z]; simp [haN])) hb'⟩) h1') (.cons sv .nil), ?_⟩
          rw [List.take_add_one, hdd]
          exact Pair2.snoc h2' hr'
      · rintro D acc H1 hD e m ⟨ds', h1', h2'⟩ hDH hacc
        have hDa : D ≠ a := fun z => hs0.ne (by rw [← z]; exact hD)
        have hDN : D ∉ N := fun z => hN0 D z hD
        rw [List.take_of_length_le (by omega)] at h2'
        have m' : Spr H1 a (B + 4 * b) := m.mono (by have : xs.length * b ≤ 4 * b := Nat.mul_le_mul_right _ (by omega); omega)
        have e01 : Exo [a] H H1 := (e0.exo _).trans e
        refine ⟨_, rfl, a, _, _, rfl, m', by omega, by decide, by decide, fun u H2 u0 u1 e2 s2 => ?_⟩
        refine ⟨rfl, _, rfl, ?_⟩
        have hD2 := e2.at1 hDa hDH
        have see2 : SeeL (FnK K) (sansL (D :: N) H2) acc ds' := SeeL.mono (sansL_mono fun b' o nb hb' => ⟨nb, e2.at1 (fun z => nb (by rw [z]; simp [haN])) hb'⟩) h1'
        by_cases hu0 : u = 0
        · rw [show decide (V.int u = V.int 0) = true from decide_eq_true (by rw [hu0])]
          refine iteT ⟨_, rfl, ?_⟩
          exact q (.ref D) (.lst ds') H2 (e01.trans e2) (s2.mono (by omega)) (.lst (sansL_at hDN hD2) (SeeL.mono (sansL_mono fun b' o nb hb' => ⟨fun z => nb (by simp [z]), hb'⟩) see2)) ⟨rfl, h2'⟩
        · rw [show decide (V.int u = V.int 0) = false from decide_eq_false fun e => hu0 (V.int.inj e)]
          refine iteF ⟨_, rfl, D, acc, rfl, .inl ⟨SqL.of hD2, fun T hT => ?_⟩⟩
          have nTa : T ≠ a := fun z => s2.ne (by rw [← z]; exact hT)
          have nTN : T ∉ N := newN (e01.trans e2) ⟨_, s2⟩ hT
          refine q (.ref T) (.tup ds') _ ((e01.trans e2).mut ((e01.trans e2).free (by simpa using nTa) hT)) ((s2.at (upd_ne nTa.symm)).mono (by omega)) (.tup (sansL_at nTN upd_same) (SeeL.mono (sansL_mono fun b' o nb hb' => ⟨fun z => nb (by simp [z]), by rw [upd_ne (ne_of_none hb' hT)]; exact hb'⟩) see2)) ⟨rfl, h2'⟩
    | @tup a1 xs ds h1 k1 =>
      refine iteF ?_
      have hpH := sansL_ex N H _ _ h1
      have e0H : ∀ {tp : Addr}, H tp = none → Ex H (upd H tp (.tup (["list", "tuple"].map V.ty))) := fun h => Ex.new h
      refine ⟨_, rfl, by show 2 ≤ sizeLine; decide, fun tp htp => ⟨_, tp, ["list", "tuple"], .tup ds, _, rfl, upd_same, See.mono (e0H htp) hv1, kit_lt (.tup ds), _, rfl, iteT ?_⟩⟩
      have e0 := e0H htp
      have hs0 := hs.ex e0
      have hN0 : ∀ b ∈ N, upd H tp (.tup (["list", "tuple"].map V.ty)) b ≠ none := fun b hb => by
        have := hN b hb
        rw [upd_ne (fun z => this (by rw [z]; exact htp))]; exact this
      have hl := k1.len
      obtain ⟨hl4, hgd⟩ : ds.length ≤ 4 ∧ ∀ d ∈ ds, G d := hg
      dsimp only [tSeq, gName]
      refine tLc_of ?_
      refine .inr ⟨_, rfl, a1, rfl, ⟨xs, SqT.of (e0 _ _ hpH)⟩, ?_⟩
      refine lc_genD (walk_tup (xs := xs)) [a] (fun i H' => Spr H' a (B + i * b)) (fun D i acc H' => ∃ ds', SeeL (FnK K) (sansL (D :: N) H') acc ds' ∧ Pair2 R (ds.take i) ds') (by omega) (fun b hb => by rw [show b = a by simpa using hb]; exact hs0.ne) ?_ (fun i H1 H2 hb h => h.at (hb a (by simp))) ?_ (by simpa using hs0) ?_ ?_ ?_
      · intro H1 e
        have nal : a1 ≠ a := fun z => by
          unfold sansL at h1
          rw [z, if_pos haN] at h1; cases h1
        exact SqT.of (e.at1 nal (e0 _ _ hpH))
      · rintro i acc H1 D l0 l hD hN1 ⟨ds', h1', h2'⟩
        exact ⟨ds', SeeL.mono (sansL_mono fun b o nb hb => ⟨nb, by rw [upd_ne fun z => nb (by simp [z])]; exact hb⟩) h1', h2'⟩
      · intro D hD
        exact ⟨[], .nil, .nil⟩
      · rintro i x H1 H2 D acc R1 R2 hi e m hD hDH ⟨ds', h1', h2'⟩ hacc ⟨rfl, hx⟩ k' _
        obtain ⟨dd, hdd, sd⟩ := k1.getV hx
        have hi' : i < ds.length := by omega
        refine ⟨rfl, yesT ⟨_, rfl, _, rfl, a, x, dd, B + i * b, D :: N, rfl, m, ?_, by simp [haN], ?_, ?_, hgd _ (List.mem_of_getElem? hdd), fun v' d' H4 e4 s4 sv hr' => ?_⟩⟩
        · have : i * b ≤ 3 * b := Nat.mul_le_mul_right _ (by omega)
          omega
        · intro b' hb'
          rcases List.mem_cons.mp hb' with rfl | hb'
          · rw [hDH]; simp
          · by_cases z : b' = a
            · rw [z]; exact m.ne
            · have h0 := hN0 b' hb'
              cases hq0 : upd H tp (.tup (["list", "tuple"].map V.ty)) b' with
              | none => exact absurd hq0 h0
              | some o => rw [e.at1 z hq0]; simp
        · refine See.mono (sansL_mono fun b' o nb hb' => ?_) sd
          have nba : b' ≠ a := fun z => nb (by rw [z]; exact haN)
          have hb0 := e0 _ _ hb'
          refine ⟨fun z => ?_, e.at1 nba hb0⟩
          rcases List.mem_cons.mp z with z | z
          · have hD' : upd H tp (.tup (["list", "tuple"].map V.ty)) D = none := hD
            rw [z, hD'] at hb0; cases hb0
          · exact nb z
        · have hDa : D ≠ a := fun z => hs0.ne (by rw [← z]; exact hD)
          refine k' v' H4 e4 (s4.mono (by rw [Nat.succ_mul]; omega)) ⟨ds' ++ [d'], SeeL.append (SeeL.mono (sansL_mono fun b' o nb hb' => ⟨nb, e4.at1 (fun z => nb (by rw [z]; simp [haN])) hb'⟩) h1') (.cons sv .nil), ?_⟩
          rw [List.take_add_one, hdd]
          exact Pair2.snoc h2' hr'
      · rintro D acc H1 hD e m ⟨ds', h1', h2'⟩ hDH hacc
        have hDa : D ≠ a := fun z => hs0.ne (by rw [← z]; exact hD)
        have hDN : D ∉ N := fun z => hN0 D z hD
        rw [List.take_of_length_le (by omega)] at h2'
        have m' : Spr H1 a (B + 4 * b) := m.mono (by have : xs.length * b ≤ 4 * b := Nat.mul_le_mul_right _ (by omega); omega)
        have e01 : Exo [a] H H1 := (e0.exo _).trans e
        refine ⟨_, rfl, a, _, _, rfl, m', by omega, by decide, by decide, fun u H2 u0 u1 e2 s2 => ?_⟩
        refine ⟨rfl, _, rfl, ?_⟩
        have hD2 := e2.at1 hDa hDH
        have see2 : SeeL (FnK K) (sansL (D :: N) H2) acc ds' := SeeL.mono (sansL_mono fun b' o nb hb' => ⟨nb, e2.at1 (fun z => nb (by rw [z]; simp [haN])) hb'⟩) h1'
        by_cases hu0 : u = 0
        · rw [show decide (V.int u = V.int 0) = true from decide_eq_true (by rw [hu0])]
          refine iteT ⟨_, rfl, ?_⟩
          exact q (.ref D) (.lst ds') H2 (e01.trans e2) (s2.mono (by omega)) (.lst (sansL_at hDN hD2) (SeeL.mono (sansL_mono fun b' o nb hb' => ⟨fun z => nb (by simp [z]), hb'⟩) see2)) ⟨rfl, h2'⟩
        · rw [show decide (V.int u = V.int 0) = false from decide_eq_false fun e => hu0 (V.int.inj e)]
          refine iteF ⟨_, rfl, D, acc, rfl, .inl ⟨SqL.of hD2, fun T hT => ?_⟩⟩
          have nTa : T ≠ a := fun z => s2.ne (by rw [← z]; exact hT)
          have nTN : T ∉ N := newN (e01.trans e2) ⟨_, s2⟩ hT
          refine q (.ref T) (.tup ds') _ ((e01.trans e2).mut ((e01.trans e2).free (by simpa using nTa) hT)) ((s2.at (upd_ne nTa.symm)).mono (by omega)) (.tup (sansL_at nTN upd_same) (SeeL.mono (sansL_mono fun b' o nb hb' => ⟨fun z => nb (by simp [z]), by rw [upd_ne (ne_of_none hb' hT)]; exact hb'⟩) see2)) ⟨rfl, h2'⟩
    | non =>
      refine iteF ?_
      refine ⟨_, rfl, by show 2 ≤ sizeLine; decide, fun tp htp => ⟨_, tp, ["list", "tuple"], .non, _, rfl, upd_same, .non, kit_lt .non, _, rfl, iteF ?_⟩⟩
      refine ⟨_, rfl, q _ .non _ ((Ex.new htp).exo _) ((hs.ex (Ex.new htp)).mono (by omega)) .non rfl⟩
    | bl b =>
      refine iteF ?_
      refine ⟨_, rfl, by show 2 ≤ sizeLine; decide, fun tp htp => ⟨_, tp, ["list", "tuple"], (.bl b), _, rfl, upd_same, (.bl b), kit_lt (.bl b), _, rfl, iteF ?_⟩⟩
      refine ⟨_, rfl, q _ (.bl b) _ ((Ex.new htp).exo _) ((hs.ex (Ex.new htp)).mono (by omega)) (.bl b) rfl⟩
    | int i =>
      refine iteF ?_
      refine ⟨_, rfl, by show 2 ≤ sizeLine; decide, fun tp htp => ⟨_, tp, ["list", "tuple"], (.int i), _, rfl, upd_same, (.int i), kit_lt (.int i), _, rfl, iteF ?_⟩⟩
      refine ⟨_, rfl, q _ (.int i) _ ((Ex.new htp).exo _) ((hs.ex (Ex.new htp)).mono (by omega)) (.int i) rfl⟩
    | str z =>
      refine iteF ?_
      refine ⟨_, rfl, by show 2 ≤ sizeLine; decide, fun tp htp => ⟨_, tp, ["list", "tuple"], (.str z), _, rfl, upd_same, (.str z), kit_lt (.str z), _, rfl, iteF ?_⟩⟩
      refine ⟨_, rfl, q _ (.str z) _ ((Ex.new htp).exo _) ((hs.ex (Ex.new htp)).mono (by omega)) (.str z) rfl⟩
    | fn hf => exact hg.elim

theorem ok_hand (T : Txt K mg) (a : At K mg "_law_w_handed" s__law_w_handed ["spring", "thing"]) (O_law_draw : Ok P w K mg base CX0 1 "_law_draw" ["spring", "many"] spDraw) (O_law_mixed : Ok P w K mg base CX0 2 "_law_mixed" ["spring", "some"] (spMixed K)) : Ok P w K mg base CX0 5 "_law_w_handed" ["spring", "thing"] (spHand K 168 (PreS (PreS (PreS fun _ => False))) (HndS (HndS (HndS fun _ _ => False)))) := by
  have O0 : Ok P w K mg base CX0 (0+2) "_law_w_handed" ["spring", "thing"] (spHand K 0 (fun _ => False) (fun _ _ => False)) := a.ok fun f fd F => F.ok sc__law_w_handed (fun vs H Q E h => by obtain ⟨a, v, d, B, N, rfl, _⟩ := h; rfl) (fun cdv A outer s H vs Q E hr h => by obtain ⟨a, v, d, B, N, rfl, _, _, _, _, _, hg, _⟩ := h; exact hg.elim)
  have O1 := ok_hand_step T a O_law_draw O_law_mixed O0
  have O2 := ok_hand_step T a O_law_draw O_law_mixed (k := 1) O1
  exact ok_hand_step T a O_law_draw O_law_mixed (k := 2) O2
end
def tstDat : Tst → Dat | .row c k => .tup [.str "row", tDat c k] | .same c k => .tup [.str "same", tDat c k] | .div m c k => .tup [.str "by", .int m, tDat c k]
theorem see_term_at {F : Addr → Prop} {H : Hp} {t d : Addr} {c : Coef} {k : Int} (h : PairT H t d c k) : See F H (.ref t) (tDat c k) := .tup h.1 (.cons (.dct h.2 (seeK_c c)) (.cons (.int k) .nil))
theorem see_tst {F : Addr → Prop} {H : Hp} {q t d : Addr} {ts : Tst} (h : TAt H q t d ts) : See F H (.ref q) (tstDat ts) := by
  cases ts with
  | row c k => exact .tup h.1 (.cons (.str _) (.cons (see_term_at h.2) .nil))
  | same c k => exact .tup h.1 (.cons (.str _) (.cons (see_term_at h.2) .nil))
  | div m c k => exact .tup h.1 (.cons (.str _) (.cons (.int m) (.cons (see_term_at h.2) .nil)))
theorem pre_tst {ts : Tst} (h4 : (coef ts).length ≤ 4) (hn : (keys (coef ts)).Nodup) (hz : ("zero0" : Str) ∉ keys (coef ts)) : PreS (PreS (PreS fun _ => False)) (tstDat ts) := by
  have ht : ∀ k : Int, PreS (PreS fun _ => False) (tDat (coef ts) k) := fun k => ⟨by simp, fun d hd => by
    rcases List.mem_cons.mp hd with rfl | hd
    · exact ⟨_, rfl, h4, hn, hz⟩
    · rcases List.mem_cons.mp hd with rfl | hd
      · trivial
      · cases hd⟩
  cases ts with
  | row c k => exact ⟨by simp, fun d hd => by
      rcases List.mem_cons.mp hd with rfl | hd
      · trivial
      · rcases List.mem_cons.mp hd with rfl | hd
        · exact ht k
        · cases hd⟩
  | same c k => exact ⟨by simp, fun d hd => by
      rcases List.mem_cons.mp hd with rfl | hd
      · trivial
      · rcases List.mem_cons.mp hd with rfl | hd
        · exact ht k
        · cases hd⟩
  | div m c k => exact ⟨by simp, fun d hd => by
      rcases List.mem_cons.mp hd with rfl | hd
      · trivial
      · rcases List.mem_cons.mp hd with rfl | hd
        · trivial
        · rcases List.mem_cons.mp hd with rfl | hd
          · exact ht k
          · cases hd⟩
def setC (c : Coef) : Tst → Tst | .row _ k => .row c k | .same _ k => .same c k | .div m _ k => .div m c k
def HC (c c' : Coef) : Prop := c'.Perm c ∨ c'.Perm (c ++ [(("zero0" : Str), (0 : Int))])
theorem cD_inj : ∀ {c c' : Coef}, cD c = cD c' → c = c'
  | [], [], _ => rfl
  | [], _ :: _, h => by cases h
  | _ :: _, [], h => by cases h
  | (n, i) :: c, (n', i') :: c', h => by
    unfold cD at h
    rw [List.map_cons, List.map_cons] at h
    injection h with h1 h2
    injection h1 with h3 h4
    injection h3 with h3
    injection h4 with h4
    have h3' : n = n' := h3
    have h4' : i = i' := h4
    rw [h3', h4', cD_inj h2]
theorem hand_term {R : Dat → Dat → Prop} {c : Coef} {k : Int} {d' : Dat} (h : HndS (HndS R) (tDat c k) d') : ∃ c', IsTerm d' c' k ∧ HC c c' := by
  obtain ⟨h1, h2⟩ : isSq d' = true ∧ Pair2 (HndS R) [.dct (cD c), .int k] (items d') := h
  generalize hi : items d' = ys at h2
  cases h2 with
  | cons hx ht =>
    cases ht with
    | cons hy ht =>
      cases ht
      obtain ⟨c0, c', e1, rfl, hp⟩ : ∃ c0 c', Dat.dct (cD c) = .dct (cD c0) ∧ _ = Dat.dct (cD c') ∧ (c'.Perm c0 ∨ c'.Perm (c0 ++ [(("zero0" : Str), (0 : Int))])) := hx
      have hk : _ = Dat.int k := hy
      subst hk
      have : c = c0 := cD_inj (by injection e1)
      subst this
      exact ⟨c', ⟨h1, hi⟩, hp⟩
theorem hand_tst {ts : Tst} {d' : Dat} (h : HndS (HndS (HndS fun _ _ => False)) (tstDat ts) d') : ∃ c', IsTst d' (setC c' ts) ∧ HC (coef ts) c' := by
  cases ts with
  | row c k =>
    obtain ⟨h1, h2⟩ : isSq d' = true ∧ Pair2 (HndS (HndS fun _ _ => False)) [.str "row", tDat c k] (items d') := h
    generalize hi : items d' = ys at h2
    cases h2 with
    | cons hx ht =>
      cases ht with
      | cons hy ht =>
        cases ht
        have hk : _ = Dat.str "row" := hx
        subst hk
        obtain ⟨c', h3, h4⟩ := hand_term hy
        exact ⟨c', ⟨h1, _, hi, h3⟩, h4⟩
  | same c k =>
    obtain ⟨h1, h2⟩ : isSq d' = true ∧ Pair2 (HndS (HndS fun _ _ => False)) [.str "same", tDat c k] (items d') := h
    generalize hi : items d' = ys at h2
    cases h2 with
    | cons hx ht =>
      cases ht with
      | cons hy ht =>
        cases ht
        have hk : _ = Dat.str "same" := hx
        subst hk
        obtain ⟨c', h3, h4⟩ := hand_term hy
        exact ⟨c', ⟨h1, _, hi, h3⟩, h4⟩
  | div m c k =>
    obtain ⟨h1, h2⟩ : isSq d' = true ∧ Pair2 (HndS (HndS fun _ _ => False)) [.str "by", .int m, tDat c k] (items d') := h
    generalize hi : items d' = ys at h2
    cases h2 with
    | cons hx ht =>
      cases ht with
      | cons hy ht =>
        cases ht with
        | cons hz ht =>
          cases ht
          have hk : _ = Dat.str "by" := hx
          subst hk
          have hk : _ = Dat.int m := hy
          subst hk
          obtain ⟨c', h3, h4⟩ := hand_term hz
          exact ⟨c', ⟨h1, _, hi, h3⟩, h4⟩
end K8

set_option Elab.async false
set_option linter.all false
set_option maxRecDepth 100000
set_option maxHeartbeats 4000000
namespace K8
open PySem PySem.Spec PyProof.Rows L2 M8
/-! what is written in the text, with names of which it is known what they show -/
structure GamAt (K : PySem.W.Frag) (N : List Addr) (U : List Nat) (Γ : Nat → Dat) (σ : L2.St) (H : Hp) : Prop where
  al : ∀ b ∈ N, H b ≠ none
  vr : ∀ i ∈ U, ∃ v, σ[i]? = some (some v) ∧ SeeF K (sansL N H) v (Γ i)
theorem GamAt.ex {K : PySem.W.Frag} {N : List Addr} {U : List Nat} {Γ : Nat → Dat} {σ : L2.St} {H H' : Hp} (g : GamAt K N U Γ σ H) (e : Ex H H') : GamAt K N U Γ σ H' := by
  refine ⟨fun b hb => ?_, fun i hi => ?_⟩
  · cases q : H b with
    | none => exact absurd q (g.al b hb)
    | some o => rw [e _ _ q]; simp
  · obtain ⟨v, h1, h2⟩ := g.vr i hi
    exact ⟨v, h1, h2.mono (sansL_mono fun b o n h => ⟨n, e _ _ h⟩)⟩
def tL (K : PySem.W.Frag) (U : List Nat) (F : (Nat → Dat) → Dat) : TE := fun σ H Q => ∃ N Γ, GamAt K N U Γ σ H ∧ ∀ v H', Ex H H' → SeeF K (sansL N H') v (F Γ) → Q v H'
def tLs (K : PySem.W.Frag) (U : List Nat) (n : Nat) (F : (Nat → Dat) → List Dat) : TA := fun σ H Q => ∃ N Γ, GamAt K N U Γ σ H ∧ ∀ vs H', vs.length = n → Ex H H' → SeeL (FnK K) (sansL N H') vs (F Γ) → Q vs H'
theorem newL {N : List Addr} {H : Hp} {p : Addr} (al : ∀ b ∈ N, H b ≠ none) (hp : H p = none) : p ∉ N := fun z => al p z hp
section
variable {X : Cx} {K : PySem.W.Frag} {U : List Nat}
theorem litE {e : Expr} {F : (Nat → Dat) → Dat} (h : PE X e (tL K U F)) : PE X e (tL K U F) := h
theorem litA {es : List Expr} {n : Nat} {F : (Nat → Dat) → List Dat} (h : PA X es (tLs K U n F)) : PA X es (tLs K U n F) := h
theorem PE.lC {e : Expr} {v : V} {d : Dat} (h : PE X e (tC v)) (hs : ∀ H, SeeF K H v d) : PE X e (tL K U fun _ => d) := ⟨fun pins s σ H Q I q => by
  obtain ⟨N, Γ, g, q⟩ := q
  exact h.run pins s σ H Q I (q _ _ (Ex.refl _) (hs _))⟩
theorem PE.lV {e : Expr} {i : Nat} (h : PE X e (tVar i)) (hi : i ∈ U) : PE X e (tL K U fun Γ => Γ i) := ⟨fun pins s σ H Q I q => h.run pins s σ H Q I (by
  obtain ⟨N, Γ, g, q⟩ := q
  obtain ⟨v, h1, h2⟩ := g.vr i hi
  exact ⟨v, h1, q _ _ (Ex.refl _) h2⟩)⟩
theorem lz_neg {i : Int} {p1 : Pos} {k : Nat} {pos : Pos} : PE X (.UnaryOp .USub (.Constant (.int i) k p1) pos) (tL K U fun _ => .int (-i)) := ⟨fun pins s σ H Q I q => by
  obtain ⟨N, Γ, g, q⟩ := q
  exact (pe_un un_neg pe_int).run pins s σ H Q I ⟨i, rfl, q _ _ (Ex.refl _) (.int _)⟩⟩
theorem lz_nil : PA X [] (tLs K U 0 fun _ => []) := ⟨fun pos pins s σ H Q I q => by
  obtain ⟨N, Γ, g, q⟩ := q
  exact pa_nil.run pos pins s σ H Q I (q _ _ rfl (Ex.refl _) .nil)⟩
theorem lz_cons {e : Expr} {es : List Expr} {d : (Nat → Dat) → Dat} {ds : (Nat → Dat) → List Dat} (h : PE X e (tL K U d)) {n : Nat} (hr : PA X es (tLs K U n ds)) (hs : starEach (e :: es) X.env = (false, eval e X.env) :: starEach es X.env := by rfl) : PA X (e :: es) (tLs K U (n + 1) fun Γ => d Γ :: ds Γ) :=
  ⟨fun pos pins s σ H Q I q => by
    obtain ⟨N, Γ, g, q⟩ := q
    exact (pa_cons h hr hs).run pos pins s σ H Q I ⟨N, Γ, g, fun v H1 e1 s1 => ⟨N, Γ, g.ex e1, fun vs H2 hl e2 s2 => q _ _ (by rw [List.length_cons, hl]) (e1.trans e2) (.cons (s1.mono (sansL_mono fun b o n h => ⟨n, e2 _ _ h⟩)) s2)⟩⟩⟩
theorem big6 (n : Nat) (h : n ≤ 1000000) : n ≤ sizeLine := by rw [sizeLine_eq]; omega
theorem lz_tup {es : List Expr} {ds : (Nat → Dat) → List Dat} {x1} {pos : Pos} {n : Nat} (h : PA X es (tLs K U n ds)) (hn : n ≤ 1000000 := by decide) : PE X (.Tuple es x1 pos) (tL K U fun Γ => .tup (ds Γ)) :=
  ⟨fun pins s σ H Q I q => by
    obtain ⟨N, Γ, g, q⟩ := q
    exact (pe_tup h).run pins s σ H Q I ⟨N, Γ, g, fun vs H1 hl e1 s1 => ⟨by rw [hl]; exact big6 _ hn, fun p hp => q _ _ (e1.mut (e1.free hp)) (.tup (sansL_at (newL (g.ex e1).al hp) upd_same) (SeeL.mono (sansL_mono fun b o n h => ⟨n, by rw [upd_ne (ne_of_none h hp)]; exact h⟩) s1))⟩⟩⟩
theorem lz_lst {es : List Expr} {ds : (Nat → Dat) → List Dat} {pos : Pos} {n : Nat} (h : PA X es (tLs K U n ds)) (hn : n ≤ 1000000 := by decide) : PE X (.List es pos) (tL K U fun Γ => .lst (ds Γ)) :=
  ⟨fun pins s σ H Q I q => by
    obtain ⟨N, Γ, g, q⟩ := q
    exact (pe_lst h).run pins s σ H Q I ⟨N, Γ, g, fun vs H1 hl e1 s1 => ⟨by rw [hl]; exact big6 _ hn, fun p hp => q _ _ (e1.mut (e1.free hp)) (.lst (sansL_at (newL (g.ex e1).al hp) upd_same) (SeeL.mono (sansL_mono fun b o n h => ⟨n, by rw [upd_ne (ne_of_none h hp)]; exact h⟩) s1))⟩⟩⟩
theorem lz_dnil {pos : Pos} : PE X (.Dict [] [] pos) (tL K U fun _ => .dct []) := ⟨fun pins s σ H Q I q => by
  obtain ⟨N, Γ, g, q⟩ := q
  exact pe_dnewK.run pins s σ H Q I (fun p hp => q _ _ (Ex.new hp) (.dct (sansL_at (newL g.al hp) upd_same) .nil))⟩
theorem lz_d1 {pos : Pos} {k e : Expr} {key : Key} {v : V} {d : Dat} (hk : PE X k (tC (kV key))) (hv : PE X e (tC v)) (hs : ∀ H, SeeF K H v d) : PE X (.Dict [some k] [e] pos) (tL K U fun _ => .dct [(key, d)]) := by
  refine ⟨fun pins s σ H Q I q => (pe_disp (pps_cons hk hv pps_nil) rfl rfl (by simp) (by simp)).run pins s σ H Q I ?_⟩
  obtain ⟨N, Γ, g, q⟩ := q
  intro p hp
  refine ⟨upd_same, [(key, v)], rfl, by simp, q _ _ ((Ex.new hp).mut hp) (.dct (sansL_at (newL g.al hp) upd_same) (.cons (hs _) .nil))⟩
end
section
variable {P : Program} {w : World} {K : PySem.W.Frag} {mg : Str → Option Value} {base : Heap}
def tmD : Dat := .tup [.dct [(.inr "a", .int 1)], .int 0]
def odds7 : List Dat := [.tup [.dct [(.inr "1a", .int 1)], .int 0], .tup [.dct [(.inr "or", .int 1)], .int 0], .tup [.dct [(.inr "a", .bl true)], .int 0], .tup [.dct [(.inr "a", .int 1)], .bl true], .tup [.dct [(.inr "a", .str "1")], .int 0], .tup [.dct [(.inr "a", .int 1)]], .lst [.lst [], .int 0]]
def perOdd (o : Dat) : List Dat := [.tup [.str "row", o], .lst [.str "same", o], .tup [.str "by", .int 2, o], .tup [.str "not", .tup [.str "row", o]]]
def ms6 : List Dat := [.int 0, .int (-1), .bl true, .str "2", .non, .lst [.int 2]]
def nb1 : List Dat := [.non, .int 5, .str "row", .bl true, .tup [], .lst [], .dct [], .tup [.str "row"], .tup [.str "row", .non]]
def nb2 : List Dat := [.tup [.str "row", .tup [.dct [(.inl 5, .int 1)], .int 0]], .tup [.str "row", .tup [.dct [(.inr "a", .non)], .int 0]], .tup [.str "same", .tup [.dct [(.inr "ninesigns", .int 1)], .int 0]]]
structure NbI (K : PySem.W.Frag) (H : Hp) (g : Dat) (L : Addr) (v t o : V) (ds : List Dat) (σ : L2.St) (H' : Hp) : Prop where
  ex : ∃ (x y : Option V) (xs : List V), σ = [some v, some t, some (.ref L), some o, x, y] ∧ Ex H H' ∧ H' L = some (.lst xs) ∧ SeeL (FnK K) (sansL [L] H') xs ds ∧ SeeF K (sansL [L] H') v g ∧ SeeF K (sansL [L] H') t tmD ∧ SeeF K (sansL [L] H') o (.lst odds7)
theorem mono1 {K : PySem.W.Frag} {L : Addr} {H H' : Hp} {v : V} {d : Dat} (e : Ex H H') (h : SeeF K (sansL [L] H) v d) : SeeF K (sansL [L] H') v d := h.mono (sansL_mono fun _ _ n h => ⟨n, e _ _ h⟩)
theorem mono2 {K : PySem.W.Frag} {L : Addr} {H : Hp} {o : HO} {v : V} {d : Dat} (h : SeeF K (sansL [L] H) v d) : SeeF K (sansL [L] (upd H L o)) v d := h.mono (sansL_mono fun b _ n h => ⟨n, by rw [upd_ne (by simpa using n)]; exact h⟩)
theorem mono1L {K : PySem.W.Frag} {L : Addr} {H H' : Hp} {v : List V} {d : List Dat} (e : Ex H H') (h : SeeL (FnK K) (sansL [L] H) v d) : SeeL (FnK K) (sansL [L] H') v d := h.mono (sansL_mono fun _ _ n h => ⟨n, e _ _ h⟩)
theorem mono2L {K : PySem.W.Frag} {L : Addr} {H : Hp} {o : HO} {v : List V} {d : List Dat} (h : SeeL (FnK K) (sansL [L] H) v d) : SeeL (FnK K) (sansL [L] (upd H L o)) v d := h.mono (sansL_mono fun b _ n h => ⟨n, by rw [upd_ne (by simpa using n)]; exact h⟩)
/-- one more at the end -/
theorem NbI.step {K : PySem.W.Frag} {H : Hp} {g : Dat} {L : Addr} (hL : H L = none) {ds es : List Dat} {v t o : V} {x y : Option V} {xs ys : List V} {H1 H2 : Hp} (e : Ex H H1) (h : H1 L = some (.lst xs)) (s : SeeL (FnK K) (sansL [L] H1) xs ds) (hv : SeeF K (sansL [L] H1) v g) (ht : SeeF K (sansL [L] H1) t tmD) (ho : SeeF K (sansL [L] H1) o (.lst odds7))
    (e2 : Ex H1 H2) (s2 : SeeL (FnK K) (sansL [L] H2) ys es) : NbI K H g L v t o (ds ++ es) [some v, some t, some (.ref L), some o, x, y] (upd H2 L (.lst (xs ++ ys))) :=
  ⟨_, _, _, rfl, (e.trans e2).mut hL, upd_same, SeeL.append (mono2L (mono1L e2 s)) (mono2L s2), mono2 (mono1 e2 hv), mono2 (mono1 e2 ht), mono2 (mono1 e2 ho)⟩
def nb3 (g : Dat) : List Dat := [.tup [.str "by", .int 2], .tup [.str "by", tmD, .int 2], .tup [.str "not"], .tup [.str "not", .non], .tup [.str "not", g, g], .tup [.str "all", .non], .tup [.str "all", .dct []]]
def noB (g : Dat) : List Dat := ((((((nb1 ++ (odds7.map perOdd).flatten) ++ [.tup [.str "row", tmD, .int 1]]) ++ nb2) ++ [.tup [.str "row", .tup [tmD, .int 0]]]) ++ (ms6.map fun m => .tup [.str "by", m, tmD])) ++ nb3 g) ++ [.tup [.str "any", .str "ab"], .tup [.str "all", .lst [.non]], .tup [.str "any", .lst [g, .int 5]], .tup [.str "all", g, g]] ++ [.tup [.str "none", .lst []], .tup [.str "rows", tmD]] ++
  [.tup [.int 0, .lst [g]], .tup [.str "all", .lst [g, .tup [.str "any", .lst [g, .tup [.str "by", .int 0, tmD]]]]], .lst [.lst [.str "row"], tmD]]
def spNoB (K : PySem.W.Frag) (fa : Addr) : Sp := fun vs H Q _ => ∃ v g, vs = [v] ∧ SeeF K H v g ∧ ∀ R zs H', H R = none → Ex H H' → H' R = some (.lst zs) → SeeL (FnK K) H' zs (noB g ++ [.fn fa]) → Q (.ref R) H'
abbrev s__law_w_no_bodies : Stmt := top 47
theorem sc__law_w_no_bodies : FnScope ["good", "term", "found", "odds", "odd", "m"] ["good"] (defScope s__law_w_no_bodies) := ⟨rfl, rfl, rfl, by decide +kernel, rfl, by decide +kernel, by decide +kernel⟩
theorem ok__law_w_no_bodies (T : Txt K mg) (a : At K mg "_law_w_no_bodies" s__law_w_no_bodies ["good"]) {fa : Addr} (hfa : mg "_law_w_no_bodies" = some (.ref fa)) (hkf : PySem.W.keepIn K (.ref fa) = true) (hfn : FnK K fa) : Ok P w K mg base CX0 1 "_law_w_no_bodies" ["good"] (spNoB K fa) := a.ok fun f fd F => by
  refine F.ok sc__law_w_no_bodies (fun vs H Q E h => ?_) (fun cdv A outer s H vs Q E hr h => ?_)
  · obtain ⟨v, g, rfl, _⟩ := h; rfl
  · obtain ⟨v, g, rfl, hv, q⟩ := h
    refine ⟨_, (pss_cons (ps_par (i := 1) (j := 2) rfl sc__law_w_no_bodies.nd rfl rfl (by decide) rfl rfl (pa_cons (litE (K := K) (U := []) (lz_tup (lz_cons (lz_d1 (key := .inr "a") pe_str pe_int (fun _ => by constructor)) (lz_cons (PE.lC pe_int (fun _ => .int _)) lz_nil)))) (pa_cons (pe_lst (litA (K := K) (U := []) (lz_cons (PE.lC pe_non (fun _ => .non)) (lz_cons (PE.lC pe_int (fun _ => .int _)) (lz_cons (PE.lC pe_str (fun _ => .str _)) (lz_cons (PE.lC pe_bl (fun _ => .bl _)) (lz_cons (lz_tup lz_nil) (lz_cons (lz_lst lz_nil) (lz_cons lz_dnil (lz_cons (lz_tup (lz_cons (PE.lC pe_str (fun _ => .str _)) lz_nil)) (lz_cons (lz_tup (lz_cons (PE.lC pe_str (fun _ => .str _)) (lz_cons (PE.lC pe_non (fun _ => .non)) lz_nil))) lz_nil))))))))))) pa_nil)) rfl)
      (pss_cons (ps_set (i := 3) sc__law_w_no_bodies.nd rfl (Or.inl rfl) (litE (K := K) (U := []) (lz_lst (lz_cons (lz_tup (lz_cons (lz_d1 (key := .inr "1a") pe_str pe_int (fun _ => by constructor)) (lz_cons (PE.lC pe_int (fun _ => .int _)) lz_nil))) (lz_cons (lz_tup (lz_cons (lz_d1 (key := .inr "or") pe_str pe_int (fun _ => by constructor)) (lz_cons (PE.lC pe_int (fun _ => .int _)) lz_nil))) (lz_cons (lz_tup (lz_cons (lz_d1 (key := .inr "a") pe_str pe_bl (fun _ => by constructor)) (lz_cons (PE.lC pe_int (fun _ => .int _)) lz_nil))) (lz_cons (lz_tup (lz_cons (lz_d1 (key := .inr "a") pe_str pe_int (fun _ => by constructor)) (lz_cons (PE.lC pe_bl (fun _ => .bl _)) lz_nil))) (lz_cons (lz_tup (lz_cons (lz_d1 (key := .inr "a") pe_str pe_str (fun _ => by constructor)) (lz_cons (PE.lC pe_int (fun _ => .int _)) lz_nil))) (lz_cons (lz_tup (lz_cons (lz_d1 (key := .inr "a") pe_str pe_int (fun _ => by constructor)) lz_nil)) (lz_cons (lz_lst (lz_cons (lz_lst lz_nil) (lz_cons (PE.lC pe_int (fun _ => .int _)) lz_nil))) lz_nil))))))))))
      (pss_cons (ps_for PassesOwn.never rfl (pi_list (pv 3)) (pg_name (i := 4) sc__law_w_no_bodies.nd rfl (Or.inl rfl)) (pss_one (ps_expr (pe_bmK (K := K) rfl (pe_bm PySem.F.plainAttrs_list PySem.F.slot_list_extend PySem.F.type_list_extend mt_extend (pv 2) (pa_cons (litE (K := K) (U := [4]) (lz_lst (lz_cons (lz_tup (lz_cons (PE.lC pe_str (fun _ => .str _)) (lz_cons (PE.lV (U := [4]) (pv 4) (by decide)) lz_nil))) (lz_cons (lz_lst (lz_cons (PE.lC pe_str (fun _ => .str _)) (lz_cons (PE.lV (U := [4]) (pv 4) (by decide)) lz_nil))) (lz_cons (lz_tup (lz_cons (PE.lC pe_str (fun _ => .str _)) (lz_cons (PE.lC pe_int (fun _ => .int _)) (lz_cons (PE.lV (U := [4]) (pv 4) (by decide)) lz_nil)))) (lz_cons (lz_tup (lz_cons (PE.lC pe_str (fun _ => .str _)) (lz_cons (lz_tup (lz_cons (PE.lC pe_str (fun _ => .str _)) (lz_cons (PE.lV (U := [4]) (pv 4) (by decide)) lz_nil))) lz_nil))) lz_nil)))))) pa_nil))))))
      (pss_cons (ps_expr (pe_bmK (K := K) rfl (pe_bm PySem.F.plainAttrs_list PySem.F.slot_list_append PySem.F.type_list_append mt_append (pv 2) (pa_cons (litE (K := K) (U := [1]) (lz_tup (lz_cons (PE.lC pe_str (fun _ => .str _)) (lz_cons (PE.lV (U := [1]) (pv 1) (by decide)) (lz_cons (PE.lC pe_int (fun _ => .int _)) lz_nil))))) pa_nil))))
      (pss_cons (ps_expr (pe_bmK (K := K) rfl (pe_bm PySem.F.plainAttrs_list PySem.F.slot_list_extend PySem.F.type_list_extend mt_extend (pv 2) (pa_cons (litE (K := K) (U := []) (lz_lst (lz_cons (lz_tup (lz_cons (PE.lC pe_str (fun _ => .str _)) (lz_cons (lz_tup (lz_cons (lz_d1 (key := .inl 5) pe_int pe_int (fun _ => by constructor)) (lz_cons (PE.lC pe_int (fun _ => .int _)) lz_nil))) lz_nil))) (lz_cons (lz_tup (lz_cons (PE.lC pe_str (fun _ => .str _)) (lz_cons (lz_tup (lz_cons (lz_d1 (key := .inr "a") pe_str pe_non (fun _ => by constructor)) (lz_cons (PE.lC pe_int (fun _ => .int _)) lz_nil))) lz_nil))) (lz_cons (lz_tup (lz_cons (PE.lC pe_str (fun _ => .str _)) (lz_cons (lz_tup (lz_cons (lz_d1 (key := .inr "ninesigns") pe_str pe_int (fun _ => by constructor)) (lz_cons (PE.lC pe_int (fun _ => .int _)) lz_nil))) lz_nil))) lz_nil))))) pa_nil))))
      (pss_cons (ps_expr (pe_bmK (K := K) rfl (pe_bm PySem.F.plainAttrs_list PySem.F.slot_list_append PySem.F.type_list_append mt_append (pv 2) (pa_cons (litE (K := K) (U := [1]) (lz_tup (lz_cons (PE.lC pe_str (fun _ => .str _)) (lz_cons (lz_tup (lz_cons (PE.lV (U := [1]) (pv 1) (by decide)) (lz_cons (PE.lC pe_int (fun _ => .int _)) lz_nil))) lz_nil)))) pa_nil))))
      (pss_cons (ps_for PassesOwn.never rfl (pi_tup (litE (K := K) (U := []) (lz_tup (lz_cons (PE.lC pe_int (fun _ => .int _)) (lz_cons (lz_neg) (lz_cons (PE.lC pe_bl (fun _ => .bl _)) (lz_cons (PE.lC pe_str (fun _ => .str _)) (lz_cons (PE.lC pe_non (fun _ => .non)) (lz_cons (lz_lst (lz_cons (PE.lC pe_int (fun _ => .int _)) lz_nil)) lz_nil))))))))) (pg_name (i := 5) sc__law_w_no_bodies.nd rfl (Or.inl rfl)) (pss_one (ps_expr (pe_bmK (K := K) rfl (pe_bm PySem.F.plainAttrs_list PySem.F.slot_list_append PySem.F.type_list_append mt_append (pv 2) (pa_cons (litE (K := K) (U := [1, 5]) (lz_tup (lz_cons (PE.lC pe_str (fun _ => .str _)) (lz_cons (PE.lV (U := [1, 5]) (pv 5) (by decide)) (lz_cons (PE.lV (U := [1, 5]) (pv 1) (by decide)) lz_nil))))) pa_nil))))))
      (pss_cons (ps_expr (pe_bmK (K := K) rfl (pe_bm PySem.F.plainAttrs_list PySem.F.slot_list_extend PySem.F.type_list_extend mt_extend (pv 2) (pa_cons (litE (K := K) (U := [0, 1]) (lz_lst (lz_cons (lz_tup (lz_cons (PE.lC pe_str (fun _ => .str _)) (lz_cons (PE.lC pe_int (fun _ => .int _)) lz_nil))) (lz_cons (lz_tup (lz_cons (PE.lC pe_str (fun _ => .str _)) (lz_cons (PE.lV (U := [0, 1]) (pv 1) (by decide)) (lz_cons (PE.lC pe_int (fun _ => .int _)) lz_nil)))) (lz_cons (lz_tup (lz_cons (PE.lC pe_str (fun _ => .str _)) lz_nil)) (lz_cons (lz_tup (lz_cons (PE.lC pe_str (fun _ => .str _)) (lz_cons (PE.lC pe_non (fun _ => .non)) lz_nil))) (lz_cons (lz_tup (lz_cons (PE.lC pe_str (fun _ => .str _)) (lz_cons (PE.lV (U := [0, 1]) (pv 0) (by decide)) (lz_cons (PE.lV (U := [0, 1]) (pv 0) (by decide)) lz_nil)))) (lz_cons (lz_tup (lz_cons (PE.lC pe_str (fun _ => .str _)) (lz_cons (PE.lC pe_non (fun _ => .non)) lz_nil))) (lz_cons (lz_tup (lz_cons (PE.lC pe_str (fun _ => .str _)) (lz_cons lz_dnil lz_nil))) lz_nil))))))))) pa_nil))))
      (pss_cons (ps_expr (pe_bmK (K := K) rfl (pe_bm PySem.F.plainAttrs_list PySem.F.slot_list_extend PySem.F.type_list_extend mt_extend (pv 2) (pa_cons (litE (K := K) (U := [0]) (lz_lst (lz_cons (lz_tup (lz_cons (PE.lC pe_str (fun _ => .str _)) (lz_cons (PE.lC pe_str (fun _ => .str _)) lz_nil))) (lz_cons (lz_tup (lz_cons (PE.lC pe_str (fun _ => .str _)) (lz_cons (lz_lst (lz_cons (PE.lC pe_non (fun _ => .non)) lz_nil)) lz_nil))) (lz_cons (lz_tup (lz_cons (PE.lC pe_str (fun _ => .str _)) (lz_cons (lz_lst (lz_cons (PE.lV (U := [0]) (pv 0) (by decide)) (lz_cons (PE.lC pe_int (fun _ => .int _)) lz_nil))) lz_nil))) (lz_cons (lz_tup (lz_cons (PE.lC pe_str (fun _ => .str _)) (lz_cons (PE.lV (U := [0]) (pv 0) (by decide)) (lz_cons (PE.lV (U := [0]) (pv 0) (by decide)) lz_nil)))) lz_nil)))))) pa_nil))))
      (pss_cons (ps_expr (pe_bmK (K := K) rfl (pe_bm PySem.F.plainAttrs_list PySem.F.slot_list_extend PySem.F.type_list_extend mt_extend (pv 2) (pa_cons (litE (K := K) (U := [1]) (lz_lst (lz_cons (lz_tup (lz_cons (PE.lC pe_str (fun _ => .str _)) (lz_cons (lz_lst lz_nil) lz_nil))) (lz_cons (lz_tup (lz_cons (PE.lC pe_str (fun _ => .str _)) (lz_cons (PE.lV (U := [1]) (pv 1) (by decide)) lz_nil))) lz_nil)))) pa_nil))))
      (pss_cons (ps_expr (pe_bmK (K := K) rfl (pe_bm PySem.F.plainAttrs_list PySem.F.slot_list_extend PySem.F.type_list_extend mt_extend (pv 2) (pa_cons (litE (K := K) (U := [0, 1]) (lz_lst (lz_cons (lz_tup (lz_cons (PE.lC pe_int (fun _ => .int _)) (lz_cons (lz_lst (lz_cons (PE.lV (U := [0, 1]) (pv 0) (by decide)) lz_nil)) lz_nil))) (lz_cons (lz_tup (lz_cons (PE.lC pe_str (fun _ => .str _)) (lz_cons (lz_lst (lz_cons (PE.lV (U := [0, 1]) (pv 0) (by decide)) (lz_cons (lz_tup (lz_cons (PE.lC pe_str (fun _ => .str _)) (lz_cons (lz_lst (lz_cons (PE.lV (U := [0, 1]) (pv 0) (by decide)) (lz_cons (lz_tup (lz_cons (PE.lC pe_str (fun _ => .str _)) (lz_cons (PE.lC pe_int (fun _ => .int _)) (lz_cons (PE.lV (U := [0, 1]) (pv 1) (by decide)) lz_nil)))) lz_nil))) lz_nil))) lz_nil))) lz_nil))) (lz_cons (lz_lst (lz_cons (lz_lst (lz_cons (PE.lC pe_str (fun _ => .str _)) lz_nil)) (lz_cons (PE.lV (U := [0, 1]) (pv 1) (by decide)) lz_nil))) lz_nil))))) pa_nil))))
      (pss_one (ps_ret (pe_op op_cat (pv 2) (pe_lst (pa_cons (pe_glob (v := .ref fa) rfl hfa rfl) pa_nil)))))))))))))))), ?_⟩
    refine ⟨[], fun _ => .non, ⟨fun _ h => by simp at h, fun _ h => by simp at h⟩, fun t H1 e1 s1 => ⟨[], fun _ => .non, ⟨fun _ h => by simp at h, fun _ h => by simp at h⟩, fun xs H2 hl e2 s2 => ⟨by rw [hl]; exact big6 _ (by decide), fun L hL => ⟨_, _, rfl, ?_⟩⟩⟩⟩
    have e12 := e1.trans e2
    have hL0 : H L = none := e12.free hL
    refine ⟨[L], fun _ => .non, ⟨fun b hb => by rw [show b = L by simpa using hb, upd_same]; simp, fun _ h => by simp at h⟩, fun o H3 e3 s3 => ?_⟩
    have toN : ∀ {v : V} {d : Dat}, SeeF K H2 v d → SeeF K (sansL [L] H3) v d := fun h => h.mono fun b o hb => sansL_at (by simpa using ne_of_none hb hL) (e3 _ _ (by rw [upd_ne (ne_of_none hb hL)]; exact hb))
    have toNL : ∀ {v : List V} {d : List Dat}, SeeL (FnK K) H2 v d → SeeL (FnK K) (sansL [L] H3) v d := fun h => h.mono fun b o hb => sansL_at (by simpa using ne_of_none hb hL) (e3 _ _ (by rw [upd_ne (ne_of_none hb hL)]; exact hb))
    have I0 : NbI K H g L v t o nb1 [some v, some t, some (.ref L), some o, none, none] H3 := ⟨none, none, xs, rfl, (Ex.mut e12 hL0).trans e3, e3 _ _ upd_same, toNL (SeeL.mono (sansL_ex _ _) s2), toN (hv.mono e12), toN ((See.mono (sansL_ex _ _) s1).mono e2), s3⟩
    obtain ⟨O, os, rfl, hO, hos⟩ : ∃ O os, o = .ref O ∧ sansL [L] H3 O = some (.lst os) ∧ SeeL (FnK K) (sansL [L] H3) os odds7 := by
      cases s3 with
      | lst ha t => exact ⟨_, _, rfl, ha, t⟩
    clear s3
    have atO : ∀ {H' : Hp}, SeeF K (sansL [L] H') (.ref O) (.lst odds7) → ∃ os', H' O = some (.lst os') := fun h => by
      cases h with
      | lst ha t => exact ⟨_, sansL_ex _ _ _ _ ha⟩
    -- what is put at the end
    have put : ∀ {ds es : List Dat} {x y : Option V} {xs : List V} {H1 H2 : Hp} {m : V} {R : V → Hp → Prop}, Ex H H1 → H1 L = some (.lst xs) → SeeL (FnK K) (sansL [L] H1) xs ds → SeeF K (sansL [L] H1) v g → SeeF K (sansL [L] H1) t tmD → SeeF K (sansL [L] H1) (.ref O) (.lst odds7) → xs.length ≤ 100000 → es.length ≤ 100 →
        Ex H1 H2 → SeeF K (sansL [L] H2) m (.lst es) → (∀ H3, NbI K H g L v t (.ref O) (ds ++ es) [some v, some t, some (.ref L), some (.ref O), x, y] H3 → Ex (sansL [L] H1) (sansL [L] H3) → R .non H3) → rExtend (.ref L) [m] H2 R := by
      intro ds es x y xs H1 H2 m R h1 h2 h3 h4 h5 h6 h7 h8 h9 h10 h11
      cases h10 with
      | @lst M ys _ hM hys =>
        have hl := hys.len
        refine ⟨L, M, xs, ys, rfl, rfl, h9 _ _ h2, sansL_ex _ _ _ _ hM, by rw [sizeLine_eq]; omega, h11 _ (NbI.step hL0 h1 h2 h3 h4 h5 h6 h9 hys) (sansL_mono fun b _ n h => ⟨n, by rw [upd_ne (by simpa using n)]; exact h9 _ _ h⟩)⟩
    have putA : ∀ {ds : List Dat} {e : Dat} {x y : Option V} {xs : List V} {H1 H2 : Hp} {m : V} {R : V → Hp → Prop}, Ex H H1 → H1 L = some (.lst xs) → SeeL (FnK K) (sansL [L] H1) xs ds → SeeF K (sansL [L] H1) v g → SeeF K (sansL [L] H1) t tmD → SeeF K (sansL [L] H1) (.ref O) (.lst odds7) → xs.length ≤ 100000 →
        Ex H1 H2 → SeeF K (sansL [L] H2) m e → (∀ H3, NbI K H g L v t (.ref O) (ds ++ [e]) [some v, some t, some (.ref L), some (.ref O), x, y] H3 → Ex (sansL [L] H1) (sansL [L] H3) → R .non H3) → rAppend (.ref L) [m] H2 R := by
      intro ds e x y xs H1 H2 m R h1 h2 h3 h4 h5 h6 h7 h9 h10 h11
      exact ⟨L, xs, m, rfl, rfl, h9 _ _ h2, by rw [sizeLine_eq]; omega, h11 _ (NbI.step (ys := [m]) hL0 h1 h2 h3 h4 h5 h6 h9 (.cons h10 .nil)) (sansL_mono fun b _ n h => ⟨n, by rw [upd_ne (by simpa using n)]; exact h9 _ _ h⟩)⟩
    dsimp only [tSeq, gName]
    refine tFor_of ?_
    refine ⟨_, rfl, O, rfl, ⟨_, SqL.of (sansL_ex _ _ _ _ hO)⟩, ?_⟩
    have len7 : ∀ n : Nat, ((odds7.take n).map perOdd).flatten.length ≤ 28 := fun n => by
      have : n < 8 ∨ 8 ≤ n := by omega
      rcases this with h | h
      · have : n = 0 ∨ n = 1 ∨ n = 2 ∨ n = 3 ∨ n = 4 ∨ n = 5 ∨ n = 6 ∨ n = 7 := by omega
        rcases this with rfl | rfl | rfl | rfl | rfl | rfl | rfl | rfl <;> decide
      · rw [List.take_of_length_le (by show 7 ≤ n; omega)]; decide
    have al : ∀ {H1 : Hp} {xs : List V}, H1 L = some (.lst xs) → ∀ b ∈ [L], H1 b ≠ none := fun h b hb => by rw [show b = L by simpa using hb, h]; simp
    refine for_itB (walk_list (xs := os)) (fun i σ H' => NbI K H g L v t (.ref O) (nb1 ++ ((odds7.take i).map perOdd).flatten) σ H' ∧ sansL [L] H' O = some (.lst os) ∧ SeeL (FnK K) (sansL [L] H') os odds7) ⟨by rw [List.take_zero, List.map_nil, List.flatten_nil, List.append_nil]; exact I0, hO, hos⟩ (fun i σ H' _ h => SqL.of (sansL_ex _ _ _ _ h.2.1)) ?_ ?_
    · rintro i z σ H1 H1' hi ⟨⟨x, y, xs, rfl, h1, h2, h3, h4, h5, h6⟩, hO1, hos1⟩ ⟨rfl, hz⟩
      obtain ⟨od, hod, sod⟩ := hos1.getV hz
      refine ⟨_, rfl, .inl ⟨rfl, _, SqL.of h2⟩, [L], fun _ => od, ⟨al h2, fun i hi => ⟨z, by rw [show i = 4 by simpa using hi]; rfl, sod⟩⟩, fun m H2 e2 s2 => ?_⟩
      dsimp only [tNil]
      refine put (x := some z) (y := y) h1 h2 h3 h4 h5 h6 (by have := h3.len; rw [this, List.length_append]; have := len7 i; show 9 + _ ≤ _; omega) (show (perOdd od).length ≤ 100 by show 4 ≤ 100; decide) e2 s2 fun H3 n e3 => ⟨?_, e3 _ _ hO1, SeeL.mono e3 hos1⟩
      rw [List.take_add_one, hod, List.map_append, List.flatten_append, ← List.append_assoc]
      simpa using n
    · rintro σ H1 ⟨⟨x, y, xs, rfl, h1, h2, h3, h4, h5, h6⟩, hO1, hos1⟩
      have hol : os.length = 7 := hos.len
      rw [hol, show odds7.take 7 = odds7 from rfl] at h3
      have l1 : xs.length = 37 := h3.len
      refine ⟨_, rfl, .inl ⟨rfl, _, SqL.of h2⟩, [L], fun _ => tmD, ⟨al h2, fun i hi => ⟨t, by rw [show i = 1 by simpa using hi]; rfl, h5⟩⟩, fun m H2 e2 s2 => ?_⟩
      dsimp only [tNil]
      refine putA (x := x) (y := y) h1 h2 h3 h4 h5 h6 (by omega) e2 s2 ?_
      clear h1 h2 h3 h4 h5 h6 hO1 hos1 e2 s2
      rintro H3 ⟨_, _, xs, _, h1, h2, h3, h4, h5, h6⟩ _
      have l1 : xs.length = 38 := h3.len
      refine ⟨_, rfl, .inl ⟨rfl, _, SqL.of h2⟩, [L], fun _ => .non, ⟨al h2, fun _ h => by simp at h⟩, fun m H2 e2 s2 => ?_⟩
      dsimp only [tNil]
      refine put (x := x) (y := y) (es := nb2) h1 h2 h3 h4 h5 h6 (by omega) (by decide) e2 s2 ?_
      clear h1 h2 h3 h4 h5 h6 e2 s2
      rintro H3 ⟨_, _, xs, _, h1, h2, h3, h4, h5, h6⟩ _
      have l1 : xs.length = 41 := h3.len
      refine ⟨_, rfl, .inl ⟨rfl, _, SqL.of h2⟩, [L], fun _ => tmD, ⟨al h2, fun i hi => ⟨t, by rw [show i = 1 by simpa using hi]; rfl, h5⟩⟩, fun m H2 e2 s2 => ?_⟩
      dsimp only [tNil]
      refine putA (x := x) (y := y) h1 h2 h3 h4 h5 h6 (by omega) e2 s2 ?_
      clear h1 h2 h3 h4 h5 h6 e2 s2
      rintro H3 ⟨_, _, xs, _, h1, h2, h3, h4, h5, h6⟩ _
      have l1 : xs.length = 42 := h3.len
      dsimp only [tSeq, gName]
      refine tFor_of ?_
      refine ⟨[L], fun _ => .non, ⟨al h2, fun _ h => by simp at h⟩, fun tm' H4 e4 s4 => ?_⟩
      obtain ⟨M, ms, rfl, hM, hms⟩ : ∃ M ms, tm' = .ref M ∧ sansL [L] H4 M = some (.tup ms) ∧ SeeL (FnK K) (sansL [L] H4) ms ms6 := by
        cases s4 with
        | tup ha t => exact ⟨_, _, rfl, ha, t⟩
      have hml : ms.length = 6 := hms.len
      refine ⟨M, rfl, ⟨_, SqT.of (sansL_ex _ _ _ _ hM)⟩, ?_⟩
      refine for_itB (walk_tup (xs := ms)) (fun i σ H' => NbI K H g L v t (.ref O) (((((nb1 ++ (odds7.map perOdd).flatten) ++ [.tup [.str "row", tmD, .int 1]]) ++ nb2) ++ [.tup [.str "row", .tup [tmD, .int 0]]]) ++ (ms6.take i).map fun m => .tup [.str "by", m, tmD]) σ H' ∧ sansL [L] H' M = some (.tup ms) ∧ SeeL (FnK K) (sansL [L] H') ms ms6)
        ⟨⟨x, y, xs, rfl, h1.trans e4, e4 _ _ h2, by rw [List.take_zero, List.map_nil, List.append_nil]; exact mono1L e4 h3, mono1 e4 h4, mono1 e4 h5, mono1 e4 h6⟩, hM, hms⟩ (fun i σ H' _ h => SqT.of (sansL_ex _ _ _ _ h.2.1)) ?_ ?_
      · rintro i z σ H1 H1' hi ⟨⟨x, y, xs, rfl, h1, h2, h3, h4, h5, h6⟩, hM1, hms1⟩ ⟨rfl, hz⟩
        obtain ⟨od, hod, sod⟩ := hms1.getV hz
        refine ⟨_, rfl, .inl ⟨rfl, _, SqL.of h2⟩, [L], fun i => if i = 1 then tmD else od, ⟨al h2, fun i hi => ?_⟩, fun m H2 e2 s2 => ?_⟩
        · rcases List.mem_cons.mp hi with rfl | hi
          · exact ⟨t, rfl, h5⟩
          · rw [show i = 5 by simpa using hi]; exact ⟨z, rfl, sod⟩
        · have l2 : xs.length ≤ 42 + 6 := by
            have := h3.len
            rw [this, List.length_append, List.length_map, List.length_take]
            show 42 + min i 6 ≤ _; omega
          dsimp only [tNil]
          refine putA (x := x) (y := some z) h1 h2 h3 h4 h5 h6 (by omega) e2 s2 fun H3 n e3 => ⟨?_, e3 _ _ hM1, SeeL.mono e3 hms1⟩
          rw [List.take_add_one, hod, List.map_append, ← List.append_assoc]
          exact n
      · rintro σ H1 ⟨⟨x, y, xs, rfl, h1, h2, h3, h4, h5, h6⟩, hM1, hms1⟩
        rw [hml, show ms6.take 6 = ms6 from rfl] at h3
        have l1 : xs.length = 48 := h3.len
        refine ⟨_, rfl, .inl ⟨rfl, _, SqL.of h2⟩, [L], fun i => if i = 0 then g else tmD, ⟨al h2, fun i hi => ?_⟩, fun m H2 e2 s2 => ?_⟩
        rotate_left
        dsimp only [tNil]
        refine put (x := x) (y := y) (es := nb3 g) h1 h2 h3 h4 h5 h6 (by omega) (by show 7 ≤ 100; decide) e2 s2 ?_
        rotate_left
        · rcases List.mem_cons.mp hi with rfl | hi
          · exact ⟨v, rfl, h4⟩
          · rw [show i = 1 by simpa using hi]; exact ⟨t, rfl, h5⟩
        clear h1 h2 h3 h4 h5 h6 hM1 hms1 e2 s2
        rintro H3 ⟨_, _, xs, _, h1, h2, h3, h4, h5, h6⟩ _
        have l1 : xs.length = 55 := h3.len
        refine ⟨_, rfl, .inl ⟨rfl, _, SqL.of h2⟩, [L], fun i => g, ⟨al h2, fun i hi => ⟨v, by rw [show i = 0 by simpa using hi]; rfl, h4⟩⟩, fun m H2 e2 s2 => ?_⟩
        dsimp only [tNil]
        refine put (x := x) (y := y) h1 h2 h3 h4 h5 h6 (by omega) (by show 4 ≤ 100; decide) e2 s2 ?_
        clear h1 h2 h3 h4 h5 h6 e2 s2
        rintro H3 ⟨_, _, xs, _, h1, h2, h3, h4, h5, h6⟩ _
        have l1 : xs.length = 59 := h3.len
        refine ⟨_, rfl, .inl ⟨rfl, _, SqL.of h2⟩, [L], fun i => tmD, ⟨al h2, fun i hi => ⟨t, by rw [show i = 1 by simpa using hi]; rfl, h5⟩⟩, fun m H2 e2 s2 => ?_⟩
        dsimp only [tNil]
        refine put (x := x) (y := y) h1 h2 h3 h4 h5 h6 (by omega) (by show 2 ≤ 100; decide) e2 s2 ?_
        clear h1 h2 h3 h4 h5 h6 e2 s2
        rintro H3 ⟨_, _, xs, _, h1, h2, h3, h4, h5, h6⟩ _
        have l1 : xs.length = 61 := h3.len
        refine ⟨_, rfl, .inl ⟨rfl, _, SqL.of h2⟩, [L], fun i => if i = 0 then g else tmD, ⟨al h2, fun i hi => ?_⟩, fun m H2 e2 s2 => ?_⟩
        rotate_left
        dsimp only [tNil]
        refine put (x := x) (y := y) h1 h2 h3 h4 h5 h6 (by omega) (by show 3 ≤ 100; decide) e2 s2 ?_
        rotate_left
        · rcases List.mem_cons.mp hi with rfl | hi
          · exact ⟨v, rfl, h4⟩
          · rw [show i = 1 by simpa using hi]; exact ⟨t, rfl, h5⟩
        clear h1 h2 h3 h4 h5 h6 e2 s2
        rintro H3 ⟨_, _, xs, _, h1, h2, h3, h4, h5, h6⟩ _
        have l1 : xs.length = 64 := h3.len
        refine ⟨_, rfl, by show 1 ≤ sizeLine; decide, fun W hW => ⟨L, W, xs, [.ref fa], rfl, rfl, by rw [upd_ne (ne_of_none h2 hW)]; exact h2, upd_same, by rw [l1]; exact big6 _ (by show 64 + 1 ≤ 1000000; decide), fun R hR => ?_⟩⟩
        have eW : Ex H (upd H3 W (.lst [.ref fa])) := h1.mut (h1.free hW)
        refine q R _ _ (eW.free hR) (eW.mut (eW.free hR)) upd_same ?_
        refine SeeL.append ?_ (.cons (.fn hfn) .nil)
        exact SeeL.mono ((Ex.new hW).mut (Ex.free (Ex.new hW) hR)) (SeeL.mono (sansL_ex _ _) h3)
end
end K8

set_option Elab.async false
set_option linter.all false
set_option maxRecDepth 100000
set_option maxHeartbeats 4000000
namespace K8
open PySem PySem.Spec PyProof.Rows L2 M8
/-! none of them is a test -/
def NoT (d : Dat) : Prop := testOk d ∧ isTest d = false ∧ Dep 12 d
theorem dep_flat {d : Dat} (h : flatD d = true) (n : Nat) : Dep n d := by cases n <;> cases d <;> first | trivial | cases h
theorem dep_tDat {c : Coef} (h : c.length ≤ 1000) (k : Int) (n : Nat) : Dep (n + 4) (tDat c k) := ⟨by simp, fun d hd => by
  rcases List.mem_cons.mp hd with rfl | hd
  · refine ⟨by unfold cD; rw [List.length_map, List.length_map]; exact h, fun d hd => ?_⟩
    obtain ⟨p, hp, rfl⟩ := List.mem_map.mp hd
    obtain ⟨q, hq, rfl⟩ := List.mem_map.mp hp
    refine ⟨by simp, fun d hd => ?_⟩
    rcases List.mem_cons.mp hd with rfl | hd
    · exact dep_flat rfl n
    · rcases List.mem_cons.mp hd with rfl | hd
      · exact dep_flat rfl n
      · cases hd
  · rcases List.mem_cons.mp hd with rfl | hd
    · exact dep_flat rfl _
    · cases hd⟩
theorem Dep.up : ∀ (n : Nat) (d : Dat), Dep n d → Dep (n + 1) d
  | 0, d, h => Step.imp (fun _ z => z.elim) d h
  | n + 1, d, h => Step.imp (fun d z => Dep.up n d z) d h
theorem Dep.le {n m : Nat} (h : n ≤ m) {d : Dat} (z : Dep n d) : Dep m d := by
  induction h with
  | refl => exact z
  | step _ ih => exact Dep.up _ _ ih
theorem dep_lst {n : Nat} {ds : List Dat} (h : ds.length ≤ 1000) (hd : ∀ d ∈ ds, Dep n d) : Dep (n + 1) (.lst ds) := ⟨h, hd⟩
theorem dep_tup {n : Nat} {ds : List Dat} (h : ds.length ≤ 1000) (hd : ∀ d ∈ ds, Dep n d) : Dep (n + 1) (.tup ds) := ⟨h, hd⟩
theorem all1 {p : Dat → Prop} {a : Dat} (h : p a) : ∀ d ∈ [a], p d := fun d hd => by rw [show d = a by simpa using hd]; exact h
theorem all2 {p : Dat → Prop} {a b : Dat} (h : p a) (h2 : p b) : ∀ d ∈ [a, b], p d := fun d hd => by
  rcases List.mem_cons.mp hd with rfl | hd
  · exact h
  · exact all1 h2 d hd
theorem all3 {p : Dat → Prop} {a b c : Dat} (h : p a) (h2 : p b) (h3 : p c) : ∀ d ∈ [a, b, c], p d := fun d hd => by
  rcases List.mem_cons.mp hd with rfl | hd
  · exact h
  · exact all2 h2 h3 d hd
theorem dep_tst {ts : Tst} (h : (coef ts).length ≤ 1000) : Dep 5 (tstDat ts) := by
  cases ts with
  | row c k => exact dep_tup (n := 4) (by simp) (all2 (dep_flat rfl _) (dep_tDat h k 0))
  | same c k => exact dep_tup (n := 4) (by simp) (all2 (dep_flat rfl _) (dep_tDat h k 0))
  | div m c k => exact dep_tup (n := 4) (by simp) (all3 (dep_flat rfl _) (dep_flat rfl _) (dep_tDat h k 0))
/-! looked at by reckoning -/
def headOkB (d : Dat) : Bool := (flatD d && !isBool d) || (match d with | .lst [.str z] => decide (z = ("row" : Str)) | _ => false)
def dctOkB : Dat → Bool | .dct kds => decide (kds.length ≤ 1000) && (kds.all (fun p => flatD p.2 && (match p.1 with | .inl _ => true | .inr z => decide (z.cps.size ≤ 1000000))) && decide ((kds.map (·.1)).Nodup)) | _ => true
def termOkB (d : Dat) : Bool := (items d).all dctOkB
def testOkB (d : Dat) : Bool := match items d with | [h, t] => headOkB h && termOkB t | [h, _, t] => flatD h && termOkB t | _ => true
def stepB (G : Dat → Bool) : Dat → Bool
  | .lst ds => decide (ds.length ≤ 1000) && ds.all G
  | .tup ds => decide (ds.length ≤ 1000) && ds.all G
  | .dct kds => G (rows kds)
  | _ => true
def depB : Nat → Dat → Bool
  | 0 => stepB fun _ => false
  | n + 1 => stepB (depB n)
theorem headOk_of {d : Dat} (h : headOkB d = true) : headOk d := by
  unfold headOkB at h
  rcases Bool.or_eq_true_iff.mp h with h | h
  · obtain ⟨h1, h2⟩ := Bool.and_eq_true_iff.mp h
    exact .inl ⟨h1, fun b e => by rw [e] at h2; cases h2⟩
  · split at h
    · rename_i z _
      have : z = ("row" : Str) := of_decide_eq_true h
      rw [this]; exact .inr rfl
    · cases h
theorem dctOk_of {d : Dat} (h : dctOkB d = true) : dctOk d := by
  cases d with
  | dct kds =>
    obtain ⟨h1, h2⟩ := Bool.and_eq_true_iff.mp h
    obtain ⟨h2, h3⟩ := Bool.and_eq_true_iff.mp h2
    refine ⟨of_decide_eq_true h1, fun p hp => ?_, of_decide_eq_true h3⟩
    obtain ⟨h4, h5⟩ := Bool.and_eq_true_iff.mp (List.all_eq_true.mp h2 p hp)
    refine ⟨h4, ?_⟩
    obtain ⟨k, v⟩ := p
    cases k with
    | inl i => trivial
    | inr z => exact (show z.cps.size ≤ 1000000 from of_decide_eq_true h5)
  | _ => trivial
theorem termOk_of {d : Dat} (h : termOkB d = true) : termOk d := fun x hx => dctOk_of (List.all_eq_true.mp h x hx)
theorem testOk_of {d : Dat} (h : testOkB d = true) : testOk d := by
  unfold testOkB at h
  split at h
  · rename_i a b e
    obtain ⟨h1, h2⟩ := Bool.and_eq_true_iff.mp h
    unfold testOk
    rw [e]
    exact ⟨headOk_of h1, termOk_of h2⟩
  · rename_i a x b e
    obtain ⟨h1, h2⟩ := Bool.and_eq_true_iff.mp h
    unfold testOk
    rw [e]
    exact ⟨h1, termOk_of h2⟩
  · rename_i h1 h2
    unfold testOk
    split
    · next a b e => exact (h1 _ _ e).elim
    · next a x b e => exact (h2 _ _ _ e).elim
    · trivial
theorem step_of {G : Dat → Bool} {P : Dat → Prop} (hp : ∀ d, G d = true → P d) {d : Dat} (h : stepB G d = true) : Step P d := by
  cases d with
  | lst ds =>
    obtain ⟨h1, h2⟩ := Bool.and_eq_true_iff.mp h
    exact ⟨of_decide_eq_true h1, fun d hd => hp d (List.all_eq_true.mp h2 d hd)⟩
  | tup ds =>
    obtain ⟨h1, h2⟩ := Bool.and_eq_true_iff.mp h
    exact ⟨of_decide_eq_true h1, fun d hd => hp d (List.all_eq_true.mp h2 d hd)⟩
  | dct kds => exact hp _ h
  | _ => trivial
theorem dep_of : ∀ (n : Nat) (d : Dat), depB n d = true → Dep n d
  | 0, d, h => step_of (fun _ z => by cases z) h
  | n + 1, d, h => step_of (fun d z => dep_of n d z) h
def noTB (d : Dat) : Bool := testOkB d && (!isTest d && depB 12 d)
theorem noT_of {d : Dat} (h : noTB d = true) : NoT d := by
  obtain ⟨h1, h2⟩ := Bool.and_eq_true_iff.mp h
  obtain ⟨h2, h3⟩ := Bool.and_eq_true_iff.mp h2
  exact ⟨testOk_of h1, by simpa using h2, dep_of 12 d h3⟩
theorem noT_all {ds : List Dat} (h : ds.all noTB = true) : ∀ d ∈ ds, NoT d := fun d hd => noT_of (List.all_eq_true.mp h d hd)
theorem fs1 : ∀ d ∈ nb1, NoT d := noT_all (by decide +kernel)
theorem fs2 : ∀ d ∈ (odds7.map perOdd).flatten, NoT d := noT_all (by decide +kernel)
theorem fs3 : ∀ d ∈ ([.tup [.str "row", tmD, .int 1]] : List Dat), NoT d := noT_all (by decide +kernel)
theorem fs4 : ∀ d ∈ nb2, NoT d := noT_all (by decide +kernel)
theorem fs5 : ∀ d ∈ ([.tup [.str "row", .tup [tmD, .int 0]]] : List Dat), NoT d := noT_all (by decide +kernel)
theorem fs6 : ∀ d ∈ ms6.map (fun m => Dat.tup [.str "by", m, tmD]), NoT d := noT_all (by decide +kernel)
theorem fs7 : ∀ d ∈ ([.tup [.str "none", .lst []], .tup [.str "rows", tmD]] : List Dat), NoT d := noT_all (by decide +kernel)
theorem termOk_tst (ts : Tst) : termOk (tstDat ts) := by
  cases ts <;> (intro d hd; simp [tstDat, items] at hd; rcases hd with rfl | rfl | rfl <;> trivial)
theorem fs8 {ts : Tst} (h : (coef ts).length ≤ 1000) : ∀ d ∈ nb3 (tstDat ts), NoT d := by
  have g8 := dep_tst h
  intro d hd
  have e : nb3 (tstDat ts) = [.tup [.str "by", .int 2], .tup [.str "by", tmD, .int 2], .tup [.str "not"], .tup [.str "not", .non]] ++ ([.tup [.str "not", tstDat ts, tstDat ts]] ++ [.tup [.str "all", .non], .tup [.str "all", .dct []]]) := rfl
  rw [e] at hd
  rcases List.mem_append.mp hd with hd | hd
  · exact noT_all (by decide +kernel) d hd
  · rcases List.mem_append.mp hd with hd | hd
    · rw [show d = .tup [.str "not", tstDat ts, tstDat ts] by simpa using hd]
      exact ⟨⟨rfl, termOk_tst ts⟩, rfl, (dep_tup (n := 5) (by simp) (all3 (dep_flat rfl _) g8 g8)).le (by decide)⟩
    · exact noT_all (by decide +kernel) d hd
theorem noT_t2 {h t : Dat} (hf : headOkB h = true) (hr : headRS h = false) (ht : termOk t) (hd : Dep 11 t) (hfl : flatD h = true) : NoT (.tup [h, t]) :=
  ⟨⟨headOk_of hf, ht⟩, by show (true && (headRS h && isTerm t)) = false; rw [hr]; rfl, dep_tup (by simp) (all2 (dep_flat hfl _) hd)⟩
theorem noT_l2 {h t : Dat} (hf : headOkB h = true) (hr : headRS h = false) (ht : termOk t) (hd : Dep 11 t) (hfl : flatD h = true) : NoT (.lst [h, t]) :=
  ⟨⟨headOk_of hf, ht⟩, by show (true && (headRS h && isTerm t)) = false; rw [hr]; rfl, dep_lst (by simp) (all2 (dep_flat hfl _) hd)⟩
theorem noT_t3 {h m t : Dat} (hr : headBy h = false) (ht : termOk t) (hd : Dep 11 t) (hm : Dep 11 m) (hfl : flatD h = true) : NoT (.tup [h, m, t]) :=
  ⟨⟨hfl, ht⟩, by show (true && (headBy h && (isFrom1 m && isTerm t))) = false; rw [hr]; rfl, dep_tup (by simp) (all3 (dep_flat hfl _) hm hd)⟩
theorem dctOk_tst (ts : Tst) : dctOk (tstDat ts) := by cases ts <;> trivial
theorem app {p : Dat → Prop} {as bs : List Dat} (ha : ∀ d ∈ as, p d) (hb : ∀ d ∈ bs, p d) : ∀ d ∈ as ++ bs, p d := fun d hd => (List.mem_append.mp hd).elim (ha d) (hb d)
theorem cns {p : Dat → Prop} {a : Dat} {as : List Dat} (ha : p a) (hb : ∀ d ∈ as, p d) : ∀ d ∈ a :: as, p d := fun d hd => by
  rcases List.mem_cons.mp hd with rfl | hd
  · exact ha
  · exact hb d hd
theorem nl {p : Dat → Prop} : ∀ d ∈ ([] : List Dat), p d := fun d hd => by cases hd
def extra4 (g : Dat) : List Dat := [.tup [.str "all", .lst []], .tup [.str "any", .lst [g]], .tup [.str "not", g], .lst [.str "all", .lst [g]]]
theorem noB_no {ts : Tst} (h : (coef ts).length ≤ 1000) : ∀ d ∈ noB (tstDat ts), NoT d := by
  have g5 := dep_tst h
  have g6 : Dep 10 (tstDat ts) := g5.le (by decide)
  have g7 : Dep 11 (tstDat ts) := g5.le (by decide)
  have t1 : ∀ x ∈ [tstDat ts], dctOk x := all1 (dctOk_tst ts)
  refine app (app (app (app (app (app (app (app (app fs1 fs2) fs3) fs4) fs5) fs6) (fs8 h)) ?_) fs7) ?_
  · refine cns (noT_of (by decide +kernel)) (cns (noT_of (by decide +kernel)) (cns ?_ (cns ?_ nl)))
    · exact noT_t2 (by decide +kernel) (by decide +kernel) (all2 (dctOk_tst ts) trivial) (dep_lst (n := 10) (by simp) (all2 g6 (dep_flat rfl _))) rfl
    · exact noT_t3 (by decide +kernel) (termOk_tst ts) g7 g7 rfl
  · refine cns ?_ (cns ?_ (cns (noT_of (by decide +kernel)) nl))
    · exact noT_t2 (by decide +kernel) rfl t1 (dep_lst (n := 10) (by simp) (all1 g6)) rfl
    · refine noT_t2 (by decide +kernel) (by decide +kernel) (all2 (dctOk_tst ts) trivial) (dep_lst (n := 10) (by simp) (all2 g6 ?_)) rfl
      exact dep_tup (n := 9) (by simp) (all2 (dep_flat rfl _) (dep_lst (n := 8) (by simp) (all2 (g5.le (by decide)) (dep_of 8 _ (by decide +kernel)))))
theorem extra_no {ts : Tst} (h : (coef ts).length ≤ 1000) : ∀ d ∈ extra4 (tstDat ts), NoT d := by
  have g5 := dep_tst h
  have g6 : Dep 10 (tstDat ts) := g5.le (by decide)
  have g7 : Dep 11 (tstDat ts) := g5.le (by decide)
  refine cns (noT_of (by decide +kernel)) (cns ?_ (cns ?_ (cns ?_ nl)))
  · exact noT_t2 (by decide +kernel) (by decide +kernel) (all1 (dctOk_tst ts)) (dep_lst (n := 10) (by simp) (all1 g6)) rfl
  · exact noT_t2 (by decide +kernel) (by decide +kernel) (termOk_tst ts) g7 rfl
  · exact noT_l2 (by decide +kernel) (by decide +kernel) (all1 (dctOk_tst ts)) (dep_lst (n := 10) (by simp) (all1 g6)) rfl
end K8

set_option Elab.async false
set_option linter.all false
set_option maxRecDepth 100000
set_option maxHeartbeats 4000000
namespace K8
open PySem PySem.Spec PyProof.Rows L2 M8 LamX
/-! what a call is met with -/
def TTmet (K : PySem.W.Frag) (C : Addr) : (XK → Hp → VK → Prop) → Hp → VK → Prop := fun tl H Q =>
  tl (fun cls d H' => ∃ b, PySem.W.exmOne K cls (.ref C) = some b ∧ (b = true → cls = .ref C ∧ ∃ (dd : Addr) (fs : List (Str × V)) (v : V), d = some dd ∧ H' dd = some (.xd fs) ∧ fs.lookup ("test" : Str) = some v ∧ ∀ p, H' p = none → Q (.ref p) (upd H' p (.tup [.str "test", v]))) ∧ (b = false → False))
    H (fun v H1 => [V.str "told", v].length ≤ sizeLine ∧ ∀ p, H1 p = none → Q (.ref p) (upd H1 p (.tup [.str "told", v])))
abbrev s__law_met : Stmt := top 53
theorem sc__law_met : FnScope ["ask", "e"] ["ask"] (defScope s__law_met) := ⟨rfl, rfl, rfl, by decide +kernel, rfl, by decide +kernel, by decide +kernel⟩
theorem pss_ex {X : Cx} {b : List Stmt} {ε : Type} {p : ε → Prop} {t : ε → TS} (h : ∀ e, p e → PSs X b (t e)) : PSs X b (fun D σ H => ∃ e, p e ∧ t e D σ H) := ⟨fun pins s σ H D I q => by
  obtain ⟨e, pe, q⟩ := q
  exact (h e pe).run pins s σ H D I q⟩
theorem pvL {X : Cx} (i n : Nat) {x : Str} {pos : Pos} (hN : X.N[i]? = some x := by rfl) (hn : X.N.length = n := by rfl) (hv : Vis X.env.scope x := by first | exact Or.inl rfl | exact Or.inr (Or.inl rfl) | exact Or.inr (Or.inr rfl)) (hd : (x == ("__debug__" : Str)) = false := by decide)
    (hcd : (x == ("__classdict__" : Str)) = false := by decide) : PE X (.Name x pos) (fun σ H Q => σ.length = n → tVar i σ H Q) := ⟨fun pins s σ H Q I q => (pe_var hN hv hd hcd).run pins s σ H Q I (q (by rw [← hn]; exact I.len))⟩
theorem met_gives {X : Cx} {C g : Addr} {cdg : Value} {q : Str} (B : BadC X.K X.mg C) : GivesTo X ["ask", "e"] "_law_met" (defScope s__law_met) g cdg (defBody s__law_met) "ask" q (TTmet X.K C) := by
  intro f c' s H Q tl act hc h
  refine ⟨_, pss_one (ps_try_as (X := (cxOf C8.CX0 X.prog X.w X.K X.mg X.base ["ask", "e"] "_law_met" (defScope s__law_met) g cdg X.A X.stack s H C8.E0).nox) (c := .ref C) (i := 1)
      (tb := fun W D σ H => ∃ Ech : XK, (∀ cls d σ' H', Ech cls d H' → W cls d σ' H') ∧ tRet (tTup (tCons (tC (.str "told")) (tCons (fun σZ HZ Q => σZ[0]? = some (some (.ref f)) ∧ HZ c' = some (CodeO c' q) ∧ tl Ech HZ Q) tNil))) D σ H)
      rfl rfl sc__law_met.nd rfl rfl ⟨rfl, rfl, .inl B.gC⟩ L2.takes0 (fun W pn xe tk _ => ?_) (fun a oe cls d pn hz hf => pss_one (ps_ret (pe_tup (pa_cons pe_str (pa_cons (pe_xf B.xf B.no hz hf (pvL 1 2)) pa_nil)))))), ?_⟩
  · exact pss_ex fun Ech hW => pss_one (ps_ret (pe_tup (pa_cons pe_str (pa_cons (act W pn xe Ech _ _ tk hW) pa_nil))))
  · have nl : ∀ v : V, (2 : Nat) ≤ sizeLine := fun _ => by decide
    refine ⟨fun cls d H' => ∃ b, PySem.W.exmOne X.K cls (.ref C) = some b ∧ (b = true → cls = .ref C ∧ ∃ (dd : Addr) (fs : List (Str × V)) (v : V), d = some dd ∧ H' dd = some (.xd fs) ∧ fs.lookup ("test" : Str) = some v ∧ ∀ p, H' p = none → Q (.ref p) (upd H' p (.tup [.str "test", v]))) ∧ (b = false → False), ?_, rfl, hc, ?_⟩
    · rintro cls d σ' H' ⟨b, e1, e2, e3⟩
      refine ⟨b, e1, fun hb a ha => ?_, fun hb => e3 hb⟩
      obtain ⟨h1, dd, fs, v, h2, h3, h4, h5⟩ := e2 hb
      intro hl
      have hl2 : (σ'.set 1 (some (V.ref a))).length = 2 := hl
      rw [List.length_set] at hl2
      exact ⟨.ref a, List.getElem?_set_self (by omega), rfl, h1, dd, fs, v, h2, h3, h4, by show 2 ≤ sizeLine; decide, fun p hp => h5 p hp⟩
    · exact h
end K8

set_option Elab.async false
set_option linter.all false
set_option maxRecDepth 100000
set_option maxHeartbeats 4000000
namespace K8
open PySem PySem.Spec PyProof.Rows L2 M8 LamX
/-! what is refused -/
def T0 (P : Addr) : List (Addr × Str) := [(P, ("_law_refused_right.<locals>." : Str) ++ "<lambda>")]
mutual
theorem See.ext {F : Addr → Prop} {H H' : Hp} (e : ExtN H H') : ∀ {v : V} {d : Dat}, See F H v d → See F H' v d
  | _, _, .non => .non
  | _, _, .bl b => .bl b
  | _, _, .int i => .int i
  | _, _, .str s => .str s
  | _, _, .lst h t => .lst (e _ _ h (fun ps z => by cases z)) (SeeL.ext e t)
  | _, _, .tup h t => .tup (e _ _ h (fun ps z => by cases z)) (SeeL.ext e t)
  | _, _, .dct h t => .dct (e _ _ h (fun ps z => by cases z)) (SeeK.ext e t)
  | _, _, .fn h => .fn h
theorem SeeL.ext {F : Addr → Prop} {H H' : Hp} (e : ExtN H H') : ∀ {vs : List V} {ds : List Dat}, SeeL F H vs ds → SeeL F H' vs ds
  | _, _, .nil => .nil
  | _, _, .cons h t => .cons (See.ext e h) (SeeL.ext e t)
theorem SeeK.ext {F : Addr → Prop} {H H' : Hp} (e : ExtN H H') : ∀ {vs : List (Key × V)} {ds : List (Key × Dat)}, SeeK F H vs ds → SeeK F H' vs ds
  | _, _, .nil => .nil
  | _, _, .cons h t => .cons (See.ext e h) (SeeK.ext e t)
end
def ExoN (a : Addr) (H H' : Hp) : Prop := ∀ b o, b ≠ a → H b = some o → (∀ ps, o ≠ .tbl ps) → H' b = some o
section
variable {P : Program} {w : World} {K : PySem.W.Frag} {mg : Str → Option Value} {base : Heap}
def spRefused (TP : Addr) : Sp := fun vs H Q _ => ∃ a l ns B, vs = [.ref a, .ref l] ∧ Spr H a B ∧ B + 300 < lot ∧ H l = some (.lst (ns.map V.str)) ∧ l ≠ a ∧ Nms ns ∧ Tabs (T0 TP) H ∧ ∀ H', ExoN a H H' → Tabs (T0 TP) H' → Q (.bl true) H'
abbrev s__law_refused_right : Stmt := top 54
theorem sc__law_refused_right : FnScope ["spring", "names", "good", "odds", "odd", "held", "found"] ["spring", "names"] (defScope s__law_refused_right) := ⟨rfl, rfl, rfl, by decide +kernel, rfl, by decide +kernel, by decide +kernel⟩
/-- a def whose code object is known -/
structure AtC (K : PySem.W.Frag) (mg : Str → Option Value) (x : Str) (st : Stmt) (ps : List Str) (c : Addr) : Prop where
  ex : ∃ (f : Addr) (oc : Value) (od : Option Addr) (kV doc pm : Value) (an : Option Addr) (ct : Value) (osl : Array (Option Value)), mg x = some (.ref f) ∧ K.lookup f = some ⟨oc, od, .func (PySem.W.fnOf x x (defArgs st) (defBody st) (defScope st) .none kV doc pm an (.ref c) ct), osl⟩ ∧
    PySem.W.codeIn K (.ref c) x = true ∧ PySem.W.keepIn K (.ref f) = true ∧ L2.Binds K (PySem.W.fnOf x x (defArgs st) (defBody st) (defScope st) .none kV doc pm an (.ref c) ct) ps []
theorem AtC.ok {x : Str} {st : Stmt} {N ps : List Str} {k : Nat} {sp : Sp} {c : Addr} (a : AtC K mg x st ps c) (S : FnScope N ps (defScope st)) (len : ∀ vs H Q E, sp vs H Q E → vs.length = ps.length)
    (hbody : ∀ (f : Addr) (A : Around) (outer : List Env) (s : Shared) (H : Hp) (vs : List V) (Q : VK) (E : XK), Room k (A.deeper (envOfC x (defScope st) s.heap.objs.size f (.ref c))) → sp vs H Q E →
      ∃ t, PSs (cxOf CX0 P w K mg base N x (defScope st) f (.ref c) A outer s H E).nox (defBody st) t ∧ t { nx := fun _ H' => Q .non H', rt := Q } (L2.start N vs) H) : Ok P w K mg base CX0 (k + 1) x ps sp := by
  obtain ⟨f, oc, od, kV, doc, pm, an, ct, osl, hm, lk, hcd, hk, b⟩ := a.ex
  refine ⟨f, _, hm, hk, b, fn_of lk hcd S len fun A outer s H vs Q E hr hsp => ?_⟩
  obtain ⟨t, h, q⟩ := hbody f A outer s H vs Q E hr hsp
  exact ⟨t, h.nox, q⟩
/-- the def that calls what it gets, as the lambda's rule takes it -/
structure MetF (K : PySem.W.Frag) (mg : Str → Option Value) (g : Addr) (oc cdv kV doc pm : Value) (od an : Option Addr) (ct : Value) (osl : Array (Option Value)) : Prop where
  m : mg "_law_met" = some (.ref g)
  k : PySem.W.keepIn K (.ref g) = true
  lk : K.lookup g = some ⟨oc, od, .func (PySem.W.fnOf "_law_met" "_law_met" (defArgs s__law_met) (defBody s__law_met) (defScope s__law_met) .none kV doc pm an cdv ct), osl⟩
  cd : PySem.W.codeIn K cdv "_law_met" = true
  b : L2.Binds K (PySem.W.fnOf "_law_met" "_law_met" (defArgs s__law_met) (defBody s__law_met) (defScope s__law_met) .none kV doc pm an cdv ct) ["ask"] []
theorem ok__law_refused_right (T : Txt K mg) {C TP c : Addr} (B : BadC K mg C) (a : AtC K mg "_law_refused_right" s__law_refused_right ["spring", "names"] c) (TB : TabB base mg c TP) {g : Addr} {oc cdv kV doc pm : Value} {od an : Option Addr} {ct : Value} {osl : Array (Option Value)} (M : MetF K mg g oc cdv kV doc pm od an ct osl) {fa : Addr}
    (Otight : Ok P w K mg base (L2.CX P w) 6 "tight" ["test"] (spTight K C)) (O_law_w_test : Ok P w K mg base CX0 4 "_law_w_test" ["spring", "names", "great"] spTestW) (O_law_w_no_bodies : Ok P w K mg base CX0 1 "_law_w_no_bodies" ["good"] (spNoB K fa)) (O_law_same : Ok P w K mg base CX0 15 "_law_same" ["found", "due"] (spSameG K (Dep 13))) (hfn : FnK K fa) : Ok P w K mg base CX0 17 "_law_refused_right" ["spring", "names"] (spRefused TP) := by
  obtain ⟨hmM, hkM, lkM, hcM, hbM⟩ := M
  obtain ⟨fT, fdT, hmT, hkT, bT, FT⟩ := Otight.ex
  refine a.ok sc__law_refused_right (fun vs H Q E h => ?_) (fun f A outer s H vs Q E hr h => ?_)
  · obtain ⟨a, l, ns, B, rfl, _⟩ := h; rfl
  · obtain ⟨a, l, ns, Bn, rfl, hs, hB, hl, hla, hns, hTab, q⟩ := h
    refine ⟨_, (pss_cons (ps_set (i := 2) sc__law_refused_right.nd rfl (Or.inl rfl) (pe_callO O_law_w_test (hr.mono (by first | decide | omega)) rfl (pa_cons (pv 0) (pa_cons (pv 1) (pa_cons pe_int pa_nil)))))
      (pss_cons (ps_set (i := 3) sc__law_refused_right.nd rfl (Or.inl rfl) (pe_op op_cat (pe_callO O_law_w_no_bodies (hr.mono (by first | decide | omega)) rfl (pa_cons (pv 2) pa_nil)) (litE (K := K) (U := [2]) (lz_lst (lz_cons (lz_tup (lz_cons (PE.lC pe_str (fun _ => .str _)) (lz_cons (lz_lst lz_nil) lz_nil))) (lz_cons (lz_tup (lz_cons (PE.lC pe_str (fun _ => .str _)) (lz_cons (lz_lst (lz_cons (PE.lV (U := [2]) (pv 2) (by decide)) lz_nil)) lz_nil))) (lz_cons (lz_tup (lz_cons (PE.lC pe_str (fun _ => .str _)) (lz_cons (PE.lV (U := [2]) (pv 2) (by decide)) lz_nil))) (lz_cons (lz_lst (lz_cons (PE.lC pe_str (fun _ => .str _)) (lz_cons (lz_lst (lz_cons (PE.lV (U := [2]) (pv 2) (by decide)) lz_nil)) lz_nil))) lz_nil))))))))
      (pss_cons (ps_for PassesOwn.never rfl (pi_list (pv 3)) (pg_name (i := 4) sc__law_refused_right.nd rfl (Or.inr rfl)) (pss_one (ps_if (pt_not (pt_val (pe_callO O_law_same (hr.mono (by first | decide | omega)) rfl (pa_cons (pe_lamcall (T := T0 TP) (TT := TTmet K C) (t := fun E => tCall (spTight K C) [] E (tCons (tVar 4) tNil)) (k := 6) rfl hmM hkM lkM hcM hbM sc__law_met rfl (.inl rfl) (met_gives B) TB rfl (List.mem_singleton.mpr rfl) (fun p hp _ => by rw [List.mem_singleton.mp hp]; rfl) (hr.mono (by omega)) (lamS_by (sc := defScope s__law_refused_right) (by decide +kernel)) rfl (fun _ _ _ _ _ => rfl) (fun A outer s H E f c1 hr2 => pe_call FT hr2 rfl hmT hkT bT .nil (passes_call (takes_of rfl rfl rfl rfl) (fun _ _ _ _ h => h)) (pa_cons (pv 4) pa_nil))) (pa_cons (pe_tup (pa_cons pe_str (pa_cons (pv 4) pa_nil))) pa_nil))))) (pss_one (ps_ret pe_bl)) pss_nil)))
      (pss_cons (ps_set (i := 5) sc__law_refused_right.nd rfl (Or.inr rfl) (pe_lst (pa_cons pe_str (pa_cons pe_non pa_nil))))
      (pss_cons (ps_set (i := 6) sc__law_refused_right.nd rfl (Or.inl rfl) (pe_lamcall (T := T0 TP) (TT := TTmet K C) (t := fun E => tCall (spTight K C) [] E (tCons (tVar 5) tNil)) (k := 6) rfl hmM hkM lkM hcM hbM sc__law_met rfl (.inl rfl) (met_gives B) TB rfl (List.mem_singleton.mpr rfl) (fun p hp _ => by rw [List.mem_singleton.mp hp]; rfl) (hr.mono (by omega)) (lamS_by (sc := defScope s__law_refused_right) (by decide +kernel)) rfl (fun _ _ _ _ _ => rfl) (fun A outer s H E f c1 hr2 => pe_call FT hr2 rfl hmT hkT bT .nil (passes_call (takes_of rfl rfl rfl rfl) (fun _ _ _ _ h => h)) (pa_cons (pv 5) pa_nil))))
      (pss_cons (ps_expr (pe_bmK (K := K) rfl (pe_bm PySem.F.plainAttrs_list PySem.F.slot_list_append PySem.F.type_list_append mt_append (pv 5) (pa_cons pe_str pa_nil))))
      (pss_one (ps_ret (pe_callO O_law_same (hr.mono (by first | decide | omega)) rfl (pa_cons (pv 6) (pa_cons (pe_tup (pa_cons pe_str (pa_cons (pe_lst (pa_cons pe_str (pa_cons pe_non (pa_cons pe_str pa_nil)))) pa_nil))) pa_nil))))))))))), ?_⟩
    have h4 := hns.l4
    refine ⟨_, rfl, _, rfl, a, l, ns, 3, Bn, rfl, hs, by omega, hl, hla, hns.nd, hns.l4, by decide, by decide, fun gq gt gd ts H1 e1 s1 n hts => ?_⟩
    obtain ⟨n1, n2, n3, nT⟩ := n
    have hgl : (coef ts).length ≤ 1000 := by have := (hts.t.few h4).len; omega
    refine ⟨_, rfl, .ref gq, tstDat ts, rfl, see_tst nT, fun R zs H2 hR e2 hR2 sz => ?_⟩
    have sg2 : SeeF K H2 (.ref gq) (tstDat ts) := (see_tst nT).mono e2
    refine ⟨[], fun _ => tstDat ts, ⟨fun _ h => by simp at h, fun i hi => ⟨.ref gq, by rw [show i = 2 by simpa using hi]; rfl, sg2.mono fun b o h => sansL_at (by simp) h⟩⟩, fun m H3 e3 s3 => ?_⟩
    obtain ⟨M, ys, rfl, hM, hys⟩ : ∃ M ys, m = .ref M ∧ sansL [] H3 M = some (.lst ys) ∧ SeeL (FnK K) (sansL [] H3) ys (extra4 (tstDat ts)) := by
      cases s3 with
      | lst ha t => exact ⟨_, _, rfl, ha, t⟩
    have hzl := sz.len
    have hyl := hys.len
    have hzn : zs.length = 65 := by rw [hzl, List.length_append]; rfl
    refine ⟨R, M, zs, ys, rfl, rfl, e3 _ _ hR2, sansL_ex _ _ _ _ hM, by rw [hzn, hyl]; exact big6 _ (by show 65 + 4 ≤ 1000000; decide), fun O hO => ?_⟩
    have eA : Exo [a] H (upd H3 O (.lst (zs ++ ys))) := (e1.trans ((e2.trans e3).exo _)).mut (by
      have s3' := (s1.ex e2).ex e3
      exact ((e1.trans ((e2.trans e3).exo _)).freeS s3' hO).1)
    have all : SeeL (FnK K) (upd H3 O (.lst (zs ++ ys))) (zs ++ ys) ((noB (tstDat ts) ++ [.fn fa]) ++ extra4 (tstDat ts)) := SeeL.append (SeeL.mono ((Ex.new hO)) (SeeL.mono e3 sz)) (SeeL.mono (Ex.new hO) (SeeL.mono (sansL_ex _ _) hys))
    have bad : ∀ d ∈ (noB (tstDat ts) ++ [.fn fa]) ++ extra4 (tstDat ts), NoT d := app (app (noB_no hgl) (all1 ⟨trivial, rfl, trivial⟩)) (extra_no hgl)
    generalize hds : (noB (tstDat ts) ++ [.fn fa]) ++ extra4 (tstDat ts) = ds at all bad
    generalize hit : zs ++ ys = its at all eA
    have tabsA : ∀ {H' : Hp}, Exo [a] H H' → (∀ b o, b = a → H b = some o → ∃ xs, o = .lst xs) → Tabs (T0 TP) H' := fun e ha => fun p hp => by
      obtain ⟨ps, h1, h2, h3⟩ := hTab p hp
      refine ⟨ps, e.at1 (fun z => by obtain ⟨xs, hx⟩ := ha _ _ z h1; cases hx) h1, h2, fun pos cv hc => ?_⟩
      obtain ⟨c2, h4, h5⟩ := h3 pos cv hc
      exact ⟨c2, h4, e.at1 (fun z => by obtain ⟨xs, hx⟩ := ha _ _ z h5; cases hx) h5⟩
    have alst : ∀ b o, b = a → H b = some o → ∃ xs, o = .lst xs := fun b o hb h => by
      obtain ⟨x1, x2, x3, x4, _⟩ := hs
      rw [hb, x4] at h; cases h; exact ⟨_, rfl⟩
    have nOa : O ≠ a := fun z => (((s1.ex e2).ex e3)).ne (by rw [← z]; exact hO)
    dsimp only [tSeq, gName]
    refine tFor_of ?_
    refine ⟨_, rfl, O, rfl, ⟨_, SqL.of upd_same⟩, ?_⟩
    -- one call that is refused, met
    have one : ∀ {σ : L2.St} {i : Nat} {v : V} {d : Dat} {H4 : Hp} {R : V → Hp → Prop}, σ[i]? = some (some v) → SeeF K H4 v d → testOk d → isTest d = false → Tabs (T0 TP) H4 →
        (∀ p H5, ExtN H4 H5 → Tabs (T0 TP) H5 → (∀ b o, H4 b = some o → (∀ ps, o ≠ .tbl ps) → b ≠ p) → H5 p = some (.tup [.str "test", v]) → R (.ref p) H5) → tLam (T0 TP) (TTmet K C) (fun E => tCall (spTight K C) [] E (tCons (tVar i) tNil)) σ H4 R := by
      intro σ i v d H4 R hσ hv hok hno hT k
      refine ⟨hT, fun H5 e5 T5 => ?_⟩
      refine ⟨v, hσ, v, d, rfl, See.ext e5 hv, .inr ⟨hok, hno, fun dd H6 hdd e6 hx => ?_⟩⟩
      refine ⟨true, B.te, fun _ => ⟨rfl, dd, _, v, rfl, hx, rfl, fun p hp => ?_⟩, fun z => by cases z⟩
      have e7 : Ex H5 (upd H6 p (.tup [.str "test", v])) := e6.mut (e6.free hp)
      have hp5 : H5 p = none := e6.free hp
      exact k p _ (e5.trans (ExtN.of e7)) (Tabs.ext T5 e7) (fun b o h nt z => by have := e5 b o h nt; rw [z, hp5] at this; cases this) upd_same
    refine for_itB (walk_list (xs := its)) (fun i σ H' => ∃ x, σ = [some (.ref a), some (.ref l), some (.ref gq), some (.ref O), x, none, none] ∧ ExoN a H H' ∧ H' O = some (.lst its) ∧ SeeL (FnK K) H' its ds ∧ Tabs (T0 TP) H') ⟨none, rfl, fun b o nb h _ => eA.at1 nb h, upd_same, all, tabsA eA alst⟩ (fun i σ H' _ ⟨_, _, _, h, _⟩ => SqL.of h) ?_ ?_
    · rintro i x σ H4 H5 hi ⟨x4, rfl, eN, hO4, all4, tab4⟩ ⟨rfl, hx⟩
      obtain ⟨d, hd, sd⟩ := all4.getV hx
      obtain ⟨b1, b2, b3⟩ := bad d (List.mem_of_getElem? hd)
      refine one (v := x) (d := d) rfl sd b1 b2 tab4 fun p H6 e6 T6 hp hp6 => ?_
      refine ⟨_, rfl, by show 2 ≤ sizeLine; decide, fun p2 hp2 => ?_⟩
      have e7 : Ex H6 (upd H6 p2 (.tup [.str "test", x])) := Ex.new hp2
      have sd7 := (See.ext e6 sd).mono e7
      refine ⟨_, _, .tup [.str "test", d], rfl, .tup (e7 _ _ hp6) (.cons (.str _) (.cons sd7 .nil)), .tup upd_same (.cons (.str _) (.cons sd7 .nil)), dep_tup (n := 12) (by simp) (all2 (dep_flat rfl _) b3), fun H8 e8 => ?_⟩
      refine ⟨_, rfl, iteF ?_⟩
      have e9 : ExtN H5 H8 := e6.trans (ExtN.of (e7.trans e8))
      exact ⟨_, rfl, fun b o nb h nt => e9 _ _ (eN b o nb h nt) nt, e9 _ _ hO4 (fun ps z => by cases z), SeeL.ext e9 all4, Tabs.ext T6 (e7.trans e8)⟩
    · rintro σ H4 ⟨x4, rfl, eN, hO4, all4, tab4⟩
      refine ⟨by show 2 ≤ sizeLine; decide, fun L hL => ?_⟩
      have e5 : Ex H4 (upd H4 L (.lst [.str "row", .non])) := Ex.new hL
      have sL : SeeF K (upd H4 L (.lst [.str "row", .non])) (.ref L) (.lst [.str "row", .non]) := .lst upd_same (.cons (.str _) (.cons .non .nil))
      have nT2 : NoT (.lst [.str "row", .non]) := noT_of (by decide +kernel)
      refine one (v := .ref L) rfl sL nT2.1 nT2.2.1 (Tabs.ext tab4 e5) fun p H6 e6 T6 hp hp6 => ?_
      have hL6 : H6 L = some (.lst [.str "row", .non]) := e6 _ _ upd_same (fun ps z => by cases z)
      have nLp : L ≠ p := hp L _ upd_same (fun ps z => by cases z)
      refine ⟨_, rfl, .inl ⟨rfl, _, SqL.of hL6⟩, L, _, _, rfl, rfl, hL6, by show 2 < sizeLine; decide, ?_⟩
      have hL7 : upd H6 L (.lst ([.str "row", .non] ++ [.str "late"])) L = some (.lst [.str "row", .non, .str "late"]) := upd_same
      have hp7 : upd H6 L (.lst ([.str "row", .non] ++ [.str "late"])) p = some (.tup [.str "test", .ref L]) := by rw [upd_ne nLp.symm]; exact hp6
      refine ⟨_, rfl, by show 3 ≤ sizeLine; decide, fun l2 hl2 => ⟨by show 2 ≤ sizeLine; decide, fun t2 ht2 => ?_⟩⟩
      have e8 := (Ex.new (o := .lst [.str "row", .non, .str "late"]) hl2)
      have e9 := e8.mut (e8.free ht2) (o := .tup [.str "test", .ref l2])
      have n2t : l2 ≠ t2 := ne_of_none upd_same ht2
      have sx : ∀ {H' : Hp} {b : Addr}, H' b = some (.lst [.str "row", .non, .str "late"]) → SeeF K H' (.ref b) (.lst [.str "row", .non, .str "late"]) := fun h => .lst h (.cons (.str _) (.cons .non (.cons (.str _) .nil)))
      refine ⟨.ref p, .ref t2, .tup [.str "test", .lst [.str "row", .non, .str "late"]], rfl, .tup (e9 _ _ hp7) (.cons (.str _) (.cons (sx (e9 _ _ hL7)) .nil)), .tup upd_same (.cons (.str _) (.cons (sx (by rw [upd_ne n2t, upd_same])) .nil)), dep_of 13 _ (by decide +kernel), fun H9 eF => ?_⟩
      refine q H9 (fun b o nb h nt => ?_) ?_
      · have h4 := eN b o nb h nt
        have h6 := e6 _ _ (e5 _ _ h4) nt
        have nbL : b ≠ L := ne_of_none h4 hL
        exact eF _ _ (e9 _ _ (by rw [upd_ne nbL]; exact h6))
      · refine Tabs.ext (fun p hp => ?_) (e9.trans eF)
        obtain ⟨ps, h1, h2, h3⟩ := T6 p hp
        refine ⟨ps, by rw [upd_ne (fun z => by rw [z, hL6] at h1; cases h1)]; exact h1, h2, fun pos cv hc => ?_⟩
        obtain ⟨c2, h4, h5⟩ := h3 pos cv hc
        exact ⟨c2, h4, by rw [upd_ne (fun z => by rw [z, hL6] at h5; cases h5)]; exact h5⟩
end
end K8

set_option Elab.async false
set_option linter.all false
set_option maxRecDepth 100000
set_option maxHeartbeats 4000000
namespace K8
open PySem PySem.Spec PyProof.Rows L2 M8
theorem gcdI_step {a b : Int} (ha : 0 ≤ a) (hb : 0 < b) : gcdI b (a % b) = gcdI a b := by
  obtain ⟨n, rfl⟩ := Int.eq_ofNat_of_zero_le ha
  obtain ⟨m, rfl⟩ := Int.eq_ofNat_of_zero_le (Int.le_of_lt hb)
  unfold gcdI
  rw [show ((n : Int) % (m : Int)) = ((n % m : Nat) : Int) from rfl]
  simp only [Int.natAbs_natCast]
  rw [Nat.gcd_comm m, ← Nat.gcd_rec, Nat.gcd_comm]
theorem gcdI_abs (a b : Int) : gcdI a ((b.natAbs : Nat) : Int) = gcdI a b := by unfold gcdI; rw [Int.natAbs_natCast]
theorem gcdI_zero {a : Int} (h : 0 ≤ a) : gcdI a 0 = a := by unfold gcdI; simp; omega
def spCommon (K : PySem.W.Frag) : Sp := fun vs H Q _ => ∃ (a : Addr) (xs : List Int), vs = [.ref a] ∧ SqL K H a (xs.map V.int) ∧ xs.length ≤ 100 ∧ Q (.int (gcds xs 0)) H
section
variable {P : Program} {w : World} {K : PySem.W.Frag} {mg : Str → Option Value} {base : Heap}
abbrev s__law_common : Stmt := top 48
theorem sc__law_common : FnScope ["numbers", "found", "number", "one", "other"] ["numbers"] (defScope s__law_common) := ⟨rfl, rfl, rfl, by decide +kernel, rfl, by decide +kernel, by decide +kernel⟩
theorem ok__law_common (T : Txt K mg) (a : At K mg "_law_common" s__law_common ["numbers"]) : Ok P w K mg base CX0 1 "_law_common" ["numbers"] (spCommon K) := a.ok fun f fd F => by
  refine F.ok sc__law_common (fun vs H Q E h => ?_) (fun cdv A outer s H vs Q E hr h => ?_)
  · obtain ⟨a, xs, rfl, _⟩ := h; rfl
  · obtain ⟨a, xs, rfl, hx, hl, q⟩ := h
    refine ⟨_, (pss_cons (ps_set (i := 1) sc__law_common.nd rfl (Or.inl rfl) pe_int)
      (pss_cons (ps_for PassesOwn.never rfl (pi_list (pv 0)) (pg_name (i := 2) sc__law_common.nd rfl (Or.inl rfl)) (pss_cons (ps_par (i := 3) (j := 4) rfl sc__law_common.nd rfl rfl (by decide) rfl rfl (pa_cons (pv 1) (pa_cons (pe_callB call_abs rfl T.n_abs rfl (pa_cons (pv 2) pa_nil)) pa_nil)) rfl)
      (pss_cons (ps_while PassesOwn.never (pt_cmpR op_gt (pv 4) pe_int (nomark _)) (pss_one (ps_par (i := 3) (j := 4) rfl sc__law_common.nd rfl rfl (by decide) rfl rfl (pa_cons (pv 4) (pa_cons (pe_op op_mod (pe_callTy call_int1 rfl T.n_int rfl (pa_cons (pv 3) pa_nil)) (pv 4)) pa_nil)) rfl)))
      (pss_one (ps_set (i := 1) sc__law_common.nd rfl (Or.inl rfl) (pv 3))))))
      (pss_one (ps_ret (pv 1))))), ?_⟩
    dsimp only [tNext, tSeq, gName, tAsg, tC]
    refine tFor_of ?_
    refine ⟨_, rfl, a, rfl, ⟨_, hx⟩, ?_⟩
    refine for_itB walk_list (fun i σ H' => ∃ (x y z : Option V), σ = [some (.ref a), some (.int (gcds (xs.take i) 0)), x, y, z] ∧ H' = H) ⟨none, none, none, rfl, rfl⟩ (fun i σ H' _ ⟨_, _, _, _, e⟩ => by rw [e]; exact hx) ?_ ?_
    · rintro i x σ H2 H3 hi ⟨x2, x3, x4, rfl, rfl⟩ ⟨rfl, hxi⟩
      rw [List.length_map] at hi
      obtain ⟨n, hn, rfl⟩ : ∃ n, xs[i]? = some n ∧ x = .int n := by
        rw [List.getElem?_map, List.getElem?_eq_getElem hi] at hxi
        exact ⟨xs[i], List.getElem?_eq_getElem hi, (Option.some.inj hxi).symm⟩
      have ht : gcds (xs.take (i + 1)) 0 = gcdI (gcds (xs.take i) 0) n := by
        rw [List.take_add_one, hn]; unfold gcds; rw [List.foldl_append]; rfl
      refine ⟨_, rfl, _, rfl, _, rfl, _, _, rfl, ?_⟩
      have g0 : 0 ≤ gcds (xs.take i) 0 := gcds_nn _ _ (Int.le_refl 0)
      have ab : (if n < 0 then -n else n) = ((n.natAbs : Nat) : Int) := by split <;> omega
      rw [ab]
      refine ⟨fun m σ H' => ∃ u v : Int, σ = [some (.ref a), some (.int (gcds (xs.take i) 0)), some (.int n), some (.int u), some (.int v)] ∧ H' = H3 ∧ 0 ≤ u ∧ 0 ≤ v ∧ gcdI u v = gcds (xs.take (i + 1)) 0 ∧ v.toNat = m, ⟨_, _, _, rfl, rfl, g0, by omega, by rw [ht, gcdI_abs], rfl⟩, ?_⟩
      rintro m σ H4 ⟨u, v, rfl, rfl, u0, v0, hg, rfl⟩
      refine ⟨_, rfl, _, _, rfl, rfl, _, rfl, ?_⟩
      by_cases hv : 0 < v
      · rw [decide_eq_true hv]
        refine iteT ⟨fun σ' H' => ∃ v', v'.toNat < v.toNat ∧ ∃ u, σ' = [some (.ref a), some (.int (gcds (xs.take i) 0)), some (.int n), some (.int u), some (.int v')] ∧ H' = H4 ∧ 0 ≤ u ∧ 0 ≤ v' ∧ gcdI u v' = gcds (xs.take (i + 1)) 0, ?_, ?_⟩
        · rintro σ' H' ⟨v', h1, u', h2⟩
          exact ⟨v'.toNat, h1, u', v', h2.1, h2.2.1, h2.2.2.1, h2.2.2.2.1, h2.2.2.2.2, rfl⟩
        · refine ⟨_, rfl, _, rfl, .inl ⟨_, rfl, _, rfl, _, _, rfl, rfl, hv, _, _, rfl, u % v, ?_, v, rfl, rfl, v0, Int.emod_nonneg _ (by omega), ?_⟩⟩
          · have := Int.emod_lt_of_pos u hv
            have := Int.emod_nonneg u (show v ≠ 0 by omega)
            omega
          · rw [gcdI_step u0 hv]; exact hg
      · rw [decide_eq_false hv]
        refine iteF ⟨_, rfl, some (.int n), some (.int u), some (.int v), ?_, rfl⟩
        have hv0 : v = 0 := by omega
        rw [hv0, gcdI_zero u0] at hg
        rw [← hg]; rfl
    · rintro σ H2 ⟨x2, x3, x4, rfl, rfl⟩
      rw [List.length_map, List.take_length]
      exact ⟨_, rfl, q⟩
end
end K8

set_option Elab.async false
set_option linter.all false
set_option maxRecDepth 100000
set_option maxHeartbeats 4000000
namespace K8
open PySem PySem.Spec PyProof.Rows L2 M8
def lTi : Tst → Res | .row c k => lRow c k | .same c k => lSame c k | .div m c k => lBy m c k
def NewRA (H H' : Hp) (u : V) : Res → Prop
  | .inl b => u = .bl b
  | .inr t => ∃ q p d, u = .ref q ∧ NewA H H' q p d t
def spLTight : Sp := fun vs H Q _ => ∃ q p d ts, vs = [.ref q] ∧ TAt H q p d ts ∧ Few (coef ts) ∧ Lim (coef ts) ∧ mOk ts ∧ Told (coef ts) ∧ ∀ u H', Ex H H' → NewRA H H' u (lTi ts) → Q u H'
theorem vmap (c : Coef) : (cK c).map (·.2) = (vals c).map V.int := by unfold cK vals; rw [List.map_map, List.map_map]; rfl
theorem cK_emp {c : Coef} (h : c ≠ []) : (cK c).isEmpty = false := by cases c with | nil => exact absurd rfl h | cons p t => rfl
theorem told_lim {c : Coef} (few : Few c) (lim : Lim c) (t : Told c) (h : c ≠ []) : 0 < gcds (vals c) 0 ∧ gcds (vals c) 0 < 1073741824 := by
  have e := dvs_told 0 t
  have h0 : dvs 0 c ≠ 0 := fun z => h (by have := (dvs_zero few.nd).mp z; rwa [t.canon_eq] at this)
  rw [← e]; exact dvs_lim few lim h0
theorem sgnd_ok {c : Coef} (few : Few c) (lim : Lim c) (t : Told c) (h : c ≠ []) : sgnd c ≠ 0 ∧ (sgnd c).natAbs < 1073741824 := by
  have := told_lim few lim t h
  unfold sgnd
  split <;> omega
section
variable {P : Program} {w : World} {K : PySem.W.Frag} {mg : Str → Option Value} {base : Heap}
abbrev s__law_tight : Stmt := top 49
theorem sc__law_tight : FnScope ["test", "coefficients", "constant", "m", "rests", "common", "rest", "name"] ["test"] (defScope s__law_tight) := ⟨rfl, rfl, rfl, by decide +kernel, rfl, by decide +kernel, by decide +kernel⟩
theorem ok__law_tight (T : Txt K mg) (a : At K mg "_law_tight" s__law_tight ["test"]) (O_law_common : Ok P w K mg base CX0 1 "_law_common" ["numbers"] (spCommon K)) : Ok P w K mg base CX0 2 "_law_tight" ["test"] spLTight := a.ok fun f fd F => by
  refine F.ok sc__law_tight (fun vs H Q E h => ?_) (fun cdv A outer s H vs Q E hr h => ?_)
  · obtain ⟨q, p, d, ts, rfl, _⟩ := h; rfl
  · obtain ⟨q, p, d, ts, rfl, ht, few, lim, hm, hto, qq⟩ := h
    refine ⟨_, (pss_cons (ps_asg (pe_ix (ix_qK (K := K) rfl) (pv 0) (pe_un un_neg pe_int) (fun _ _ => rfl)) (pg_tup rfl (pgs_cons (pg_name (i := 1) sc__law_tight.nd rfl (Or.inr rfl)) (pgs_cons (pg_name (i := 2) sc__law_tight.nd rfl (Or.inl rfl)) pgs_nil))))
      (pss_cons (ps_if (pt_cmpR op_eq (pe_ix (ix_qK (K := K) rfl) (pv 0) pe_int (fun _ _ => rfl)) pe_str (nomark _)) (pss_cons (ps_set (i := 3) sc__law_tight.nd rfl (Or.inr rfl) (pe_ix (ix_qK (K := K) rfl) (pv 0) pe_int (fun _ _ => rfl)))
      (pss_cons (ps_set (i := 4) sc__law_tight.nd rfl (Or.inr rfl) (pe_callTy (call_dictC (K := K) rfl rfl) rfl T.n_dict rfl (pa_cons (pe_lock (pe_lc (own := [("name", 7)]) (g := gName 7) (tt := tYes) rfl sc__law_tight.nd (pi_keys (pv 1)) (blkOk_by (N := ["test", "coefficients", "constant", "m", "rests", "common", "rest", "name"]) (sc := defScope s__law_tight) (by decide +kernel)) (fun _ _ _ _ _ => (pg_name (i := 7) sc__law_tight.nd rfl (Or.inl rfl))) (fun _ _ _ _ _ => pts_nil) (fun _ _ _ _ _ => (pe_tup (pa_cons (pv 7) (pa_cons (pe_op op_mod (pe_callTy call_int1 rfl T.n_int rfl (pa_cons (pe_dget (hu_of hr) (pv 1) (pv 7) (fun _ _ => rfl)) pa_nil)) (pv 3)) pa_nil)))))) pa_nil)))
      (pss_cons (ps_set (i := 4) sc__law_tight.nd rfl (Or.inr rfl) (pe_callTy (call_dictC (K := K) rfl rfl) rfl T.n_dict rfl (pa_cons (pe_lock (pe_lc (own := [("name", 7)]) (g := gName 7) (tt := _) rfl sc__law_tight.nd (pi_keys (pv 4)) (blkOk_by (N := ["test", "coefficients", "constant", "m", "rests", "common", "rest", "name"]) (sc := defScope s__law_tight) (by decide +kernel)) (fun _ _ _ _ _ => (pg_name (i := 7) sc__law_tight.nd rfl (Or.inl rfl))) (fun _ _ _ _ _ => (pts_one (pt_cmpR op_gt (pe_dget (hu_of hr) (pv 4) (pv 7) (fun _ _ => rfl)) pe_int (nomark _)))) (fun _ _ _ _ _ => (pe_tup (pa_cons (pv 7) (pa_cons (pe_dget (hu_of hr) (pv 4) (pv 7) (fun _ _ => rfl)) pa_nil)))))) pa_nil)))
      (pss_cons (ps_asg (pe_tup (pa_cons (pe_callO O_law_common (hr.mono (by decide)) rfl (pa_cons (pe_op op_cat (pe_lst (pa_cons (pv 3) pa_nil)) (pe_listValues rfl (pv 4) rfl T.n_list rfl)) pa_nil)) (pa_cons (pe_op op_mod (pe_callTy call_int1 rfl T.n_int rfl (pa_cons (pv 2) pa_nil)) (pv 3)) pa_nil))) (pg_tup rfl (pgs_cons (pg_name (i := 5) sc__law_tight.nd rfl (Or.inr rfl)) (pgs_cons (pg_name (i := 6) sc__law_tight.nd rfl (Or.inl rfl)) pgs_nil))))
      (pss_cons (ps_if (PW.pt (pw_or (pt_cmpR op_gt (pe_op op_mod (pe_callTy call_int1 rfl T.n_int rfl (pa_cons (pv 6) pa_nil)) (pv 5)) pe_int (nomark _)) (pw_or1 (pt_cmpR (op_eq0 (hu_of hr)) (pv 4) pe_dnewK (nomark _))))) (pss_one (ps_ret (pe_and (pe_cmpR (op_eq0 (hu_of hr)) (pv 4) pe_dnewK (nomark _)) (pe_one (pe_cmpR op_eq (pv 6) pe_int (nomark _)))))) pss_nil)
      (pss_one (ps_ret (pe_tup (pa_cons pe_str (pa_cons (pe_op op_fdiv (pv 3) (pv 5)) (pa_cons (pe_tup (pa_cons (pe_callTy (call_dictC (K := K) rfl rfl) rfl T.n_dict rfl (pa_cons (pe_lock (pe_lc (own := [("name", 7)]) (g := gName 7) (tt := tYes) rfl sc__law_tight.nd (pi_keys (pv 4)) (blkOk_by (N := ["test", "coefficients", "constant", "m", "rests", "common", "rest", "name"]) (sc := defScope s__law_tight) (by decide +kernel)) (fun _ _ _ _ _ => (pg_name (i := 7) sc__law_tight.nd rfl (Or.inl rfl))) (fun _ _ _ _ _ => pts_nil) (fun _ _ _ _ _ => (pe_tup (pa_cons (pv 7) (pa_cons (pe_op op_fdiv (pe_dget (hu_of hr) (pv 4) (pv 7) (fun _ _ => rfl)) (pv 5)) pa_nil)))))) pa_nil)) (pa_cons (pe_op op_fdiv (pv 6) (pv 5)) pa_nil))) pa_nil))))))))))) pss_nil)
      (pss_cons (ps_set (i := 5) sc__law_tight.nd rfl (Or.inr rfl) (pe_callO O_law_common (hr.mono (by decide)) rfl (pa_cons (pe_listValues rfl (pv 1) rfl T.n_list rfl) pa_nil)))
      (pss_cons (ps_if (pt_cmpR (op_eq0 (hu_of hr)) (pv 1) pe_dnewK (nomark _)) (pss_one (ps_ret (pe_ifExp (pt_cmpR op_eq (pe_ix (ix_qK (K := K) rfl) (pv 0) pe_int (fun _ _ => rfl)) pe_str (nomark _)) (pe_cmpR op_ge (pv 2) pe_int (nomark _)) (pe_cmpR op_eq (pv 2) pe_int (nomark _))))) pss_nil)
      (pss_cons (ps_if (PW.pt (pw_and (pt_cmpR op_eq (pe_ix (ix_qK (K := K) rfl) (pv 0) pe_int (fun _ _ => rfl)) pe_str (nomark _)) (pw_and1 (pt_cmpR op_gt (pe_op op_mod (pe_callTy call_int1 rfl T.n_int rfl (pa_cons (pv 2) pa_nil)) (pv 5)) pe_int (nomark _))))) (pss_one (ps_ret pe_bl)) pss_nil)
      (pss_cons (ps_if (PW.pt (pw_and (pt_cmpR op_eq (pe_ix (ix_qK (K := K) rfl) (pv 0) pe_int (fun _ _ => rfl)) pe_str (nomark _)) (pw_and1 (pt_cmpR op_lt (pe_dget (hu_of hr) (pv 1) (pe_ix (ix_qK (K := K) rfl) (pe_callTy (call_listD rfl) rfl T.n_list rfl (pa_cons (pv 1) pa_nil)) pe_int (fun _ _ => rfl)) (fun _ _ => rfl)) pe_int (nomark _))))) (pss_one (ps_set (i := 5) sc__law_tight.nd rfl (Or.inr rfl) (pe_op op_sub pe_int (pv 5)))) pss_nil)
      (pss_one (ps_ret (pe_tup (pa_cons (pe_ix (ix_qK (K := K) rfl) (pv 0) pe_int (fun _ _ => rfl)) (pa_cons (pe_tup (pa_cons (pe_callTy (call_dictC (K := K) rfl rfl) rfl T.n_dict rfl (pa_cons (pe_lock (pe_lc (own := [("name", 7)]) (g := gName 7) (tt := tYes) rfl sc__law_tight.nd (pi_keys (pv 1)) (blkOk_by (N := ["test", "coefficients", "constant", "m", "rests", "common", "rest", "name"]) (sc := defScope s__law_tight) (by decide +kernel)) (fun _ _ _ _ _ => (pg_name (i := 7) sc__law_tight.nd rfl (Or.inl rfl))) (fun _ _ _ _ _ => pts_nil) (fun _ _ _ _ _ => (pe_tup (pa_cons (pv 7) (pa_cons (pe_op op_fdivN (pe_dget (hu_of hr) (pv 1) (pv 7) (fun _ _ => rfl)) (pv 5)) pa_nil)))))) pa_nil)) (pa_cons (pe_op op_fdivN (pv 2) (pv 5)) pa_nil))) pa_nil))))))))))), ?_⟩
    have uq : ∀ {tag : String} {H1 : Hp}, Ex H H1 → H q = some (.tup [.str tag, .ref p]) → H1 q = some (.tup [.str tag, .ref p]) := fun e h => e _ _ h
    cases ts with
    | row c k =>
      obtain ⟨hq, hp, hd⟩ := ht
      change Few c at few; change Lim c at lim; change Told c at hto
      refine ⟨_, rfl, _, rfl, q, _, _, _, rfl, rfl, SqQ.t hq, (by rfl), p, _, rfl, SqT.of hp, rfl, _, _, rfl, _, _, rfl, rfl, ?_⟩
      refine ⟨_, rfl, q, _, 0, _, rfl, rfl, SqQ.t hq, at0, rfl, _, rfl, iteF ?_⟩
      refine ⟨_, rfl, d, _, rfl, hd, fun L hL => ?_⟩
      have e1 : Ex H (upd H L (.lst ((cK c).map (·.2)))) := Ex.new hL
      refine ⟨L, vals c, rfl, SqL.of (by rw [vmap, upd_same]), by have := few.len; unfold vals; rw [List.length_map]; omega, ?_⟩
      refine ⟨_, rfl, fun em hem => ⟨d, em, cK c, rfl, rfl, (Ex.new hem) _ _ (e1 _ _ hd), upd_same, _, rfl, ?_⟩⟩
      have e2 : Ex H (upd (upd H L (.lst ((cK c).map (·.2)))) em (.dK [])) := e1.mut (e1.free hem)
      by_cases hc : c = []
      · subst hc
        refine iteT ?_
        refine ⟨_, rfl, q, _, 0, _, rfl, rfl, SqQ.t (e2 _ _ hq), at0, rfl, _, rfl, iteT ⟨_, rfl, _, _, rfl, rfl, qq _ _ e2 ?_⟩⟩
        show NewRA H _ _ (lRow [] k)
        unfold lRow; rw [if_pos rfl]; rfl
      · rw [cK_emp hc]
        refine iteF ?_
        have lg := told_lim few lim hto hc
        refine ⟨_, rfl, q, _, 0, _, rfl, rfl, SqQ.t (e2 _ _ hq), at0, rfl, _, rfl, iteF ?_⟩
        refine ⟨_, rfl, q, _, 0, _, rfl, rfl, SqQ.t (e2 _ _ hq), at0, rfl, _, rfl, iteF ?_⟩
        refine ⟨_, rfl, q, _, 0, _, rfl, rfl, SqQ.t (e2 _ _ hq), at0, ?_⟩
        dsimp only [tTup, tCons]
        refine dp_lock (fun p => p.2.fdiv (gcds (vals c) 0)) (fun _ => true) (e2 _ _ hd) few (fun H2 R o r => ⟨_, rfl, r⟩) (by simp [wipe, L2.start]) (fun _ => rfl) ?_ ?_
        · intro n z H2 od R R' hm' h2 o k1 k2
          have hmk : n ∈ keys c := List.mem_map.mpr ⟨(n, z), hm', rfl⟩
          have hco : co c n = z := co_of_mem few.nd hm'
          refine yesT ⟨_, rfl, _, rfl, _, rfl, d, _, rfl, .inl ⟨cK c, .inr n, .inr ⟨od, h2⟩, rfl, (valV_co hmk few.nd).symm⟩, _, rfl, _, _, rfl, rfl, ⟨by omega, by omega⟩, by show 2 ≤ sizeLine; decide, fun r hr => ?_⟩
          rw [hco]
          exact k1 rfl r _ hr (Ex.new hr) upd_same
        · intro D H2 hD eF hD2
          rw [filt_all] at hD2
          have e3 := Ex.trans (e2) eF
          refine ⟨_, rfl, _, rfl, _, _, rfl, rfl, ⟨by omega, by omega⟩, by show 2 ≤ sizeLine; decide, fun t ht => ⟨by show 2 ≤ sizeLine; decide, fun r hr => ?_⟩⟩
          have hD0 : H D = none := Ex.free (e2) hD
          have ht0 : H t = none := e3.free ht
          have e4 : Ex H (upd H2 t (.tup [.ref D, .int (k.fdiv (gcds (vals c) 0))])) := e3.mut ht0
          have hr0 : H r = none := e4.free hr
          have ntD : D ≠ t := ne_of_none hD2 ht
          refine qq (.ref r) _ (e4.mut hr0) ?_
          have hx : NewA H (upd (upd H2 t (.tup [.ref D, .int (k.fdiv (gcds (vals c) 0))])) r (.tup [.str "row", .ref t])) r t D (.row (mapc (fun i => i.fdiv (gcds (vals c) 0)) c) (k.fdiv (gcds (vals c) 0))) := by
            refine ⟨hr0, ht0, hD0, upd_same, ?_, ?_⟩
            · rw [upd_ne (ne_of_none upd_same hr), upd_same]
            · rw [upd_ne (ne_of_none (show upd H2 t _ D = _ by rw [upd_ne ntD]; exact hD2) hr), upd_ne ntD]; exact hD2
          show NewRA H _ _ (lRow c k)
          unfold lRow; rw [if_neg hc]; exact ⟨r, t, D, rfl, hx⟩
    | same c k =>
      obtain ⟨hq, hp, hd⟩ := ht
      change Few c at few; change Lim c at lim; change Told c at hto
      refine ⟨_, rfl, _, rfl, q, _, _, _, rfl, rfl, SqQ.t hq, (by rfl), p, _, rfl, SqT.of hp, rfl, _, _, rfl, _, _, rfl, rfl, ?_⟩
      refine ⟨_, rfl, q, _, 0, _, rfl, rfl, SqQ.t hq, at0, rfl, _, rfl, iteF ?_⟩
      refine ⟨_, rfl, d, _, rfl, hd, fun L hL => ?_⟩
      have e1 : Ex H (upd H L (.lst ((cK c).map (·.2)))) := Ex.new hL
      refine ⟨L, vals c, rfl, SqL.of (by rw [vmap, upd_same]), by have := few.len; unfold vals; rw [List.length_map]; omega, ?_⟩
      refine ⟨_, rfl, fun em hem => ⟨d, em, cK c, rfl, rfl, (Ex.new hem) _ _ (e1 _ _ hd), upd_same, _, rfl, ?_⟩⟩
      have e2 : Ex H (upd (upd H L (.lst ((cK c).map (·.2)))) em (.dK [])) := e1.mut (e1.free hem)
      by_cases hc : c = []
      · subst hc
        refine iteT ?_
        refine ⟨_, rfl, q, _, 0, _, rfl, rfl, SqQ.t (e2 _ _ hq), at0, rfl, _, rfl, iteF ⟨_, rfl, rfl, qq _ _ e2 ?_⟩⟩
        show NewRA H _ _ (lSame [] k)
        unfold lSame; rw [if_pos rfl]
        show V.bl _ = V.bl _
        rw [show decide (V.int k = V.int 0) = decide (k = 0) from decide_eq_decide.mpr ⟨fun z => V.int.inj z, fun z => by rw [z]⟩]
      · rw [cK_emp hc]
        refine iteF ?_
        have lg := told_lim few lim hto hc
        have sg := sgnd_ok few lim hto hc
        refine ⟨_, rfl, q, _, 0, _, rfl, rfl, SqQ.t (e2 _ _ hq), at0, rfl, _, rfl, iteT ?_⟩
        refine ⟨_, rfl, .inl ⟨_, rfl, _, rfl, _, _, rfl, rfl, lg.1, _, _, rfl, rfl, _, rfl, ?_⟩⟩
        by_cases hk : 0 < k % gcds (vals c) 0
        · rw [decide_eq_true hk]
          refine iteT (qq _ _ e2 ?_)
          show NewRA H _ _ (lSame c k)
          unfold lSame; rw [if_neg hc, if_pos hk]; rfl
        · rw [decide_eq_false hk]
          refine iteF ?_
          have hL2 : lTi (.same c k) = .inr (.same (mapc (fun i => i.fdiv (sgnd c)) c) (k.fdiv (sgnd c))) := by
            show lSame c k = _
            unfold lSame; rw [if_neg hc, if_neg hk]
          refine ⟨_, rfl, q, _, 0, _, rfl, rfl, SqQ.t (e2 _ _ hq), at0, rfl, _, rfl, iteT ?_⟩
          refine ⟨_, rfl, _, rfl, d, cK c, rfl, .inl (e2 _ _ hd), fun LK hLK' => ?_⟩
          have e5 : Ex H (upd (upd (upd H L (.lst ((cK c).map (·.2)))) em (.dK [])) LK (.lst ((cK c).map fun kv => kV kv.1))) := e2.mut (e2.free hLK')
          obtain ⟨n0, z0, c0, hc0⟩ : ∃ n0 z0 c0, c = (n0, z0) :: c0 := by
            cases c with
            | nil => exact absurd rfl hc
            | cons p t => exact ⟨p.1, p.2, t, rfl⟩
          have hix : atI ((cK c).map fun kv => kV kv.1) 0 = some (.str n0) := by rw [hc0]; exact at0
          have hmem : (n0, z0) ∈ c := by rw [hc0]; simp
          have hmk : n0 ∈ keys c := List.mem_map.mpr ⟨(n0, z0), hmem, rfl⟩
          have hco : co c n0 = z0 := co_of_mem few.nd hmem
          have hhd : (vals c).headD 0 = z0 := by rw [hc0]; rfl
          refine ⟨LK, _, 0, _, rfl, rfl, SqQ.l upd_same, hix, d, _, rfl, .inl ⟨cK c, .inr n0, .inl (e5 _ _ hd), rfl, (valV_co hmk few.nd).symm⟩, _, _, rfl, rfl, _, rfl, ?_⟩
          rw [hco]
          by_cases hz : z0 < 0
          · rw [decide_eq_true hz]
            refine iteT ?_
            refine ⟨_, rfl, _, _, rfl, rfl, ?_⟩
            have hs : 0 - gcds (vals c) 0 = sgnd c := by unfold sgnd; rw [if_pos (by rw [hhd]; exact hz)]
            have hs2 : (fun i j : Int => V.int (i - j)) 0 (gcds (vals c) 0) = V.int (sgnd c) := by show V.int (0 - gcds (vals c) 0) = _; rw [hs]
            rw [hs2]
            refine ⟨_, rfl, q, _, 0, _, rfl, rfl, SqQ.t (e5 _ _ hq), at0, ?_⟩
            dsimp only [tTup, tCons]
            refine dp_lock (fun p => p.2.fdiv (sgnd c)) (fun _ => true) (e5 _ _ hd) few (fun H2 R o r => ⟨_, rfl, r⟩) (by simp [wipe, L2.start]) (fun _ => rfl) ?_ ?_
            · intro n z H2 od R R' hm' h2 o k1 k2
              have hmk : n ∈ keys c := List.mem_map.mpr ⟨(n, z), hm', rfl⟩
              have hco : co c n = z := co_of_mem few.nd hm'
              refine yesT ⟨_, rfl, _, rfl, _, rfl, d, _, rfl, .inl ⟨cK c, .inr n, .inr ⟨od, h2⟩, rfl, (valV_co hmk few.nd).symm⟩, _, rfl, _, _, rfl, rfl, ⟨sg.1, sg.2⟩, by show 2 ≤ sizeLine; decide, fun r hr => ?_⟩
              rw [hco]
              exact k1 rfl r _ hr (Ex.new hr) upd_same
            · intro D H2 hD eF hD2
              rw [filt_all] at hD2
              have e3 := Ex.trans (e5) eF
              refine ⟨_, rfl, _, rfl, _, _, rfl, rfl, ⟨sg.1, sg.2⟩, by show 2 ≤ sizeLine; decide, fun t ht => ⟨by show 2 ≤ sizeLine; decide, fun r hr => ?_⟩⟩
              have hD0 : H D = none := Ex.free (e5) hD
              have ht0 : H t = none := e3.free ht
              have e4 : Ex H (upd H2 t (.tup [.ref D, .int (k.fdiv (sgnd c))])) := e3.mut ht0
              have hr0 : H r = none := e4.free hr
              have ntD : D ≠ t := ne_of_none hD2 ht
              refine qq (.ref r) _ (e4.mut hr0) ?_
              have hx : NewA H (upd (upd H2 t (.tup [.ref D, .int (k.fdiv (sgnd c))])) r (.tup [.str "same", .ref t])) r t D (.same (mapc (fun i => i.fdiv (sgnd c)) c) (k.fdiv (sgnd c))) := by
                refine ⟨hr0, ht0, hD0, upd_same, ?_, ?_⟩
                · rw [upd_ne (ne_of_none upd_same hr), upd_same]
                · rw [upd_ne (ne_of_none (show upd H2 t _ D = _ by rw [upd_ne ntD]; exact hD2) hr), upd_ne ntD]; exact hD2
              rw [hL2]; exact ⟨r, t, D, rfl, hx⟩
          · rw [decide_eq_false hz]
            refine iteF ?_
            have hs : gcds (vals c) 0 = sgnd c := by unfold sgnd; rw [if_neg (by rw [hhd]; exact hz)]
            rw [hs]
            refine ⟨_, rfl, q, _, 0, _, rfl, rfl, SqQ.t (e5 _ _ hq), at0, ?_⟩
            dsimp only [tTup, tCons]
            refine dp_lock (fun p => p.2.fdiv (sgnd c)) (fun _ => true) (e5 _ _ hd) few (fun H2 R o r => ⟨_, rfl, r⟩) (by simp [wipe, L2.start]) (fun _ => rfl) ?_ ?_
            · intro n z H2 od R R' hm' h2 o k1 k2
              have hmk : n ∈ keys c := List.mem_map.mpr ⟨(n, z), hm', rfl⟩
              have hco : co c n = z := co_of_mem few.nd hm'
              refine yesT ⟨_, rfl, _, rfl, _, rfl, d, _, rfl, .inl ⟨cK c, .inr n, .inr ⟨od, h2⟩, rfl, (valV_co hmk few.nd).symm⟩, _, rfl, _, _, rfl, rfl, ⟨sg.1, sg.2⟩, by show 2 ≤ sizeLine; decide, fun r hr => ?_⟩
              rw [hco]
              exact k1 rfl r _ hr (Ex.new hr) upd_same
            · intro D H2 hD eF hD2
              rw [filt_all] at hD2
              have e3 := Ex.trans (e5) eF
              refine ⟨_, rfl, _, rfl, _, _, rfl, rfl, ⟨sg.1, sg.2⟩, by show 2 ≤ sizeLine; decide, fun t ht => ⟨by show 2 ≤ sizeLine; decide, fun r hr => ?_⟩⟩
              have hD0 : H D = none := Ex.free (e5) hD
              have ht0 : H t = none := e3.free ht
              have e4 : Ex H (upd H2 t (.tup [.ref D, .int (k.fdiv (sgnd c))])) := e3.mut ht0
              have hr0 : H r = none := e4.free hr
              have ntD : D ≠ t := ne_of_none hD2 ht
              refine qq (.ref r) _ (e4.mut hr0) ?_
              have hx : NewA H (upd (upd H2 t (.tup [.ref D, .int (k.fdiv (sgnd c))])) r (.tup [.str "same", .ref t])) r t D (.same (mapc (fun i => i.fdiv (sgnd c)) c) (k.fdiv (sgnd c))) := by
                refine ⟨hr0, ht0, hD0, upd_same, ?_, ?_⟩
                · rw [upd_ne (ne_of_none upd_same hr), upd_same]
                · rw [upd_ne (ne_of_none (show upd H2 t _ D = _ by rw [upd_ne ntD]; exact hD2) hr), upd_ne ntD]; exact hD2
              rw [hL2]; exact ⟨r, t, D, rfl, hx⟩

    | div m c k =>
      obtain ⟨hq, hp, hd⟩ := ht
      change Few c at few; change Told c at hto
      obtain ⟨m0, m1⟩ := hm
      have hm' : 0 < m ∧ m < 1073741824 := ⟨m0, by omega⟩
      refine ⟨_, rfl, _, rfl, q, _, _, _, rfl, rfl, SqQ.t hq, (by rfl), p, _, rfl, SqT.of hp, rfl, _, _, rfl, _, _, rfl, rfl, ?_⟩
      refine ⟨_, rfl, q, _, 0, _, rfl, rfl, SqQ.t hq, at0, rfl, _, rfl, iteT ?_⟩
      refine ⟨_, rfl, q, _, 1, _, rfl, rfl, SqQ.t hq, at1, ?_⟩
      dsimp only [tSeq, tAsg, gName]
      refine dp_lock (fun p => p.2 % m) (fun _ => true) hd few (fun H2 R o r => ⟨_, rfl, r⟩) (by simp [wipe, L2.start]) (fun _ => rfl) ?_ ?_
      · intro n z H2 od R R' hm2 h2 o k1 k2
        have hmk : n ∈ keys c := List.mem_map.mpr ⟨(n, z), hm2, rfl⟩
        have hco : co c n = z := co_of_mem few.nd hm2
        refine yesT ⟨_, rfl, _, rfl, _, rfl, d, _, rfl, .inl ⟨cK c, .inr n, .inr ⟨od, h2⟩, rfl, (valV_co hmk few.nd).symm⟩, .inl ⟨_, rfl, _, rfl, _, _, rfl, rfl, m0, by show 2 ≤ sizeLine; decide, fun r hr => ?_⟩⟩
        rw [hco]
        exact k1 rfl r _ hr (Ex.new hr) upd_same
      intro D H1 hD e1 hD1
      rw [filt_all] at hD1
      have fewA : Few (mapc (fun i => i % m) c) := few.mapc _
      refine dp_lock (fun p => p.2) (fun p => decide (p.2 > 0)) hD1 fewA (fun H2 R o r => ⟨_, rfl, r⟩) (by simp [wipe, L2.start]) (fun _ => rfl) ?_ ?_
      · intro n z H2 od R R' hm2 h2 o k1 k2
        have hmk : n ∈ keys (mapc (fun i => i % m) c) := List.mem_map.mpr ⟨(n, z), hm2, rfl⟩
        have hco : co (mapc (fun i => i % m) c) n = z := co_of_mem fewA.nd hm2
        have g := valV_co hmk fewA.nd
        refine ⟨_, rfl, _, rfl, D, _, rfl, .inl ⟨cK (mapc (fun i => i % m) c), .inr n, .inr ⟨od, h2⟩, rfl, g.symm⟩, _, _, rfl, rfl, _, rfl, ?_⟩
        rw [hco]
        by_cases hz : z > 0
        · rw [show decide ((0:Int) < z) = true from decide_eq_true hz]
          refine iteT ⟨_, rfl, _, rfl, _, rfl, D, _, rfl, .inl ⟨cK (mapc (fun i => i % m) c), .inr n, .inr ⟨od, h2⟩, rfl, g.symm⟩, by show 2 ≤ sizeLine; decide, fun r hr => ?_⟩
          rw [hco]
          exact k1 (decide_eq_true hz) r _ hr (Ex.new hr) upd_same
        · rw [show decide ((0:Int) < z) = false from decide_eq_false hz]
          exact iteF (k2 (decide_eq_false hz) _ (Ex.refl _))
      intro E1 H2 hE e2 hE2
      have hrs : ((mapc (fun i => i % m) c).filter fun p => decide (p.2 > 0)).map (fun p => (p.1, p.2)) = lrs m c := by
        show List.map id _ = _
        rw [List.map_id]; rfl
      have hE2 : H2 E1 = some (.dK (cK (lrs m c))) := by rw [← hrs]; exact hE2
      have e12 := e1.trans e2
      have fewR : Few (lrs m c) := ⟨(lrs_told m0 hto).nd, by have := few.len; have h := List.length_filter_le (fun p : Str × Int => decide (p.2 > 0)) (mapc (fun i => i % m) c); unfold lrs; unfold mapc at h ⊢; rw [List.length_map] at h; omega⟩
      have hcl : (cK (lrs m c)).length = (lrs m c).length := cK_len _
      refine ⟨_, rfl, by show 1 ≤ sizeLine; decide, fun L1 hL1 => ⟨_, rfl, E1, _, rfl, (Ex.new hL1) _ _ hE2, fun L2' hL2' => ?_⟩⟩
      have f1 : Ex H2 (upd H2 L1 (.lst [.int m])) := Ex.new hL1
      have f2 : Ex H2 (upd (upd H2 L1 (.lst [.int m])) L2' (.lst ((cK (lrs m c)).map (·.2)))) := f1.mut (f1.free hL2')
      refine ⟨L1, L2', _, _, rfl, rfl, by rw [upd_ne (ne_of_none upd_same hL2'), upd_same], upd_same, ?_, fun L3 hL3 => ?_⟩
      · have := fewR.len; rw [List.length_map, hcl, sizeLine_eq]; simp only [List.length_cons, List.length_nil]; omega
      have f3 : Ex H2 (upd (upd (upd H2 L1 (.lst [.int m])) L2' (.lst ((cK (lrs m c)).map (·.2)))) L3 (.lst ([.int m] ++ (cK (lrs m c)).map (·.2)))) := f2.mut (f2.free hL3)
      refine ⟨L3, m :: vals (lrs m c), rfl, SqL.of (by rw [upd_same, vmap]; rfl), by have := fewR.len; unfold vals; simp; omega, ?_⟩
      refine ⟨_, rfl, .inl ⟨_, rfl, _, rfl, _, _, rfl, rfl, m0, by show 2 ≤ sizeLine; decide, fun tp htp => ?_⟩⟩
      have f4 := f3.mut (f3.free htp) (o := .tup [.int (gcds (m :: vals (lrs m c)) 0), .int (k % m)])
      refine ⟨tp, _, rfl, SqT.of upd_same, rfl, _, _, rfl, _, _, rfl, rfl, ?_⟩
      have hg : gcds (m :: vals (lrs m c)) 0 = gcds (m :: vals (lrs m c)) 0 := rfl
      have hgd : gcds (m :: vals (lrs m c)) 0 ∣ m := gcds_dvd _ _ _ (by simp)
      have hg0 : 0 ≤ gcds (m :: vals (lrs m c)) 0 := gcds_nn _ _ (Int.le_refl 0)
      have hg1 : 0 < gcds (m :: vals (lrs m c)) 0 := by
        rcases Int.lt_or_eq_of_le hg0 with h | h
        · exact h
        · rw [← h] at hgd; have := Int.zero_dvd.mp hgd; omega
      have hg2 : gcds (m :: vals (lrs m c)) 0 ≤ m := Int.le_of_dvd m0 hgd
      have e3 := e12.trans f4
      have hE3 := f4 _ _ hE2
      refine ⟨_, rfl, .inl ⟨_, rfl, _, rfl, _, _, rfl, rfl, hg1, _, _, rfl, rfl, _, rfl, ?_⟩⟩
      have res1 : ∀ H5 : Hp, Ex H H5 → ∀ R : V → Hp → Prop, H5 E1 = some (.dK (cK (lrs m c))) → (0 < (k % m) % gcds (m :: vals (lrs m c)) 0 ∨ lrs m c = []) → (∀ H6, Ex H H6 → Q (.bl (decide (lrs m c = []) && decide (k % m = 0))) H6) := by
        intro H5 e5 R h5 hor H6 e6
        refine qq _ _ e6 ?_
        show NewRA H _ _ (lBy m c k)
        unfold lBy; rw [if_pos hor]; rfl
      have emp : (cK (lrs m c)).isEmpty = decide (lrs m c = []) := by
        by_cases z : lrs m c = []
        · rw [z]; rfl
        · rw [cK_emp z, decide_eq_false z]
      by_cases hz : 0 < (k % m) % gcds (m :: vals (lrs m c)) 0
      · rw [decide_eq_true hz]
        refine iteT (iteT ?_)
        refine ⟨_, rfl, fun em hem => ⟨E1, em, cK (lrs m c), rfl, rfl, (Ex.new hem) _ _ hE3, upd_same, _, rfl, ?_⟩⟩
        have eR := Ex.mut e3 (Ex.free e3 hem) (o := .dK [])
        have rr := res1 _ e3 (fun _ _ => True) hE3 (.inl hz) _ eR
        rw [emp]
        by_cases z : lrs m c = []
        · rw [decide_eq_true z] at rr ⊢
          refine iteT ⟨_, rfl, rfl, ?_⟩
          rw [show decide (V.int (k % m) = V.int 0) = decide (k % m = 0) from decide_eq_decide.mpr ⟨fun z => V.int.inj z, fun z => by rw [z]⟩]
          exact rr
        · rw [decide_eq_false z] at rr ⊢
          exact iteF rr
      · rw [decide_eq_false hz]
        refine iteF ?_
        refine ⟨_, rfl, fun em0 hem0 => ⟨E1, em0, cK (lrs m c), rfl, rfl, (Ex.new hem0) _ _ hE3, upd_same, _, rfl, ?_⟩⟩
        have e4 := Ex.mut e3 (Ex.free e3 hem0) (o := .dK [])
        have hE4 := (Ex.new (o := .dK []) hem0) _ _ hE3
        rw [emp]
        by_cases hz2 : lrs m c = []
        · rw [show decide (lrs m c = []) = true from decide_eq_true hz2]
          refine iteT ?_
          refine ⟨_, rfl, fun em hem => ⟨E1, em, cK (lrs m c), rfl, rfl, (Ex.new hem) _ _ hE4, upd_same, _, rfl, ?_⟩⟩
          have eR := Ex.mut e4 (Ex.free e4 hem) (o := .dK [])
          have rr := res1 _ e4 (fun _ _ => True) hE4 (.inr hz2) _ eR
          rw [emp]
          by_cases z : lrs m c = []
          · rw [decide_eq_true z] at rr ⊢
            refine iteT ⟨_, rfl, rfl, ?_⟩
            rw [show decide (V.int (k % m) = V.int 0) = decide (k % m = 0) from decide_eq_decide.mpr ⟨fun z => V.int.inj z, fun z => by rw [z]⟩]
            exact rr
          · rw [decide_eq_false z] at rr ⊢
            exact iteF rr
        · rw [show decide (lrs m c = []) = false from decide_eq_false hz2]
          refine iteF ?_
          have cd : 0 < gcds (m :: vals (lrs m c)) 0 ∧ gcds (m :: vals (lrs m c)) 0 < 1073741824 := ⟨hg1, by omega⟩
          refine ⟨_, rfl, _, rfl, _, _, rfl, rfl, cd, ?_⟩
          dsimp only [tTup, tCons]
          refine dp_lock (fun p => p.2 / gcds (m :: vals (lrs m c)) 0) (fun _ => true) hE4 fewR (fun H2 R o r => ⟨_, rfl, r⟩) (by simp [wipe, L2.start]) (fun _ => rfl) ?_ ?_
          · intro n z H2 od R R' hm2 h2 o k1 k2
            have hmk : n ∈ keys (lrs m c) := List.mem_map.mpr ⟨(n, z), hm2, rfl⟩
            have hco : co (lrs m c) n = z := co_of_mem fewR.nd hm2
            refine yesT ⟨_, rfl, _, rfl, _, rfl, E1, _, rfl, .inl ⟨cK (lrs m c), .inr n, .inr ⟨od, h2⟩, rfl, (valV_co hmk fewR.nd).symm⟩, _, rfl, _, _, rfl, rfl, cd, by show 2 ≤ sizeLine; decide, fun r hr => ?_⟩
            rw [hco]
            exact k1 rfl r _ hr (Ex.new hr) upd_same
          · intro G H6 hG eF hG2
            rw [filt_all] at hG2
            have e5 := Ex.trans e4 eF
            refine ⟨_, rfl, _, rfl, _, _, rfl, rfl, cd, by show 2 ≤ sizeLine; decide, fun t ht => ⟨by show 3 ≤ sizeLine; decide, fun r hr => ?_⟩⟩
            have hG0 : H G = none := Ex.free e4 hG
            have ht0 : H t = none := e5.free ht
            have e6 := e5.mut ht0 (o := .tup [.ref G, .int (k % m / gcds (m :: vals (lrs m c)) 0)])
            have hr0 : H r = none := e6.free hr
            have ntG : G ≠ t := ne_of_none hG2 ht
            refine qq (.ref r) _ (e6.mut hr0) ?_
            show NewRA H _ _ (lBy m c k)
            unfold lBy
            rw [if_neg (show ¬ (k % m % gcds (m :: vals (lrs m c)) 0 > 0 ∨ lrs m c = []) from fun z => z.elim hz hz2)]
            refine ⟨r, t, G, rfl, hr0, ht0, hG0, upd_same, ?_, ?_⟩
            · rw [upd_ne (ne_of_none upd_same hr), upd_same]
            · rw [upd_ne (ne_of_none (show upd H6 t _ G = _ by rw [upd_ne ntG]; exact hG2) hr), upd_ne ntG]; exact hG2
end
end K8

set_option Elab.async false
set_option linter.all false
set_option maxRecDepth 100000
set_option maxHeartbeats 4000000
namespace K8
open PySem PySem.Spec PyProof.Rows L2 M8
/-! sums do not mind the order -/
theorem sum_perm {l m : List Int} (h : l.Perm m) : l.sum = m.sum := by
  induction h with
  | nil => rfl
  | cons x _ ih => rw [List.sum_cons, List.sum_cons, ih]
  | swap x y l => rw [List.sum_cons, List.sum_cons, List.sum_cons, List.sum_cons]; omega
  | trans _ _ a b => rw [a, b]
def lin (c : Coef) (cn : Coef) : Int := (c.map fun p => p.2 * co cn p.1).sum
theorem worth_lin (c : Coef) (k : Int) (cn : Coef) : worth c k cn = k + lin c cn := by
  unfold worth lin
  congr 1
  induction c with
  | nil => rfl
  | cons p c ih =>
    by_cases h : p.2 = 0
    · rw [List.filter_cons, if_neg (by simpa using h), List.map_cons, List.sum_cons, ih, h]; simp
    · rw [List.filter_cons, if_pos (by simpa using h), List.map_cons, List.map_cons, List.sum_cons, List.sum_cons, ih]
theorem canon_perm {c : Coef} (h : (keys c).Nodup) : (canon c).Perm (c.filter fun p => decide (p.2 ≠ 0)) := by
  have e : (c.filter fun p => decide (p.2 ≠ 0)) = ((c.filter fun p => decide (p.2 ≠ 0)).map (·.1)).map fun n => (n, co c n) := by
    rw [List.map_map]
    conv => lhs; rw [← List.map_id (c.filter fun p => decide (p.2 ≠ 0))]
    refine List.map_congr_left fun p hp => ?_
    have hm := (List.mem_filter.mp hp).1
    show p = (p.1, co c p.1)
    rw [co_of_mem (n := p.1) (i := p.2) h hm]
  rw [e]
  unfold canon nz
  exact (srt_perm _).map _
theorem lin_canon {c : Coef} (h : (keys c).Nodup) (cn : Coef) : lin (canon c) cn = lin c cn := by
  have h1 : lin (canon c) cn = ((c.filter fun p => decide (p.2 ≠ 0)).map fun p => p.2 * co cn p.1).sum := sum_perm ((canon_perm h).map _)
  rw [h1]
  have := worth_lin c 0 cn
  unfold worth at this
  omega
theorem so_canon {ts : Tst} (h : (keys (coef ts)).Nodup) (cn : Coef) : so cn (canonT ts) = so cn ts := by
  cases ts with
  | row c k => show decide (0 ≤ worth (canon c) k cn) = decide (0 ≤ worth c k cn); rw [worth_lin, worth_lin, lin_canon (c := c) h]
  | same c k => show decide (worth (canon c) k cn = 0) = decide (worth c k cn = 0); rw [worth_lin, worth_lin, lin_canon (c := c) h]
  | div m c k => show decide (worth (canon c) k cn % m = 0) = decide (worth c k cn % m = 0); rw [worth_lin, worth_lin, lin_canon (c := c) h]
theorem lin_mul (g : Int) (c cn : Coef) : lin (mapc (fun i => g * i) c) cn = g * lin c cn := by
  unfold lin mapc
  induction c with
  | nil => simp
  | cons p c ih =>
    simp only [List.map_cons, List.sum_cons] at ih ⊢
    rw [ih, Int.mul_add, Int.mul_assoc]
/-- divided by what divides all -/
theorem lin_fdiv {g : Int} {c : Coef} (h : ∀ p ∈ c, g ∣ p.2) (hg : g ≠ 0) (cn : Coef) : lin c cn = g * lin (mapc (fun i => i.fdiv g) c) cn := by
  rw [← lin_mul]
  congr 1
  unfold mapc
  rw [List.map_map]
  conv => lhs; rw [← List.map_id c]
  refine List.map_congr_left fun p hp => ?_
  obtain ⟨q, hq⟩ := h p hp
  show p = (p.1, g * p.2.fdiv g)
  rw [hq, Int.mul_fdiv_cancel_left _ hg, ← hq]
/-- a row's sum divided -/
theorem row_div {g k x : Int} (hg : 0 < g) : 0 ≤ k.fdiv g + x ↔ 0 ≤ k + g * x := by
  rw [Int.fdiv_eq_ediv_of_nonneg _ (Int.le_of_lt hg)]
  constructor
  · intro h
    have h1 : g * (k / g) ≤ k := Int.mul_ediv_self_le (by omega)
    have h2 : 0 ≤ g * (k / g + x) := Int.mul_nonneg (by omega) h
    rw [Int.mul_add] at h2
    omega
  · intro h
    refine Decidable.byContradiction fun hn => ?_
    have h1 : k / g + x ≤ -1 := by omega
    have h2 : k < g * (k / g + 1) := by
      have := Int.lt_mul_ediv_self_add (x := k) hg
      rw [Int.mul_add, Int.mul_one]; exact this
    have h3 : g * (k / g + 1 + x) ≤ g * 0 := Int.mul_le_mul_of_nonneg_left (by omega) (by omega)
    rw [Int.mul_add] at h3
    omega
theorem gcds_all (c : Coef) : ∀ p ∈ c, gcds (vals c) 0 ∣ p.2 := fun p hp => gcds_dvd _ _ _ (List.mem_map.mpr ⟨p, hp, rfl⟩)
theorem sgnd_all (c : Coef) : ∀ p ∈ c, sgnd c ∣ p.2 := fun p hp => by
  have := gcds_all c p hp
  unfold sgnd
  split
  · rw [Int.zero_sub]; exact Int.neg_dvd.mpr this
  · exact this
theorem gcds_pos {c : Coef} (t : Told c) (h : c ≠ []) : 0 < gcds (vals c) 0 := by
  have e := dvs_told 0 t
  have h0 : dvs 0 c ≠ 0 := fun z => h (by have := (dvs_zero t.nd).mp z; rwa [t.canon_eq] at this)
  rw [← e]; exact dvs_pos t.nd h0
theorem sgnd_ne {c : Coef} (t : Told c) (h : c ≠ []) : sgnd c ≠ 0 := by
  have := gcds_pos t h
  unfold sgnd; split <;> omega
/-- what is told of a test: its truth, or a test that is so at the same numbers -/
def soR (cn : Coef) : Res → Bool | .inl b => b | .inr t => so cn t
theorem truth_row {c : Coef} (t : Told c) (k : Int) (cn : Coef) : soR cn (lRow c k) = so cn (.row c k) := by
  unfold lRow
  by_cases h : c = []
  · rw [if_pos h, h]
    show decide (0 ≤ k) = decide (0 ≤ worth [] k cn)
    rw [worth_lin]; show decide (0 ≤ k) = decide (0 ≤ k + 0); rw [Int.add_zero]
  · rw [if_neg h]
    show decide (0 ≤ worth _ _ cn) = decide (0 ≤ worth c k cn)
    have hg := gcds_pos t h
    rw [worth_lin, worth_lin, lin_fdiv (c := c) (gcds_all c) (by omega) cn]
    exact decide_eq_decide.mpr (row_div hg)
theorem truth_same {c : Coef} (t : Told c) (k : Int) (cn : Coef) : soR cn (lSame c k) = so cn (.same c k) := by
  unfold lSame
  by_cases h : c = []
  · rw [if_pos h, h]
    show decide (k = 0) = decide (worth [] k cn = 0)
    rw [worth_lin]; show decide (k = 0) = decide (k + 0 = 0); rw [Int.add_zero]
  · rw [if_neg h]
    have hg := gcds_pos t h
    by_cases hk : k % gcds (vals c) 0 > 0
    · rw [if_pos hk]
      show false = decide (worth c k cn = 0)
      rw [decide_eq_false]
      intro hw
      rw [worth_lin, lin_fdiv (c := c) (gcds_all c) (by omega) cn] at hw
      have : k = gcds (vals c) 0 * (- lin (mapc (fun i => i.fdiv (gcds (vals c) 0)) c) cn) := by rw [Int.mul_neg]; omega
      rw [this, Int.mul_emod_right] at hk
      omega
    · rw [if_neg hk]
      show decide (worth _ _ cn = 0) = decide (worth c k cn = 0)
      have hs := sgnd_ne t h
      have hd : sgnd c ∣ k := by
        have : gcds (vals c) 0 ∣ k := Int.dvd_of_emod_eq_zero (by have := Int.emod_nonneg k (show gcds (vals c) 0 ≠ 0 by omega); omega)
        unfold sgnd
        split
        · rw [Int.zero_sub]; exact Int.neg_dvd.mpr this
        · exact this
      obtain ⟨q, hq⟩ := hd
      rw [worth_lin, worth_lin, lin_fdiv (c := c) (sgnd_all c) hs cn, hq, Int.mul_fdiv_cancel_left _ hs, ← Int.mul_add]
      refine decide_eq_decide.mpr ⟨fun z => by rw [z, Int.mul_zero], fun z => ?_⟩
      rcases Int.mul_eq_zero.mp z with z | z
      · exact absurd z hs
      · exact z
theorem lin_mod {m : Int} (c cn : Coef) : ∃ z, lin c cn = lin (mapc (fun i => i % m) c) cn + m * z := by
  unfold lin mapc
  induction c with
  | nil => exact ⟨0, by simp⟩
  | cons p c ih =>
    obtain ⟨z, hz⟩ := ih
    simp only [List.map_cons, List.sum_cons] at hz ⊢
    refine ⟨z + (p.2 / m) * co cn p.1, ?_⟩
    rw [hz]
    have := Int.emod_add_mul_ediv p.2 m
    have h2 : p.2 * co cn p.1 = (p.2 % m) * co cn p.1 + m * (p.2 / m * co cn p.1) := by
      conv => lhs; rw [← this]
      rw [Int.add_mul, Int.mul_assoc]
    rw [h2, Int.mul_add]; omega
theorem lin_filter {c cn : Coef} (h : ∀ p ∈ c, 0 ≤ p.2) : lin (c.filter fun p => decide (p.2 > 0)) cn = lin c cn := by
  unfold lin
  induction c with
  | nil => rfl
  | cons p c ih =>
    have ih := ih fun q hq => h q (by simp [hq])
    by_cases hp : p.2 > 0
    · rw [List.filter_cons, if_pos (by simpa using hp), List.map_cons, List.map_cons, List.sum_cons, List.sum_cons, ih]
    · have : p.2 = 0 := by have := h p (by simp); omega
      rw [List.filter_cons, if_neg (by simpa using hp), List.map_cons, List.sum_cons, ih, this]; simp
theorem lin_ediv {g : Int} {c : Coef} (h : ∀ p ∈ c, g ∣ p.2) (hg : g ≠ 0) (cn : Coef) : lin c cn = g * lin (mapc (fun i => i / g) c) cn := by
  rw [← lin_mul]
  congr 1
  unfold mapc
  rw [List.map_map]
  conv => lhs; rw [← List.map_id c]
  refine List.map_congr_left fun p hp => ?_
  obtain ⟨q, hq⟩ := h p hp
  show p = (p.1, g * (p.2 / g))
  rw [hq, Int.mul_ediv_cancel_left _ hg, ← hq]
theorem truth_by {m : Int} {c : Coef} (hm : 0 < m) (t : Told c) (k : Int) (cn : Coef) : soR cn (lBy m c k) = so cn (.div m c k) := by
  have hX : ∃ z, worth c k cn = (k % m + lin (lrs m c) cn) + m * z := by
    obtain ⟨z, hz⟩ := lin_mod (m := m) c cn
    have e : lin (lrs m c) cn = lin (mapc (fun i => i % m) c) cn := lin_filter fun p hp => by
      unfold mapc at hp
      obtain ⟨q, _, rfl⟩ := List.mem_map.mp hp
      exact Int.emod_nonneg _ (by omega)
    refine ⟨z + k / m, ?_⟩
    rw [worth_lin, hz, e, Int.mul_add]
    have := Int.emod_add_mul_ediv k m
    omega
  obtain ⟨z, hz⟩ := hX
  have hso : so cn (.div m c k) = decide ((k % m + lin (lrs m c) cn) % m = 0) := by
    show decide (worth c k cn % m = 0) = _
    rw [hz, Int.add_mul_emod_self_left]
  rw [hso]
  unfold lBy
  by_cases he : lrs m c = []
  · rw [if_pos (.inr he), he]
    show (decide (([] : Coef) = []) && decide (k % m = 0)) = decide ((k % m + 0) % m = 0)
    rw [Int.add_zero, Int.emod_emod_of_dvd k (Int.dvd_refl m)]; rfl
  · have hgd : gcds (m :: vals (lrs m c)) 0 ∣ m := gcds_dvd _ _ _ (by simp)
    have hg0 : 0 ≤ gcds (m :: vals (lrs m c)) 0 := gcds_nn _ _ (Int.le_refl 0)
    have hall : ∀ p ∈ lrs m c, gcds (m :: vals (lrs m c)) 0 ∣ p.2 := fun p hp => gcds_dvd _ _ _ (List.mem_cons_of_mem _ (List.mem_map.mpr ⟨p, hp, rfl⟩))
    generalize gcds (m :: vals (lrs m c)) 0 = g at hgd hg0 hall
    have hg : 0 < g := by
      rcases Int.lt_or_eq_of_le hg0 with h | h
      · exact h
      · rw [← h] at hgd; have := Int.zero_dvd.mp hgd; omega
    obtain ⟨M, hM⟩ := hgd
    have hXg := lin_ediv hall (by omega) cn
    by_cases hk : (k % m) % g > 0
    · rw [if_pos (.inl hk), decide_eq_false he]
      show false = _
      rw [decide_eq_false]
      intro h
      have hd : m ∣ k % m + lin (lrs m c) cn := Int.dvd_of_emod_eq_zero h
      have hd2 : g ∣ k % m + g * lin (mapc (fun i => i / g) (lrs m c)) cn := by rw [← hXg]; exact Int.dvd_trans ⟨M, hM⟩ hd
      have hd3 : g ∣ k % m := (Int.dvd_add_left (Int.dvd_mul_right _ _)).mp hd2
      have := Int.emod_eq_zero_of_dvd hd3
      omega
    · rw [if_neg (show ¬ (k % m % g > 0 ∨ lrs m c = []) from fun z => z.elim hk he)]
      show decide (worth _ _ cn % _ = 0) = _
      have hkd : g ∣ k % m := Int.dvd_of_emod_eq_zero (by have := Int.emod_nonneg (k % m) (show g ≠ 0 by omega); omega)
      obtain ⟨r, hr⟩ := hkd
      have hMd : m / g = M := by rw [hM, Int.mul_ediv_cancel_left _ (by omega)]
      rw [worth_lin, hXg, hr, Int.mul_ediv_cancel_left _ (show g ≠ 0 by omega), hMd, ← Int.mul_add]
      have e2 : ∀ X : Int, (g * X) % m = g * (X % M) := fun X => by rw [hM, Int.mul_emod_mul_of_pos _ _ hg]
      rw [e2]
      refine decide_eq_decide.mpr ⟨fun z => by rw [z, Int.mul_zero], fun z => ?_⟩
      rcases Int.mul_eq_zero.mp z with z | z
      · omega
      · exact z
theorem truth {ts : Tst} (hm : mOk ts) (t : Told (coef ts)) (cn : Coef) : soR cn (lTi ts) = so cn ts := by
  cases ts with
  | row c k => exact truth_row t k cn
  | same c k => exact truth_same t k cn
  | div m c k => exact truth_by hm.1 t k cn
/-! tight again it stays -/
theorem gcds_one {l : List Int} {g : Int} (hg : 0 < g) (he : gcds l 0 = g) {f : Int → Int} (hf : ∀ x ∈ l, x = g * f x) : gcds (l.map f) 0 = 1 := by
  have h0 := gcds_nn (l.map f) 0 (Int.le_refl 0)
  have hd : g * gcds (l.map f) 0 ∣ g := by
    conv => rhs; rw [← he]
    refine dvd_gcds l 0 (Int.dvd_zero _) fun x hx => ?_
    rw [hf x hx]
    exact Int.mul_dvd_mul_left g (gcds_dvd _ _ _ (List.mem_map.mpr ⟨x, hx, rfl⟩))
  have h1 : gcds (l.map f) 0 ∣ 1 := by
    have : g * gcds (l.map f) 0 ∣ g * 1 := by rw [Int.mul_one]; exact hd
    exact Int.dvd_of_mul_dvd_mul_left (by omega) this
  have h2 := Int.le_of_dvd (by decide) h1
  have h3 : gcds (l.map f) 0 ≠ 0 := fun z => by rw [z] at h1; have := Int.zero_dvd.mp h1; omega
  omega
theorem vals_mapc (f : Int → Int) (c : Coef) : vals (mapc f c) = (vals c).map f := by unfold vals mapc; rw [List.map_map, List.map_map]; rfl
theorem mapc_one {c : Coef} {f : Int → Int} (h : ∀ i, f i = i) : mapc f c = c := by
  unfold mapc
  conv => rhs; rw [← List.map_id c]
  exact List.map_congr_left fun p _ => by rw [h]; rfl
theorem fdiv_one (i : Int) : i.fdiv 1 = i := by rw [Int.fdiv_eq_ediv_of_nonneg _ (by decide), Int.ediv_one]
theorem still_row {c : Coef} (t : Told c) {k : Int} {ts : Tst} (h : lRow c k = .inr ts) : lTi ts = .inr ts := by
  unfold lRow at h
  by_cases hc : c = []
  · rw [if_pos hc] at h; cases h
  · rw [if_neg hc] at h
    have hg := gcds_pos t hc
    injection h with h
    subst h
    have g1 : gcds (vals (mapc (fun i => i.fdiv (gcds (vals c) 0)) c)) 0 = 1 := by
      rw [vals_mapc]
      refine gcds_one hg rfl fun x hx => ?_
      obtain ⟨q, hq⟩ := gcds_dvd (vals c) 0 x hx
      rw [hq, Int.mul_fdiv_cancel_left _ (by omega), ← hq]
    show lRow _ _ = _
    unfold lRow
    rw [if_neg (fun z => hc (by unfold mapc at z; exact List.map_eq_nil_iff.mp z)), g1, mapc_one fdiv_one, fdiv_one]
end K8

set_option Elab.async false
set_option linter.all false
set_option maxRecDepth 100000
set_option maxHeartbeats 4000000
namespace K8
open PySem PySem.Spec PyProof.Rows L2 M8
theorem gcds_one2 {l : List Int} {g : Int} (hg : 0 < g) (he : gcds l 0 = g) {f : Int → Int} (hf : ∀ x ∈ l, x = g * f x ∨ x = g * (- f x)) : gcds (l.map f) 0 = 1 := by
  have h0 := gcds_nn (l.map f) 0 (Int.le_refl 0)
  have hd : g * gcds (l.map f) 0 ∣ g := by
    conv => rhs; rw [← he]
    refine dvd_gcds l 0 (Int.dvd_zero _) fun x hx => ?_
    have h1 : gcds (l.map f) 0 ∣ f x := gcds_dvd _ _ _ (List.mem_map.mpr ⟨x, hx, rfl⟩)
    rcases hf x hx with e | e
    · rw [e]; exact Int.mul_dvd_mul_left g h1
    · rw [e]; exact Int.mul_dvd_mul_left g (Int.dvd_neg.mpr h1)
  have h1 : gcds (l.map f) 0 ∣ 1 := by
    have : g * gcds (l.map f) 0 ∣ g * 1 := by rw [Int.mul_one]; exact hd
    exact Int.dvd_of_mul_dvd_mul_left (by omega) this
  have h2 := Int.le_of_dvd (by decide) h1
  have h3 : gcds (l.map f) 0 ≠ 0 := fun z => by rw [z] at h1; have := Int.zero_dvd.mp h1; omega
  omega
theorem pos_of_mul {s q z : Int} (h : z = s * q) (hp : 0 < s ∧ 0 < z ∨ s < 0 ∧ z < 0) : 0 < q := by
  refine Decidable.byContradiction fun hn => ?_
  have hq : q ≤ 0 := by omega
  rcases hp with ⟨h1, h2⟩ | ⟨h1, h2⟩
  · have := Int.mul_nonpos_of_nonneg_of_nonpos (Int.le_of_lt h1) hq
    omega
  · have := Int.mul_nonneg_of_nonpos_of_nonpos (Int.le_of_lt h1) hq
    omega
theorem sgnd1 {d : Coef} (h1 : gcds (vals d) 0 = 1) (h2 : ¬ ((vals d).headD 0 < 0)) : sgnd d = 1 := by unfold sgnd; rw [h1, if_neg h2]
theorem still_same {c : Coef} (t : Told c) {k : Int} {ts : Tst} (h : lSame c k = .inr ts) : lTi ts = .inr ts := by
  unfold lSame at h
  by_cases hc : c = []
  · rw [if_pos hc] at h; cases h
  · rw [if_neg hc] at h
    have hg := gcds_pos t hc
    by_cases hk : k % gcds (vals c) 0 > 0
    · rw [if_pos hk] at h; cases h
    · rw [if_neg hk] at h
      injection h with h
      subst h
      have hs := sgnd_ne t hc
      have hsg : sgnd c = gcds (vals c) 0 ∨ sgnd c = - gcds (vals c) 0 := by unfold sgnd; split <;> omega
      have g1 : gcds (vals (mapc (fun i => i.fdiv (sgnd c)) c)) 0 = 1 := by
        rw [vals_mapc]
        refine gcds_one2 hg rfl fun x hx => ?_
        have hd : sgnd c ∣ x := by
          obtain ⟨p, hp, rfl⟩ := List.mem_map.mp hx
          exact sgnd_all c p hp
        obtain ⟨q, hq⟩ := hd
        have e : x.fdiv (sgnd c) = q := by rw [hq, Int.mul_fdiv_cancel_left _ hs]
        rw [e]
        rcases hsg with z | z
        · left; rw [← z]; exact hq
        · right; rw [Int.mul_neg, ← Int.neg_mul, ← z]; exact hq
      have hne : mapc (fun i => i.fdiv (sgnd c)) c ≠ [] := fun z => hc (by unfold mapc at z; exact List.map_eq_nil_iff.mp z)
      have s1 : sgnd (mapc (fun i => i.fdiv (sgnd c)) c) = 1 := by
        refine sgnd1 g1 ?_
        rw [vals_mapc]
        cases c with
        | nil => exact absurd rfl hc
        | cons p c0 =>
          have hd := sgnd_all (p :: c0) p (by simp)
          obtain ⟨q, hq⟩ := hd
          have hz : p.2 ≠ 0 := t.nz p (by simp)
          show ¬ (p.2.fdiv (sgnd (p :: c0)) < 0)
          have e : p.2.fdiv (sgnd (p :: c0)) = q := by
            conv => lhs; rw [hq]
            rw [Int.mul_fdiv_cancel_left _ hs]
          rw [e]
          have := pos_of_mul hq (by
            unfold sgnd
            rw [show (vals (p :: c0)).headD 0 = p.2 from rfl]
            by_cases hp : p.2 < 0
            · rw [if_pos hp]; right; omega
            · rw [if_neg hp]; left; omega)
          omega
      show lSame _ _ = _
      unfold lSame
      rw [if_neg hne, g1, if_neg (by rw [Int.emod_one]; omega), s1, mapc_one fdiv_one, fdiv_one]
theorem lrs_pos {m : Int} (hm : 0 < m) (c : Coef) : ∀ p ∈ lrs m c, 0 < p.2 ∧ p.2 < m := fun p hp => by
  have h1 := (List.mem_filter.mp hp).2
  have h2 := (List.mem_filter.mp hp).1
  unfold mapc at h2
  obtain ⟨q, _, rfl⟩ := List.mem_map.mp h2
  have := Int.emod_lt_of_pos q.2 hm
  simp at h1
  exact ⟨h1, this⟩
theorem still_by {m : Int} {c : Coef} (hm : 0 < m) {k : Int} {ts : Tst} (h : lBy m c k = .inr ts) : lTi ts = .inr ts := by
  unfold lBy at h
  by_cases hc : k % m % gcds (m :: vals (lrs m c)) 0 > 0 ∨ lrs m c = []
  · rw [if_pos hc] at h; cases h
  · rw [if_neg hc] at h
    injection h with h
    have hne : lrs m c ≠ [] := fun z => hc (.inr z)
    have hk : ¬ (k % m % gcds (m :: vals (lrs m c)) 0 > 0) := fun z => hc (.inl z)
    have hgd : gcds (m :: vals (lrs m c)) 0 ∣ m := gcds_dvd _ _ _ (by simp)
    have hg0 : 0 ≤ gcds (m :: vals (lrs m c)) 0 := gcds_nn _ _ (Int.le_refl 0)
    have hall : ∀ x ∈ m :: vals (lrs m c), gcds (m :: vals (lrs m c)) 0 ∣ x := fun x hx => gcds_dvd _ _ _ hx
    have hge : gcds (m :: vals (lrs m c)) 0 = gcds (m :: vals (lrs m c)) 0 := rfl
    generalize hgg : gcds (m :: vals (lrs m c)) 0 = g at h hk hgd hg0 hall
    have hg : 0 < g := by
      rcases Int.lt_or_eq_of_le hg0 with h | h
      · exact h
      · rw [← h] at hgd; have := Int.zero_dvd.mp hgd; omega
    subst h
    have hdiv : ∀ x ∈ m :: vals (lrs m c), x = g * (x / g) := fun x hx => by
      obtain ⟨q, hq⟩ := hall x hx
      rw [hq, Int.mul_ediv_cancel_left _ (by omega)]
    have hM := hdiv m (by simp)
    have hM0 : 0 < m / g := pos_of_mul hM (.inl ⟨hg, hm⟩)
    have vlt : ∀ p ∈ lrs m c, 0 < p.2 / g ∧ p.2 / g < m / g := fun p hp => by
      obtain ⟨h1, h2⟩ := lrs_pos hm c p hp
      have e := hdiv p.2 (List.mem_cons_of_mem _ (List.mem_map.mpr ⟨p, hp, rfl⟩))
      refine ⟨pos_of_mul e (.inl ⟨hg, h1⟩), Decidable.byContradiction fun hn => ?_⟩
      have h3 : g * (m / g) ≤ g * (p.2 / g) := Int.mul_le_mul_of_nonneg_left (by omega) (by omega)
      omega
    have hl : lrs (m / g) (mapc (fun i => i / g) (lrs m c)) = mapc (fun i => i / g) (lrs m c) := by
      unfold lrs
      rw [List.filter_eq_self.mpr]
      · show mapc (fun i => i % (m / g)) (mapc (fun i => i / g) (lrs m c)) = mapc (fun i => i / g) (lrs m c)
        unfold mapc
        rw [List.map_map]
        refine List.map_congr_left fun p hp => ?_
        obtain ⟨h1, h2⟩ := vlt p hp
        show (p.1, p.2 / g % (m / g)) = (p.1, p.2 / g)
        rw [Int.emod_eq_of_lt (by omega) h2]
      · intro p hp
        obtain ⟨q, hq, rfl⟩ := List.mem_map.mp hp
        obtain ⟨q2, hq2, rfl⟩ := List.mem_map.mp hq
        obtain ⟨h1, h2⟩ := vlt q2 hq2
        simp only [decide_eq_true_eq]
        show q2.2 / g % (m / g) > 0
        rw [Int.emod_eq_of_lt (by omega) h2]; exact h1
    have hne2 : mapc (fun i => i / g) (lrs m c) ≠ [] := fun z => hne (by unfold mapc at z; exact List.map_eq_nil_iff.mp z)
    have g1 : gcds ((m / g) :: vals (mapc (fun i => i / g) (lrs m c))) 0 = 1 := by
      rw [vals_mapc]
      have := gcds_one (l := m :: vals (lrs m c)) hg hgg (f := fun i => i / g) hdiv
      exact this
    have hk2 : k % m = g * (k % m / g) := by
      have : g ∣ k % m := Int.dvd_of_emod_eq_zero (by have := Int.emod_nonneg (k % m) (show g ≠ 0 by omega); omega)
      obtain ⟨q, hq⟩ := this
      rw [hq, Int.mul_ediv_cancel_left _ (by omega)]
    have hkm := Int.emod_nonneg k (show m ≠ 0 by omega)
    have hkl := Int.emod_lt_of_pos k hm
    have hr0 : 0 ≤ k % m / g := Int.ediv_nonneg hkm (by omega)
    have hr1 : k % m / g < m / g := Decidable.byContradiction fun hn => by
      have h3 : g * (m / g) ≤ g * (k % m / g) := Int.mul_le_mul_of_nonneg_left (by omega) (by omega)
      omega
    show lBy _ _ _ = _
    unfold lBy
    rw [hl, g1, Int.emod_eq_of_lt hr0 hr1, if_neg (show ¬ (k % m / g % 1 > 0 ∨ mapc (fun i => i / g) (lrs m c) = []) from fun z => z.elim (fun z => by rw [Int.emod_one] at z; omega) hne2), Int.ediv_one, Int.ediv_one, mapc_one Int.ediv_one]
theorem still {ts t : Tst} (hm : mOk ts) (ht : Told (coef ts)) (h : lTi ts = .inr t) : lTi t = .inr t := by
  cases ts with
  | row c k => exact still_row ht h
  | same c k => exact still_same ht h
  | div m c k => exact still_by hm.1 h
/-! what is told is of the program's kind too -/
theorem natAbs_dvd_le {g i q : Int} (h : i = g * q) (hg : g ≠ 0) : q.natAbs ≤ i.natAbs := by
  rw [h, Int.natAbs_mul]
  have : 1 ≤ g.natAbs := Int.natAbs_pos.mpr hg
  exact Nat.le_mul_of_pos_left _ this
theorem good_mapc {c : Coef} (h : Good c) {f : Int → Int} (hf : ∀ p ∈ c, (f p.2).natAbs ≤ p.2.natAbs) : Good (mapc f c) := by
  refine ⟨h.few.mapc f, fun p hp => ?_, by rw [keys_mapc]; exact h.nm⟩
  unfold mapc at hp
  obtain ⟨q, hq, rfl⟩ := List.mem_map.mp hp
  exact Nat.le_trans (hf q hq) (h.lim q hq)
theorem good_lrs {m : Int} {c : Coef} (hm : 0 < m) (hm2 : m ≤ 1000) (h : Good c) : Good (lrs m c) := by
  have sub : (lrs m c).Sublist (mapc (fun i => i % m) c) := List.filter_sublist
  have ks : (keys (lrs m c)).Sublist (keys c) := by
    have := sub.map (·.1)
    rw [show (mapc (fun i => i % m) c).map (·.1) = keys c from keys_mapc _ _] at this
    exact this
  refine ⟨⟨h.few.nd.sublist ks, ?_⟩, fun p hp => ?_, fun n hn => h.nm n (ks.subset hn)⟩
  · have := sub.length_le
    have e : (mapc (fun i => i % m) c).length = c.length := by unfold mapc; rw [List.length_map]
    have := h.few.len; omega
  · have := lrs_pos hm c p hp; omega
theorem res_good {ts t : Tst} (hg : Good (coef ts)) (hm : mOk ts) (ht : Told (coef ts)) (h : lTi ts = .inr t) : Good (coef t) ∧ Told (coef t) ∧ mOk t ∧ ∀ n ∈ keys (coef t), n ∈ keys (coef ts) := by
  cases ts with
  | row c k =>
    change Good c at hg; change Told c at ht
    change lRow c k = _ at h
    unfold lRow at h
    by_cases hc : c = []
    · rw [if_pos hc] at h; cases h
    · rw [if_neg hc] at h
      injection h with h
      subst h
      have hgp := gcds_pos ht hc
      have hq : ∀ p ∈ c, ∃ q, p.2 = gcds (vals c) 0 * q ∧ p.2.fdiv (gcds (vals c) 0) = q := fun p hp => by
        obtain ⟨q, hq⟩ := gcds_all c p hp
        exact ⟨q, hq, by rw [hq, Int.mul_fdiv_cancel_left _ (by omega)]⟩
      show Good (mapc (fun i => i.fdiv (gcds (vals c) 0)) c) ∧ Told (mapc (fun i => i.fdiv (gcds (vals c) 0)) c) ∧ True ∧ ∀ n ∈ keys (mapc (fun i => i.fdiv (gcds (vals c) 0)) c), n ∈ keys c
      refine ⟨good_mapc hg fun p hp => ?_, told_mapc ht fun p hp z => ?_, trivial, fun n hn => by rw [keys_mapc] at hn; exact hn⟩
      · obtain ⟨q, h1, h2⟩ := hq p hp
        rw [h2]; exact natAbs_dvd_le h1 (by omega)
      · obtain ⟨q, h1, h2⟩ := hq p hp
        rw [h2] at z
        rw [z, Int.mul_zero] at h1
        exact ht.nz p hp h1
  | same c k =>
    change Good c at hg; change Told c at ht
    change lSame c k = _ at h
    unfold lSame at h
    by_cases hc : c = []
    · rw [if_pos hc] at h; cases h
    · rw [if_neg hc] at h
      by_cases hk : k % gcds (vals c) 0 > 0
      · rw [if_pos hk] at h; cases h
      · rw [if_neg hk] at h
        injection h with h
        subst h
        have hs := sgnd_ne ht hc
        have hq : ∀ p ∈ c, ∃ q, p.2 = sgnd c * q ∧ p.2.fdiv (sgnd c) = q := fun p hp => by
          obtain ⟨q, hq⟩ := sgnd_all c p hp
          exact ⟨q, hq, by rw [hq, Int.mul_fdiv_cancel_left _ hs]⟩
        show Good (mapc (fun i => i.fdiv (sgnd c)) c) ∧ Told (mapc (fun i => i.fdiv (sgnd c)) c) ∧ True ∧ ∀ n ∈ keys (mapc (fun i => i.fdiv (sgnd c)) c), n ∈ keys c
        refine ⟨good_mapc hg fun p hp => ?_, told_mapc ht fun p hp z => ?_, trivial, fun n hn => by rw [keys_mapc] at hn; exact hn⟩
        · obtain ⟨q, h1, h2⟩ := hq p hp
          rw [h2]; exact natAbs_dvd_le h1 hs
        · obtain ⟨q, h1, h2⟩ := hq p hp
          rw [h2] at z
          rw [z, Int.mul_zero] at h1
          exact ht.nz p hp h1
  | div m c k =>
    change Good c at hg; change Told c at ht
    obtain ⟨hm0, hm1⟩ := hm
    change lBy m c k = _ at h
    unfold lBy at h
    by_cases hc : k % m % gcds (m :: vals (lrs m c)) 0 > 0 ∨ lrs m c = []
    · rw [if_pos hc] at h; cases h
    · rw [if_neg hc] at h
      injection h with h
      have hall : ∀ x ∈ m :: vals (lrs m c), gcds (m :: vals (lrs m c)) 0 ∣ x := fun x hx => gcds_dvd _ _ _ hx
      have hg0 : 0 ≤ gcds (m :: vals (lrs m c)) 0 := gcds_nn _ _ (Int.le_refl 0)
      generalize gcds (m :: vals (lrs m c)) 0 = g at h hall hg0
      have hgd := hall m (by simp)
      have hgp : 0 < g := by
        rcases Int.lt_or_eq_of_le hg0 with h | h
        · exact h
        · rw [← h] at hgd; have := Int.zero_dvd.mp hgd; omega
      subst h
      have hq : ∀ p ∈ lrs m c, ∃ q, p.2 = g * q ∧ p.2 / g = q := fun p hp => by
        obtain ⟨q, hq⟩ := hall p.2 (List.mem_cons_of_mem _ (List.mem_map.mpr ⟨p, hp, rfl⟩))
        exact ⟨q, hq, by rw [hq, Int.mul_ediv_cancel_left _ (by omega)]⟩
      have htl := lrs_told hm0 ht
      obtain ⟨M, hM⟩ := hgd
      have hMd : m / g = M := by rw [hM, Int.mul_ediv_cancel_left _ (by omega)]
      have hMp : 0 < M := pos_of_mul hM (.inl ⟨hgp, hm0⟩)
      have hMl : M ≤ m := by
        have := natAbs_dvd_le hM (by omega)
        omega
      show Good (mapc (fun i => i / g) (lrs m c)) ∧ Told (mapc (fun i => i / g) (lrs m c)) ∧ (0 < m / g ∧ m / g ≤ 1000) ∧ ∀ n ∈ keys (mapc (fun i => i / g) (lrs m c)), n ∈ keys c
      refine ⟨good_mapc (good_lrs hm0 hm1 hg) fun p hp => ?_, told_mapc htl fun p hp z => ?_, ⟨by rw [hMd]; exact hMp, by rw [hMd]; omega⟩, fun n hn => ?_⟩
      · obtain ⟨q, h1, h2⟩ := hq p hp
        rw [h2]; exact natAbs_dvd_le h1 (by omega)
      · obtain ⟨q, h1, h2⟩ := hq p hp
        rw [h2] at z
        rw [z, Int.mul_zero] at h1
        exact htl.nz p hp h1
      · rw [keys_mapc] at hn
        have sub : (lrs m c).Sublist (mapc (fun i => i % m) c) := List.filter_sublist
        have := (sub.map (·.1)).subset hn
        rwa [show (mapc (fun i => i % m) c).map (·.1) = keys c from keys_mapc _ _] at this
end K8

set_option Elab.async false
set_option linter.all false
set_option maxRecDepth 100000
set_option maxHeartbeats 4000000
namespace K8
open PySem PySem.Spec PyProof.Rows L2 M8
/-! near rows -/
section
variable {P : Program} {w : World} {K : PySem.W.Frag} {mg : Str → Option Value} {base : Heap}
/-- tight of what is a test, letting nothing out -/
def spTightG (K : PySem.W.Frag) : Sp := fun vs H Q _ => ∃ v d t, vs = [v] ∧ SeeF K H v d ∧ IsTst d t ∧ Good (coef t) ∧ mOk t ∧ ∀ u H', NewR H H' u (pTight t) → Q u H'
theorem pe_tight {X : Cx} {C : Addr} {e : Expr} {te : TE} {p pos : Pos} (O : Ok X.prog X.w X.K X.mg X.base (L2.CX X.prog X.w) 6 "tight" ["test"] (spTight X.K C)) (hr : Room 6 X.A) (hg : Gl X "tight") (he : PE X e te)
    (hs : starEach [e] X.env = (false, eval e X.env) :: starEach [] X.env := by rfl) : PE X (.Call (.Name "tight" p) [e] [] pos) (tC0 (spTightG X.K) (tCons te tNil)) := by
  obtain ⟨f, fd, hm, hk, b, F⟩ := O.ex
  have hp : Passes (L2.CX X.prog X.w) X E0 := fun pins σ H s e s' I h => by
    obtain ⟨_, _, _, _, _, _, _, _, _, _, _, _, z⟩ := h
    exact z.elim
  have F' := F.imp (sp' := spTightG X.K) (fun vs H Q E h => by
    obtain ⟨v, d, t, e1, h1, h2, h3, h4, h5⟩ := h
    exact ⟨v, d, e1, h1, .inl ⟨t, h2, h3, h4, h5⟩⟩)
  have h := pe_call (p := p) (pos := pos) F' hr hg hm hk b .nil hp (pa_cons he pa_nil hs) (by decide) hs
  refine ⟨fun pins s σ H Q I q => h.run pins s σ H Q I ?_⟩
  have e1 : (fun (vs : List V) (H1 : Hp) => spTightG X.K (vs ++ []) H1 Q E0) = fun vs H1 => spTightG X.K vs H1 Q E0 := by funext vs H1; rw [List.append_nil]
  show tCons te tNil σ H fun vs H1 => spTightG X.K (vs ++ []) H1 Q E0
  rw [e1]
  exact q
theorem call_isiDK {X : Cx} {K : PySem.W.Frag} (h : X.K = K) : CallR X (.builtin "isinstance") (rIsiD K) := h ▸ call_isiD
/-- what a told test's value shows: a bool, or a test -/
def datR : Res → Dat | .inl b => .bl b | .inr t => tstDat t
theorem see_NewRA {F : Addr → Prop} {H H' : Hp} {u : V} {r : Res} (n : NewRA H H' u r) : See F H' u (datR r) := by
  cases r with
  | inl b => obtain rfl : u = .bl b := n; exact .bl b
  | inr t => obtain ⟨q, p, d, rfl, n⟩ := n; exact see_tst n.2.2.2
theorem NewTst.see {F : Addr → Prop} {H H' : Hp} {u : V} {t : Tst} (n : NewTst H H' u t) : See F H' u (tstDat t) := by
  cases t with
  | row c k => obtain ⟨q, t, d, rfl, _, _, _, h1, h2, h3, _⟩ := n; exact see_tst (ts := .row c k) ⟨h1, h2, h3⟩
  | same c k => obtain ⟨q, t, d, rfl, _, _, _, h1, h2, h3, _⟩ := n; exact see_tst (ts := .same c k) ⟨h1, h2, h3⟩
  | div m c k => obtain ⟨q, t, d, rfl, _, _, _, h1, h2, h3, _⟩ := n; exact see_tst (ts := .div m c k) ⟨h1, h2, h3⟩
theorem NewR.see {F : Addr → Prop} {H H' : Hp} {u : V} {r : Res} (n : NewR H H' u r) : See F H' u (datR r) := by
  cases r with
  | inl b => obtain ⟨rfl, _⟩ := n; exact .bl b
  | inr t => exact NewTst.see n
theorem NewR.ex2 {H H' : Hp} {u : V} {r : Res} (n : NewR H H' u r) : Ex H H' := by
  cases r with
  | inl b => exact n.2
  | inr t =>
    cases t with
    | row c k => obtain ⟨q, t, d, _, _, _, _, _, _, _, e⟩ := n; exact e
    | same c k => obtain ⟨q, t, d, _, _, _, _, _, _, _, e⟩ := n; exact e
    | div m c k => obtain ⟨q, t, d, _, _, _, _, _, _, _, e⟩ := n; exact e
theorem isTst_dat (ts : Tst) : IsTst (tstDat ts) ts := by cases ts <;> exact ⟨rfl, _, rfl, rfl, rfl⟩
/-! the sums of the near rows -/
theorem pool_good {ns : List Str} {g : Int} {c : Coef} (hns : Nms ns) (h : TermIn ns g c) (hg : g ≤ 1000000000) : Good c := ⟨h.few hns.l4, fun p hp => by have := h.far p hp; omega, fun n hn => pool_nm n (hns.mem n (h.sub n hn))⟩
theorem good_canon {c : Coef} (h : Good c) : Good (canon c) := ⟨h.few.canon, fun p hp => h.lim p (canon_sub h.few.nd hp), fun n hn => h.nm n (by
  rw [keys_canon] at hn
  have := (mem_nz h.few.nd).mp hn
  exact List.mem_map.mpr ⟨_, co_mem this, rfl⟩)⟩
theorem gcds_mul {w : Int} (hw : 0 < w) {c : Coef} (t : Told c) (hc : c ≠ []) (h1 : gcds (vals c) 0 = 1) : gcds (vals (mapc (fun i => w * i) c)) 0 = w := by
  rw [vals_mapc]
  have h0 := gcds_nn ((vals c).map fun i => w * i) 0 (Int.le_refl 0)
  have a1 : w ∣ gcds ((vals c).map fun i => w * i) 0 := dvd_gcds _ _ (Int.dvd_zero _) fun x hx => by
    obtain ⟨y, _, rfl⟩ := List.mem_map.mp hx
    exact Int.dvd_mul_right _ _
  obtain ⟨q, hq⟩ := a1
  have a2 : q ∣ gcds (vals c) 0 := dvd_gcds _ _ (Int.dvd_zero _) fun x hx => by
    have := gcds_dvd ((vals c).map fun i => w * i) 0 (w * x) (List.mem_map.mpr ⟨x, hx, rfl⟩)
    rw [hq] at this
    exact Int.dvd_of_mul_dvd_mul_left (by omega) this
  rw [h1] at a2
  have hq0 : 0 ≤ q := Decidable.byContradiction fun hn => by
    have := Int.mul_neg_of_pos_of_neg hw (show q < 0 by omega)
    omega
  have h2 := Int.le_of_dvd (by decide) a2
  have h3 : q ≠ 0 := fun z => by rw [z] at a2; have := Int.zero_dvd.mp a2; omega
  rw [hq, show q = 1 by omega, Int.mul_one]
theorem near_row {w r : Int} (hw : 0 < w) (hr : 0 ≤ r) (hr2 : r < w) {c : Coef} (t : Told c) (hc : c ≠ []) (h1 : gcds (vals c) 0 = 1) (k : Int) : lRow (mapc (fun i => w * i) c) (w * k + r) = .inr (.row c k) := by
  have hne : mapc (fun i => w * i) c ≠ [] := fun z => hc (by unfold mapc at z; exact List.map_eq_nil_iff.mp z)
  unfold lRow
  rw [if_neg hne, gcds_mul hw t hc h1]
  have e1 : mapc (fun i => i.fdiv w) (mapc (fun i => w * i) c) = c := by
    unfold mapc; rw [List.map_map]
    conv => rhs; rw [← List.map_id c]
    refine List.map_congr_left fun p _ => ?_
    show (p.1, (w * p.2).fdiv w) = p
    rw [Int.mul_fdiv_cancel_left _ (by omega)]
  have e2 : (w * k + r).fdiv w = k := by
    rw [Int.fdiv_eq_ediv_of_nonneg _ (by omega), Int.add_comm, Int.add_mul_ediv_left _ _ (by omega), Int.ediv_eq_zero_of_lt hr hr2]; omega
  rw [e1, e2]
theorem gcds_neg : ∀ (l : List Int) (g : Int), gcds (l.map fun i => 0 - i) g = gcds l g
  | [], _ => rfl
  | a :: l, g => by
    show gcds (l.map fun i => 0 - i) (gcdI g (0 - a)) = gcds l (gcdI g a)
    rw [gcds_neg l]
    congr 1
    unfold gcdI
    rw [show (0 - a).natAbs = a.natAbs by omega]
theorem turn_same {w : Int} (hw : 0 < w) {c : Coef} (t : Told c) (hc : c ≠ []) (h1 : gcds (vals c) 0 = 1) (k : Int) : lSame (mapc (fun i => 0 - i) (mapc (fun i => w * i) c)) (0 - w * k) = lSame (mapc (fun i => w * i) c) (w * k) := by
  have hg := gcds_mul hw t hc h1
  have hne : mapc (fun i => w * i) c ≠ [] := fun z => hc (by unfold mapc at z; exact List.map_eq_nil_iff.mp z)
  have hne2 : mapc (fun i => 0 - i) (mapc (fun i => w * i) c) ≠ [] := fun z => hne (by unfold mapc at z ⊢; exact List.map_eq_nil_iff.mp z)
  have hg2 : gcds (vals (mapc (fun i => 0 - i) (mapc (fun i => w * i) c))) 0 = w := by rw [vals_mapc, gcds_neg, hg]
  obtain ⟨p0, c0, hcc⟩ : ∃ p0 c0, c = p0 :: c0 := by
    cases c with
    | nil => exact absurd rfl hc
    | cons p' t' => exact ⟨p', t', rfl⟩
  have hz : p0.2 ≠ 0 := t.nz p0 (by rw [hcc]; simp)
  have hd1 : (vals (mapc (fun i => w * i) c)).headD 0 = w * p0.2 := by rw [hcc]; rfl
  have hd2 : (vals (mapc (fun i => 0 - i) (mapc (fun i => w * i) c))).headD 0 = 0 - w * p0.2 := by rw [hcc]; rfl
  have fin : ∀ s1 s2 : Int, (s1 = w ∧ s2 = 0 - w ∨ s1 = 0 - w ∧ s2 = w) → mapc (fun i => i.fdiv s2) (mapc (fun i => 0 - i) (mapc (fun i => w * i) c)) = mapc (fun i => i.fdiv s1) (mapc (fun i => w * i) c) ∧ (0 - w * k).fdiv s2 = (w * k).fdiv s1 := by
    intro s1 s2 h
    have e : ∀ i : Int, (0 - w * i).fdiv s2 = (w * i).fdiv s1 := by
      intro i
      rcases h with ⟨rfl, rfl⟩ | ⟨rfl, rfl⟩
      · rw [show 0 - s1 * i = (0 - s1) * i by rw [Int.sub_mul, Int.zero_mul], Int.mul_fdiv_cancel_left _ (by omega), Int.mul_fdiv_cancel_left _ (by omega)]
      · rw [show 0 - s2 * i = s2 * (0 - i) by rw [Int.mul_sub, Int.mul_zero], Int.mul_fdiv_cancel_left _ (by omega), show s2 * i = (0 - s2) * (0 - i) by rw [Int.zero_sub, Int.zero_sub, Int.neg_mul_neg], Int.mul_fdiv_cancel_left _ (by omega)]
    refine ⟨?_, e k⟩
    unfold mapc
    rw [List.map_map, List.map_map, List.map_map]
    refine List.map_congr_left fun p _ => ?_
    show (p.1, (0 - w * p.2).fdiv s2) = (p.1, (w * p.2).fdiv s1)
    rw [e]
  have hss : (sgnd (mapc (fun i => w * i) c) = w ∧ sgnd (mapc (fun i => 0 - i) (mapc (fun i => w * i) c)) = 0 - w) ∨ (sgnd (mapc (fun i => w * i) c) = 0 - w ∧ sgnd (mapc (fun i => 0 - i) (mapc (fun i => w * i) c)) = w) := by
    have e1 : sgnd (mapc (fun i => w * i) c) = if w * p0.2 < 0 then 0 - w else w := by
      show (if (vals (mapc (fun i => w * i) c)).headD 0 < 0 then _ else _) = _
      rw [hd1, hg]
    have e2 : sgnd (mapc (fun i => 0 - i) (mapc (fun i => w * i) c)) = if 0 - w * p0.2 < 0 then 0 - w else w := by
      show (if (vals (mapc (fun i => 0 - i) (mapc (fun i => w * i) c))).headD 0 < 0 then _ else _) = _
      rw [hd2, hg2]
    have hnz : w * p0.2 ≠ 0 := fun z => by rcases Int.mul_eq_zero.mp z with z | z; omega; exact hz z
    rw [e1, e2]
    by_cases h : w * p0.2 < 0
    · right; rw [if_pos h, if_neg (by omega)]; exact ⟨rfl, rfl⟩
    · left; rw [if_neg h, if_pos (by omega)]; exact ⟨rfl, rfl⟩
  obtain ⟨f1, f2⟩ := fin _ _ hss
  unfold lSame
  rw [if_neg hne2, if_neg hne, hg, hg2, if_neg (show ¬ ((0 - w * k) % w > 0) by rw [show 0 - w * k = w * (0 - k) by rw [Int.mul_sub, Int.mul_zero], Int.mul_emod_right]; omega), if_neg (show ¬ (w * k % w > 0) by rw [Int.mul_emod_right]; omega), f1, f2]
/-- the form of a row, when it is one -/
theorem row_form {c : Coef} {k : Int} {t : Tst} (ht : Told c) (h : lTi (.row c k) = .inr t) : ∃ c' k', t = .row c' k' ∧ c' ≠ [] ∧ Told c' ∧ gcds (vals c') 0 = 1 := by
  have hs := still_row ht h
  change lRow c k = _ at h
  unfold lRow at h
  by_cases hc : c = []
  · rw [if_pos hc] at h; cases h
  · rw [if_neg hc] at h
    injection h with h
    subst h
    have hgp := gcds_pos ht hc
    refine ⟨_, _, rfl, fun z => hc (by unfold mapc at z; exact List.map_eq_nil_iff.mp z), told_mapc ht fun p hp z => ?_, ?_⟩
    · obtain ⟨q, hq⟩ := gcds_all c p hp
      rw [hq, Int.mul_fdiv_cancel_left _ (by omega)] at z
      rw [z, Int.mul_zero] at hq
      exact ht.nz p hp hq
    · rw [vals_mapc]
      refine gcds_one hgp rfl fun x hx => ?_
      obtain ⟨q, hq⟩ := gcds_dvd (vals c) 0 x hx
      rw [hq, Int.mul_fdiv_cancel_left _ (by omega), ← hq]
theorem row_small {c : Coef} {k : Int} {c' : Coef} {k' : Int} {b : Nat} (ht : Told c) (h : lTi (.row c k) = .inr (.row c' k')) (hb : ∀ p ∈ c, p.2.natAbs ≤ b) : ∀ p ∈ c', p.2.natAbs ≤ b := by
  change lRow c k = _ at h
  unfold lRow at h
  by_cases hc : c = []
  · rw [if_pos hc] at h; cases h
  · rw [if_neg hc] at h
    injection h with h
    injection h with h1 h2
    subst h1
    intro p hp
    unfold mapc at hp
    obtain ⟨q, hq, rfl⟩ := List.mem_map.mp hp
    have hgp := gcds_pos ht hc
    obtain ⟨z, hz⟩ := gcds_all c q hq
    show (q.2.fdiv _).natAbs ≤ b
    have e : q.2.fdiv (gcds (vals c) 0) = z := by
      conv => lhs; rw [hz]
      rw [Int.mul_fdiv_cancel_left _ (by omega)]
    rw [e]
    exact Nat.le_trans (natAbs_dvd_le hz (by omega)) (hb q hq)
theorem PairT.ex {H H' : Hp} {t d : Addr} {c : Coef} {k : Int} (e : Ex H H') (h : PairT H t d c k) : PairT H' t d c k := ⟨e _ _ h.1, e _ _ h.2⟩
theorem tight_told {t : Tst} (ht : Told (coef t)) (hm : mOk t) : pTight t = lTi t := by
  rw [tight_eq ht.nd hm]
  cases t with
  | row c k => show lRow (canon c) k = lRow c k; rw [Told.canon_eq (c := c) ht]
  | same c k => show lSame (canon c) k = lSame c k; rw [Told.canon_eq (c := c) ht]
  | div m c k => show lBy m (canon c) k = lBy m c k; rw [Told.canon_eq (c := c) ht]
theorem dep_datR {r : Res} (h : ∀ t, r = .inr t → (coef t).length ≤ 1000) : Dep 5 (datR r) := by
  cases r with
  | inl b => exact dep_flat rfl _
  | inr t => exact dep_tst (h t rfl)
def spNear : Sp := fun vs H Q _ => ∃ a l ns B, vs = [.ref a, .ref l] ∧ Spr H a B ∧ B + 400 < lot ∧ H l = some (.lst (ns.map V.str)) ∧ l ≠ a ∧ Nms ns ∧ ∀ H', Exo [a] H H' → Spr H' a (B + 30) → Q (.bl true) H'
abbrev s__law_near_right : Stmt := top 52
theorem sc__law_near_right : FnScope ["spring", "names", "test", "form", "k", "many", "term", "near", "turned_v", "rows", "name"] ["spring", "names"] (defScope s__law_near_right) := ⟨rfl, rfl, rfl, by decide +kernel, rfl, by decide +kernel, by decide +kernel⟩
theorem ok__law_near_right (T : Txt K mg) {C : Addr} (a : At K mg "_law_near_right" s__law_near_right ["spring", "names"]) (O_law_draw : Ok P w K mg base CX0 1 "_law_draw" ["spring", "many"] spDraw) (O_law_w_term : Ok P w K mg base CX0 3 "_law_w_term" ["spring", "names", "great"] spTermW) (O_law_w_told : Ok P w K mg base CX0 1 "_law_w_told" ["term"] spToldL) (O_law_tight : Ok P w K mg base CX0 2 "_law_tight" ["test"] spLTight) (O_law_w_turned : Ok P w K mg base CX0 1 "_law_w_turned" ["term"] spTurnL) (Otight : Ok P w K mg base (L2.CX P w) 6 "tight" ["test"] (spTight K C)) (O_law_same : Ok P w K mg base CX0 15 "_law_same" ["found", "due"] (spSameG K (Dep 13))) : Ok P w K mg base CX0 16 "_law_near_right" ["spring", "names"] spNear := a.ok fun f fd F => by
  refine F.ok sc__law_near_right (fun vs H Q E h => ?_) (fun cdv A outer s H vs Q E hr h => ?_)
  · obtain ⟨a, l, ns, B, rfl, _⟩ := h; rfl
  · obtain ⟨a, l, ns, B, rfl, hs, hB, hl, hla, hns, q⟩ := h
    refine ⟨_, (pss_cons (ps_set (i := 2) sc__law_near_right.nd rfl (Or.inl rfl) (pe_tup (pa_cons pe_str (pa_cons (pe_callO O_law_w_told (hr.mono (by first | decide | omega)) rfl (pa_cons (pe_callO O_law_w_term (hr.mono (by first | decide | omega)) rfl (pa_cons (pv 0) (pa_cons (pv 1) (pa_cons pe_int pa_nil)))) pa_nil)) pa_nil))))
      (pss_cons (ps_set (i := 3) sc__law_near_right.nd rfl (Or.inr rfl) (pe_callO O_law_tight (hr.mono (by first | decide | omega)) rfl (pa_cons (pv 2) pa_nil)))
      (pss_cons (ps_for PassesOwn.never rfl (pi_range1 rfl T.n_range (pa_cons pe_int pa_nil)) (pg_name (i := 4) sc__law_near_right.nd rfl (Or.inl rfl)) (pss_cons (ps_set (i := 5) sc__law_near_right.nd rfl (Or.inr rfl) (pe_op op_add pe_int (pe_callO O_law_draw (hr.mono (by first | decide | omega)) rfl (pa_cons (pv 0) (pa_cons pe_int pa_nil)))))
      (pss_one (ps_if (pt_not (pt_val (pe_callB (call_isiDK (K := K) rfl) rfl T.n_isinstance rfl (pa_cons (pv 3) (pa_cons (pe_tyN (n := "bool") rfl T.n_bool rfl) pa_nil))))) (pss_cons (ps_set (i := 6) sc__law_near_right.nd rfl (Or.inl rfl) (pe_tup (pa_cons (pe_callTy (call_dictC (K := K) rfl rfl) rfl T.n_dict rfl (pa_cons (pe_lock (pe_lc (own := [("name", 10)]) (g := gName 10) (tt := tYes) rfl sc__law_near_right.nd (pi_keys (pe_ix (ix_qK (K := K) rfl) (pe_ix (ix_qK (K := K) rfl) (pv 3) pe_int (fun _ _ => rfl)) pe_int (fun _ _ => rfl))) (blkOk_by (N := ["spring", "names", "test", "form", "k", "many", "term", "near", "turned_v", "rows", "name"]) (sc := defScope s__law_near_right) (by decide +kernel)) (fun _ _ _ _ _ => (pg_name (i := 10) sc__law_near_right.nd rfl (Or.inl rfl))) (fun _ _ _ _ _ => pts_nil) (fun _ _ _ _ _ => (pe_tup (pa_cons (pv 10) (pa_cons (pe_op op_mul (pv 5) (pe_dget (hu_of hr) (pe_ix (ix_qK (K := K) rfl) (pe_ix (ix_qK (K := K) rfl) (pv 3) pe_int (fun _ _ => rfl)) pe_int (fun _ _ => rfl)) (pv 10) (fun _ _ => rfl))) pa_nil)))))) pa_nil)) (pa_cons (pe_op op_mul (pv 5) (pe_ix (ix_qK (K := K) rfl) (pe_ix (ix_qK (K := K) rfl) (pv 3) pe_int (fun _ _ => rfl)) pe_int (fun _ _ => rfl))) pa_nil))))
      (pss_cons (ps_set (i := 7) sc__law_near_right.nd rfl (Or.inl rfl) (pe_tup (pa_cons (pe_ix (ix_qK (K := K) rfl) (pv 6) pe_int (fun _ _ => rfl)) (pa_cons (pe_op op_add (pe_ix (ix_qK (K := K) rfl) (pv 6) pe_int (fun _ _ => rfl)) (pe_callO O_law_draw (hr.mono (by first | decide | omega)) rfl (pa_cons (pv 0) (pa_cons (pv 5) pa_nil)))) pa_nil))))
      (pss_cons (ps_set (i := 8) sc__law_near_right.nd rfl (Or.inl rfl) (pe_callO O_law_w_turned (hr.mono (by first | decide | omega)) rfl (pa_cons (pv 6) pa_nil)))
      (pss_cons (ps_set (i := 9) sc__law_near_right.nd rfl (Or.inl rfl) (pe_lst (pa_cons (pe_tight Otight (hr.mono (by omega)) rfl (pe_tup (pa_cons pe_str (pa_cons (pv 7) pa_nil)))) (pa_cons (pe_tight Otight (hr.mono (by omega)) rfl (pe_lst (pa_cons pe_str (pa_cons (pv 6) pa_nil)))) (pa_cons (pe_tight Otight (hr.mono (by omega)) rfl (pe_tup (pa_cons pe_str (pa_cons (pv 6) pa_nil)))) (pa_cons (pe_tight Otight (hr.mono (by omega)) rfl (pe_tup (pa_cons pe_str (pa_cons (pv 8) pa_nil)))) pa_nil))))))
      (pss_one (ps_if (pt_not (pt_val (pe_callO O_law_same (hr.mono (by first | decide | omega)) rfl (pa_cons (pv 9) (pa_cons (pe_lst (pa_cons (pv 3) (pa_cons (pv 3) (pa_cons (pe_callO O_law_tight (hr.mono (by first | decide | omega)) rfl (pa_cons (pe_tup (pa_cons pe_str (pa_cons (pv 6) pa_nil))) pa_nil)) (pa_cons (pe_callO O_law_tight (hr.mono (by first | decide | omega)) rfl (pa_cons (pe_tup (pa_cons pe_str (pa_cons (pv 6) pa_nil))) pa_nil)) pa_nil))))) pa_nil))))) (pss_one (ps_ret pe_bl)) pss_nil)))))) pss_nil))))
      (pss_one (ps_ret pe_bl))))), ?_⟩
    have h4 := hns.l4
    refine ⟨_, rfl, _, rfl, a, l, ns, 9, B, rfl, hs, by omega, hl, hla, hns.nd, h4, by decide, by decide, fun t0 d0 c k H1 e1 s1 n hc hk => ?_⟩
    obtain ⟨n1, n2, n3⟩ := n
    have gc : Good c := pool_good hns hc (by decide)
    refine ⟨_, c, k, rfl, ⟨t0, d0, rfl, .inr n3.1, n3.2⟩, gc.few, fun t1 d1 H2 e2 n => ?_⟩
    obtain ⟨m1, m2, m3⟩ := n
    refine ⟨by show 2 ≤ sizeLine; decide, fun T1 hT1 => ?_⟩
    have tc : Told (canon c) := told_canon gc.few.nd
    have gcc := good_canon gc
    have hP3 : PairT (upd H2 T1 (.tup [.str "row", .ref t1])) t1 d1 (canon c) k := by rw [PairT, upd_ne (ne_of_none m3.1 hT1), upd_ne (ne_of_none m3.2 hT1)]; exact m3
    refine ⟨_, rfl, T1, t1, d1, .row (canon c) k, rfl, ⟨upd_same, hP3⟩, gcc.few, gcc.lim, trivial, tc, fun u H4 e4 nr => ?_⟩
    have hx : ∀ t, lTi (.row (canon c) k) = .inr t → Good (coef t) := fun t h => (res_good (ts := .row (canon c) k) gcc trivial tc h).1
    have hsm : ∀ c' k', lTi (.row (canon c) k) = .inr (.row c' k') → ∀ p ∈ c', p.2.natAbs ≤ 9 := fun c' k' h => row_small (b := 9) tc h fun p hp => by have := hc.far p (canon_sub gc.few.nd hp); omega
    have hform : ∀ t, lTi (.row (canon c) k) = .inr t → ∃ c' k', t = .row c' k' ∧ c' ≠ [] ∧ Told c' ∧ gcds (vals c') 0 = 1 := fun t h => row_form tc h
    generalize lTi (.row (canon c) k) = r at nr hx hform hsm
    have eH3 : Exo [a] H (upd H2 T1 (.tup [.str "row", .ref t1])) := by
      have s2 := s1.ex e2
      obtain ⟨f1, f2⟩ := (e1.trans (e2.exo _)).freeS s2 hT1
      exact (e1.trans (e2.exo _)).mut f1
    have nT1a : T1 ≠ a := fun z => (s1.ex e2).ne (by rw [← z]; exact hT1)
    have s3 : Spr (upd H2 T1 (.tup [.str "row", .ref t1])) a (B + 13) := (s1.ex e2).at (upd_ne nT1a.symm)
    have s4 := s3.ex e4
    let FA : Hp → Prop := fun H' => match r with | .inl b => u = .bl b | .inr t => ∃ q p d, u = .ref q ∧ q ≠ a ∧ p ≠ a ∧ d ≠ a ∧ TAt H' q p d t
    have fa4 : FA H4 := by
      show (match r with | .inl b => u = .bl b | .inr t => ∃ q p d, u = .ref q ∧ q ≠ a ∧ p ≠ a ∧ d ≠ a ∧ TAt H4 q p d t)
      cases r with
      | inl b => exact nr
      | inr t =>
        obtain ⟨q, p, d, e, h1, h2, h3, h4⟩ := nr
        exact ⟨q, p, d, e, fun z => s3.ne (by rw [← z]; exact h1), fun z => s3.ne (by rw [← z]; exact h2), fun z => s3.ne (by rw [← z]; exact h3), h4⟩
    dsimp only [tSeq, gName, tNext]
    refine tFor_of ?_
    refine ⟨4, rfl, by decide, by decide, ?_⟩
    refine for_itB (walk_range (n := 4)) (fun i σ H' => ∃ x4 x5 x6 x7 x8 x9 x10, σ = [some (.ref a), some (.ref l), some (.ref T1), some u, x4, x5, x6, x7, x8, x9, x10] ∧ Exo [a] H H' ∧ Spr H' a (B + 13 + 2 * i) ∧ FA H') ⟨none, none, none, none, none, none, none, rfl, eH3.trans (e4.exo _), s4, fa4⟩ (fun _ _ _ _ _ => trivial) ?_ ?_
    · rintro i x σ H5 H5' hi ⟨x4, x5, x6, x7, x8, x9, x10, rfl, e5, s5, f5⟩ ⟨rfl, rfl⟩
      refine ⟨_, rfl, a, _, _, rfl, s5, by omega, by decide, by decide, fun y H6 y0 y1 e6 s6 => ⟨_, _, rfl, rfl, ?_⟩⟩
      have e56 := e5.trans e6
      obtain ⟨w, hw⟩ : ∃ w : Int, w = 1 + y := ⟨_, rfl⟩
      have hwv : (fun i j : Int => V.int (i + j)) 1 y = V.int w := by show V.int (1 + y) = _; rw [hw]
      rw [hwv]
      have hw0 : 0 < w := by omega
      have hw1 : w ≤ 7 := by omega
      cases r with
      | inl b =>
        obtain rfl : u = .bl b := f5
        refine ⟨_, rfl, .bl b, "bool", .bl b, _, rfl, .bl b, kit_bool _, _, rfl, iteF ?_⟩
        exact ⟨_, _, _, _, _, _, _, rfl, e56, s6.mono (by omega), rfl⟩
      | inr t =>
        obtain ⟨q0, p0, d0', rfl, na1, na2, na3, hT5⟩ := f5
        obtain ⟨c', k', rfl, hne, tc', g1⟩ := hform t rfl
        have gc' : Good c' := hx _ rfl
        have hT6 := hT5.exo e6 na1 na2 na3
        refine ⟨_, rfl, .ref q0, "bool", tstDat (.row c' k'), _, rfl, see_tst hT6, kit_bool _, _, rfl, iteT ?_⟩
        obtain ⟨hq, hp, hd⟩ := hT6
        have few' := gc'.few
        have qd : q0 ≠ d0' := fun z => by rw [z, hd] at hq; cases hq
        have pd : p0 ≠ d0' := fun z => by rw [z, hd] at hp; cases hp
        dsimp only [tTup, tCons, tNil]
        refine dp_lock (fun p => w * p.2) (fun _ => true) hd few' (fun H2 R o r => ⟨_, rfl, q0, _, 1, _, rfl, rfl, SqQ.t (o _ _ qd hq), at1, p0, _, 0, _, rfl, rfl, SqQ.t (o _ _ pd hp), at0, r⟩) (by simp [wipe, L2.start]) (fun _ => rfl) ?_ ?_
        · intro n z H2 od R R' hm2 h2 o k1 k2
          have hmk : n ∈ keys c' := List.mem_map.mpr ⟨(n, z), hm2, rfl⟩
          have hco : co c' n = z := co_of_mem few'.nd hm2
          refine yesT ⟨_, rfl, _, rfl, _, rfl, q0, _, 1, _, rfl, rfl, SqQ.t (o _ _ qd hq), at1, p0, _, 0, _, rfl, rfl, SqQ.t (o _ _ pd hp), at0, _, rfl, d0', _, rfl, .inl ⟨cK c', .inr n, .inr ⟨od, h2⟩, rfl, (valV_co hmk few'.nd).symm⟩, _, _, rfl, rfl, .inl ⟨by omega, by omega⟩, by show 2 ≤ sizeLine; decide, fun r hr => ?_⟩
          rw [hco]
          exact k1 rfl r _ hr (Ex.new hr) upd_same
        intro D H7 hD e7 hD7
        rw [filt_all] at hD7
        change H7 D = some (.dK (cK (mapc (fun i => w * i) c'))) at hD7
        have hsm' := hsm c' k' rfl
        have small : ∀ f : Int → Int, (∀ i : Int, i.natAbs ≤ 9 → (f i).natAbs ≤ 1000000000) → Good (mapc f c') := fun f hf => ⟨few'.mapc f, fun p hp => by
          unfold M8.mapc at hp
          obtain ⟨p2, hp2, rfl⟩ := List.mem_map.mp hp
          exact hf _ (hsm' p2 hp2), by rw [keys_mapc]; exact gc'.nm⟩
        have mulb : ∀ i : Int, i.natAbs ≤ 9 → (w * i).natAbs ≤ 1000000000 := fun i hi => by
          have : w = 1 ∨ w = 2 ∨ w = 3 ∨ w = 4 ∨ w = 5 ∨ w = 6 ∨ w = 7 := by omega
          rcases this with h | h | h | h | h | h | h <;> (rw [h]; omega)
        have gct : Good (mapc (fun i => w * i) c') := small _ mulb
        have gnct : Good (mapc (fun i => 0 - i) (mapc (fun i => w * i) c')) := by
          have e : mapc (fun i => 0 - i) (mapc (fun i => w * i) c') = mapc (fun i => 0 - w * i) c' := by unfold mapc; rw [List.map_map]; rfl
          rw [e]; exact small _ fun i hi => by have := mulb i hi; omega
        have tct : Told (mapc (fun i => w * i) c') := told_mapc tc' fun p hp z => by
          rcases Int.mul_eq_zero.mp z with z | z
          · omega
          · exact tc'.nz p hp z
        refine ⟨_, rfl, _, rfl, q0, _, 1, _, rfl, rfl, SqQ.t (e7 _ _ hq), at1, p0, _, 1, _, rfl, rfl, SqQ.t (e7 _ _ hp), at1, _, _, rfl, rfl, .inl ⟨by omega, by omega⟩, by show 2 ≤ sizeLine; decide, fun T6 hT6 => ?_⟩
        have e8 : Ex H6 (upd H7 T6 (.tup [.ref D, .int (w * k')])) := e7.mut (e7.free hT6)
        have hT68 : upd H7 T6 (.tup [.ref D, .int (w * k')]) T6 = some (.tup [.ref D, .int (w * k')]) := upd_same
        have hD8 : upd H7 T6 (.tup [.ref D, .int (w * k')]) D = some (.dK (cK (mapc (fun i => w * i) c'))) := by rw [upd_ne (ne_of_none hD7 hT6)]; exact hD7
        have nDa : D ≠ a := fun z => s6.ne (by rw [← z]; exact hD)
        have nT6a : T6 ≠ a := fun z => (s6.ex e7).ne (by rw [← z]; exact hT6)
        have s8 := s6.ex e8
        refine ⟨_, rfl, T6, _, 0, _, rfl, rfl, SqQ.t hT68, at0, _, rfl, T6, _, 1, _, rfl, rfl, SqQ.t hT68, at1, _, rfl, _, rfl, a, w, _, rfl, s8, by omega, hw0, by omega, fun z H9 z0 z1 e9 s9 => ?_⟩
        have hT69 := e9.at1 nT6a hT68
        have hD9 := e9.at1 nDa hD8
        refine ⟨_, _, rfl, rfl, by show 2 ≤ sizeLine; decide, fun N7 hN7 => ?_⟩
        have e10 : Ex H9 (upd H9 N7 (.tup [.ref D, .int (w * k' + z)])) := Ex.new hN7
        have hN10 : upd H9 N7 (.tup [.ref D, .int (w * k' + z)]) N7 = some (.tup [.ref D, .int (w * k' + z)]) := upd_same
        refine ⟨_, rfl, T6, D, mapc (fun i => w * i) c', w * k', rfl, ⟨e10 _ _ hT69, e10 _ _ hD9⟩, gct.few, fun t8 d8 H11 e11 n8 => ?_⟩
        have tnct : Told (mapc (fun i => 0 - i) (mapc (fun i => w * i) c')) := told_mapc tct fun p hp z => by have := tct.nz p hp; omega
        have pT : PairT H11 T6 D (mapc (fun i => w * i) c') (w * k') := PairT.ex e11 ⟨e10 _ _ hT69, e10 _ _ hD9⟩
        have pN : PairT H11 N7 D (mapc (fun i => w * i) c') (w * k' + z) := PairT.ex e11 ⟨hN10, e10 _ _ hD9⟩
        have p8 := n8.2.2
        have hF11 : TAt H11 q0 p0 d0' (.row c' k') := by
          have : TAt H9 q0 p0 d0' (.row c' k') := TAt.exo e9 na1 na2 na3 (TAt.ex e8 ⟨hq, hp, hd⟩)
          exact TAt.ex (e10.trans e11) this
        have e9' : Exo [a] H H9 := (e56.trans (e8.exo _)).trans e9
        have hN7a : N7 ≠ a := fun z => s9.ne (by rw [← z]; exact hN7)
        have eB : Ex H9 H11 := e10.trans e11
        -- the four, tight
        refine ⟨_, rfl, by show 2 ≤ sizeLine; decide, fun A1 hA1 => ⟨.ref A1, _, .row (mapc (fun i => w * i) c') (w * k' + z), rfl, see_tst (ts := .row _ _) ⟨upd_same, PairT.ex (Ex.new hA1) pN⟩, isTst_dat _, gct, trivial, fun u1 H12 r1 => ?_⟩⟩
        have x1 := (Ex.new hA1).trans r1.ex2
        refine ⟨_, rfl, by show 2 ≤ sizeLine; decide, fun A2 hA2 => ⟨.ref A2, .lst [.str "row", tDat (mapc (fun i => w * i) c') (w * k')], .row (mapc (fun i => w * i) c') (w * k'), rfl, .lst upd_same (.cons (.str _) (.cons (see_term_at (PairT.ex (x1.trans (Ex.new hA2)) pT)) .nil)), ⟨rfl, _, rfl, rfl, rfl⟩, gct, trivial, fun u2 H13 r2 => ?_⟩⟩
        have x2 := (Ex.new hA2).trans r2.ex2
        have x12 := x1.trans x2
        refine ⟨_, rfl, by show 2 ≤ sizeLine; decide, fun A3 hA3 => ⟨.ref A3, _, .same (mapc (fun i => w * i) c') (w * k'), rfl, see_tst (ts := .same _ _) ⟨upd_same, PairT.ex (x12.trans (Ex.new hA3)) pT⟩, isTst_dat _, gct, trivial, fun u3 H14 r3 => ?_⟩⟩
        have x3 := (Ex.new hA3).trans r3.ex2
        have x13 := x12.trans x3
        refine ⟨_, rfl, by show 2 ≤ sizeLine; decide, fun A4 hA4 => ⟨.ref A4, _, .same (mapc (fun i => 0 - i) (mapc (fun i => w * i) c')) (0 - w * k'), rfl, see_tst (ts := .same _ _) ⟨upd_same, PairT.ex (x13.trans (Ex.new hA4)) p8⟩, isTst_dat _, gnct, trivial, fun u4 H15 r4 => ?_⟩⟩
        have x4' := (Ex.new hA4).trans r4.ex2
        have x14 := x13.trans x4'
        rw [tight_told (t := .row (mapc (fun i => w * i) c') (w * k' + z)) tct trivial] at r1
        rw [tight_told (t := .row (mapc (fun i => w * i) c') (w * k')) tct trivial] at r2
        rw [tight_told (t := .same (mapc (fun i => w * i) c') (w * k')) tct trivial] at r3
        rw [tight_told (t := .same (mapc (fun i => 0 - i) (mapc (fun i => w * i) c')) (0 - w * k')) tnct trivial] at r4
        have q1 : lTi (.row (mapc (fun i => w * i) c') (w * k' + z)) = .inr (.row c' k') := near_row hw0 z0 z1 tc' hne g1 k'
        have q2 : lTi (.row (mapc (fun i => w * i) c') (w * k')) = .inr (.row c' k') := by
          have := near_row (r := 0) hw0 (Int.le_refl 0) hw0 tc' hne g1 k'
          rw [Int.add_zero] at this; exact this
        have q4 : lTi (.same (mapc (fun i => 0 - i) (mapc (fun i => w * i) c')) (0 - w * k')) = lTi (.same (mapc (fun i => w * i) c') (w * k')) := turn_same hw0 tc' hne g1 k'
        rw [q1] at r1; rw [q2] at r2; rw [q4] at r4
        refine ⟨by show 4 ≤ sizeLine; decide, fun R hR => ?_⟩
        have y1 : Ex H15 (upd H15 R (.lst [u1, u2, u3, u4])) := Ex.new hR
        have x15 := x14.trans y1
        have hR1 : upd H15 R (.lst [u1, u2, u3, u4]) R = some (.lst [u1, u2, u3, u4]) := upd_same
        have sees : SeeL (FnK K) (upd H15 R (.lst [u1, u2, u3, u4])) [u1, u2, u3, u4] [tstDat (.row c' k'), tstDat (.row c' k'), datR (lTi (.same (mapc (fun i => w * i) c') (w * k'))), datR (lTi (.same (mapc (fun i => w * i) c') (w * k')))] :=
          .cons ((NewR.see r1).mono ((x2.trans (x3.trans x4')).trans y1)) (.cons ((NewR.see r2).mono ((x3.trans x4').trans y1)) (.cons ((NewR.see r3).mono (x4'.trans y1)) (.cons ((NewR.see r4).mono y1) .nil)))
        refine ⟨_, rfl, _, rfl, _, rfl, _, rfl, by show 2 ≤ sizeLine; decide, fun B1 hB1 => ?_⟩
        have y2 := Ex.new (o := .tup [.str "same", .ref T6]) hB1
        refine ⟨B1, T6, D, .same (mapc (fun i => w * i) c') (w * k'), rfl, ⟨upd_same, PairT.ex (x15.trans y2) pT⟩, gct.few, gct.lim, trivial, tct, fun v1 H16 e16 l1 => ?_⟩
        have y3 := y2.trans e16
        refine ⟨_, rfl, by show 2 ≤ sizeLine; decide, fun B2 hB2 => ?_⟩
        have y4 := y3.trans (Ex.new (o := .tup [.str "same", .ref T6]) hB2)
        refine ⟨B2, T6, D, .same (mapc (fun i => w * i) c') (w * k'), rfl, ⟨upd_same, PairT.ex (x15.trans y4) pT⟩, gct.few, gct.lim, trivial, tct, fun v2 H17 e17 l2 => ?_⟩
        have y5 := y4.trans e17
        refine ⟨by show 4 ≤ sizeLine; decide, fun L2' hL2 => ?_⟩
        have y6 := Ex.new (o := .lst [.ref q0, .ref q0, v1, v2]) hL2
        have y7 := y5.trans y6
        have sF := (see_tst (F := FnK K) hF11).mono (x15.trans y7)
        have lb : ∀ t, lTi (.same (mapc (fun i => w * i) c') (w * k')) = .inr t → (coef t).length ≤ 1000 := fun t h => by
          have := (res_good (ts := .same _ _) gct trivial tct h).1.few.len; omega
        refine ⟨.ref R, .ref L2', .lst [tstDat (.row c' k'), tstDat (.row c' k'), datR (lTi (.same (mapc (fun i => w * i) c') (w * k'))), datR (lTi (.same (mapc (fun i => w * i) c') (w * k')))], rfl, .lst (y7 _ _ hR1) (sees.mono y7),
          .lst upd_same (.cons sF (.cons sF (.cons ((see_NewRA l1).mono (((Ex.new (o := .tup [.str "same", .ref T6]) hB2).trans e17).trans y6)) (.cons ((see_NewRA l2).mono y6) .nil)))), ?_, fun H18 e18 => ⟨_, rfl, iteF ?_⟩⟩
        · refine dep_lst (n := 12) (by simp) ?_
          have d1 : Dep 12 (tstDat (.row c' k')) := (dep_tst (ts := .row c' k') (by have := few'.len; show c'.length ≤ 1000; omega)).le (by decide)
          have d2 : Dep 12 (datR (lTi (.same (mapc (fun i => w * i) c') (w * k')))) := (dep_datR lb).le (by decide)
          exact cns d1 (cns d1 (cns d2 (cns d2 nl)))
        · have eF : Ex H9 H18 := ((eB.trans x15).trans y7).trans e18
          exact ⟨_, _, _, _, _, _, _, rfl, e9'.trans (eF.exo _), (s9.ex eF).mono (by omega), q0, p0, d0', rfl, na1, na2, na3, TAt.ex ((x15.trans y7).trans e18) hF11⟩
    · rintro σ H5 ⟨x4, x5, x6, x7, x8, x9, x10, rfl, e5, s5, f5⟩
      exact q _ e5 (s5.mono (by omega))
end
end K8

set_option Elab.async false
set_option linter.all false
set_option maxRecDepth 100000
set_option maxHeartbeats 4000000
namespace K8
open PySem PySem.Spec PyProof.Rows L2 M8
/-! repr of a test, where nothing around is being shown -/
def textV : V → Str | .str z => reprText z | .int i => Str.ofString (toString i) | _ => ""
def flatV2 : V → Prop | .str z => (reprText z).length ≤ sizeLine | .int i => i.natAbs.log2 < 1920 | _ => False
def entryT (p : Str × Int) : Str := reprText p.1 ++ ": " ++ Str.ofString (toString p.2)
def seqO (b : Bool) (xs : List V) : HO := if b = true then .lst xs else .tup xs
def seqT (b : Bool) (ts : List Str) : Str := if b = true then listText ts else tupleText ts
section
variable {prog : Program} {w : World} {h : Heap}
theorem leafK {v : V} {u : Value} (r : RelV v u) (f : flatV2 v) (as : List Addr) (d : Nat) : ReprK prog w as h d u (textV v) := by
  cases v with
  | str z =>
    obtain ⟨t, rfl⟩ := (show ∃ t, u = Value.str z t from r)
    exact ReprK.of_is (ReprIs.str z t f) as h d
  | int i =>
    obtain ⟨t, rfl⟩ := (show ∃ t, u = Value.int i t from r)
    exact ReprK.of_is (ReprIs.int t f) as h d
  | _ => exact f.elim
theorem allK (as : List Addr) (d : Nat) : ∀ {vs : List V} {us : List Value}, Vals vs us → (∀ v ∈ vs, flatV2 v) → ReprAllK prog w as h d us (vs.map textV)
  | _, _, .nil, _ => .nil
  | _, _, .cons r t, f => .cons (leafK r (f _ (by simp)) as d) (allK as d t fun v hv => f v (by simp [hv]))
theorem allK_app {as : List Addr} {d : Nat} : ∀ {us : List Value} {ts : List Str} {x : Value} {t : Str}, ReprAllK prog w as h d us ts → ReprK prog w as h d x t → ReprAllK prog w as h d (us ++ [x]) (ts ++ [t])
  | _, _, _, _, .nil, k => .cons k .nil
  | _, _, _, _, .cons a r, k => .cons a (allK_app r k)
theorem itemK {as : List Addr} {d : Nat} : ∀ {us : List Value} {ts : List Str}, ReprAllK prog w as h d us ts → ∀ (i : Nat) (y : Value), us[i]? = some y → ∃ t, ts[i]? = some t ∧ ReprK prog w as h d y t
  | _, _, .nil, i, y, e => by simp at e
  | _, _, .cons a r, 0, y, e => by simp at e; subst e; exact ⟨_, rfl, a⟩
  | _, _, .cons a r, i + 1, y, e => by simpa using itemK r i y (by simpa using e)
theorem entriesK (as : List Addr) (d : Nat) : ∀ {c : Coef} {es : List DictEntry} {vs : List (Key × Value)}, KV (cK c) vs → Pairs (mixKind prog w) es vs → (∀ p ∈ c, (reprText p.1).length ≤ sizeLine ∧ p.2.natAbs.log2 < 1920) → ReprEntriesK prog w as h d es (c.map entryT)
  | [], es, vs, kv, ps, _ => by
    have : vs = [] := List.eq_nil_of_length_eq_zero (by have := Paired.length kv; simpa [cK] using this.symm)
    subst this
    cases ps; exact .nil
  | p :: c, es, vs, kv, ps, f => by
    cases vs with
    | nil => have := Paired.length kv; simp [cK] at this
    | cons q vs =>
      cases ps with
      | @cons e _ es _ h1 h2 ps =>
        have hk : KV (cK (p :: c)) (q :: vs) := kv
        unfold KV cK at hk
        rw [List.map_cons] at hk
        cases hk with
        | cons ha ht =>
          obtain ⟨hk1, hk2⟩ := ha
          have fp := f p (by simp)
          have e1 : keyIs (.inr p.1) e.key = true := by rw [show (Sum.inr p.1 : Key) = q.1 from hk1]; exact h1
          have r1 : RelV (.str p.1) e.key := relV_key (k := .inr p.1) e1
          have r2 : RelV (.int p.2) e.val := by rw [h2]; exact hk2
          refine .cons (leafK r1 fp.1 as d) (leafK r2 fp.2 as d) (entriesK as d (c := c) ht ps fun q hq => f q (by simp [hq]))
theorem dictK {H : Hp} {d : Addr} {c : Coef} (ok : HOk prog w H h) (e : H d = some (.dK (cK c))) (f : ∀ p ∈ c, (reprText p.1).length ≤ sizeLine ∧ p.2.natAbs.log2 < 1920) : ReprK prog w [d] h 1 (.ref d) (dictText (c.map entryT)) := by
  obtain ⟨_, hsys, vs, kv, o, es, ep, ho, ex, hdat, _, hp, _⟩ := dk_of ok e
  exact ReprK.dict ho ex.1 hdat hsys (by simp) (entriesK [] 0 kv hp f)
theorem seqK {H : Hp} {a : Addr} {b : Bool} {xs : List V} {as : List Addr} {d : Nat} {ts : List Str} (ok : HOk prog w H h) (e : H a = some (seqO b xs)) (hx : xs ≠ []) (hc : ∀ us, Vals xs us → ReprAllK prog w as h d us ts) (hn : a ∉ as) : ReprK prog w (a :: as) h (d + 1) (.ref a) (seqT b ts) := by
  cases b with
  | true =>
    obtain ⟨z, its, n, r, g⟩ := (show ObjOk prog w H h a (.lst xs) from ok a _ e)
    have k := hc its r
    cases its with
    | nil =>
      have := r.length
      exact absurd (List.eq_nil_of_length_eq_zero this) hx
    | cons x l => exact ReprK.list g rfl rfl hn (by simpa using k.length_eq) (fun i y e => itemK k i y (by simpa using e))
  | false =>
    obtain ⟨z, its, r, o, h1, h2, n, h3⟩ := (show ObjOk prog w H h a (.tup xs) from ok a _ e)
    have k := hc its r
    exact ReprK.tuple h1 h2 h3 hn (by simpa using k)
end
def txtT (lt : Bool) (c : Coef) (k : Int) : Str := seqT lt [dictText (c.map entryT), Str.ofString (toString k)]
def txtQ (lq lt : Bool) (hd : List V) (c : Coef) (k : Int) : Str := seqT lq (hd.map textV ++ [txtT lt c k])
def rRepr : List V → Hp → VK → Prop := fun xs H Q => ∃ (q t d : Addr) (lq lt : Bool) (hd : List V) (c : Coef) (k : Int), xs = [.ref q] ∧ H q = some (seqO lq (hd ++ [.ref t])) ∧ H t = some (seqO lt [.ref d, .int k]) ∧ H d = some (.dK (cK c)) ∧ (q ≠ t ∧ q ≠ d ∧ t ≠ d) ∧ (∀ v ∈ hd, flatV2 v) ∧
  (∀ p ∈ c, (reprText p.1).length ≤ sizeLine ∧ p.2.natAbs.log2 < 1920) ∧ k.natAbs.log2 < 1920 ∧ (txtQ lq lt hd c k).length ≤ sizeLine ∧ Q (.str (txtQ lq lt hd c k)) H
theorem call_reprT {X : Cx} (hA : X.A.guards = some []) (hu : X.A.units + 10 < cLine) : CallR X (.builtin "repr") rRepr := by
  intro pins s σ H xs us Q I r h
  obtain ⟨q, t, d, lq, lt, hd, c, k, rfl, hq, ht, hdd, ⟨n1, n2, n3⟩, f1, f2, f3, hsz, qq⟩ := h
  obtain ⟨u, rfl, rx⟩ := vals1 r
  obtain rfl : u = Value.ref q := rx
  have kd := dictK (prog := X.prog) (w := X.w) I.hok hdd f2
  have kt : ReprK X.prog X.w [t, d] s.heap 2 (.ref t) (txtT lt c k) := by
    refine seqK I.hok ht (by simp) (fun us r => ?_) (by simpa using n3)
    cases r with
    | cons r1 r =>
      cases r with
      | cons r2 r =>
        cases r
        cases (show _ = Value.ref d from r1)
        exact .cons kd (.cons (leafK (v := .int k) r2 f3 _ _) .nil)
  have kids : ∀ us, Vals (hd ++ [.ref t]) us → ReprAllK X.prog X.w [t, d] s.heap 2 us (hd.map textV ++ [txtT lt c k]) := by
    intro us r
    obtain ⟨us1, us2, rfl, r1, r2⟩ : ∃ us1 us2, us = us1 ++ us2 ∧ Vals hd us1 ∧ Vals [V.ref t] us2 := by
      clear kt kd f1 hq hsz qq
      induction hd generalizing us with
      | nil => exact ⟨[], us, rfl, .nil, r⟩
      | cons v hd ih =>
        cases r with
        | cons a b =>
          obtain ⟨u1, u2, rfl, p1, p2⟩ := ih _ b
          exact ⟨_ :: u1, u2, rfl, .cons a p1, p2⟩
    cases r2 with
    | cons a b =>
      cases b
      cases (show _ = Value.ref t from a)
      exact allK_app (allK [t, d] 2 r1 f1) kt
  have hna : q ∉ [t, d] := by simp [n1, n2]
  have fin : ∀ h' u tk, (∀ b o, s.heap.get? b = some o → h'.get? b = some o) → ∃ v H', Inv X pins σ H' { s with heap := h', toks := tk } ∧ RelV v (.str (txtQ lq lt hd c k) u) ∧ Q v H' := fun h' u tk hk => ⟨.str _, H, I.kept (t' := tk) hk, ⟨u, rfl⟩, qq⟩
  cases lq with
  | true =>
    obtain ⟨z, its, n, r, g⟩ := (show ObjOk X.prog X.w H s.heap q (.lst (hd ++ [.ref t])) from I.hok q _ hq)
    have kk := kids its r
    cases its with
    | nil => have := r.length; simp at this
    | cons x l =>
      refine call_repr_slot (by omega) ⟨_, g, rfl⟩ F.slot_list_repr.toG ?_
      refine call_list_reprK g rfl rfl hna (by simpa using kk.length_eq) (fun i y e => itemK kk i y (by simpa using e)) (g := []) hA (fun b _ => Clear.nil b) (by show X.A.units + 1 + (2 + 1) < cLine; omega) (fun _ _ e => e) (fun h' u tk hk => ⟨_, _, rfl, fin h' u tk hk⟩) hsz
  | false =>
    obtain ⟨z, its, r, o, h1, h2, n, h3⟩ := (show ObjOk X.prog X.w H s.heap q (.tup (hd ++ [.ref t])) from I.hok q _ hq)
    have kk := kids its r
    refine call_repr_slot (by omega) ⟨_, h1, h2⟩ F.slot_tuple_repr ?_
    exact call_tuple_reprK h1 h2 h3 hna (by simpa using kk) (g := []) hA (fun b _ => Clear.nil b) (by show X.A.units + 1 + (2 + 1) < cLine; omega) (fun _ _ e => e) (fun h' u tk hk => ⟨_, _, rfl, fin h' u tk hk⟩) hsz
end K8

set_option Elab.async false
set_option linter.all false
set_option maxRecDepth 100000
set_option maxHeartbeats 4000000
namespace K8
open PySem PySem.Spec PyProof.Rows L2 M8
/-! a promise where nothing around is being shown -/
section
variable {P : Program} {w : World} {K : PySem.W.Frag} {mg : Str → Option Value} {base : Heap}
structure OkG (P : Program) (w : World) (K : PySem.W.Frag) (mg : Str → Option Value) (base : Heap) (k : Nat) (x : Str) (ps : List Str) (sp : Sp) : Prop where
  ex : ∃ f fd, mg x = some (.ref f) ∧ PySem.W.keepIn K (.ref f) = true ∧ L2.Binds K fd ps [] ∧ (∀ vs H Q E, sp vs H Q E → vs.length = ps.length) ∧
    ∀ (A : Around) (outer : List Env) (s : Shared) (H : Hp) (args : Args) (us : List Value) (vs : List V) (Q : VK) (E : XK), A.guards = some [] → Room k A → Env0 P w K mg base A outer s H → BindsTo s fd args (ps.zip us) → Vals vs us → sp vs H Q E →
      codeAny (model P w) A (.call (.ref f) args) (CR CX0 outer P w H s Q E) s
theorem OkG.of {x : Str} {st : Stmt} {N ps : List Str} {k : Nat} {sp : Sp} (a : At K mg x st ps) (S : FnScope N ps (defScope st)) (len : ∀ vs H Q E, sp vs H Q E → vs.length = ps.length)
    (hbody : ∀ (f : Addr) (cdv : Value) (A : Around) (outer : List Env) (s : Shared) (H : Hp) (vs : List V) (Q : VK) (E : XK), A.guards = some [] → Room k (A.deeper (envOfC x (defScope st) s.heap.objs.size f cdv)) → sp vs H Q E →
      ∃ t, PSs (cxOf CX0 P w K mg base N x (defScope st) f cdv A outer s H E).nox (defBody st) t ∧ t { nx := fun _ H' => Q .non H', rt := Q } (L2.start N vs) H) : OkG P w K mg base (k + 1) x ps sp := by
  obtain ⟨f, fd, hm, F, b⟩ := a.ex
  obtain ⟨oc, od, kV, doc, pm, an, cdv, ct, osl, rfl, lk, hcd⟩ := F.ex
  refine ⟨f, _, hm, F.kp, b, len, fun A outer s H args us vs Q E hA hr e0 hb hv hs => ?_⟩
  refine LamX.run_ofS lk hcd S hr e0 hb hv (len _ _ _ _ hs) fun hr' => ?_
  obtain ⟨t, h, q⟩ := hbody f cdv A outer s H vs Q E hA hr' hs
  exact ⟨t, h.nox, q⟩
theorem pe_callG {X : Cx} {x : Str} {ps : List Str} {k : Nat} {sp : Sp} {e : Expr} {es : List Expr} {t : TA} {p pos : Pos} (O : OkG X.prog X.w X.K X.mg X.base k x ps sp) (hA : X.A.guards = some []) (hr : Room k X.A) (hg : Gl X x) (ha : PA X (e :: es) t)
    (hdb : (x == ("__debug__" : Str)) = false := by decide) (he : starEach (e :: es) X.env = (false, eval e X.env) :: starEach es X.env := by rfl) (hpl : (backTo pos (starEach es X.env)).any (·.1) = false := by rfl) : PE X (.Call (.Name x p) (e :: es) [] pos) (tC0 sp t) := by
  obtain ⟨f, fd, hm, hk, b, len, F⟩ := O.ex
  constructor
  intro pins s σ H Q I h
  apply wpAny_Call_Name_kw
  apply ld_glob I hg hm (hd := hdb)
  have step : ∀ us s1 vs H1, Inv X pins σ H1 s1 → Vals vs us → sp vs H1 Q E0 → wpAny (model X.prog X.w) X.A (call (.ref f) us) (EP X pins σ Q) X.xe s1 := by
    intro us s1 vs H1 I1 r q
    have hl : us.length = ps.length := by rw [← r.length]; exact len _ _ _ _ q
    have hb := b s1 us I1.kIn (by simpa using hl)
    rw [List.append_nil] at hb
    apply wpAny_call
    apply codeAny_mono (F X.A X.stack s1 H1 ⟨us, []⟩ us vs Q E0 hA hr I1.env0 hb r q)
    intro r2 s2 hq
    match r2, hq with
    | .error e, hq => exact (show False from hq).elim
    | .ok (.ret u), hq => exact I1.after hq
  apply PySem.W.callWith_K (h₀ := X.base) I.ok.mod.kin hk _ he hpl
  exact thn (ha.run pos pins s σ H _ I h) fun us s1 ⟨vs, H1, I1, r, q⟩ => ⟨I1.kIn, step us s1 vs H1 I1 r q⟩
end
end K8

set_option Elab.async false
set_option linter.all false
set_option maxRecDepth 100000
set_option maxHeartbeats 4000000
namespace K8
open PySem PySem.Spec PyProof.Rows L2 M8
theorem getS {ns : List Str} {i : Nat} {v : V} (h : (ns.map V.str)[i]? = some v) : ∃ n, ns[i]? = some n ∧ v = .str n := by
  rw [List.getElem?_map] at h
  cases e : ns[i]? with
  | none => rw [e] at h; cases h
  | some n => rw [e] at h; exact ⟨n, rfl, (Option.some.inj h).symm⟩
section
variable {P : Program} {w : World} {K : PySem.W.Frag} {mg : Str → Option Value} {base : Heap}
/-- numbers of just these names, no farther than this -/
structure Nums (ns : List Str) (far : Int) (c : Coef) : Prop where
  ks : keys c = ns
  far : ∀ p ∈ c, -far ≤ p.2 ∧ p.2 ≤ far
def spNums : Sp := fun vs H Q _ => ∃ a l ns far B, vs = [.ref a, .ref l, .int far] ∧ Spr H a B ∧ B + 100 < lot ∧ H l = some (.lst (ns.map V.str)) ∧ l ≠ a ∧ ns.Nodup ∧ ns.length ≤ 4 ∧ 0 < far ∧ far < 1000000 ∧
  ∀ p c H', H p = none → Exo [a] H H' → Spr H' a (B + 4) → Nums ns far c → H' p = some (.dK (cK c)) → Q (.ref p) H'
abbrev s__law_w_numbers : Stmt := top 44
theorem sc__law_w_numbers : FnScope ["spring", "names", "far", "name"] ["spring", "names", "far"] (defScope s__law_w_numbers) := ⟨rfl, rfl, rfl, by decide +kernel, rfl, by decide +kernel, by decide +kernel⟩
theorem ok__law_w_numbers (T : Txt K mg) (a : At K mg "_law_w_numbers" s__law_w_numbers ["spring", "names", "far"]) (O_law_draw : Ok P w K mg base CX0 1 "_law_draw" ["spring", "many"] spDraw) : Ok P w K mg base CX0 2 "_law_w_numbers" ["spring", "names", "far"] spNums := a.ok fun f fd F => by
  refine F.ok sc__law_w_numbers (fun vs H Q E h => ?_) (fun cdv A outer s H vs Q E hr h => ?_)
  · obtain ⟨a, l, ns, far, B, rfl, _⟩ := h; rfl
  · obtain ⟨a, l, ns, far, B, rfl, hs, hB, hl, hla, hnd, h4, f0, f1, q⟩ := h
    refine ⟨_, (pss_one (ps_ret (pe_callTy (call_dictC (K := K) rfl rfl) rfl T.n_dict rfl (pa_cons (pe_lc (own := [("name", 3)]) (g := gName 3) (tt := tYes) rfl sc__law_w_numbers.nd (pi_list (pv 1)) (blkOk_by (N := ["spring", "names", "far", "name"]) (sc := defScope s__law_w_numbers) (by decide +kernel)) (fun _ _ _ _ _ => (pg_name (i := 3) sc__law_w_numbers.nd rfl (Or.inl rfl))) (fun _ _ _ _ _ => pts_nil) (fun _ _ _ _ _ => (pe_tup (pa_cons (pv 3) (pa_cons (pe_op op_sub (pe_callO O_law_draw (hr.mono (by decide)) rfl (pa_cons (pv 0) (pa_cons (pe_op op_add (pe_op op_mul pe_int (pv 2)) pe_int) pa_nil))) (pv 2)) pa_nil))))) pa_nil)))), ?_⟩
    dsimp only [tNext, tRet, tCB, tCons, tNil, gName]
    refine tLc_of ?_
    refine ⟨_, rfl, l, rfl, ⟨_, SqL.of hl⟩, ?_⟩
    refine lc_pairs walk_list [a] (fun i H' => Spr H' a (B + i)) (fun i c => keys c = ns.take i ∧ ∀ p ∈ c, -far ≤ p.2 ∧ p.2 ≤ far) (by rw [List.length_map]; omega) (fun H1 e => SqL.of (e.at1 hla hl)) (fun i H1 H2 hb h => h.at (hb a (by simp))) (fun i H1 h b hb => by
      rw [show b = a by simpa using hb]; exact h.ne) hs ⟨rfl, by simp⟩ ?_ ?_
    · rintro i x H1 H2 c R R' hi e m ⟨hk, hf⟩ ⟨rfl, hx⟩ k k'
      rw [List.length_map] at hi
      obtain ⟨n, hn, rfl⟩ := getS hx
      refine ⟨rfl, yesT ?_⟩
      refine ⟨_, rfl, _, rfl, _, rfl, _, _, rfl, rfl, .inl ⟨by decide, by decide⟩, _, _, rfl, rfl, a, _, _, rfl, m, by omega, by omega, by omega, fun d H3 d0 d1 e3 s3 => ?_⟩
      refine ⟨_, rfl, _, _, rfl, rfl, by show 2 ≤ sizeLine; decide, fun p hp => ?_⟩
      have npa : p ≠ a := fun z => s3.ne (by rw [← z]; exact hp)
      refine k p n (d - far) _ (e3.free (by simpa using npa) hp) (e3.mut (e3.free (by simpa using npa) hp)) (s3.at (upd_ne npa.symm)) ⟨?_, ?_⟩ upd_same
      · rw [keys_app, hk, List.take_add_one, hn]; rfl
      · intro q hq
        rcases List.mem_append.mp hq with hq | hq
        · exact hf q hq
        · rw [show q = (n, d - far) by simpa using hq]; exact ⟨by show -far ≤ d - far; omega, by show d - far ≤ far; omega⟩
    · rintro D ps c H1 hD e m ⟨hk, hf⟩ hDH hp
      rw [List.length_map, List.take_length] at hk
      refine ⟨D, ps, _, rfl, hDH, pairs_cK hp, cK_nodup (by rw [hk]; exact hnd), fun r hr => ?_⟩
      have nra : r ≠ a := fun z => m.ne (by rw [← z]; exact hr)
      refine q r c _ (e.free (by simpa using nra) hr) (e.mut (e.free (by simpa using nra) hr)) ((m.at (upd_ne nra.symm)).mono ?_) ⟨hk, hf⟩ upd_same
      rw [List.length_map]; omega
end
end K8

set_option Elab.async false
set_option linter.all false
set_option maxRecDepth 100000
set_option maxHeartbeats 4000000
namespace K8
open PySem PySem.Spec PyProof.Rows L2 M8
theorem TAt.sans {a : Addr} {H : Hp} {q t d : Addr} {ts : Tst} (h : TAt H q t d ts) (qa : q ≠ a) (ta : t ≠ a) (da : d ≠ a) : TAt (sansL [a] H) q t d ts := by
  have f : ∀ {b : Addr} {o : HO}, b ≠ a → H b = some o → sansL [a] H b = some o := fun n e => sansL_at (by simpa using n) e
  cases ts with
  | row c k => exact ⟨f qa h.1, f ta h.2.1, f da h.2.2⟩
  | same c k => exact ⟨f qa h.1, f ta h.2.1, f da h.2.2⟩
  | div m c k => exact ⟨f qa h.1, f ta h.2.1, f da h.2.2⟩
theorem see_sans {K : PySem.W.Frag} {a : Addr} {H H' : Hp} (e : Exo [a] H H') {v : V} {d : Dat} (h : SeeF K (sansL [a] H) v d) : SeeF K H' v d :=
  See.mono (sansL_ex [a] H') (See.mono (sansL_mono fun b o n hb => ⟨n, e b o n hb⟩) h)
/-- what a handed test is in the heap -/
theorem see_term_shape {F : Addr → Prop} {G : Hp} {v : V} {d : Dat} {c : Coef} {k : Int} (h : See F G v d) (t : IsTerm d c k) : ∃ (t' dd : Addr) (lt : Bool), v = .ref t' ∧ G t' = some (seqO lt [.ref dd, .int k]) ∧ G dd = some (.dK (cK c)) := by
  obtain ⟨a, xs, rfl, hp, hx⟩ := see_sq h t.1
  rw [t.2] at hx
  cases hx with
  | cons h1 hx =>
    cases h1 with
    | dct hd hk =>
      cases hx with
      | cons h2 hx =>
        cases h2; cases hx
        rcases hp with hp | hp
        · exact ⟨a, _, true, rfl, hp, by rw [← cK_of hk]; exact hd⟩
        · exact ⟨a, _, false, rfl, hp, by rw [← cK_of hk]; exact hd⟩
def hdV : Tst → List V | .row _ _ => [.str "row"] | .same _ _ => [.str "same"] | .div m _ _ => [.str "by", .int m]
theorem see_shape {F : Addr → Prop} {G : Hp} {v : V} {d : Dat} {ts : Tst} (h : See F G v d) (t : IsTst d ts) : ∃ (q' t' dd : Addr) (lq lt : Bool), v = .ref q' ∧ G q' = some (seqO lq (hdV ts ++ [.ref t'])) ∧ G t' = some (seqO lt [.ref dd, .int (kst ts)]) ∧ G dd = some (.dK (cK (coef ts))) := by
  cases ts with
  | row c k =>
    obtain ⟨t1, td, t2, t3⟩ := t
    obtain ⟨a, xs, rfl, hp, hx⟩ := see_sq h t1
    rw [t2] at hx
    cases hx with
    | cons y1 hx =>
      cases y1
      cases hx with
      | cons y2 hx =>
        cases hx
        obtain ⟨t', dd, lt, rfl, g1, g2⟩ := see_term_shape y2 t3
        rcases hp with hp | hp
        · exact ⟨a, t', dd, true, lt, rfl, hp, g1, g2⟩
        · exact ⟨a, t', dd, false, lt, rfl, hp, g1, g2⟩
  | same c k =>
    obtain ⟨t1, td, t2, t3⟩ := t
    obtain ⟨a, xs, rfl, hp, hx⟩ := see_sq h t1
    rw [t2] at hx
    cases hx with
    | cons y1 hx =>
      cases y1
      cases hx with
      | cons y2 hx =>
        cases hx
        obtain ⟨t', dd, lt, rfl, g1, g2⟩ := see_term_shape y2 t3
        rcases hp with hp | hp
        · exact ⟨a, t', dd, true, lt, rfl, hp, g1, g2⟩
        · exact ⟨a, t', dd, false, lt, rfl, hp, g1, g2⟩
  | div m c k =>
    obtain ⟨t1, td, t2, t3⟩ := t
    obtain ⟨a, xs, rfl, hp, hx⟩ := see_sq h t1
    rw [t2] at hx
    cases hx with
    | cons y1 hx =>
      cases y1
      cases hx with
      | cons y2 hx =>
        cases y2
        cases hx with
        | cons y3 hx =>
          cases hx
          obtain ⟨t', dd, lt, rfl, g1, g2⟩ := see_term_shape y3 t3
          rcases hp with hp | hp
          · exact ⟨a, t', dd, true, lt, rfl, hp, g1, g2⟩
          · exact ⟨a, t', dd, false, lt, rfl, hp, g1, g2⟩
theorem shape_ne {G : Hp} {q t d : Addr} {lq lt : Bool} {ts : Tst} {c : Coef} {k : Int} (h1 : G q = some (seqO lq (hdV ts ++ [.ref t]))) (h2 : G t = some (seqO lt [.ref d, .int k])) (h3 : G d = some (.dK (cK c))) : q ≠ t ∧ q ≠ d ∧ t ≠ d := by
  refine ⟨fun z => ?_, fun z => ?_, fun z => ?_⟩
  · rw [z, h2] at h1
    cases lq <;> cases lt <;> cases ts <;> (have := Option.some.inj h1; simp [seqO, hdV] at this)
  · rw [z, h3] at h1
    cases lq <;> (have := Option.some.inj h1; simp [seqO] at this)
  · rw [z, h3] at h2
    cases lt <;> (have := Option.some.inj h2; simp [seqO] at this)
/-- handed over, it is the same test -/
theorem hc_keys {c c' : Coef} (h : HC c c') (hn : (keys c).Nodup) (hz : ("zero0" : Str) ∉ keys c) : (keys c').Nodup ∧ canon c' = canon c ∧ c'.length ≤ c.length + 1 ∧ ∀ p ∈ c', p ∈ c ∨ p = (("zero0" : Str), (0 : Int)) := by
  have fin : ∀ e : Coef, c'.Perm e → (keys e).Nodup → (∀ n, co e n = co c n) → (keys c').Nodup ∧ canon c' = canon c := fun e hp hne hco => by
    have hn' : (keys c').Nodup := (keys_perm hp).nodup_iff.mpr hne
    refine ⟨hn', canon_congr hn' hn fun n => ?_⟩
    rw [← hco n]
    by_cases hk : n ∈ keys e
    · obtain ⟨i, hi⟩ := look_some hk hne
      have h1 := look_mem hi
      rw [co_of_mem hne h1, co_of_mem hn' (hp.mem_iff.mpr h1)]
    · rw [co_notin hk, co_notin fun z => hk ((keys_perm hp).mem_iff.mp z)]
  rcases h with h | h
  · obtain ⟨f1, f2⟩ := fin c h hn (fun _ => rfl)
    exact ⟨f1, f2, by rw [h.length_eq]; omega, fun p hp => .inl (h.mem_iff.mp hp)⟩
  · have hne : (keys (c ++ [(("zero0" : Str), (0 : Int))])).Nodup := by
      rw [keys_app, List.nodup_append]
      exact ⟨hn, by simp [keys], fun x hx y hy e => hz (by rw [show y = "zero0" by simpa [keys] using hy] at e; rw [← e]; exact hx)⟩
    have hco : ∀ n, co (c ++ [(("zero0" : Str), (0 : Int))]) n = co c n := fun n => by
      by_cases hk : n ∈ keys c
      · obtain ⟨i, hi⟩ := look_some hk hn
        have h1 := look_mem hi
        rw [co_of_mem hn h1, co_of_mem hne (List.mem_append_left _ h1)]
      · by_cases hz2 : n = "zero0"
        · rw [co_notin hk, co_of_mem hne (i := 0) (List.mem_append_right _ (by rw [hz2]; simp))]
        · rw [co_notin hk, co_notin fun z => by
            rw [keys_app] at z
            rcases List.mem_append.mp z with z | z
            · exact hk z
            · exact hz2 (by simpa [keys] using z)]
    obtain ⟨f1, f2⟩ := fin _ h hne hco
    refine ⟨f1, f2, by rw [h.length_eq, List.length_append]; simp, fun p hp => ?_⟩
    rcases List.mem_append.mp (h.mem_iff.mp hp) with z | z
    · exact .inl z
    · exact .inr (by simpa using z)
theorem coef_setC (c : Coef) (ts : Tst) : coef (setC c ts) = c := by cases ts <;> rfl
theorem kst_setC (c : Coef) (ts : Tst) : kst (setC c ts) = kst ts := by cases ts <;> rfl
theorem mOk_setC {c : Coef} {ts : Tst} (h : mOk ts) : mOk (setC c ts) := by cases ts <;> exact h
theorem coef_canonT (ts : Tst) : coef (canonT ts) = canon (coef ts) := by cases ts <;> rfl
theorem mOk_canonT {ts : Tst} (h : mOk ts) : mOk (canonT ts) := by cases ts <;> exact h
theorem hand_tight {ts : Tst} {c' : Coef} (hn : (keys c').Nodup) (hc : canon c' = canon (coef ts)) (hm : mOk ts) : pTight (setC c' ts) = lTi (canonT ts) := by
  have h1 := tight_eq (t := setC c' ts) (by rw [coef_setC]; exact hn) (mOk_setC hm)
  rw [h1]
  cases ts with
  | row c k => show lRow (canon c') k = lRow (canon c) k; rw [show canon c' = canon c from hc]
  | same c k => show lSame (canon c') k = lSame (canon c) k; rw [show canon c' = canon c from hc]
  | div m c k => show lBy m (canon c') k = lBy m (canon c) k; rw [show canon c' = canon c from hc]
end K8

set_option Elab.async false
set_option linter.all false
set_option maxRecDepth 100000
set_option maxHeartbeats 4000000
namespace K8
open PySem PySem.Spec PyProof.Rows L2 M8
/-! how long the text is, at most -/
theorem sum_le {B : Nat} : ∀ {l : List Str}, (∀ t ∈ l, t.length ≤ B) → (l.map (·.length)).sum ≤ B * l.length
  | [], _ => by simp
  | t :: l, h => by
    have h1 := h t (by simp)
    have h2 := sum_le (l := l) fun x hx => h x (by simp [hx])
    rw [List.map_cons, List.sum_cons, List.length_cons, Nat.mul_succ]
    omega
theorem seqT_le {B : Nat} (b : Bool) {l : List Str} (h : ∀ t ∈ l, t.length ≤ B) : (seqT b l).length ≤ B * l.length + 2 * l.length + 3 := by
  have s := sum_le h
  cases b with
  | true => have := listText_len_le l; show (listText l).length ≤ _; omega
  | false => have := tupleText_len_le l; show (tupleText l).length ≤ _; omega
theorem int_le {i : Int} {k : Nat} (hk : 0 < k) (h : i.natAbs < 10 ^ k) : (Str.ofString (toString i)).length ≤ k + 1 := by
  rw [PySem.ofString_length]; exact int_text_length_le10 hk h
theorem pool_repr : ∀ n ∈ ("zero0" : Str) :: pool, (reprText n).length ≤ 20 := by decide +kernel
theorem hdV_ok {ts : Tst} (hm : mOk ts) : (∀ v ∈ hdV ts, flatV2 v) ∧ (∀ v ∈ hdV ts, (textV v).length ≤ 20) ∧ (hdV ts).length ≤ 2 := by
  have s1 : (reprText "row").length ≤ 20 := by decide +kernel
  have s2 : (reprText "same").length ≤ 20 := by decide +kernel
  have s3 : (reprText "by").length ≤ 20 := by decide +kernel
  have L : (20 : Nat) ≤ sizeLine := by decide
  cases ts with
  | row c k => exact ⟨fun v hv => by rw [show v = .str "row" by simpa [hdV] using hv]; exact Nat.le_trans s1 L, fun v hv => by rw [show v = .str "row" by simpa [hdV] using hv]; exact s1, by simp [hdV]⟩
  | same c k => exact ⟨fun v hv => by rw [show v = .str "same" by simpa [hdV] using hv]; exact Nat.le_trans s2 L, fun v hv => by rw [show v = .str "same" by simpa [hdV] using hv]; exact s2, by simp [hdV]⟩
  | div m c k =>
    have hl : m.natAbs.log2 < 1920 := by
      have h1 : m.natAbs < 2 ^ 10 := by have := hm.2; have := hm.1; omega
      have h2 : m.natAbs ≠ 0 := by have := hm.1; omega
      exact Nat.lt_trans ((Nat.log2_lt h2).mpr h1) (by decide)
    have hi : (Str.ofString (toString m)).length ≤ 20 := Nat.le_trans (int_le (k := 10) (by decide) (by have := hm.2; have := hm.1; omega)) (by decide)
    refine ⟨fun v hv => ?_, fun v hv => ?_, by simp [hdV]⟩
    · rcases List.mem_cons.mp hv with rfl | hv
      · exact Nat.le_trans s3 L
      · rw [show v = .int m by simpa using hv]; exact hl
    · rcases List.mem_cons.mp hv with rfl | hv
      · exact s3
      · rw [show v = .int m by simpa using hv]; exact hi
theorem log_ok {i : Int} (h : i.natAbs ≤ 10000000000000000) : i.natAbs.log2 < 1920 := by
  by_cases z : i.natAbs = 0
  · rw [z]; decide
  · exact Nat.lt_trans ((Nat.log2_lt z).mpr (show i.natAbs < 2 ^ 60 by omega)) (by decide)
theorem txt_ok {ts : Tst} (hm : mOk ts) {c : Coef} {k : Int} (lq lt : Bool) (hl : c.length ≤ 5) (hc : ∀ p ∈ c, p.1 ∈ ("zero0" : Str) :: pool ∧ p.2.natAbs ≤ 1000000) (hk : k.natAbs ≤ 10000000000000000) :
    (∀ p ∈ c, (reprText p.1).length ≤ sizeLine ∧ p.2.natAbs.log2 < 1920) ∧ (txtQ lq lt (hdV ts) c k).length ≤ sizeLine := by
  have L : (100000 : Nat) ≤ sizeLine := by rw [sizeLine_eq]; decide
  refine ⟨fun p hp => ⟨by have := pool_repr _ (hc p hp).1; omega, log_ok (by have := (hc p hp).2; omega)⟩, ?_⟩
  have e1 : ∀ t ∈ c.map entryT, t.length ≤ 50 := fun t ht => by
    obtain ⟨p, hp, rfl⟩ := List.mem_map.mp ht
    have h1 := pool_repr _ (hc p hp).1
    have h2 : (Str.ofString (toString p.2)).length ≤ 11 := int_le (k := 10) (by decide) (by have := (hc p hp).2; omega)
    show (reprText p.1 ++ ": " ++ Str.ofString (toString p.2)).length ≤ 50
    rw [strLen_append, strLen_append]
    have : ((": " : String) : Str).length = 2 := rfl
    omega
  have e2 : (dictText (c.map entryT)).length ≤ 300 := by
    have := dictText_len_le (c.map entryT)
    have := sum_le e1
    rw [List.length_map] at *
    omega
  have e3 : (txtT lt c k).length ≤ 700 := by
    have h3 : (Str.ofString (toString k)).length ≤ 21 := int_le (k := 20) (by decide) (by omega)
    have := seqT_le (B := 300) lt (l := [dictText (c.map entryT), Str.ofString (toString k)]) (fun t ht => by
      rcases List.mem_cons.mp ht with rfl | ht
      · exact e2
      · rw [show t = Str.ofString (toString k) by simpa using ht]; omega)
    show (seqT lt _).length ≤ _
    simp only [List.length_cons, List.length_nil] at this
    omega
  obtain ⟨_, h2, h3⟩ := hdV_ok hm
  have := seqT_le (B := 700) lq (l := (hdV ts).map textV ++ [txtT lt c k]) (fun t ht => by
    rcases List.mem_append.mp ht with ht | ht
    · obtain ⟨v, hv, rfl⟩ := List.mem_map.mp ht
      have := h2 v hv; omega
    · rw [show t = txtT lt c k by simpa using ht]; exact e3)
  show (seqT lq _).length ≤ _
  rw [List.length_append, List.length_map] at this
  simp only [List.length_cons, List.length_nil] at this
  omega
end K8

set_option Elab.async false
set_option linter.all false
set_option maxRecDepth 100000
set_option maxHeartbeats 4000000
namespace K8
open PySem PySem.Spec PyProof.Rows L2 M8
theorem hu10 {A : Around} {k : Nat} (hr : Room k A) : A.units + 10 < cLine := by have := hr.un; omega
theorem NewR.at {H H' : Hp} {u : V} {r : Res} (n : NewR H H' u r) : match r with | .inl b => u = .bl b | .inr t => ∃ q p d, u = .ref q ∧ H q = none ∧ H p = none ∧ H d = none ∧ TAt H' q p d t := by
  cases r with
  | inl b => exact n.1
  | inr t =>
    cases t with
    | row c k => obtain ⟨q, t, d, h, h1, h2, h3, h4, h5, h6, _⟩ := n; exact ⟨q, t, d, h, h1, h2, h3, h4, h5, h6⟩
    | same c k => obtain ⟨q, t, d, h, h1, h2, h3, h4, h5, h6, _⟩ := n; exact ⟨q, t, d, h, h1, h2, h3, h4, h5, h6⟩
    | div m c k => obtain ⟨q, t, d, h, h1, h2, h3, h4, h5, h6, _⟩ := n; exact ⟨q, t, d, h, h1, h2, h3, h4, h5, h6⟩
section
variable {P : Program} {w : World} {K : PySem.W.Frag} {mg : Str → Option Value} {base : Heap}
/-- tight(test = e) -/
theorem pe_tightK {X : Cx} {C : Addr} {e : Expr} {te : TE} {p kp pos : Pos} (a : At X.K X.mg "tight" s_tight ["test"]) (FT : ∀ {f : Addr} {fd : FuncData}, Fun X.K "tight" "tight" s_tight f fd → FnOk X.prog X.w X.K X.mg X.base (L2.CX X.prog X.w) 6 f fd ["test"] (spTight X.K C)) (hr : Room 6 X.A) (hg : Gl X "tight") (he : PE X e te) :
    PE X (.Call (.Name "tight" p) [] [⟨some "test", e, kp⟩] pos) (tC0 (spTightG X.K) (tCons te tNil)) := by
  obtain ⟨f, fd, hm, F, b⟩ := a.ex
  have G := (FT F).imp (sp' := spTightG X.K) (fun vs H Q E h => by
    obtain ⟨v, d, t, e1, h1, h2, h3, h4, h5⟩ := h
    exact ⟨v, d, e1, h1, .inl ⟨t, h2, h3, h4, h5⟩⟩)
  have bt : ∀ (s : Shared) (u : Value), BindsTo s fd ⟨[], [("test", u)]⟩ [("test", u)] := by
    obtain ⟨oc, od, kV, doc, pm, an, cdv, ct, osl, rfl, lk, hcd⟩ := F.ex
    intro s u
    exact BindsTo.of_eq (by rfl)
  have hp : Passes (L2.CX X.prog X.w) X E0 := fun pins σ H s e s' I h => by
    obtain ⟨_, _, _, _, _, _, _, _, _, _, _, _, z⟩ := h
    exact z.elim
  constructor
  intro pins s σ H Q I h
  apply wpAny_Call_Name_kw
  apply ld_glob I hg hm (hd := by decide)
  have step : ∀ us s1 vs H1, Inv X pins σ H1 s1 → Vals vs us → spTightG X.K vs H1 Q E0 → wpAny (model X.prog X.w) X.A (call (.ref f) [] ([("test" : Str)].zip us)) (EP X pins σ Q) X.xe s1 := by
    intro us s1 vs H1 I1 r q
    obtain ⟨v, d, t, rfl, q2⟩ := q
    obtain ⟨u, rfl, ru⟩ := vals1 r
    apply wpAny_call
    apply codeAny_mono (G.run X.A X.stack s1 H1 ⟨[], [("test", u)]⟩ [u] [v] Q E0 hr I1.env0 (bt s1 u) (.cons ru .nil) ⟨v, d, t, rfl, q2⟩)
    intro r2 s2 hq
    match r2, hq with
    | .error e, hq => exact hp pins σ H1 s1 e s2 I1 hq
    | .ok (.ret u), hq => exact I1.after hq
  apply PySem.W.callWith_KW0 (h₀ := X.base) I.ok.mod.kin F.kp (by rfl) _ (by rfl)
  exact thn ((pk_cons he pk_nil).run pos pins s σ H _ I h) fun us s1 ⟨vs, H1, I1, r, q⟩ => ⟨I1.kIn, step us s1 vs H1 I1 r q⟩
def spTestR : Sp := fun vs H Q _ => ∃ a l ns q t d ts B, vs = [.ref a, .ref l, .ref q] ∧ Spr H a B ∧ B + 800 < lot ∧ H l = some (.lst (ns.map V.str)) ∧ l ≠ a ∧ Nms ns ∧ TAt H q t d ts ∧ (q ≠ a ∧ t ≠ a ∧ d ≠ a) ∧ TermIn ns 1000000 (coef ts) ∧ (kst ts).natAbs ≤ 10000000000000000 ∧ mOk ts ∧
  ∀ H', Exo [a] H H' → Spr H' a (B + 300) → Q (.bl true) H'
abbrev s__law_test_right : Stmt := top 51
theorem sc__law_test_right : FnScope ["spring", "names", "test", "handed", "due", "was", "found", "k", "numbers", "is_so"] ["spring", "names", "test"] (defScope s__law_test_right) := ⟨rfl, rfl, rfl, by decide +kernel, rfl, by decide +kernel, by decide +kernel⟩
theorem okG__law_test_right (T : Txt K mg) {C : Addr} (a : At K mg "_law_test_right" s__law_test_right ["spring", "names", "test"]) (atight : At K mg "tight" s_tight ["test"]) (FTi : ∀ {f : Addr} {fd : FuncData}, Fun K "tight" "tight" s_tight f fd → FnOk P w K mg base (L2.CX P w) 6 f fd ["test"] (spTight K C)) (Otight : Ok P w K mg base (L2.CX P w) 6 "tight" ["test"] (spTight K C))
    (O_law_pick : Ok P w K mg base CX0 2 "_law_pick" ["spring", "some"] (spPick K)) (O_law_w_handed : Ok P w K mg base CX0 5 "_law_w_handed" ["spring", "thing"] (spHand K 168 (PreS (PreS (PreS fun _ => False))) (HndS (HndS (HndS fun _ _ => False))))) (O_law_tight : Ok P w K mg base CX0 2 "_law_tight" ["test"] spLTight) (O_law_w_body_told : Ok P w K mg base CX0 2 "_law_w_body_told" ["body"] spBodyTold) (O_law_same : Ok P w K mg base CX0 15 "_law_same" ["found", "due"] (spSameG K (Dep 13))) (O_law_w_numbers : Ok P w K mg base CX0 2 "_law_w_numbers" ["spring", "names", "far"] spNums) (O_law_w_is_so : Ok P w K mg base CX0 2 "_law_w_is_so" ["body", "numbers"] spIsSo) :
    OkG P w K mg base 17 "_law_test_right" ["spring", "names", "test"] spTestR := by
  refine OkG.of a sc__law_test_right (fun vs H Q E h => ?_) (fun f cdv A outer s H vs Q E hA0 hr h => ?_)
  · obtain ⟨a, l, ns, q, t, d, ts, B, rfl, _⟩ := h; rfl
  · obtain ⟨a, l, ns, q, t, d, ts, B, rfl, hs, hB, hl, hla, hns, hT, ⟨qa, ta, da⟩, hin, hk, hm, qq⟩ := h
    have hA : (A.deeper (envOfC "_law_test_right" (defScope s__law_test_right) s.heap.objs.size f cdv)).guards = some [] := hA0
    refine ⟨_, (pss_cons (ps_par (i := 3) (j := 4) rfl sc__law_test_right.nd rfl rfl (by decide) rfl rfl (pa_cons (pe_callO O_law_w_handed (hr.mono (by first | decide | omega)) rfl (pa_cons (pv 0) (pa_cons (pv 2) pa_nil))) (pa_cons (pe_callO O_law_tight (hr.mono (by first | decide | omega)) rfl (pa_cons (pe_callO O_law_w_body_told (hr.mono (by first | decide | omega)) rfl (pa_cons (pv 2) pa_nil)) pa_nil)) pa_nil)) rfl)
      (pss_cons (ps_par (i := 5) (j := 6) rfl sc__law_test_right.nd rfl rfl (by decide) rfl rfl (pa_cons (pe_callB (call_reprT hA (hu10 hr)) rfl T.n_repr rfl (pa_cons (pv 3) pa_nil)) (pa_cons (pe_tight Otight (hr.mono (by omega)) rfl (pv 3)) pa_nil)) rfl)
      (pss_cons (ps_if (PW.pt (pw_or (pt_not (pt_val (pe_callO O_law_same (hr.mono (by first | decide | omega)) rfl (pa_cons (pe_lst (pa_cons (pv 6) pa_nil)) (pa_cons (pe_lst (pa_cons (pv 4) pa_nil)) pa_nil))))) (pw_or1 (pt_cmpR op_ne (pe_callB (call_reprT hA (hu10 hr)) rfl T.n_repr rfl (pa_cons (pv 3) pa_nil)) (pv 5) (nomark _))))) (pss_one (ps_ret pe_bl)) pss_nil)
      (pss_cons (ps_for PassesOwn.never rfl (pi_range1 rfl T.n_range (pa_cons pe_int pa_nil)) (pg_name (i := 7) sc__law_test_right.nd rfl (Or.inl rfl)) (pss_cons (ps_set (i := 8) sc__law_test_right.nd rfl (Or.inl rfl) (pe_callO O_law_w_numbers (hr.mono (by first | decide | omega)) rfl (pa_cons (pv 0) (pa_cons (pv 1) (pa_cons (pe_callO O_law_pick (hr.mono (by first | decide | omega)) rfl (pa_cons (pv 0) (pa_cons (pe_lst (pa_cons pe_int (pa_cons pe_int (pa_cons pe_int pa_nil)))) pa_nil))) pa_nil)))))
      (pss_cons (ps_set (i := 9) sc__law_test_right.nd rfl (Or.inl rfl) (pe_ifExp (pt_val (pe_callB (call_isiDK (K := K) rfl) rfl T.n_isinstance rfl (pa_cons (pv 6) (pa_cons (pe_tyN (n := "bool") rfl T.n_bool rfl) pa_nil)))) (pv 6) (pe_callO O_law_w_is_so (hr.mono (by first | decide | omega)) rfl (pa_cons (pv 6) (pa_cons (pv 8) pa_nil)))))
      (pss_one (ps_if (pt_cmpR op_ne (pv 9) (pe_callO O_law_w_is_so (hr.mono (by first | decide | omega)) rfl (pa_cons (pv 2) (pa_cons (pv 8) pa_nil))) (nomark _)) (pss_one (ps_ret pe_bl)) pss_nil)))))
      (pss_cons (ps_if (pt_not (pt_val (pe_callB (call_isiDK (K := K) rfl) rfl T.n_isinstance rfl (pa_cons (pv 6) (pa_cons (pe_tyN (n := "bool") rfl T.n_bool rfl) pa_nil))))) (pss_cons (ps_if (pt_not (pt_val (pe_callO O_law_same (hr.mono (by first | decide | omega)) rfl (pa_cons (pe_lst (pa_cons (pe_tight Otight (hr.mono (by omega)) rfl (pv 6)) pa_nil)) (pa_cons (pe_lst (pa_cons (pv 4) pa_nil)) pa_nil))))) (pss_one (ps_ret pe_bl)) pss_nil)
      (pss_one (ps_dput (hu_of hr) (pe_ix (ix_qK (K := K) rfl) (pe_ix (ix_qK (K := K) rfl) (pv 6) (pe_un un_neg pe_int) (fun _ _ => rfl)) pe_int (fun _ _ => rfl)) pe_str pe_int rfl))) pss_nil)
      (pss_one (ps_ret (pe_callO O_law_same (hr.mono (by first | decide | omega)) rfl (pa_cons (pe_lst (pa_cons (pe_tightK atight FTi (hr.mono (by omega)) rfl (pv 3)) pa_nil)) (pa_cons (pe_lst (pa_cons (pv 4) pa_nil)) pa_nil)))))))))), ?_⟩
    have h4 := hns.l4
    have few := hin.few h4
    have lenc : (coef ts).length ≤ 4 := by
      have := List.subset_of_nodup_length hin.nd hin.sub
      unfold keys at this; rw [List.length_map] at this; omega
    have hz0 : ("zero0" : Str) ∉ keys (coef ts) := fun z => zero_out (hns.mem _ (hin.sub _ z))
    have tc : Told (canon (coef ts)) := told_canon few.nd
    have gts : Good (coef ts) := pool_good hns hin (by decide)
    have gcc := good_canon gts
    refine ⟨_, rfl, _, rfl, a, .ref q, tstDat ts, B, [a], rfl, hs, by omega, by simp, fun b hb => by rw [show b = a by simpa using hb]; exact hs.ne, see_tst (TAt.sans hT qa ta da), pre_tst lenc hin.nd hz0, fun v' d' H1 e1 s1 sv rh => ?_⟩
    obtain ⟨c', ht', hc'⟩ := hand_tst rh
    obtain ⟨nd', can', len', mem'⟩ := hc_keys hc' hin.nd hz0
    have hT1 := hT.exo e1 qa ta da
    refine ⟨_, rfl, q, t, d, ts, rfl, hT1, few, fun q1 t1 d1 H2 e2 n2 => ?_⟩
    obtain ⟨m1, m2, m3, m4⟩ := n2
    refine ⟨q1, t1, d1, canonT ts, rfl, m4, by rw [coef_canonT]; exact gcc.few, by rw [coef_canonT]; exact gcc.lim, mOk_canonT hm, by rw [coef_canonT]; exact tc, fun u H3 e3 nr => ?_⟩
    refine ⟨_, _, rfl, ?_⟩
    have e23 := e2.trans e3
    have s3 := s1.ex e23
    -- handed, as long as nothing but the spring is changed
    have svx : ∀ {H' : Hp}, Exo [a] H1 H' → SeeF K H' v' d' := fun e => see_sans e sv
    obtain ⟨q', t', dd, lq, lt, rfl, g1, g2, g3⟩ := see_shape sv ht'
    rw [kst_setC] at g2
    rw [coef_setC] at g3
    have hdv : hdV (setC c' ts) = hdV ts := by cases ts <;> rfl
    rw [hdv] at g1
    obtain ⟨x1, x2, x3⟩ := shape_ne g1 g2 g3
    have cok : ∀ p ∈ c', p.1 ∈ ("zero0" : Str) :: pool ∧ p.2.natAbs ≤ 1000000 := fun p hp => by
      rcases mem' p hp with h | h
      · have := hin.far p h
        exact ⟨List.mem_cons_of_mem _ (hns.mem _ (hin.sub _ (List.mem_map.mpr ⟨p, h, rfl⟩))), by omega⟩
      · rw [h]; exact ⟨by simp, by decide⟩
    obtain ⟨tx1, tx2⟩ := txt_ok (ts := ts) hm lq lt (c := c') (k := kst ts) (by omega) cok hk
    obtain ⟨hd1, _, _⟩ := hdV_ok hm
    have rep : ∀ {H' : Hp} {R : V → Hp → Prop}, Exo [a] H1 H' → R (.str (txtQ lq lt (hdV ts) c' (kst ts))) H' → rRepr [.ref q'] H' R := fun e r => by
      have up : ∀ {b : Addr} {o : HO}, sansL [a] H1 b = some o → _ := fun {b o} h => sansL_ex [a] _ _ _ ((sansL_mono (N' := [a]) fun b o n hb => ⟨n, e b o n hb⟩) b o h)
      exact ⟨q', t', dd, lq, lt, hdV ts, c', kst ts, rfl, up g1, up g2, up g3, ⟨x1, x2, x3⟩, hd1, tx1, log_ok hk, tx2, r⟩
    have gc' : Good c' := ⟨⟨nd', by omega⟩, fun p hp => by have := (cok p hp).2; omega, fun n hn => by
      obtain ⟨p, hp, rfl⟩ := List.mem_map.mp hn
      rcases List.mem_cons.mp (cok p hp).1 with z | z
      · rw [z]; exact zero_nm
      · exact pool_nm _ z⟩
    have tEq : pTight (setC c' ts) = lTi (canonT ts) := hand_tight nd' can' hm
    have soEq : ∀ cn, soR cn (lTi (canonT ts)) = so cn ts := fun cn => by rw [truth (mOk_canonT hm) (by rw [coef_canonT]; exact tc), so_canon few.nd]
    have hgood : ∀ t0, lTi (canonT ts) = .inr t0 → Good (coef t0) ∧ Told (coef t0) ∧ mOk t0 ∧ (∀ n ∈ keys (coef t0), n ∈ keys (coef ts)) ∧ lTi t0 = .inr t0 := fun t0 h => by
      have ta : Told (coef (canonT ts)) := by rw [coef_canonT]; exact tc
      obtain ⟨r1, r2, r3, r4⟩ := res_good (by rw [coef_canonT]; exact gcc) (mOk_canonT hm) ta h
      refine ⟨r1, r2, r3, fun n hn => ?_, still (mOk_canonT hm) ta h⟩
      have h2 := r4 n hn
      rw [coef_canonT, keys_canon] at h2
      have h3 := (mem_nz few.nd).mp h2
      exact List.mem_map.mpr ⟨_, co_mem h3, rfl⟩
    generalize hr0 : lTi (canonT ts) = r at nr tEq soEq hgood
    -- due, as long as nothing but the spring is changed
    have dueS : SeeF K (sansL [a] H3) u (datR r) := by
      cases r with
      | inl b => obtain rfl : u = .bl b := nr; exact .bl b
      | inr t0 =>
        obtain ⟨qz, pz, dz, rfl, z1, z2, z3, z4⟩ := nr
        have s2 := s1.ex e2
        exact see_tst (TAt.sans z4 (fun z => s2.ne (by rw [← z]; exact z1)) (fun z => s2.ne (by rw [← z]; exact z2)) (fun z => s2.ne (by rw [← z]; exact z3)))
    have duex : ∀ {H' : Hp}, Exo [a] H3 H' → SeeF K H' u (datR r) := fun e => see_sans e dueS
    have depr : Dep 12 (datR r) := (dep_datR (fun t0 h => by have := (hgood t0 h).1.few.len; omega)).le (by decide)
    have e13 : Exo [a] H1 H3 := e23.exo _
    refine ⟨_, rfl, ?_⟩
    dsimp only [tNil]
    refine rep e13 ?_
    refine ⟨_, rfl, .ref q', d', setC c' ts, rfl, svx e13, ht', by rw [coef_setC]; exact gc', mOk_setC hm, fun u2 H4 r4 => ⟨_, _, rfl, ?_⟩⟩
    rw [tEq] at r4
    have e34 := r4.ex2
    -- the two are the same
    refine ⟨_, rfl, by show 1 ≤ sizeLine; decide, fun L1 hL1 => ⟨_, rfl, by show 1 ≤ sizeLine; decide, fun L2' hL2 => ?_⟩⟩
    have y1 := Ex.new (o := .lst [u2]) hL1
    have y2 := Ex.new (o := .lst [u]) hL2
    refine ⟨.ref L1, .ref L2', .lst [datR r], rfl, .lst (y2 _ _ upd_same) (.cons ((NewR.see r4).mono (y1.trans y2)) .nil), .lst upd_same (.cons (duex ((e34.trans (y1.trans y2)).exo _)) .nil), dep_lst (n := 12) (by simp) (all1 depr), fun H5 e5 => ⟨_, rfl, iteF ?_⟩⟩
    have e45 : Ex H4 H5 := (y1.trans y2).trans e5
    have e35 := e34.trans e45
    have e15 : Exo [a] H1 H5 := e13.trans (e35.exo _)
    refine ⟨_, rfl, ?_⟩
    dsimp only [tNil]
    refine rep e15 ⟨_, rfl, rfl, _, rfl, ?_⟩
    rw [show (!decide (V.str (txtQ lq lt (hdV ts) c' (kst ts)) = V.str (txtQ lq lt (hdV ts) c' (kst ts)))) = false by simp]
    refine iteF ?_
    have fat := NewR.at r4
    have s5 := s3.ex e35
    dsimp only [tSeq, gName, tNext]
    refine tFor_of ?_
    refine ⟨10, rfl, by decide, by decide, ?_⟩
    refine for_itB (walk_range (n := 10)) (fun i σ H' => ∃ x7 x8 x9, σ = [some (.ref a), some (.ref l), some (.ref q), some (.ref q'), some u, some (.str (txtQ lq lt (hdV ts) c' (kst ts))), some u2, x7, x8, x9] ∧ Exo [a] H5 H' ∧ Spr H' a (B + 168 + 5 * i)) ⟨none, none, none, rfl, Exo.refl _ _, s5⟩ (fun _ _ _ _ _ => trivial) ?_ ?_
    · rintro i x σ H6 H6' hi ⟨x7, x8, x9, rfl, e6, s6⟩ ⟨rfl, rfl⟩
      refine ⟨_, rfl, _, rfl, _, rfl, by show 3 ≤ sizeLine; decide, fun N1 hN1 => ?_⟩
      have nN : N1 ≠ a := fun z => s6.ne (by rw [← z]; exact hN1)
      have e7a := Ex.new (o := .lst [.int 2, .int 6, .int 40]) hN1
      refine ⟨a, N1, _, _, rfl, s6.ex e7a, by omega, nN, SqQ.l upd_same, by decide, by decide, fun j y H7 hy e7 s7 => ?_⟩
      obtain ⟨far, rfl, hf0, hf1⟩ : ∃ far : Int, y = .int far ∧ 0 < far ∧ far ≤ 40 := by
        match j, hy with
        | 0, hy => cases hy; exact ⟨_, rfl, by decide, by decide⟩
        | 1, hy => cases hy; exact ⟨_, rfl, by decide, by decide⟩
        | 2, hy => cases hy; exact ⟨_, rfl, by decide, by decide⟩
        | n + 3, hy => simp at hy
      have e57 : Exo [a] H5 H7 := (e6.trans (e7a.exo _)).trans e7
      have e07 : Exo [a] H H7 := (e1.trans e15).trans e57
      refine ⟨a, l, ns, far, _, rfl, s7, by omega, e07.at1 hla hl, hla, hns.nd, h4, hf0, by omega, fun p9 cn H9 hp9n e9 s9 hcn hp9 => ?_⟩
      have e59 := e57.trans e9
      have e09 := e07.trans e9
      have hT9 := hT.exo e09 qa ta da
      have pd9 : p9 ≠ d := fun z => by
        obtain ⟨_, _, _, _, _, hdd⟩ := (hT.exo e07 qa ta da).view
        rw [← z, hp9n] at hdd; cases hdd
      have s9' : Spr H9 a (B + 168 + 5 * (i + 1)) := s9.mono (by omega)
      have hso := soEq cn
      cases r with
      | inl b =>
        have hu2 : u2 = .bl b := fat
        subst hu2
        refine ⟨_, rfl, .bl b, "bool", .bl b, _, rfl, .bl b, kit_bool _, _, rfl, iteT ?_⟩
        refine ⟨_, rfl, ?_⟩
        refine ⟨_, rfl, _, rfl, _, rfl, q, t, d, p9, ts, cn, rfl, hT9, hp9, pd9, few, gts.lim, hm, by rw [hcn.ks]; exact hns.nd, fun p hp _ => by rw [hcn.ks]; exact hin.sub _ (List.mem_map.mpr ⟨p, hp, rfl⟩), fun H12 e12 => ⟨rfl, _, rfl, ?_⟩⟩
        rw [show (!decide (V.bl b = V.bl (so cn ts))) = false by rw [show b = so cn ts from hso]; simp]
        exact iteF ⟨_, _, _, rfl, e59.trans (e12.exo _), s9'.ex e12⟩
      | inr t0 =>
        obtain ⟨q2, t2, d2, rfl, f1, f2, f3, f4⟩ := fat
        obtain ⟨w1, w2, w3, w4, w5⟩ := hgood t0 rfl
        have n1a : q2 ≠ a := fun z => s3.ne (by rw [← z]; exact f1)
        have n2a : t2 ≠ a := fun z => s3.ne (by rw [← z]; exact f2)
        have n3a : d2 ≠ a := fun z => s3.ne (by rw [← z]; exact f3)
        have hF9 := TAt.exo e59 n1a n2a n3a (TAt.ex e45 f4)
        have pd2 : p9 ≠ d2 := fun z => by
          obtain ⟨_, _, _, _, _, hdd⟩ := (TAt.exo e57 n1a n2a n3a (TAt.ex e45 f4)).view
          rw [← z, hp9n] at hdd; cases hdd
        refine ⟨_, rfl, .ref q2, "bool", tstDat t0, _, rfl, see_tst hF9, kit_bool _, _, rfl, ?_⟩
        rw [show isBool (tstDat t0) = false by cases t0 <;> rfl]
        refine iteF ⟨_, rfl, _, rfl, q2, t2, d2, p9, t0, cn, rfl, hF9, hp9, pd2, w1.few, w1.lim, w3, by rw [hcn.ks]; exact hns.nd, fun p hp _ => by rw [hcn.ks]; exact hin.sub _ (w4 _ (List.mem_map.mpr ⟨p, hp, rfl⟩)), fun H11 e11 => ?_⟩
        have hT9 := TAt.ex e11 hT9
        have hp9 := e11 _ _ hp9
        refine ⟨_, rfl, _, rfl, _, rfl, q, t, d, p9, ts, cn, rfl, hT9, hp9, pd9, few, gts.lim, hm, by rw [hcn.ks]; exact hns.nd, fun p hp _ => by rw [hcn.ks]; exact hin.sub _ (List.mem_map.mpr ⟨p, hp, rfl⟩), fun H12 e12 => ⟨rfl, _, rfl, ?_⟩⟩
        rw [show (!decide (V.bl (so cn t0) = V.bl (so cn ts))) = false by rw [show so cn t0 = so cn ts from hso]; simp]
        exact iteF ⟨_, _, _, rfl, e59.trans ((e11.trans e12).exo _), (s9'.ex e11).ex e12⟩
    · rintro σ H6 ⟨x7, x8, x9, rfl, e6, s6⟩
      have e36 : Exo [a] H3 H6 := (e35.exo _).trans e6
      cases r with
      | inl b =>
        have hu2 : u2 = .bl b := fat
        subst hu2
        refine ⟨_, rfl, .bl b, "bool", .bl b, _, rfl, .bl b, kit_bool _, _, rfl, iteF ?_⟩
        refine ⟨_, rfl, .ref q', d', setC c' ts, rfl, svx (e13.trans (e36)), ht', by rw [coef_setC]; exact gc', mOk_setC hm, fun u9 H20 r9 => ?_⟩
        rw [tEq] at r9
        refine ⟨by show 1 ≤ sizeLine; decide, fun L5 hL5 => ⟨_, rfl, by show 1 ≤ sizeLine; decide, fun L6 hL6 => ?_⟩⟩
        have z1 := Ex.new (o := .lst [u9]) hL5
        have z2 := Ex.new (o := .lst [u]) hL6
        have z3 := r9.ex2
        refine ⟨.ref L5, .ref L6, .lst [datR (.inl b)], rfl, .lst (z2 _ _ upd_same) (.cons ((NewR.see r9).mono (z1.trans z2)) .nil), .lst upd_same (.cons (duex ((e36).trans ((z3.trans (z1.trans z2)).exo _))) .nil), dep_lst (n := 12) (by simp) (all1 depr), fun H21 e21 => ?_⟩
        have zz := (z3.trans (z1.trans z2)).trans e21
        exact qq H21 ((e1.trans (e13.trans (e36))).trans (zz.exo _)) ((Spr.ex (s6) zz).mono (by omega))
      | inr t0 =>
        obtain ⟨q2, t2, d2, rfl, f1, f2, f3, f4⟩ := fat
        obtain ⟨w1, w2, w3, w4, w5⟩ := hgood t0 rfl
        have n1a : q2 ≠ a := fun z => s3.ne (by rw [← z]; exact f1)
        have n2a : t2 ≠ a := fun z => s3.ne (by rw [← z]; exact f2)
        have n3a : d2 ≠ a := fun z => s3.ne (by rw [← z]; exact f3)
        have hF6 := TAt.exo e6 n1a n2a n3a (TAt.ex e45 f4)
        refine ⟨_, rfl, .ref q2, "bool", tstDat t0, _, rfl, see_tst hF6, kit_bool _, _, rfl, ?_⟩
        rw [show isBool (tstDat t0) = false by cases t0 <;> rfl]
        refine iteT ?_
        refine ⟨_, rfl, .ref q2, tstDat t0, t0, rfl, see_tst hF6, isTst_dat t0, w1, w3, fun u7 H7 r7 => ⟨by show 1 ≤ sizeLine; decide, fun L3 hL3 => ⟨_, rfl, by show 1 ≤ sizeLine; decide, fun L4 hL4 => ?_⟩⟩⟩
        rw [tight_told w2 w3, w5] at r7
        have v1 := Ex.new (o := .lst [u7]) hL3
        have v2 := Ex.new (o := .lst [u]) hL4
        have v3 := r7.ex2
        refine ⟨.ref L3, .ref L4, .lst [datR (.inr t0)], rfl, .lst (v2 _ _ upd_same) (.cons ((NewR.see r7).mono (v1.trans v2)) .nil), .lst upd_same (.cons (duex (e36.trans ((v3.trans (v1.trans v2)).exo _))) .nil), dep_lst (n := 12) (by simp) (all1 depr), fun H8 e8 => ⟨_, rfl, iteF ?_⟩⟩
        have e68 := (v3.trans (v1.trans v2)).trans e8
        have hF8 := TAt.ex e68 hF6
        obtain ⟨xs, hq8, hx0, hx1, hp8, hd8⟩ := hF8.view
        have szl : (cK (coef t0)).length < sizeLine := by
          have := w1.few.len
          have L : (100 : Nat) < sizeLine := by decide
          rw [cK_len]; omega
        refine ⟨_, rfl, _, rfl, q2, xs, _, _, rfl, rfl, SqQ.t hq8, hx1, t2, _, 0, _, rfl, rfl, SqQ.t hp8, at0, d2, _, rfl, .inl ⟨cK (coef t0), .inr "late", hd8, rfl, szl, rfl⟩, ?_⟩
        have e38 : Exo [a] H3 H8 := e36.trans (e68.exo _)
        have eFin : Exo [a] H3 (upd H8 d2 (.dK (putK (cK (coef t0)) (.inr "late") (.int 1)))) := e38.mut f3
        have sFin : Spr (upd H8 d2 (.dK (putK (cK (coef t0)) (.inr "late") (.int 1)))) a (B + 168 + 5 * 10) := (s6.ex e68).at (upd_ne n3a.symm)
        refine ⟨_, rfl, .ref q', d', setC c' ts, rfl, svx (e13.trans (eFin)), ht', by rw [coef_setC]; exact gc', mOk_setC hm, fun u9 H20 r9 => ?_⟩
        rw [tEq] at r9
        refine ⟨by show 1 ≤ sizeLine; decide, fun L5 hL5 => ⟨_, rfl, by show 1 ≤ sizeLine; decide, fun L6 hL6 => ?_⟩⟩
        have z1 := Ex.new (o := .lst [u9]) hL5
        have z2 := Ex.new (o := .lst [u]) hL6
        have z3 := r9.ex2
        refine ⟨.ref L5, .ref L6, .lst [datR (.inr t0)], rfl, .lst (z2 _ _ upd_same) (.cons ((NewR.see r9).mono (z1.trans z2)) .nil), .lst upd_same (.cons (duex ((eFin).trans ((z3.trans (z1.trans z2)).exo _))) .nil), dep_lst (n := 12) (by simp) (all1 depr), fun H21 e21 => ?_⟩
        have zz := (z3.trans (z1.trans z2)).trans e21
        exact qq H21 ((e1.trans (e13.trans (eFin))).trans (zz.exo _)) ((Spr.ex (sFin) zz).mono (by omega))
end
end K8

set_option Elab.async false
set_option linter.all false
set_option maxRecDepth 100000
set_option maxHeartbeats 4000000
namespace K8
open PySem PySem.Spec PyProof.Rows L2 M8 LamX
section
variable {X : Cx} {K : PySem.W.Frag} {U : List Nat}
theorem pe_negC {i : Int} {k : Nat} {p1 pos : Pos} : PE X (.UnaryOp .USub (.Constant (.int i) k p1) pos) (tC (.int (-i))) := ⟨fun pins s σ H Q I q => (pe_un un_neg pe_int).run pins s σ H Q I ⟨i, rfl, q⟩⟩
theorem lz_d2 {pos : Pos} {ka kb ea eb : Expr} {k1 k2 : Key} {v1 v2 : V} {d1 d2 : Dat} (hk1 : PE X ka (tC (kV k1))) (hk2 : PE X kb (tC (kV k2))) (hv1 : PE X ea (tC v1)) (hv2 : PE X eb (tC v2)) (hs1 : ∀ H, SeeF K H v1 d1) (hs2 : ∀ H, SeeF K H v2 d2) (hn : k2 ≠ k1) :
    PE X (.Dict [some ka, some kb] [ea, eb] pos) (tL K U fun _ => .dct [(k1, d1), (k2, d2)]) := by
  refine ⟨fun pins s σ H Q I q => (pe_disp (pps_cons hk1 hv1 (pps_cons hk2 hv2 pps_nil)) rfl rfl (by simp) (by simp)).run pins s σ H Q I ?_⟩
  obtain ⟨N, Γ, g, q⟩ := q
  intro p hp
  have e : mergeK [] [(k1, v1), (k2, v2)] = [(k1, v1), (k2, v2)] := mergeK_nil (by simp [hn.symm])
  refine ⟨upd_same, [(k1, v1), (k2, v2)], rfl, by simp, ?_⟩
  rw [e]
  exact q _ _ ((Ex.new hp).mut hp) (.dct (sansL_at (newL g.al hp) upd_same) (.cons (hs1 _) (.cons (hs2 _) .nil)))
end
section
variable {P : Program} {w : World} {K : PySem.W.Frag} {mg : Str → Option Value} {base : Heap}
theorem SqL.keepN {K : PySem.W.Frag} {H H' : Hp} {l : Addr} {xs : List V} (h : SqL K H l xs) (e : ∀ o, H l = some o → (∀ ps, o ≠ .tbl ps) → H' l = some o) : SqL K H' l xs := by
  rcases h with (h | ⟨o, h⟩) | h
  · exact .inl (.inl (e _ h fun ps z => by cases z))
  · exact .inl (.inr ⟨o, e _ h fun ps z => by cases z⟩)
  · exact .inr h
theorem tabs_exo {T : List (Addr × Str)} {a : Addr} {B : Nat} {H H' : Hp} (e : Exo [a] H H') (s : Spr H a B) (t : Tabs T H) : Tabs T H' := fun p hp => by
  obtain ⟨ps, h1, h2, h3⟩ := t p hp
  obtain ⟨_, _, _, hx, _⟩ := s
  refine ⟨ps, e.at1 (fun z => by rw [z, hx] at h1; cases h1) h1, h2, fun pos cv hc => ?_⟩
  obtain ⟨c2, h4, h5⟩ := h3 pos cv hc
  exact ⟨c2, h4, e.at1 (fun z => by rw [z, hx] at h5; cases h5) h5⟩
theorem TstIn.wide {ns : List Str} {g : Int} {ts : Tst} (h : TstIn ns g ts) (hg : g ≤ 1000000) : TermIn ns 1000000 (coef ts) ∧ (kst ts).natAbs ≤ 10000000000000000 ∧ mOk ts := ⟨⟨h.t.nd, h.t.sub, fun p hp => by have := h.t.far p hp; omega⟩, by have := h.k; omega, h.m⟩
theorem TAt.updn {H : Hp} {q t d b : Addr} {o : HO} {ts : Tst} (h : TAt H q t d ts) (n1 : q ≠ b) (n2 : t ≠ b) (n3 : d ≠ b) : TAt (upd H b o) q t d ts := by
  cases ts with
  | row c k => exact ⟨by rw [upd_ne n1]; exact h.1, by rw [upd_ne n2]; exact h.2.1, by rw [upd_ne n3]; exact h.2.2⟩
  | same c k => exact ⟨by rw [upd_ne n1]; exact h.1, by rw [upd_ne n2]; exact h.2.1, by rw [upd_ne n3]; exact h.2.2⟩
  | div m c k => exact ⟨by rw [upd_ne n1]; exact h.1, by rw [upd_ne n2]; exact h.2.1, by rw [upd_ne n3]; exact h.2.2⟩
theorem cA1 : pTight (.row [("a", 4)] 3) = .inr (.row [("a", 1)] 0) := by
  have t : Told [(("a" : Str), (4 : Int))] := ⟨by simp [keys], by simp [keys], by simp⟩
  rw [tight_told (t := .row [("a", 4)] 3) t trivial]
  show lRow _ _ = _
  unfold lRow
  rw [if_neg (by simp), show gcds (vals [(("a" : Str), (4 : Int))]) 0 = 4 by decide]
  rfl
theorem cA2 : pTight (.row [("a", 6)] (-7)) = .inr (.row [("a", 1)] (-2)) := by
  have t : Told [(("a" : Str), (6 : Int))] := ⟨by simp [keys], by simp [keys], by simp⟩
  rw [tight_told (t := .row [("a", 6)] (-7)) t trivial]
  show lRow _ _ = _
  unfold lRow
  rw [if_neg (by simp), show gcds (vals [(("a" : Str), (6 : Int))]) 0 = 6 by decide]
  rfl
theorem goodA (i : Int) (h : i.natAbs ≤ 1000) : Good [(("a" : Str), i)] := ⟨⟨by simp [keys], by simp⟩, fun p hp => by rw [show p = (("a" : Str), i) by simpa using hp]; show i.natAbs ≤ _; omega, fun n hn => by rw [show n = "a" by simpa [keys] using hn]; decide +kernel⟩
theorem toldXY (i j : Int) (hi : i ≠ 0) (hj : j ≠ 0) : Told [(("x" : Str), i), (("y" : Str), j)] := by
  refine ⟨?_, by show ([("x" : Str), "y"] : List Str).Nodup; decide +kernel, fun p hp => ?_⟩
  · refine .cons (fun b hb => ?_) (.cons (by simp) .nil)
    rw [show b = ("y" : Str) by simpa using hb]
    show ltCps ("y" : Str).cps.toList ("x" : Str).cps.toList = false
    decide +kernel
  · rcases List.mem_cons.mp hp with rfl | hp
    · exact hi
    · rw [show p = (("y" : Str), j) by simpa using hp]; exact hj
theorem toldX (i : Int) (hi : i ≠ 0) : Told [(("x" : Str), i)] := ⟨by simp [keys], by simp [keys], fun p hp => by rw [show p = (("x" : Str), i) by simpa using hp]; exact hi⟩
theorem goodXY (i j : Int) (hi : i.natAbs ≤ 1000) (hj : j.natAbs ≤ 1000) : Good [(("x" : Str), i), (("y" : Str), j)] := by
  refine ⟨⟨by show ([("x" : Str), "y"] : List Str).Nodup; decide +kernel, by simp⟩, fun p hp => ?_, fun n hn => ?_⟩
  · rcases List.mem_cons.mp hp with rfl | hp
    · show i.natAbs ≤ _; omega
    · rw [show p = (("y" : Str), j) by simpa using hp]; show j.natAbs ≤ _; omega
  · rcases List.mem_cons.mp (show n ∈ [("x" : Str), "y"] from hn) with rfl | hn
    · decide +kernel
    · rw [show n = ("y" : Str) by simpa using hn]; decide +kernel
theorem goodX (i : Int) (h : i.natAbs ≤ 1000) : Good [(("x" : Str), i)] := ⟨⟨by simp [keys], by simp⟩, fun p hp => by rw [show p = (("x" : Str), i) by simpa using hp]; show i.natAbs ≤ _; omega, fun n hn => by rw [show n = ("x" : Str) by simpa [keys] using hn]; decide +kernel⟩
theorem cB1 : pTight (.same [("x", -4), ("y", 6)] 2) = .inr (.same [("x", 2), ("y", -3)] (-1)) := by
  rw [tight_told (t := .same [("x", -4), ("y", 6)] 2) (toldXY _ _ (by decide) (by decide)) trivial]
  show lSame _ _ = _
  unfold lSame sgnd
  rw [if_neg (by simp), show gcds (vals [(("x" : Str), (-4 : Int)), (("y" : Str), (6 : Int))]) 0 = 2 by decide, if_neg (by decide), if_pos (by decide)]
  rfl
theorem cB2 : pTight (.div 6 [("x", 4), ("y", 8)] 10) = .inr (.div 3 [("x", 2), ("y", 1)] 2) := by
  rw [tight_told (t := .div 6 [("x", 4), ("y", 8)] 10) (toldXY _ _ (by decide) (by decide)) ⟨by decide, by decide⟩]
  show lBy _ _ _ = _
  have e : lrs 6 [(("x" : Str), (4 : Int)), (("y" : Str), (8 : Int))] = ([("x", 4), ("y", 2)] : Coef) := by rfl
  unfold lBy
  rw [e, show gcds ((6 : Int) :: vals [(("x" : Str), (4 : Int)), (("y" : Str), (2 : Int))]) 0 = 2 by decide, if_neg (show ¬ ((10 : Int) % 6 % 2 > 0 ∨ [(("x" : Str), (4 : Int)), (("y" : Str), (2 : Int))] = []) by simp)]
  rfl
theorem cB3 : pTight (.div 4 [("x", 2)] 1) = .inl false := by
  rw [tight_told (t := .div 4 [("x", 2)] 1) (toldX _ (by decide)) ⟨by decide, by decide⟩]
  show lBy _ _ _ = _
  have e : lrs 4 [(("x" : Str), (2 : Int))] = ([("x", 2)] : Coef) := by rfl
  unfold lBy
  rw [e, show gcds ((4 : Int) :: vals [(("x" : Str), (2 : Int))]) 0 = 2 by decide, if_pos (.inl (by decide))]
  simp
theorem cB4 : pTight (.div 1 [("x", 5)] 3) = .inl true := by
  rw [tight_told (t := .div 1 [("x", 5)] 3) (toldX _ (by decide)) ⟨by decide, by decide⟩]
  show lBy _ _ _ = _
  have e : lrs 1 [(("x" : Str), (5 : Int))] = ([] : Coef) := by rfl
  unfold lBy
  rw [e, if_pos (.inr rfl)]
  rfl
def spLaw (K : PySem.W.Frag) (TP : Addr) : Sp := fun vs H Q _ => ∃ (a : Addr) (ns : List Int), vs = [.ref a] ∧ SqL K H a (ns.map V.int) ∧ ns.length ≤ 63 ∧ Tabs (T0 TP) H ∧ ∀ H', Q (.bl true) H'
abbrev s_law : Stmt := top 55
theorem sc_law : FnScope ["script", "turn", "spring", "names", "great", "k", "term", "far", "test", "held", "found", "due"] ["script"] (defScope s_law) := ⟨rfl, rfl, rfl, by decide +kernel, rfl, by decide +kernel, by decide +kernel⟩
theorem okG_law (T : Txt K mg) {C TP : Addr} (a : At K mg "law" s_law ["script"]) (Otight : Ok P w K mg base (L2.CX P w) 6 "tight" ["test"] (spTight K C)) (OG : OkG P w K mg base 17 "_law_test_right" ["spring", "names", "test"] spTestR)
    (O_law_spring : Ok P w K mg base CX0 1 "_law_spring" ["script", "turn"] (spSpring K)) (O_law_draw : Ok P w K mg base CX0 1 "_law_draw" ["spring", "many"] spDraw) (O_law_pick : Ok P w K mg base CX0 2 "_law_pick" ["spring", "some"] (spPick K)) (O_law_w_names : Ok P w K mg base CX0 3 "_law_w_names" ["spring", "least", "most"] spNames) (O_law_w_term : Ok P w K mg base CX0 3 "_law_w_term" ["spring", "names", "great"] spTermW) (O_law_drawn : Ok P w K mg base CX0 5 "_law_drawn" ["spring", "names", "great"] spDrawn) (O_law_near_right : Ok P w K mg base CX0 16 "_law_near_right" ["spring", "names"] spNear) (O_law_refused_right : Ok P w K mg base CX0 17 "_law_refused_right" ["spring", "names"] (spRefused TP)) (O_law_same : Ok P w K mg base CX0 15 "_law_same" ["found", "due"] (spSameG K (Dep 13))) :
    OkG P w K mg base 18 "law" ["script"] (spLaw K TP) := by
  refine OkG.of a sc_law (fun vs H Q E h => ?_) (fun f cdv A outer s H vs Q E hA0 hr h => ?_)
  · obtain ⟨a, ns, rfl, _⟩ := h; rfl
  · obtain ⟨sa, ns, rfl, hS, hn, hTab, q⟩ := h
    have hA : (A.deeper (envOfC "law" (defScope s_law) s.heap.objs.size f cdv)).guards = some [] := hA0
    refine ⟨_, (pss_cons (ps_for PassesOwn.never rfl (pi_range1 rfl T.n_range (pa_cons pe_int pa_nil)) (pg_name (i := 1) sc_law.nd rfl (Or.inl rfl)) (pss_cons (ps_set (i := 2) sc_law.nd rfl (Or.inl rfl) (pe_callO O_law_spring (hr.mono (by first | decide | omega)) rfl (pa_cons (pv 0) (pa_cons (pv 1) pa_nil))))
      (pss_cons (ps_set (i := 3) sc_law.nd rfl (Or.inl rfl) (pe_callO O_law_w_names (hr.mono (by first | decide | omega)) rfl (pa_cons (pv 2) (pa_cons pe_int (pa_cons pe_int pa_nil)))))
      (pss_cons (ps_for PassesOwn.never rfl (pi_tup (pe_tup (pa_cons pe_int (pa_cons pe_int (pa_cons pe_int (pa_cons (pe_op op_pow pe_int pe_int) pa_nil)))))) (pg_name (i := 4) sc_law.nd rfl (Or.inl rfl)) (pss_cons (ps_for PassesOwn.never rfl (pi_range1 rfl T.n_range (pa_cons pe_int pa_nil)) (pg_name (i := 5) sc_law.nd rfl (Or.inl rfl)) (pss_one (ps_if (pt_not (pt_val (pe_callG OG hA (hr.mono (by omega)) rfl (pa_cons (pv 2) (pa_cons (pv 3) (pa_cons (pe_callO O_law_drawn (hr.mono (by first | decide | omega)) rfl (pa_cons (pv 2) (pa_cons (pv 3) (pa_cons (pv 4) pa_nil)))) pa_nil)))))) (pss_one (ps_ret pe_bl)) pss_nil)))
      (pss_cons (ps_set (i := 6) sc_law.nd rfl (Or.inl rfl) (pe_callO O_law_w_term (hr.mono (by first | decide | omega)) rfl (pa_cons (pv 2) (pa_cons (pv 3) (pa_cons (pv 4) pa_nil)))))
      (pss_cons (ps_set (i := 7) sc_law.nd rfl (Or.inl rfl) (pe_callO O_law_pick (hr.mono (by first | decide | omega)) rfl (pa_cons (pv 2) (pa_cons (pe_lst (pa_cons (pe_op op_sub (pe_op op_pow pe_int pe_int) (pe_callO O_law_draw (hr.mono (by first | decide | omega)) rfl (pa_cons (pv 2) (pa_cons pe_int pa_nil)))) (pa_cons (pe_op op_sub (pe_callO O_law_draw (hr.mono (by first | decide | omega)) rfl (pa_cons (pv 2) (pa_cons pe_int pa_nil))) (pe_op op_pow pe_int pe_int)) pa_nil))) pa_nil))))
      (pss_cons (ps_set (i := 8) sc_law.nd rfl (Or.inl rfl) (pe_callO O_law_pick (hr.mono (by first | decide | omega)) rfl (pa_cons (pv 2) (pa_cons (pe_lst (pa_cons (pe_tup (pa_cons pe_str (pa_cons (pe_tup (pa_cons (pe_ix (ix_qK (K := K) rfl) (pv 6) pe_int (fun _ _ => rfl)) (pa_cons (pv 7) pa_nil))) pa_nil))) (pa_cons (pe_tup (pa_cons pe_str (pa_cons (pe_tup (pa_cons (pe_ix (ix_qK (K := K) rfl) (pv 6) pe_int (fun _ _ => rfl)) (pa_cons (pv 7) pa_nil))) pa_nil))) (pa_cons (pe_tup (pa_cons pe_str (pa_cons pe_int (pa_cons (pe_tup (pa_cons (pe_ix (ix_qK (K := K) rfl) (pv 6) pe_int (fun _ _ => rfl)) (pa_cons (pv 7) pa_nil))) pa_nil)))) pa_nil)))) pa_nil))))
      (pss_one (ps_if (PW.pt (pw_or (pt_not (pt_val (pe_callG OG hA (hr.mono (by omega)) rfl (pa_cons (pv 2) (pa_cons (pv 3) (pa_cons (pv 8) pa_nil)))))) (pw_or1 (pt_not (pt_val (pe_callG OG hA (hr.mono (by omega)) rfl (pa_cons (pv 2) (pa_cons (pv 3) (pa_cons (pe_tup (pa_cons pe_str (pa_cons (pe_tup (pa_cons pe_dnewK (pa_cons (pv 7) pa_nil))) pa_nil))) pa_nil))))))))) (pss_one (ps_ret pe_bl)) pss_nil)))))))
      (pss_cons (ps_if (PW.pt (pw_or (pt_not (pt_val (pe_callO O_law_near_right (hr.mono (by first | decide | omega)) rfl (pa_cons (pv 2) (pa_cons (pv 3) pa_nil))))) (pw_or1 (pt_not (pt_val (pe_callO O_law_refused_right (hr.mono (by first | decide | omega)) rfl (pa_cons (pv 2) (pa_cons (pv 3) pa_nil)))))))) (pss_one (ps_ret pe_bl)) pss_nil)
      (pss_cons (ps_set (i := 9) sc_law.nd rfl (Or.inl rfl) (pe_lst (pa_cons pe_str (pa_cons (pe_lst (pa_cons (pe_disp (pps_cons pe_str pe_int pps_nil) rfl rfl (by simp) (by decide)) (pa_cons pe_int pa_nil))) pa_nil))))
      (pss_cons (ps_set (i := 10) sc_law.nd rfl (Or.inl rfl) (pe_lst (pa_cons (pe_tight Otight (hr.mono (by omega)) rfl (pv 9)) pa_nil)))
      (pss_cons (ps_dput (hu_of hr) (pe_ix (ix_qK (K := K) rfl) (pe_ix (ix_qK (K := K) rfl) (pv 9) pe_int (fun _ _ => rfl)) pe_int (fun _ _ => rfl)) pe_str pe_int rfl)
      (pss_cons (ps_asg (pe_un un_neg pe_int) (pg_sub (pe_ix (ix_qK (K := K) rfl) (pv 9) pe_int (fun _ _ => rfl)) pe_int set_list))
      (pss_one (ps_if (pt_not (pt_val (pe_callO O_law_same (hr.mono (by first | decide | omega)) rfl (pa_cons (pe_op op_cat (pv 10) (pe_lst (pa_cons (pe_tight Otight (hr.mono (by omega)) rfl (pv 9)) pa_nil))) (pa_cons (litE (K := K) (U := []) (lz_lst (lz_cons (lz_tup (lz_cons (PE.lC pe_str (fun _ => .str _)) (lz_cons (lz_tup (lz_cons (lz_d1 (key := .inr "a") pe_str pe_int (fun _ => by constructor)) (lz_cons (PE.lC pe_int (fun _ => .int _)) lz_nil))) lz_nil))) (lz_cons (lz_tup (lz_cons (PE.lC pe_str (fun _ => .str _)) (lz_cons (lz_tup (lz_cons (lz_d1 (key := .inr "a") pe_str pe_int (fun _ => by constructor)) (lz_cons (lz_neg) lz_nil))) lz_nil))) lz_nil)))) pa_nil))))) (pss_one (ps_ret pe_bl)) pss_nil)))))))))))
      (pss_cons (ps_set (i := 10) sc_law.nd rfl (Or.inl rfl) (pe_lst (pa_cons (pe_tight Otight (hr.mono (by omega)) rfl (litE (K := K) (U := []) (lz_tup (lz_cons (PE.lC pe_str (fun _ => .str _)) (lz_cons (lz_tup (lz_cons (lz_d2 (k1 := .inr "x") (k2 := .inr "y") pe_str pe_str pe_negC pe_int (fun _ => by constructor) (fun _ => by constructor) (by decide)) (lz_cons (PE.lC pe_int (fun _ => .int _)) lz_nil))) lz_nil))))) (pa_cons (pe_tight Otight (hr.mono (by omega)) rfl (litE (K := K) (U := []) (lz_tup (lz_cons (PE.lC pe_str (fun _ => .str _)) (lz_cons (PE.lC pe_int (fun _ => .int _)) (lz_cons (lz_tup (lz_cons (lz_d2 (k1 := .inr "x") (k2 := .inr "y") pe_str pe_str pe_int pe_int (fun _ => by constructor) (fun _ => by constructor) (by decide)) (lz_cons (PE.lC pe_int (fun _ => .int _)) lz_nil))) lz_nil)))))) pa_nil))))
      (pss_cons (ps_expr (pe_bmK (K := K) rfl (pe_bm PySem.F.plainAttrs_list PySem.F.slot_list_append PySem.F.type_list_append mt_append (pv 10) (pa_cons (pe_tight Otight (hr.mono (by omega)) rfl (litE (K := K) (U := []) (lz_tup (lz_cons (PE.lC pe_str (fun _ => .str _)) (lz_cons (PE.lC pe_int (fun _ => .int _)) (lz_cons (lz_tup (lz_cons (lz_d1 (key := .inr "x") pe_str pe_int (fun _ => by constructor)) (lz_cons (PE.lC pe_int (fun _ => .int _)) lz_nil))) lz_nil)))))) pa_nil))))
      (pss_cons (ps_set (i := 11) sc_law.nd rfl (Or.inl rfl) (litE (K := K) (U := []) (lz_lst (lz_cons (lz_tup (lz_cons (PE.lC pe_str (fun _ => .str _)) (lz_cons (lz_tup (lz_cons (lz_d2 (k1 := .inr "x") (k2 := .inr "y") pe_str pe_str pe_int pe_negC (fun _ => by constructor) (fun _ => by constructor) (by decide)) (lz_cons (lz_neg) lz_nil))) lz_nil))) (lz_cons (lz_tup (lz_cons (PE.lC pe_str (fun _ => .str _)) (lz_cons (PE.lC pe_int (fun _ => .int _)) (lz_cons (lz_tup (lz_cons (lz_d2 (k1 := .inr "x") (k2 := .inr "y") pe_str pe_str pe_int pe_int (fun _ => by constructor) (fun _ => by constructor) (by decide)) (lz_cons (PE.lC pe_int (fun _ => .int _)) lz_nil))) lz_nil)))) (lz_cons (PE.lC pe_bl (fun _ => .bl _)) lz_nil))))))
      (pss_one (ps_ret (pe_callO O_law_same (hr.mono (by first | decide | omega)) rfl (pa_cons (pe_op op_cat (pv 10) (pe_lst (pa_cons (pe_tight Otight (hr.mono (by omega)) rfl (litE (K := K) (U := []) (lz_tup (lz_cons (PE.lC pe_str (fun _ => .str _)) (lz_cons (PE.lC pe_int (fun _ => .int _)) (lz_cons (lz_tup (lz_cons (lz_d1 (key := .inr "x") pe_str pe_int (fun _ => by constructor)) (lz_cons (PE.lC pe_int (fun _ => .int _)) lz_nil))) lz_nil)))))) pa_nil))) (pa_cons (pe_op op_cat (pv 11) (pe_lst (pa_cons pe_bl pa_nil))) pa_nil))))))))), ?_⟩
    have hlot : lot = 1000000000000 := rfl
    dsimp only [tSeq, gName, tNext]
    refine tFor_of ?_
    refine ⟨3, rfl, by decide, by decide, ?_⟩
    refine for_itB (walk_range (n := 3)) (fun i σ H' => ∃ x1 x2 x3 x4 x5 x6 x7 x8 x9 x10 x11, σ = [some (.ref sa), x1, x2, x3, x4, x5, x6, x7, x8, x9, x10, x11] ∧ SqL K H' sa (ns.map V.int) ∧ Tabs (T0 TP) H') ⟨none, none, none, none, none, none, none, none, none, none, none, rfl, hS, hTab⟩ (fun _ _ _ _ _ => trivial) ?_ ?_
    · rintro i x σ H1 H1' hi ⟨x1, x2, x3, x4, x5, x6, x7, x8, x9, x10, x11, rfl, hS1, hT1⟩ ⟨rfl, rfl⟩
      refine ⟨_, rfl, _, rfl, sa, ns, _, rfl, hS1, hn, by omega, by omega, fun a Hs ha es ss => ?_⟩
      have sprLot : ∀ n : Nat, n < 1000000 → n < lot := fun n h => by omega
      refine ⟨_, rfl, a, 0, rfl, ss, by omega, fun l ns' H2 hl e2 s2 hns hl2 => ?_⟩
      have h4 := hns.l4
      have nla : l ≠ a := fun z => ss.ne (by rw [← z]; exact hl)
      refine ⟨_, _, rfl, rfl, ⟨by decide, by decide, by decide⟩, by show 4 ≤ sizeLine; decide, fun G hG => ?_⟩
      refine ⟨G, rfl, ⟨_, SqT.of upd_same⟩, ?_⟩
      have eG := Ex.new (o := .tup [.int 1, .int 4, .int 12, .int ((10 : Int) ^ (5 : Int).toNat)]) hG
      have nGa : G ≠ a := fun z => s2.ne (by rw [← z]; exact hG)
      generalize hHb : upd H2 G (.tup [.int 1, .int 4, .int 12, .int ((10 : Int) ^ (5 : Int).toNat)]) = Hb
      have eGb : Ex H2 Hb := by rw [← hHb]; exact eG
      have hGb : Hb G = some (.tup [.int 1, .int 4, .int 12, .int ((10 : Int) ^ (5 : Int).toNat)]) := by rw [← hHb]; exact upd_same
      have sb := s2.ex eGb
      have hlb := eGb _ _ hl2
      refine for_itB (walk_tup (xs := [.int 1, .int 4, .int 12, .int ((10 : Int) ^ (5 : Int).toNat)])) (fun j σ H' => ∃ x4 x5 x6 x7 x8 x9 x10 x11, σ = [some (.ref sa), some (.int (0 + (i : Int))), some (.ref a), some (.ref l), x4, x5, x6, x7, x8, x9, x10, x11] ∧ Exo [a] Hb H' ∧ Spr H' a (14 + 3000 * j))
        ⟨x4, x5, x6, x7, x8, x9, x10, x11, rfl, Exo.refl _ _, sb⟩ (fun j σ H' _ ⟨_, _, _, _, _, _, _, _, _, e, _⟩ => SqT.of (e.at1 nGa hGb)) ?_ ?_
      · rintro j y σ H3 H3' hj ⟨y4, y5, y6, y7, y8, y9, y10, y11, rfl, e3, s3⟩ ⟨rfl, hy⟩
        have hj4 : j < 4 := hj
        obtain ⟨g, rfl, hg0, hg1⟩ : ∃ g : Int, y = .int g ∧ 0 < g ∧ g ≤ 100000 := by
          match j, hy with
          | 0, hy => cases hy; exact ⟨_, rfl, by decide, by decide⟩
          | 1, hy => cases hy; exact ⟨_, rfl, by decide, by decide⟩
          | 2, hy => cases hy; exact ⟨_, rfl, by decide, by decide⟩
          | 3, hy => cases hy; exact ⟨_, rfl, by decide, by decide⟩
          | n + 4, hy => simp at hy
        refine tFor_of ?_
        refine ⟨3, rfl, by decide, by decide, ?_⟩
        refine for_itB (walk_range (n := 3)) (fun m σ H' => ∃ x5 x6 x7 x8 x9 x10 x11, σ = [some (.ref sa), some (.int (0 + (i : Int))), some (.ref a), some (.ref l), some (.int g), x5, x6, x7, x8, x9, x10, x11] ∧ Exo [a] Hb H' ∧ Spr H' a (14 + 3000 * j + 400 * m))
          ⟨y5, y6, y7, y8, y9, y10, y11, rfl, e3, s3⟩ (fun _ _ _ _ _ => trivial) ?_ ?_
        · rintro m z σ H4 H4' hm ⟨z5, z6, z7, z8, z9, z10, z11, rfl, e4, s4⟩ ⟨rfl, rfl⟩
          have hm3 : m < 3 := hm
          have hl4 := e4.at1 nla hlb
          refine ⟨_, rfl, _, rfl, _, rfl, _, rfl, _, rfl, a, l, ns', g, _, rfl, s4, by omega, hl4, nla, hns.nd, h4, hg0, hg1, fun q t d ts H5 e5 s5 n5 ti => ?_⟩
          obtain ⟨w1, w2, w3⟩ := ti.wide (by omega)
          obtain ⟨f1, f2, f3, f4⟩ := n5
          refine ⟨a, l, ns', q, t, d, ts, _, rfl, s5, by omega, e5.at1 nla hl4, nla, hns, f4, ⟨fun z => s4.ne (by rw [← z]; exact f1), fun z => s4.ne (by rw [← z]; exact f2), fun z => s4.ne (by rw [← z]; exact f3)⟩, w1, w2, w3, fun H6 e6 s6 => ⟨_, rfl, iteF ?_⟩⟩
          exact ⟨_, _, _, _, _, _, _, rfl, (e4.trans e5).trans e6, s6.mono (by omega)⟩
        · rintro σ H4 ⟨z5, z6, z7, z8, z9, z10, z11, rfl, e4, s4⟩
          have hl4 := e4.at1 nla hlb
          refine ⟨_, rfl, _, rfl, _, rfl, a, l, ns', g, _, rfl, s4, by omega, hl4, nla, hns.nd, h4, hg0, hg1, fun t0 d0 c0 k0 H5 e5 s5 n5 hc5 hk5 => ?_⟩
          obtain ⟨f1, f2, f3⟩ := n5
          have t0a : t0 ≠ a := fun z => s4.ne (by rw [← z]; exact f1)
          have d0a : d0 ≠ a := fun z => s4.ne (by rw [← z]; exact f2)
          have ti : TermIn ns' 1000000 c0 := ⟨hc5.nd, hc5.sub, fun p hp => by have := hc5.far p hp; omega⟩
          have e45 := e4.trans e5
          refine ⟨_, rfl, _, _, rfl, rfl, ⟨by decide, by decide, by decide⟩, _, rfl, a, _, _, rfl, s5, by omega, by decide, by decide, fun u1 H6 u10 u11 e6 s6 => ?_⟩
          refine ⟨_, _, rfl, rfl, _, rfl, a, _, _, rfl, s6, by omega, by decide, by decide, fun u2 H7 u20 u21 e7 s7 => ?_⟩
          refine ⟨_, _, rfl, rfl, ⟨by decide, by decide, by decide⟩, _, _, rfl, rfl, by show 2 ≤ sizeLine; decide, fun L1 hL1 => ?_⟩
          have n1 : L1 ≠ a := fun z => s7.ne (by rw [← z]; exact hL1)
          refine ⟨a, L1, _, _, rfl, s7.ex (Ex.new hL1), by omega, n1, SqQ.l upd_same, by simp, by simp, fun jj y H8 hy e8 s8 => ?_⟩
          obtain ⟨far, rfl, hf⟩ : ∃ far : Int, y = .int far ∧ far.natAbs ≤ 10000000000000000 := by
            match jj, hy with
            | 0, hy => cases hy; exact ⟨_, rfl, by show ((10 : Int) ^ (15 : Int).toNat - u1).natAbs ≤ _; rw [show (10 : Int) ^ (15 : Int).toNat = 1000000000000000 by decide]; omega⟩
            | 1, hy => cases hy; exact ⟨_, rfl, by show (u2 - (10 : Int) ^ (15 : Int).toNat).natAbs ≤ _; rw [show (10 : Int) ^ (15 : Int).toNat = 1000000000000000 by decide]; omega⟩
            | n + 2, hy => simp at hy
          have e58 : Exo [a] H5 H8 := (e6.trans e7).trans (((Ex.new hL1).exo _).trans e8)
          have p8 : PairT H8 t0 d0 c0 k0 := ⟨e58.at1 t0a f3.1, e58.at1 d0a f3.2⟩
          -- three tests of the same term
          refine ⟨_, rfl, _, rfl, t0, _, 0, _, rfl, rfl, SqQ.t p8.1, at0, _, rfl, by show 2 ≤ sizeLine; decide, fun T1 hT1 => ⟨by show 2 ≤ sizeLine; decide, fun A1 hA1 => ?_⟩⟩
          have y1 := Ex.new (o := .tup [.ref d0, .int far]) hT1
          have y2 := y1.trans (Ex.new (o := .tup [.str "row", .ref T1]) hA1)
          refine ⟨_, rfl, t0, _, 0, _, rfl, rfl, SqQ.t (y2 _ _ p8.1), at0, _, rfl, by show 2 ≤ sizeLine; decide, fun T2 hT2 => ⟨by show 2 ≤ sizeLine; decide, fun A2 hA2 => ?_⟩⟩
          have y3 := Ex.new (o := .tup [.ref d0, .int far]) hT2
          have y4' := y3.trans (Ex.new (o := .tup [.str "same", .ref T2]) hA2)
          have y24 := y2.trans y4'
          refine ⟨_, rfl, t0, _, 0, _, rfl, rfl, SqQ.t (y24 _ _ p8.1), at0, _, rfl, by show 2 ≤ sizeLine; decide, fun T3 hT3 => ⟨by show 3 ≤ sizeLine; decide, fun A3 hA3 => ?_⟩⟩
          have y5' := Ex.new (o := .tup [.ref d0, .int far]) hT3
          have y6' := y5'.trans (Ex.new (o := .tup [.str "by", .int 60, .ref T3]) hA3)
          refine ⟨by show 3 ≤ sizeLine; decide, fun L2' hL2 => ?_⟩
          have y7' := Ex.new (o := .lst [.ref A1, .ref A2, .ref A3]) hL2
          have z67 := y6'.trans y7'
          have z47 := y4'.trans z67
          have z27 := y2.trans z47
          have s9 := s8.ex z27
          have nOf : ∀ {b : Addr} {H' : Hp}, Ex H8 H' → H' b = none → b ≠ a := fun e h z => (s8.ex e).ne (by rw [← z]; exact h)
          have nT1 := nOf (Ex.refl _) hT1
          have nA1 := nOf y1 hA1
          have nT2 := nOf y2 hT2
          have nA2 := nOf (y2.trans y3) hA2
          have nT3 := nOf y24 hT3
          have nA3 := nOf (y24.trans y5') hA3
          have nL2 := nOf (y24.trans y6') hL2
          have dd9 := z27 _ _ p8.2
          have hA1_9 := z47 _ _ upd_same
          have hT1_9 := ((Ex.new (o := .tup [.str "row", .ref T1]) hA1).trans z47) _ _ upd_same
          have hA2_9 := z67 _ _ upd_same
          have hT2_9 := ((Ex.new (o := .tup [.str "same", .ref T2]) hA2).trans z67) _ _ upd_same
          have hA3_9 := y7' _ _ upd_same
          have hT3_9 := ((Ex.new (o := .tup [.str "by", .int 60, .ref T3]) hA3).trans y7') _ _ upd_same
          refine ⟨a, L2', _, _, rfl, s9, by omega, nL2, SqQ.l upd_same, by simp, by simp, fun jt yt H10 hyt e10 s10 => ?_⟩
          obtain ⟨A, Tt, ts, rfl, hTA, nA, nT, hts1, hts2, hts3⟩ : ∃ A Tt ts, yt = .ref A ∧ TAt H10 A Tt d0 ts ∧ A ≠ a ∧ Tt ≠ a ∧ coef ts = c0 ∧ kst ts = far ∧ mOk ts := by
            match jt, hyt with
            | 0, hyt => cases hyt; exact ⟨A1, T1, .row c0 far, rfl, ⟨e10.at1 nA1 hA1_9, e10.at1 nT1 hT1_9, e10.at1 d0a dd9⟩, nA1, nT1, rfl, rfl, trivial⟩
            | 1, hyt => cases hyt; exact ⟨A2, T2, .same c0 far, rfl, ⟨e10.at1 nA2 hA2_9, e10.at1 nT2 hT2_9, e10.at1 d0a dd9⟩, nA2, nT2, rfl, rfl, trivial⟩
            | 2, hyt => cases hyt; exact ⟨A3, T3, .div 60 c0 far, rfl, ⟨e10.at1 nA3 hA3_9, e10.at1 nT3 hT3_9, e10.at1 d0a dd9⟩, nA3, nT3, rfl, rfl, by decide, by decide⟩
            | n + 3, hyt => simp at hyt
          have e410 : Exo [a] Hb H10 := ((e45.trans e58).trans (z27.exo _)).trans e10
          have hl10 := e410.at1 nla hlb
          refine ⟨_, rfl, _, rfl, _, rfl, a, l, ns', A, Tt, d0, ts, _, rfl, s10, by omega, hl10, nla, hns, hTA, ⟨nA, nT, d0a⟩, by rw [hts1]; exact ti, by rw [hts2]; exact hf, hts3, fun H11 e11 s11 => ⟨_, rfl, iteF ?_⟩⟩
          refine ⟨_, rfl, _, rfl, fun Dd hDd => ⟨_, rfl, by show 2 ≤ sizeLine; decide, fun T5 hT5 => ⟨by show 2 ≤ sizeLine; decide, fun A5 hA5 => ?_⟩⟩⟩
          have v1 := Ex.new (o := .dK []) hDd
          have v2 := v1.trans (Ex.new (o := .tup [.ref Dd, .int far]) hT5)
          have v3 := v2.trans (Ex.new (o := .tup [.str "row", .ref T5]) hA5)
          have nD5 : Dd ≠ a := fun z => s11.ne (by rw [← z]; exact hDd)
          have nT5 : T5 ≠ a := fun z => (s11.ex v1).ne (by rw [← z]; exact hT5)
          have nA5 : A5 ≠ a := fun z => (s11.ex v2).ne (by rw [← z]; exact hA5)
          have hD5 := ((Ex.new (o := .tup [.ref Dd, .int far]) hT5).trans (Ex.new (o := .tup [.str "row", .ref T5]) hA5)) _ _ upd_same
          have hT5' := (Ex.new (o := .tup [.str "row", .ref T5]) hA5) _ _ upd_same
          refine ⟨a, l, ns', A5, T5, Dd, .row [] far, _, rfl, s11.ex v3, by omega, v3 _ _ (e11.at1 nla hl10), nla, hns, ⟨upd_same, hT5', hD5⟩, ⟨nA5, nT5, nD5⟩, ⟨by simp [coef, keys], by simp [coef, keys], by simp [coef]⟩, hf, trivial, fun H12 e12 s12 => ⟨_, rfl, iteF ?_⟩⟩
          exact ⟨_, _, _, _, _, _, _, _, rfl, ((e410.trans e11).trans (v3.exo _)).trans e12, s12.mono (by omega)⟩
      · rintro σ H3 ⟨y4, y5, y6, y7, y8, y9, y10, y11, rfl, e3, s3⟩
        have s3' : Spr H3 a 20000 := s3.mono (by show 14 + 3000 * 4 ≤ 20000; decide)
        have hl3 := e3.at1 nla hlb
        refine ⟨_, rfl, _, rfl, a, l, ns', _, rfl, s3', by omega, hl3, nla, hns, fun H4 e4 s4 => ⟨_, rfl, iteF ?_⟩⟩
        have esb : Exo [a] Hs Hb := e2.trans (eGb.exo _)
        have es4 : Exo [a] Hs H4 := (esb.trans e3).trans e4
        have tab4 : Tabs (T0 TP) H4 := tabs_exo es4 ss (Tabs.ext hT1 es)
        refine ⟨_, rfl, _, rfl, a, l, ns', _, rfl, s4, by omega, e4.at1 nla hl3, nla, hns, tab4, fun H5 eN T5 => ⟨_, rfl, iteF ?_⟩⟩
        have keepS : ∀ o, H1' sa = some o → (∀ ps, o ≠ .tbl ps) → H5 sa = some o := fun o h nt => by
          have nsa : sa ≠ a := fun z => by rw [z, ha] at h; cases h
          exact eN _ _ nsa (es4.at1 nsa (es _ _ h)) nt
        -- a test that is changed in place
        intro D hD
        refine ⟨upd_same, [(.inr "a", .int 4)], rfl, by simp, by show 2 ≤ sizeLine; decide, fun L1 hL1 => ⟨by show 2 ≤ sizeLine; decide, fun L2' hL2 => ?_⟩⟩
        have w0 : Ex H5 (upd (upd H5 D (.dK [])) D (.dK (mergeK [] [(.inr "a", .int 4)]))) := (Ex.new hD).mut hD
        have w1 := w0.trans (Ex.new (o := .lst [.ref D, .int 3]) hL1)
        have w2 := w1.trans (Ex.new (o := .lst [.str "row", .ref L1]) hL2)
        have hL1f : H5 L1 = none := w0.free hL1
        have hD1 : upd (upd H5 D (.dK [])) D (.dK (mergeK [] [(.inr "a", .int 4)])) D = some (.dK (cK [("a", 4)])) := by rw [upd_same]; rfl
        have hD2 := ((Ex.new (o := .lst [.ref D, .int 3]) hL1).trans (Ex.new (o := .lst [.str "row", .ref L1]) hL2)) _ _ hD1
        have hL12 := (Ex.new (o := .lst [.str "row", .ref L1]) hL2) _ _ (show upd (upd (upd H5 D (.dK [])) D (.dK (mergeK [] [(.inr "a", .int 4)]))) L1 (.lst [.ref D, .int 3]) L1 = some (.lst [.ref D, .int 3]) from upd_same)
        have nDL1 : D ≠ L1 := ne_of_none hD1 hL1
        have nL12 : L1 ≠ L2' := ne_of_none upd_same hL2
        have nDL2 : D ≠ L2' := ne_of_none ((Ex.new (o := .lst [.ref D, .int 3]) hL1) _ _ hD1) hL2
        have sT : ∀ {H' : Hp} {i k : Int}, H' L2' = some (.lst [.str "row", .ref L1]) → H' L1 = some (.lst [.ref D, .int k]) → H' D = some (.dK (cK [("a", i)])) → SeeF K H' (.ref L2') (.lst [.str "row", lDat [("a", i)] k]) := fun h1 h2 h3 => .lst h1 (.cons (.str _) (.cons (.lst h2 (.cons (.dct h3 (seeK_c _)) (.cons (.int _) .nil))) .nil))
        refine ⟨_, rfl, .ref L2', _, .row [("a", 4)] 3, rfl, sT upd_same hL12 hD2, ⟨rfl, _, rfl, rfl, rfl⟩, goodA 4 (by decide), trivial, fun u9 H9 r9 => ⟨by show 1 ≤ sizeLine; decide, fun F1 hF1 => ?_⟩⟩
        have w3 := r9.ex2
        have w4 := w3.trans (Ex.new (o := .lst [u9]) hF1)
        have w24 := w2.trans w4
        have hL2f : H5 L2' = none := w1.free hL2
        have gL2 := w4 _ _ (show upd _ L2' (.lst [.str "row", .ref L1]) L2' = some (.lst [.str "row", .ref L1]) from upd_same)
        have gL1 := w4 _ _ hL12
        have gD := w4 _ _ hD2
        refine ⟨_, rfl, L2', _, 1, _, rfl, rfl, SqQ.l gL2, at1, L1, _, 0, _, rfl, rfl, SqQ.l gL1, at0, D, _, rfl, .inl ⟨cK [("a", 4)], .inr "a", gD, rfl, by show 1 < sizeLine; decide, rfl⟩, ?_⟩
        have hput : putK (cK [("a", 4)]) (.inr "a") (.int 6) = cK [("a", 6)] := by simp [putK, cK]
        rw [hput]
        have w5 := w24.mut hD (o := .dK (cK [("a", 6)]))
        have nDF : D ≠ F1 := ne_of_none (w3 _ _ hD2) hF1
        refine ⟨7, rfl, _, rfl, L2', _, 1, _, rfl, rfl, SqQ.l (by rw [upd_ne nDL2.symm]; exact gL2), at1, L1, _, 1, 1, rfl, rfl, by rw [upd_ne nDL1.symm]; exact gL1, rfl, ?_⟩
        have w6 := w5.mut hL1f (o := .lst ([V.ref D, .int 3].set 1 (.int (-7))))
        rw [cA1] at r9
        obtain ⟨q9, p9, d9, rfl, f1, f2, f3, hT9⟩ := NewR.at r9
        have neF : ∀ {b : Addr} {o : HO}, upd _ L2' (.lst [.str "row", .ref L1]) b = some o → q9 ≠ b ∧ p9 ≠ b ∧ d9 ≠ b := fun h => ⟨(ne_of_none h f1).symm, (ne_of_none h f2).symm, (ne_of_none h f3).symm⟩
        obtain ⟨a1, a2, a3⟩ := neF hD2
        obtain ⟨b1, b2, b3⟩ := neF hL12
        have hTz := ((hT9.ex (Ex.new (o := .lst [.ref q9]) hF1)).updn a1 a2 a3 (o := .dK (cK [("a", 6)]))).updn b1 b2 b3 (o := .lst ([V.ref D, .int 3].set 1 (.int (-7))))
        have nFL1 : F1 ≠ L1 := (ne_of_none (w3 _ _ hL12) hF1).symm
        refine ⟨_, rfl, _, rfl, .ref L2', _, .row [("a", 6)] (-7), rfl, sT (by rw [upd_ne nL12.symm, upd_ne nDL2.symm]; exact gL2) (by rw [upd_same]; rfl) (by rw [upd_ne nDL1, upd_same]), ⟨rfl, _, rfl, rfl, rfl⟩, goodA 6 (by decide), trivial, fun u10 H12 r12 => ⟨by show 1 ≤ sizeLine; decide, fun F2 hF2 => ?_⟩⟩
        rw [cA2] at r12
        have v1 := r12.ex2
        have v2 := v1.trans (Ex.new (o := .lst [u10]) hF2)
        have hF1z := v2 _ _ (show upd (upd (upd _ F1 (.lst [.ref q9])) D _) L1 _ F1 = some (.lst [.ref q9]) by rw [upd_ne nFL1, upd_ne nDF.symm, upd_same])
        refine ⟨F1, F2, _, _, rfl, rfl, hF1z, upd_same, by show 1 + 1 ≤ sizeLine; decide, fun F3 hF3 => ?_⟩
        have v3 := Ex.new (o := .lst ([.ref q9] ++ [u10])) hF3
        refine ⟨[], fun _ => .non, ⟨fun _ h => by simp at h, fun _ h => by simp at h⟩, fun m H14 e14 sm => ?_⟩
        have v4 := (v2.trans v3).trans e14
        have sF : SeeF K H14 (.ref F3) (.lst [tstDat (.row [("a", 1)] 0), tstDat (.row [("a", 1)] (-2))]) := .lst (e14 _ _ upd_same) (.cons ((see_tst hTz).mono v4) (.cons ((NewR.see r12).mono (((Ex.new (o := .lst [u10]) hF2).trans v3).trans e14)) .nil))
        have sM := sm.mono (sansL_ex [] H14)
        refine ⟨.ref F3, m, _, rfl, sF, sM, dep_of 13 _ (by decide +kernel), fun H15 e15 => ⟨_, rfl, iteF ?_⟩⟩
        have fin := (w6.trans v4).trans e15
        exact ⟨_, _, _, _, _, _, _, _, _, _, _, rfl, SqL.keepN hS1 fun o h nt => fin _ _ (keepS o h nt), Tabs.ext T5 fin⟩
    · rintro σ H1 ⟨x1, x2, x3, x4, x5, x6, x7, x8, x9, x10, x11, rfl, hS1, hT1⟩
      have ds1 : (6 : Int) ≤ 1000 := by decide
      refine ⟨[], fun _ => .non, ⟨fun _ h => by simp at h, fun _ h => by simp at h⟩, fun v1 H2 e2 s2 => ⟨v1, _, .same [("x", -4), ("y", 6)] 2, rfl, s2.mono (sansL_ex [] H2), isTst_dat (.same [("x", -4), ("y", 6)] 2), goodXY _ _ (by decide) (by decide), trivial, fun u1 H3 r1 => ?_⟩⟩
      rw [cB1] at r1
      refine ⟨[], fun _ => .non, ⟨fun _ h => by simp at h, fun _ h => by simp at h⟩, fun v2 H4 e4 s4 => ⟨v2, _, .div 6 [("x", 4), ("y", 8)] 10, rfl, s4.mono (sansL_ex [] H4), isTst_dat (.div 6 [("x", 4), ("y", 8)] 10), goodXY _ _ (by decide) (by decide), ⟨by decide, by decide⟩, fun u2 H5 r2 => ⟨by show 2 ≤ sizeLine; decide, fun L hL => ?_⟩⟩⟩
      rw [cB2] at r2
      refine ⟨_, rfl, .inl ⟨rfl, _, SqL.of upd_same⟩, ⟨[], fun _ => .non, ⟨fun _ h => by simp at h, fun _ h => by simp at h⟩, fun v3 H6 e6 s6 => ⟨v3, _, .div 4 [("x", 2)] 1, rfl, s6.mono (sansL_ex [] H6), isTst_dat (.div 4 [("x", 2)] 1), goodX _ (by decide), ⟨by decide, by decide⟩, fun u3 H7 r3 => ?_⟩⟩⟩
      rw [cB3] at r3
      obtain ⟨rfl, e67⟩ := r3
      have hL7 := (e6.trans e67) _ _ (show upd H5 L (.lst [u1, u2]) L = some (.lst [u1, u2]) from upd_same)
      refine ⟨L, _, _, rfl, rfl, hL7, by show 2 < sizeLine; decide, ?_⟩
      have w5 : Ex H5 (upd H7 L (.lst ([u1, u2] ++ [.bl false]))) := ((Ex.new hL).trans (e6.trans e67)).mut hL
      have e35 : Ex H3 H5 := e4.trans r2.ex2
      refine ⟨[], fun _ => .non, ⟨fun _ h => by simp at h, fun _ h => by simp at h⟩, fun m H8 e8 s8 => ?_⟩
      obtain ⟨M, ys, rfl, hM, hys⟩ : ∃ M ys, m = .ref M ∧ sansL [] H8 M = some (.lst ys) ∧ SeeL (FnK K) (sansL [] H8) ys [.tup [.str "same", .tup [.dct [(.inr "x", .int 2), (.inr "y", .int (-3))], .int (-1)]], .tup [.str "by", .int 3, .tup [.dct [(.inr "x", .int 2), (.inr "y", .int 1)], .int 2]], .bl false] := by
        cases s8 with
        | lst ha t => exact ⟨_, _, rfl, ha, t⟩
      have hyl := hys.len
      refine ⟨_, rfl, ⟨[], fun _ => .non, ⟨fun _ h => by simp at h, fun _ h => by simp at h⟩, fun v4 H9 e9 s9 => ⟨v4, _, .div 1 [("x", 5)] 3, rfl, s9.mono (sansL_ex [] H9), isTst_dat (.div 1 [("x", 5)] 3), goodX _ (by decide), ⟨by decide, by decide⟩, fun u4 H10 r4 => ⟨by show 1 ≤ sizeLine; decide, fun F1 hF1 => ?_⟩⟩⟩⟩
      rw [cB4] at r4
      obtain ⟨rfl, e910⟩ := r4
      have w8 := (e9.trans e910).trans (Ex.new (o := .lst [.bl true]) hF1)
      have w58 := e8.trans w8
      have hL10 := w58 _ _ (show upd H7 L (.lst ([u1, u2] ++ [.bl false])) L = some (.lst ([u1, u2] ++ [.bl false])) from upd_same)
      refine ⟨L, F1, _, _, rfl, rfl, hL10, upd_same, by show 3 + 1 ≤ sizeLine; decide, fun F2 hF2 => ?_⟩
      have w9 := Ex.new (o := .lst ([u1, u2] ++ [.bl false] ++ [.bl true])) hF2
      refine ⟨_, rfl, by show 1 ≤ sizeLine; decide, fun F3 hF3 => ?_⟩
      have w10 := w9.trans (Ex.new (o := .lst [.bl true]) hF3)
      have hM10 := (w8.trans w10) _ _ (sansL_ex [] H8 _ _ hM)
      refine ⟨M, F3, ys, _, rfl, rfl, hM10, upd_same, by rw [hyl]; show 3 + 1 ≤ sizeLine; decide, fun F4 hF4 => ?_⟩
      have w11 := Ex.new (o := .lst (ys ++ [.bl true])) hF4
      have hF2f := ((Ex.new (o := .lst [.bl true]) hF3).trans w11) _ _ (show upd _ F2 (.lst ([u1, u2] ++ [.bl false] ++ [.bl true])) F2 = some (.lst ([u1, u2] ++ [.bl false] ++ [.bl true])) from upd_same)
      have wA := (w5.trans w58).trans (w10.trans w11)
      have wB := (w8.trans w10).trans w11
      refine ⟨.ref F2, .ref F4, .lst [tstDat (.same [("x", 2), ("y", -3)] (-1)), tstDat (.div 3 [("x", 2), ("y", 1)] 2), .bl false, .bl true], rfl,
        .lst hF2f (.cons ((NewR.see r1).mono (e35.trans wA)) (.cons ((NewR.see r2).mono wA) (.cons (.bl _) (.cons (.bl _) .nil)))),
        .lst upd_same (SeeL.append ((SeeL.mono (sansL_ex [] H8) hys).mono wB) (.cons (.bl true) .nil)), dep_of 13 _ (by decide +kernel), fun H20 e20 => q H20⟩
end
end K8

set_option Elab.async false
set_option linter.all false
set_option maxRecDepth 100000
set_option maxHeartbeats 4000000
namespace K8
open PySem PySem.Spec PyProof.Rows L2 M8 LamX
/-! the end of the row: the promise is asked at the caller's own stack alone -/
section
variable {P : Program} {w : World} {K : PySem.W.Frag} {mg mb : Str → Option Value} {a fa : Addr} {cs : List (Addr × Addr)} {vs : List Value} {ns : List Int} {s : Shared}
def lstO (vs : List Value) : Obj := { cls := .type "list", data := .seq vs.toArray }
def tblO : Obj := { cls := .none, data := .fields #[] }
/-- what is tracked at the call: the tables, and the script where the frag has it not -/
def H0 (K : PySem.W.Frag) (cs : List (Addr × Addr)) (a : Addr) (vs : List Value) (ns : List Int) : Hp := fun b =>
  if b ∈ cs.map (·.2) then some (.tbl #[]) else if b = a ∧ K.lookup a = none then some (.frz (lstO vs) (.lst (ns.map V.int))) else none
structure AtCall (K : PySem.W.Frag) (cs : List (Addr × Addr)) (a : Addr) (vs : List Value) (ns : List Int) (s : Shared) : Prop where
  kin : K.In s.heap
  tb : ∀ b ∈ cs.map (·.2), s.heap.get? b = some tblO
  nk : ∀ b ∈ cs.map (·.2), K.lookup b = none
  scr : s.heap.get? a = some (lstO vs)
  ia : IntsAre vs ns
  len : ns.length ≤ sizeLine
theorem AtCall.aT (c : AtCall K cs a vs ns s) : a ∉ cs.map (·.2) := fun z => by
  have h := (c.tb a z).symm.trans c.scr
  have h2 : tblO.data = (lstO vs).data := congrArg Obj.data (Option.some.inj h)
  cases h2
theorem H0_tbl {b : Addr} (h : b ∈ cs.map (·.2)) : H0 K cs a vs ns b = some (.tbl #[]) := if_pos h
theorem H0_free (c : AtCall K cs a vs ns s) {b : Addr} {o : Obj} (h : s.heap.get? b = some o) (n1 : o.data ≠ .seq vs.toArray 0 ∨ K.lookup a ≠ none) (n2 : o.data ≠ .fields #[]) : H0 K cs a vs ns b = none := by
  unfold H0
  rw [if_neg (fun z => n2 (by rw [c.tb b z] at h; cases h; rfl)), if_neg]
  rintro ⟨rfl, z⟩
  rcases n1 with n1 | n1
  · rw [c.scr] at h; cases h; exact n1 rfl
  · exact n1 z
theorem H0_kin (c : AtCall K cs a vs ns s) {b : Addr} {o : Obj} (h : K.lookup b = some o) : H0 K cs a vs ns b = none := by
  unfold H0
  rw [if_neg (fun z => by rw [c.nk b z] at h; cases h), if_neg]
  rintro ⟨rfl, z⟩
  rw [z] at h; cases h
theorem H0_script (c : AtCall K cs a vs ns s) : SqL K (H0 K cs a vs ns) a (ns.map V.int) := by
  cases hk : K.lookup a with
  | none => exact .inl (.inr ⟨lstO vs, by unfold H0; rw [if_neg c.aT, if_pos ⟨rfl, hk⟩]⟩)
  | some o =>
    have h := c.kin a o hk
    rw [c.scr] at h
    cases h
    exact .inr ⟨_, vs.toArray, _, hk, rfl, rfl, rfl, by rw [List.size_toArray, c.ia.length]; exact c.len, by simpa using vals_ints c.ia⟩
theorem H0_ok (c : AtCall K cs a vs ns s) : HOk P w (H0 K cs a vs ns) s.heap := fun b u h => by
  unfold H0 at h
  by_cases hb : b ∈ cs.map (·.2)
  · rw [if_pos hb] at h
    cases h
    exact c.tb b hb
  · rw [if_neg hb] at h
    by_cases ha : b = a ∧ K.lookup a = none
    · rw [if_pos ha] at h
      cases h
      rw [ha.1]
      exact ⟨c.scr, by rw [List.length_map]; exact c.len, vs, _, vals_ints c.ia, c.scr⟩
    · rw [if_neg ha] at h; cases h
theorem base_get (c : AtCall K cs a vs ns s) {b : Addr} {o : Obj} (h : s.heap.get? b = some o) (n1 : o.data ≠ .seq vs.toArray 0) (n2 : o.data ≠ .fields #[]) : (hidT s.heap (H0 K cs a vs ns)).get? b = some o := hidT_get h (H0_free c h (.inl n1) n2)
theorem base_ns (c : AtCall K cs a vs ns s) {b : Addr} {m : Str → Option Value} (h : s.heap.Ns b m) : (hidT s.heap (H0 K cs a vs ns)).Ns b m := by
  obtain ⟨o, es, ep, h1, h2, h3⟩ := h
  exact ⟨o, es, ep, base_get c h1 (by rw [h2]; intro z; cases z) (by rw [h2]; intro z; cases z), h2, h3⟩
theorem base_kin (c : AtCall K cs a vs ns s) : K.In (hidT s.heap (H0 K cs a vs ns)) := fun b o h => hidT_get (c.kin b o h) (H0_kin c h)
theorem ends (c : AtCall K cs a vs ns s) (g : s.heap.Ns mainGlobals mg) (hb : s.heap.Ns builtinsNs mb) (hbb : ∀ x : Str, x ≠ "__name__" → mb x = bootBuiltins x) (hlim : s.heap.NoLimit) (hg : s.gens = #[]) (hc : ∀ p ∈ cs, PySem.W.CodeHd s.heap p.1 p.2)
    (hbm : ∃ (bm : Addr) (ob : Obj), mg "__builtins__" = some (.ref bm) ∧ bm ≠ builtinsNs ∧ s.heap.get? bm = some ob ∧ ob.cls = .type "module" ∧ ob.dict = some builtinsNs ∧ ob.data = .plain)
    (F : ∀ base : Heap, K.In base → base.Ns mainGlobals mg → (∀ p ∈ cs, TabB base mg p.1 p.2) → ∀ H : Hp, (∀ p ∈ cs, H p.2 = some (.tbl #[])) → SqL K H a (ns.map V.int) → Env0 P w K mg base callerA [] s H →
      codeAny (model P w) callerA (.call (.ref fa) ⟨[.ref a], []⟩) (CR CX0 [] P w H s (fun v _ => v = .bl true) E0) s) :
    codeAny (model P w) callerA (.call (.ref fa) ⟨[.ref a], []⟩) (fun r s' => r = .ok (.ret (.bool true)) ∧ OldK s.heap s'.heap ∧ s'.os = s.os ∧ AllBare s'.gens) s := by
  have tabs : ∀ p ∈ cs, TabB (hidT s.heap (H0 K cs a vs ns)) mg p.1 p.2 := by
    intro p hp
    have hP := c.tb p.2 (List.mem_map.mpr ⟨p, hp, rfl⟩)
    constructor
    · obtain ⟨o, us, file, tf, flags, tg, inF, text, tt, d1, d2, d3, d4, rest⟩ := hc p hp
      refine ⟨o, us, file, tf, flags, tg, inF, text, tt, base_get c d1 (by rw [d3]; intro z; cases z) ?_, d2, d3, d4, rest⟩
      rw [d3]
      intro z
      cases z
      simp at d4
    · obtain ⟨bm, ob, m1, m2, m3, m4, m5, m6⟩ := hbm
      refine ⟨bm, ob, m1, m2, ?_, ?_, base_get c m3 (by rw [m6]; intro z; cases z) (by rw [m6]; intro z; cases z), m4, m5, m6⟩
      · rintro rfl
        obtain ⟨o, es, ep, g1, g2, _⟩ := g
        rw [g1] at m3; cases m3
        rw [g2] at m6; cases m6
      · rintro rfl
        rw [hP] at m3; cases m3; cases m6
    · intro z
      obtain ⟨o, es, ep, g1, g2, _⟩ := g
      rw [z, hP] at g1; cases g1; cases g2
  have md : L2.Mod K mg (hidT s.heap (H0 K cs a vs ns)) := ⟨base_kin c, base_ns c g, ⟨mb, base_ns c hb, hbb⟩, by
    obtain ⟨mc, l1, l2⟩ := hlim
    exact ⟨mc, base_ns c l1, l2⟩⟩
  have env : Env0 P w K mg (hidT s.heap (H0 K cs a vs ns)) callerA [] s (H0 K cs a vs ns) := ⟨rfl, md, fun b o h => of_hidT h, Nat.le_of_eq (hidT_size _ _), trivial, fun b hb => absurd (show b ∈ ([] : List Addr) from hb) (by simp), H0_ok c, .of_eq hg⟩
  have run := F _ (base_kin c) (base_ns c g) tabs (H0 K cs a vs ns) (fun p hp => H0_tbl (List.mem_map.mpr ⟨p, hp, rfl⟩)) (H0_script c) env
  apply codeAny_mono run
  intro r s' hr
  match r, hr with
  | .ok (.ret u), hr =>
    obtain ⟨v, H', os, bare, un, ok', rv, rfl⟩ := hr
    obtain rfl : u = Value.bool true := rv
    have kept : ∀ b o, b ∉ cs.map (·.2) → s.heap.get? b = some o → s'.heap.get? b = some o := by
      intro b o nb h
      cases q : H0 K cs a vs ns b with
      | none => exact un.keep b o h q (by intro z; cases z) (by simp)
      | some u =>
        have q2 := q
        unfold H0 at q2
        rw [if_neg nb] at q2
        by_cases ha : b = a ∧ K.lookup a = none
        · rw [if_pos ha] at q2
          cases q2
          have z := un.frzs b _ _ q
          obtain ⟨e1, _⟩ := ok' b _ z
          rw [ha.1, c.scr] at h
          cases h
          exact e1
        · rw [if_neg ha] at q2; cases q2
    have grown : ∀ b ∈ cs.map (·.2), ∃ more : Array Value, s'.heap.get? b = some { cls := .none, data := .fields more } := by
      intro b hb
      obtain ⟨more, z⟩ := un.tbls b #[] (H0_tbl hb)
      exact ⟨_, ok' b _ z⟩
    refine ⟨rfl, ⟨fun b o h => ?_, fun b o h => ?_⟩, os, bare⟩
    · by_cases hb : b ∈ cs.map (·.2)
      · obtain ⟨more, hm⟩ := grown b hb
        obtain ⟨p, hp, rfl⟩ := List.mem_map.mp hb
        have ht := c.tb p.2 hb
        rw [ht] at h
        cases h
        exact .inr (.inl ⟨((hc p hp).tab ht).isCodeTable, rfl, #[], more, rfl, by rw [Array.empty_append]; exact hm⟩)
      · exact .inl (kept b o hb h)
    · by_cases hb : b ∈ cs.map (·.2)
      · obtain ⟨more, hm⟩ := grown b hb
        exact ⟨_, hm⟩
      · exact ⟨o, kept b o hb h⟩
end
end K8

set_option Elab.async false
set_option linter.all false
set_option maxRecDepth 100000
set_option maxHeartbeats 4000000
namespace K8
open PySem PySem.Spec PyProof.Rows L2 M8 LamX
section
variable {P : Program} {w : World} {K : PySem.W.Frag} {mg : Str → Option Value} {base : Heap}
/-- every def as the top has left it, put together -/
theorem all_ok (T : Txt K mg) {C TP c : Addr} (B : BadC K mg C) (h_is_whole : At K mg "is_whole" s_is_whole ["thing"]) (h_is_from_one : At K mg "is_from_one" s_is_from_one ["thing"]) (h_is_list : At K mg "is_list" s_is_list ["thing"]) (h_is_run : At K mg "is_run" s_is_run ["thing"]) (h_is_name : At K mg "is_name" s_is_name ["thing"]) (h_is_numbers : At K mg "is_numbers" s_is_numbers ["thing"]) (h_is_term : At K mg "is_term" s_is_term ["thing"]) (h_names_of : At K mg "names_of" s_names_of ["term"]) (h_told_term : At K mg "told_term" s_told_term ["term"]) (h_scaled : At K mg "scaled" s_scaled ["term", "number"]) (h__divided : At K mg "_divided" s__divided ["term", "number"]) (h__rests : At K mg "_rests" s__rests ["term", "number"]) (h_turned : At K mg "turned" s_turned ["term"]) (h__divisor_of : At K mg "_divisor_of" s__divisor_of ["term", "number"]) (h__tight_row : At K mg "_tight_row" s__tight_row ["term"]) (h__tight_same : At K mg "_tight_same" s__tight_same ["term"]) (h__tight_by : At K mg "_tight_by" s__tight_by ["many", "term"]) (h_is_test : At K mg "is_test" s_is_test ["thing"]) (h__law_draw : At K mg "_law_draw" s__law_draw ["spring", "many"]) (h__law_pick : At K mg "_law_pick" s__law_pick ["spring", "some"]) (h__law_mixed : At K mg "_law_mixed" s__law_mixed ["spring", "some"]) (h__law_spring : At K mg "_law_spring" s__law_spring ["script", "turn"]) (h__law_w_names : At K mg "_law_w_names" s__law_w_names ["spring", "least", "most"]) (h__law_w_numbers : At K mg "_law_w_numbers" s__law_w_numbers ["spring", "names", "far"]) (h__law_w_worth : At K mg "_law_w_worth" s__law_w_worth ["term", "numbers"]) (h__law_w_is_so : At K mg "_law_w_is_so" s__law_w_is_so ["body", "numbers"]) (h__law_w_told : At K mg "_law_w_told" s__law_w_told ["term"]) (h__law_w_body_told : At K mg "_law_w_body_told" s__law_w_body_told ["body"]) (h__law_w_term : At K mg "_law_w_term" s__law_w_term ["spring", "names", "great"]) (h__law_w_test : At K mg "_law_w_test" s__law_w_test ["spring", "names", "great"]) (h__law_common : At K mg "_law_common" s__law_common ["numbers"]) (h__law_tight : At K mg "_law_tight" s__law_tight ["test"]) (h__law_w_turned : At K mg "_law_w_turned" s__law_w_turned ["term"]) (h__law_drawn : At K mg "_law_drawn" s__law_drawn ["spring", "names", "great"]) (h__law_w_handed : At K mg "_law_w_handed" s__law_w_handed ["spring", "thing"]) (h__law_w_no_bodies : At K mg "_law_w_no_bodies" s__law_w_no_bodies ["good"]) (h__law_near_right : At K mg "_law_near_right" s__law_near_right ["spring", "names"]) (h__law_same : At K mg "_law_same" s__law_same ["found", "due"]) (h_tight : At K mg "tight" s_tight ["test"]) (h__law_test_right : At K mg "_law_test_right" s__law_test_right ["spring", "names", "test"]) (h_law : At K mg "law" s_law ["script"])
    (h_ref : AtC K mg "_law_refused_right" s__law_refused_right ["spring", "names"] c) (TB : TabB base mg c TP) {g : Addr} {oc cdv kV doc pm : Value} {od an : Option Addr} {ct : Value} {osl : Array (Option Value)} (M : MetF K mg g oc cdv kV doc pm od an ct osl)
    {fn : Addr} (hfa : mg "_law_w_no_bodies" = some (.ref fn)) (hkf : PySem.W.keepIn K (.ref fn) = true) (hfn : FnK K fn) : OkG P w K mg base 18 "law" ["script"] (spLaw K TP) := by
  have o_is_whole : Ok P w K mg base CX0 1 "is_whole" ["thing"] (spWhole K) := ok_is_whole T h_is_whole 
  have o_is_from_one : Ok P w K mg base CX0 2 "is_from_one" ["thing"] (spFrom1 K) := ok_is_from_one T h_is_from_one (by assumption)
  have o_is_list : Ok P w K mg base CX0 1 "is_list" ["thing"] (spIsList K) := ok_is_list T h_is_list 
  have o_is_run : Ok P w K mg base CX0 1 "is_run" ["thing"] (spRun K) := ok_is_run T h_is_run 
  have o_is_name : Ok P w K mg base CX0 2 "is_name" ["thing"] (spName K) := ok_is_name T h_is_name (by assumption)
  have o_is_numbers : Ok P w K mg base CX0 3 "is_numbers" ["thing"] (spNumbers K) := ok_is_numbers T h_is_numbers (by assumption) (by assumption)
  have o_is_term : Ok P w K mg base CX0 4 "is_term" ["thing"] (spTerm K) := ok_is_term T h_is_term (by assumption) (by assumption) (by assumption)
  have o_names_of : Ok P w K mg base CX0 1 "names_of" ["term"] spNamesOf := ok_names_of T h_names_of 
  have o_told_term : Ok P w K mg base CX0 2 "told_term" ["term"] spTold := ok_told_term T h_told_term (by assumption)
  have o_scaled : Ok P w K mg base CX0 3 "scaled" ["term", "number"] spScaled := ok_scaled T h_scaled (by assumption)
  have o__divided : Ok P w K mg base CX0 3 "_divided" ["term", "number"] spDivided := ok__divided T h__divided (by assumption)
  have o__rests : Ok P w K mg base CX0 3 "_rests" ["term", "number"] spRests := ok__rests T h__rests (by assumption)
  have o_turned : Ok P w K mg base CX0 4 "turned" ["term"] spTurned := ok_turned T h_turned (by assumption)
  have o__divisor_of : Ok P w K mg base CX0 2 "_divisor_of" ["term", "number"] spDivisor := ok__divisor_of T h__divisor_of (by assumption)
  have o__tight_row : Ok P w K mg base CX0 4 "_tight_row" ["term"] spTRow := ok__tight_row T h__tight_row (by assumption) (by assumption)
  have o__tight_same : Ok P w K mg base CX0 5 "_tight_same" ["term"] spTSame := ok__tight_same T h__tight_same (by assumption) (by assumption) (by assumption) (by assumption)
  have o__tight_by : Ok P w K mg base CX0 5 "_tight_by" ["many", "term"] spTBy := ok__tight_by T h__tight_by (by assumption) (by assumption) (by assumption) (by assumption)
  have o_is_test : Ok P w K mg base CX0 5 "is_test" ["thing"] (spTest K) := ok_is_test T h_is_test (by assumption) (by assumption) (by assumption)
  have o__law_draw : Ok P w K mg base CX0 1 "_law_draw" ["spring", "many"] spDraw := ok__law_draw T h__law_draw 
  have o__law_pick : Ok P w K mg base CX0 2 "_law_pick" ["spring", "some"] (spPick K) := ok__law_pick T h__law_pick (by assumption)
  have o__law_mixed : Ok P w K mg base CX0 2 "_law_mixed" ["spring", "some"] (spMixed K) := ok__law_mixed T h__law_mixed (by assumption)
  have o__law_spring : Ok P w K mg base CX0 1 "_law_spring" ["script", "turn"] (spSpring K) := ok__law_spring T h__law_spring 
  have o__law_w_names : Ok P w K mg base CX0 3 "_law_w_names" ["spring", "least", "most"] spNames := ok__law_w_names T h__law_w_names (by assumption) (by assumption)
  have o__law_w_numbers : Ok P w K mg base CX0 2 "_law_w_numbers" ["spring", "names", "far"] spNums := ok__law_w_numbers T h__law_w_numbers (by assumption)
  have o__law_w_worth : Ok P w K mg base CX0 1 "_law_w_worth" ["term", "numbers"] spWorth := ok__law_w_worth T h__law_w_worth 
  have o__law_w_is_so : Ok P w K mg base CX0 2 "_law_w_is_so" ["body", "numbers"] spIsSo := ok__law_w_is_so T h__law_w_is_so (by assumption)
  have o__law_w_told : Ok P w K mg base CX0 1 "_law_w_told" ["term"] spToldL := ok__law_w_told T h__law_w_told 
  have o__law_w_body_told : Ok P w K mg base CX0 2 "_law_w_body_told" ["body"] spBodyTold := ok__law_w_body_told T h__law_w_body_told (by assumption)
  have o__law_w_term : Ok P w K mg base CX0 3 "_law_w_term" ["spring", "names", "great"] spTermW := ok__law_w_term T h__law_w_term (by assumption) (by assumption)
  have o__law_w_test : Ok P w K mg base CX0 4 "_law_w_test" ["spring", "names", "great"] spTestW := ok__law_w_test T h__law_w_test (by assumption) (by assumption)
  have o__law_common : Ok P w K mg base CX0 1 "_law_common" ["numbers"] (spCommon K) := ok__law_common T h__law_common 
  have o__law_tight : Ok P w K mg base CX0 2 "_law_tight" ["test"] spLTight := ok__law_tight T h__law_tight (by assumption)
  have o__law_w_turned : Ok P w K mg base CX0 1 "_law_w_turned" ["term"] spTurnL := ok__law_w_turned T h__law_w_turned 
  have o__law_drawn : Ok P w K mg base CX0 5 "_law_drawn" ["spring", "names", "great"] spDrawn := ok__law_drawn T h__law_drawn (by assumption) (by assumption) (by assumption)
  have o__law_w_handed : Ok P w K mg base CX0 5 "_law_w_handed" ["spring", "thing"] (spHand K 168 (PreS (PreS (PreS fun _ => False))) (HndS (HndS (HndS fun _ _ => False)))) := ok_hand T h__law_w_handed (by assumption) (by assumption)
  have o_tight : Ok P w K mg base (L2.CX P w) 6 "tight" ["test"] (spTight K C) := ok_tight T B h_tight o_is_test o__tight_row o__tight_same o__tight_by
  have ft : ∀ {f : Addr} {fd : FuncData}, Fun K "tight" "tight" s_tight f fd → FnOk P w K mg base (L2.CX P w) 6 f fd ["test"] (spTight K C) := fun F => fn_tight T B o_is_test o__tight_row o__tight_same o__tight_by F
  have o_same : Ok P w K mg base CX0 15 "_law_same" ["found", "due"] (spSameG K (Dep 13)) := ok_same T h__law_same 13
  have o_nb := ok__law_w_no_bodies (P := P) (w := w) (base := base) T h__law_w_no_bodies hfa hkf hfn
  have o_ref := ok__law_refused_right (P := P) (w := w) T B h_ref TB M o_tight o__law_w_test o_nb o_same hfn
  have o_near := ok__law_near_right (P := P) (w := w) (base := base) T h__law_near_right o__law_draw o__law_w_term o__law_w_told o__law_tight o__law_w_turned o_tight o_same
  have og := okG__law_test_right (P := P) (w := w) (base := base) T h__law_test_right h_tight ft o_tight o__law_pick o__law_w_handed o__law_tight o__law_w_body_told o_same o__law_w_numbers o__law_w_is_so
  exact okG_law T h_law o_tight og o__law_spring o__law_draw o__law_pick o__law_w_names o__law_w_term o__law_drawn o_near o_ref o_same
end
end K8

set_option Elab.async false
set_option linter.all false
set_option maxRecDepth 100000
set_option maxHeartbeats 4000000
namespace K8
open PySem PySem.Spec PyProof.Rows L2 M8
/-! ### a function of the text is itself -/
theorem fun_slot_eq : Slot "function" (cmpInfo .Eq).2.1 "object.__eq__" :=
  .of (owner := "object") (n := "__eq__") (by rw [typeLookup_type, builtinLookup_eq_fast]; kernel_rfl) (by decide +kernel) (by decide +kernel) (by decide +kernel)
    (by first | exact .inl (by decide +kernel) | exact .inr (by decide +kernel)) (by rw [isSubtype_type]; kernel_rfl)
theorem fnEq_of {K : PySem.W.Frag} {a : Addr} {o : Obj} (hk : K.lookup a = some o) (hc : o.cls = .type "function") : FnEq K a := by
  intro prog w A E s Q hu hin hq
  have hT : s.TypeIs (.ref a) "function" := ⟨o, hin a o hk, hc⟩
  refine wpAny_richCompare_same_room (op := .Eq) hT hT fun_slot_eq (wpAny_call_entry fun_slot_eq hT F.cmpEntry_eq ?_ (F.cmpArgs_eq _ _)) (by omega)
  refine objEq_entry_same ⟨_, rfl, by simp, ?_⟩
  exact hq s.toks
/-! ### a function's class -/
theorem fun_slot_ga : Slot "function" "__getattribute__" "object.__getattribute__" :=
  .of (owner := "object") (n := "__getattribute__") (by rw [typeLookup_type, builtinLookup_eq_fast]; kernel_rfl) (by decide +kernel) (by decide +kernel) (by decide +kernel)
    (by first | exact .inl (by decide +kernel) | exact .inr (by decide +kernel)) (by rw [isSubtype_type]; kernel_rfl)
theorem fun_lk_class : typeLookup (.type "function") "__class__" = pure (some (.builtin "object.__class__")) := by rw [typeLookup_type, builtinLookup_eq_fast]; kernel_rfl
theorem fun_sub_class : isSubtype (.type "function") (.type (".".intercalate ("object.__class__".cutAt '.').dropLast)) = pure true := by
  rw [F.owner_object_class, isSubtype_type]; kernel_rfl
theorem ga_args2 (a b : Value) : argsOk "object.__getattribute__" ⟨[a, b], []⟩ := by unfold argsOk; kernel_rfl
section
variable {prog : Program} {w : World} {A : Around} {E : Value → Shared → Prop} {h : Heap} {g : Array GenState} {d : Drawn} {t : Nat} {os : OsState} {a : Addr} {o : Obj}
theorem fun_cls_get {R : Result → Shared → Prop} (hx : h.get? a = some o) (hc : o.cls = .type "function") (hq : R (.ok (.ret (.type "function"))) ⟨h, g, d, t, os⟩) :
    codeAny (model prog w) A (.call (.builtin "getset_descriptor.__get__") ⟨[.builtin "object.__class__", .ref a, .type "function"], []⟩) R ⟨h, g, d, t, os⟩ := by
  have hT : (⟨h, g, d, t, os⟩ : Shared).TypeIs (.ref a) "function" := ⟨_, hx, hc⟩
  have hD : (⟨h, g, d, t, os⟩ : Shared).TypeIs (.builtin "object.__class__") "getset_descriptor" := F.typeOf_object_class
  have hs := fun_sub_class
  refine codeAny_call_builtin F.slot_gs_get.plain F.entry_gs_get (F.slot_gs_get.check _ _ _ _ _ _ _ _ hD (F.args_gs_get _ _ _) ?_)
  repeat (any_goals (first | assumption | wp_step))
  refine ⟨Code.quiet_builtin _ (by decide +kernel), codeAny_builtin F.entry_object_class ?_⟩
  repeat (any_goals (first | assumption | wp_step))
theorem fun_cls_entry {tk : Tok} {Q : Fin → Shared → Prop} (hx : h.get? a = some o) (hc : o.cls = .type "function") (hq : Q (.done (.ret (.type "function"))) ⟨h, g, d, t, os⟩) :
    wpAny (model prog w) A (Builtin.«object.__getattribute__» ⟨[.ref a, .str "__class__" tk], []⟩) Q E ⟨h, g, d, t, os⟩ := by
  have hT : (⟨h, g, d, t, os⟩ : Shared).TypeIs (.ref a) "function" := ⟨_, hx, hc⟩
  have hD : (⟨h, g, d, t, os⟩ : Shared).TypeIs (.builtin "object.__class__") "getset_descriptor" := F.typeOf_object_class
  have h1 := fun_lk_class
  have h2 := F.typeOf_object_class
  have h3 := F.slot_gs_get.lookup
  have h4 := F.slot_gs_set.lookup
  repeat (any_goals (first | assumption | wp_step))
  refine fun_cls_get hx hc ?_
  repeat (any_goals (first | assumption | wp_step))
theorem fun_cls_call {tk : Tok} {R : Result → Shared → Prop} (hx : h.get? a = some o) (hc : o.cls = .type "function") (hq : R (.ok (.ret (.type "function"))) ⟨h, g, d, t, os⟩) :
    codeAny (model prog w) A (.call (.builtin "object.__getattribute__") ⟨[.ref a, .str "__class__" tk], []⟩) R ⟨h, g, d, t, os⟩ :=
  codeAny_call_builtin fun_slot_ga.plain F.entry_object_getattribute (fun_slot_ga.check _ _ _ _ _ _ _ _ (show (⟨h, g, d, t, os⟩ : Shared).TypeIs (.ref a) "function" from ⟨_, hx, hc⟩) (ga_args2 _ _) (fun_cls_entry hx hc hq))
theorem fun_cls_by {tk : Tok} {Q : Value → Shared → Prop} (hx : h.get? a = some o) (hc : o.cls = .type "function") (hq : Q (.type "function") ⟨h, g, d, t, os⟩) : wpAny (model prog w) A (getAttrBy (.ref a) (.str "__class__" tk) false) Q E ⟨h, g, d, t, os⟩ := by
  have hT : (⟨h, g, d, t, os⟩ : Shared).TypeIs (.ref a) "function" := ⟨_, hx, hc⟩
  have h1 := fun_slot_ga.lookup
  have h2 := fun_slot_ga.bind (.ref a)
  repeat (any_goals (first | assumption | wp_step))
  refine fun_cls_call hx hc ?_
  repeat (any_goals (first | assumption | wp_step))
theorem fun_cls {Q : Option Value → Shared → Prop} (hx : h.get? a = some o) (hc : o.cls = .type "function") (hq : Q (some (.type "function")) ⟨h, g, d, t + 1, os⟩) : wpAny (model prog w) A (getAttr? (.ref a) "__class__") Q E ⟨h, g, d, t, os⟩ := by
  unfold getAttr? getAttrBy?
  repeat (any_goals (first | assumption | with_reducible apply fun_cls_by hx hc | wp_step))
end
theorem kitx_fun {K : PySem.W.Frag} {a : Addr} : PySem.W.KitX K (.ref a) (.type "function") (PySem.W.KitAt a "function") :=
  PySem.W.kitx_of PySem.W.kitAt_ty (fun {_ _ _ _ _ s} p k => by obtain ⟨h, g, d, t, os⟩ := s; obtain ⟨o, h1, h2⟩ := p; exact fun_cls h1 h2 k)
theorem fnK_of {K : PySem.W.Frag} {a : Addr} {o : Obj} (hk : K.lookup a = some o) (hc : o.cls = .type "function") : FnK K a :=
  ⟨fnEq_of hk hc, _, kitx_fun, fun h hin => ⟨o, hin a o hk, hc⟩⟩
end K8

set_option Elab.async false
set_option linter.all false
set_option maxRecDepth 100000
set_option maxHeartbeats 4000000
namespace K8
open PySem PySem.Spec PyProof.Rows L2 M8 LamX
/-! the walk of the row: one def holds a generator expression, its table is empty at the call -/
/-- where the table of the def x lies, in the frag -/
structure TabK (K : PySem.W.Frag) (mg : Str → Option Value) (x : Str) (c TP : Addr) : Prop where
  ex : ∃ (f : Addr) (o : Obj) (fd : FuncData) (e : Value) (dd : Option Addr) (vs : Array Value) (sl : Array (Option Value)), mg x = some (.ref f) ∧ K.lookup f = some o ∧ o.data = .func fd ∧ fd.code = .ref c ∧ K.lookup c = some ⟨e, dd, .fields vs, sl⟩ ∧ vs[11]? = some (.ref TP)
  nk : K.lookup TP = none
  hd : PySem.W.codeHdIn K c TP = true
theorem walk_tab {l : PySem.W.OpenLaw} {n k : Nat} {q : Program} {loose : List Str} {XP : (Str → Option Value) → Heap → Prop} {YP : World → Heap → Prop} {d : DefRec} {K : Params → PySem.W.Frag} {x y : Str} {sp : World → Addr → Sp}
    (hn : l.most = some n) (hn2 : n ≤ sizeLine) (hdf : d.params.defaults = []) (hr : Room k callerA) (hrec : ((recsOf q).any fun e => e.name == x) = true) (hY : ∀ (w : World) (h : Heap), YP w h → (K w.params).In h)
    (hsp : ∀ (w : World) (TP : Addr) (H : Hp) (a : Addr) (ns : List Int), ns.length ≤ n → (∀ j ∈ ns, Builtin.Int.intBits j ≤ 1048576) → H TP = some (.tbl #[]) → SqL (K w.params) H a (ns.map V.int) → sp w TP [.ref a] H (fun v _ => v = .bl true) E0)
    (F : ∀ (w : World) (mg : Str → Option Value) (h : Heap), YP w h → (K w.params).In h → h.Ns mainGlobals mg → ∃ c TP, TabK (K w.params) mg x c TP ∧ ∀ base : Heap, (K w.params).In base → base.Ns mainGlobals mg → TabB base mg c TP → OkG l.prog w (K w.params) mg base k d.name [y] (sp w TP)) :
    PySem.W.WalkO q loose XP YP l.row.toRowW d [] (fun f vs => PySem.call f vs) := by
  refine Att.attach_callB hn hdf fun w s₀ s₁ mg mb fa o pm cd doc a vs ns G Y ho hd hcd hmg hobj hints hlen hbits hg => ?_
  have KX := hY w _ Y
  obtain ⟨c, TP, tk, OF⟩ := F w mg _ Y KX G.T.g
  have hP : s₁.heap.get? TP = some tblO := by
    obtain ⟨f, o1, fd1, e, dd, vs1, sl, k0, k1, k2, k3, k4, k5⟩ := tk.ex
    obtain ⟨dL, hm, hn1⟩ := List.any_eq_true.mp hrec
    have hn2 : dL.name = x := beq_iff_eq.mp hn1
    obtain ⟨a', o', fd', c', P', h1, h2, h3, h4, h5, h6⟩ := G.T.tab dL hm
    rw [hn2, k0] at h1
    cases h1
    rw [KX _ _ k1] at h2
    cases h2
    rw [k2] at h3
    cases h3
    rw [k3] at h4
    cases h4
    obtain ⟨⟨oc, vc, e1, _, e3, e4⟩, hP⟩ := h6
    rw [KX _ _ k4] at e1
    cases e1
    cases e3
    rw [k5] at e4
    cases e4
    exact hP
  have cal : AtCall (K w.params) [(c, TP)] a vs ns s₁ := by
    refine ⟨KX, ?_, ?_, hobj, hints, Nat.le_trans hlen hn2⟩
    · intro b hb
      obtain rfl : b = TP := by simpa using hb
      exact hP
    · intro b hb
      obtain rfl : b = TP := by simpa using hb
      exact tk.nk
  refine ends (K := K w.params) cal G.T.g G.T.b G.T.builtins G.T.nolimit hg ?_ G.T.bmain ?_
  · intro p hp
    obtain rfl : p = (c, TP) := by simpa using hp
    exact PySem.W.codeHd_of_K KX tk.hd
  · intro base hb hns tb H hH hS e0
    obtain ⟨f, fd, hm, hk, b, len, run⟩ := (OF base hb hns (tb (c, TP) (by simp))).ex
    rw [hmg] at hm
    cases hm
    have bd := b s₁ [.ref a] KX rfl
    rw [List.append_nil] at bd
    exact run callerA [] s₁ H ⟨[.ref a], []⟩ [.ref a] [.ref a] _ E0 rfl hr e0 bd (.cons rfl .nil) (hsp w TP H a ns hlen hbits (hH (c, TP) (by simp)) hS)
end K8

set_option Elab.async false
set_option linter.all false
set_option maxRecDepth 100000
set_option maxHeartbeats 4000000
namespace K8
open PySem PySem.Spec PyProof.Rows L2 M8 LamX
/-! the facts of the text, asked of the frag -/
theorem at_mk {K : PySem.W.Frag} {h : Heap} {mg : Str → Option Value} {x : Str} {st : Stmt} {ps : List Str} {f : Addr} {oc : Value} {od an : Option Addr} {osl : Array (Option Value)} {kV doc pm cdv ct : Value} (X : K.In h) (G : h.Ns mainGlobals mg)
    (a : PySem.W.nsIn K mainGlobals x = some (some (.ref f))) (l : K.lookup f = some ⟨oc, od, .func (PySem.W.fnOf x x (defArgs st) (defBody st) (defScope st) .none kV doc pm an cdv ct), osl⟩) (c : PySem.W.codeIn K cdv x = true) (k : PySem.W.keepIn K (.ref f) = true)
    (b : ∀ (kV doc pm : Value) (an : Option Addr) (cdv ct : Value) (us : List Value), us.length = ps.length → bindArgs (PySem.W.fnOf x x (defArgs st) (defBody st) (defScope st) .none kV doc pm an cdv ct) ⟨us, []⟩ = pure (ps.zip us)) : At K mg x st ps :=
  ⟨⟨f, _, PySem.W.mg_of X G a, fun_mk l c k, (fun_mk l c k).binds b⟩⟩
theorem then_of {p q : Prop} (a : p) (b : p → q) : q := b a
theorem spLaw_hsp (K : PySem.W.Frag) (TP : Addr) (H : L2.Hp) (a : Addr) (ns : List Int) (hl : ns.length ≤ 63) (ht : H TP = some (.tbl #[])) (hS : L2.SqL K H a (ns.map L2.V.int)) : K8.spLaw K TP [.ref a] H (fun v _ => v = .bl true) L2.E0 :=
  ⟨a, ns, rfl, hS, hl, fun p hp => by
    obtain rfl := List.mem_singleton.mp hp
    exact .nil ht, fun _ => rfl⟩
def wordsV : List String := ["of", "give", "nothing", "and", "or", "not", "all", "any", "divides", "none", "let", "most", "if", "else", "first", "below", "by", "over"]
def wordsB : List String → List Value → Bool
  | [], [] => true
  | x :: r, .str y _ :: q => decide ((x : Str) = y) && wordsB r q
  | _, _ => false
theorem wordsB_ok : ∀ {xs : List String} {us : List Value}, wordsB xs us = true → Vals (xs.map fun x : String => V.str x) us
  | [], [], _ => .nil
  | x :: r, u :: q, h => by
    cases u with
    | str y t =>
      obtain ⟨h1, h2⟩ := Bool.and_eq_true_iff.mp (show (decide ((x : Str) = y) && wordsB r q) = true from h)
      exact .cons ⟨t, by rw [of_decide_eq_true h1]⟩ (wordsB_ok h2)
    | _ => cases h
  | [], _ :: _, h => by cases h
  | _ :: _, [], h => by cases h
theorem txt_mk {K : PySem.W.Frag} {h : Heap} {mg : Str → Option Value} {t1 t2 t3 : Tok} {wa : Addr} {dd : Option Addr} {its : Array Value} {n : Nat} {osl : Array (Option Value)} (X : K.In h) (G : h.Ns mainGlobals mg)
    (n_isinstance : mg "isinstance" = none) (n_len : mg "len" = none) (n_all : mg "all" = none) (n_any : mg "any" = none) (n_sum : mg "sum" = none) (n_sorted : mg "sorted" = none) (n_abs : mg "abs" = none) (n_repr : mg "repr" = none) (n_range : mg "range" = none) (n_enumerate : mg "enumerate" = none) (n_zip : mg "zip" = none) (n_int : mg "int" = none) (n_bool : mg "bool" = none) (n_str : mg "str" = none) (n_list : mg "list" = none) (n_tuple : mg "tuple" = none) (n_dict : mg "dict" = none)
    (a1 : PySem.W.nsIn K mainGlobals "LETTERS" = some (some (.str "abcdefghijklmnopqrstuvwxyz" t1))) (a2 : PySem.W.nsIn K mainGlobals "FIGURES" = some (some (.str "0123456789" t2))) (a3 : PySem.W.nsIn K mainGlobals "MOST_SIGNS" = some (some (.int 8 t3)))
    (a4 : PySem.W.nsIn K mainGlobals "WORDS" = some (some (.ref wa))) (a5 : K.lookup wa = some ⟨.type "tuple", dd, .seq its n, osl⟩) (a6 : PySem.W.nsIn K mainGlobals "gcd" = some (some (.builtin "math.gcd"))) (a7 : wordsB wordsV its.toList = true) : Txt K mg :=
  { n_isinstance := n_isinstance, n_len := n_len, n_all := n_all, n_any := n_any, n_sum := n_sum, n_sorted := n_sorted, n_abs := n_abs, n_repr := n_repr, n_range := n_range, n_enumerate := n_enumerate, n_zip := n_zip, n_int := n_int, n_bool := n_bool, n_str := n_str, n_list := n_list, n_tuple := n_tuple, n_dict := n_dict, c_LETTERS := ⟨_, PySem.W.mg_of X G a1⟩, c_FIGURES := ⟨_, PySem.W.mg_of X G a2⟩, c_MOST := ⟨_, PySem.W.mg_of X G a3⟩, g_gcd := PySem.W.mg_of X G a6,
    c_WORDS := ⟨wa, PySem.W.mg_of X G a4, fun H => by
      have v := wordsB_ok a7
      refine .inr ⟨_, its, n, a5, rfl, rfl, ?_, v⟩
      have e := Vals.length v
      rw [List.length_map] at e
      rw [← Array.length_toList, ← e]
      rw [sizeLine_eq]; decide⟩ }
theorem exm_same {K : PySem.W.Frag} {S : Addr} (h1 : PySem.W.subIn K (.ref S) (.type "BaseException") = some true) (h2 : PySem.W.isClsIn K S = true) (h3 : PySem.W.typeIn K (.ref S) = some (.type "type")) (h4 : PySem.W.subIn K (.ref S) (.ref S) = some true) :
    PySem.W.exmOne K (.ref S) (.ref S) = some true := by
  unfold PySem.W.exmOne
  rw [h1, if_pos (by rfl)]
  show (if ((PySem.W.clsIn K S).isSome && PySem.W.typeIn K (.ref S) == some (.type "type")) = true then PySem.W.subIn K (.ref S) (.ref S) else none) = some true
  rw [show (PySem.W.clsIn K S).isSome = true from h2, h3, if_pos (by rfl), h4]
theorem bad_mk {K : PySem.W.Frag} {h : Heap} {mg : Str → Option Value} {C f1 : Addr} (X : K.In h) (G : h.Ns mainGlobals mg)
    {nm q : Str} {N : Addr} {bs bm : List Value} {sn : List Str} {sub : List Value} {ab : Bool} {col : Option Bool} {dd : Option Addr} {m0 m1 m2 m3 m5 : Option Value}
    {od1 an1 : Option Addr} {sl1 : Array (Option Value)} {oc1 kV1 dc1 pm1 cd1 ct1 : Value}
    (gC : PySem.W.nsIn K mainGlobals "BadTest" = some (some (.ref C)))
    (xL : K.lookup C = some (excClassObj nm q C N bs bm true sn sub ab col dd m0 m1 m2 m3 m5 "ValueError.__new__"))
    (sa : PySem.W.findIn K (.ref C) "__setattr__" = some (some (.builtin "object.__setattr__"))) (ga : PySem.W.findIn K (.ref C) "__getattribute__" = some (some (.builtin "BaseException.__getattribute__"))) (gg : PySem.W.findIn K (.ref C) "__getattr__" = some none) (nb : PySem.W.findIn K (.ref C) "test" = some none)
    (a1 : PySem.W.findIn K (.ref C) "__init__" = some (some (.ref f1))) (t1 : PySem.W.typeIn K (.ref f1) = some (.type "function"))
    (l1 : K.lookup f1 = some ⟨oc1, od1, .func (PySem.W.fnOf "__init__" "BadTest.__init__" (defArgs s_init) (defBody s_init) (defScope s_init) .none kV1 dc1 pm1 an1 cd1 ct1), sl1⟩) (c1 : PySem.W.codeIn K cd1 "BadTest.__init__" = true) (k1 : PySem.W.keepIn K (.ref f1) = true)
    (kC : PySem.W.keepIn K (.ref C) = true) (eC : PySem.W.subIn K (.ref C) (.type "BaseException") = some true) (tC : PySem.W.typeIn K (.ref C) = some (.type "type")) (hC : PySem.W.hasDictIn K C = true) (iC : PySem.W.isClsIn K C = true) (sC : PySem.W.subIn K (.ref C) (.ref C) = some true)
    (rb : PySem.HandSPX.refsVE bm = true) : BadC K mg C :=
  { gC := PySem.W.mg_of X G gC, ox := ⟨⟨nm, q, N, bs, bm, sn, sub, ab, col, dd, m0, m1, m2, m3, m5, xL, rb⟩, sa, eC, tC, kC⟩, xf := ⟨ga, gg, eC, hC⟩, no := nb, te := exm_same eC iC tC sC,
    ini := ⟨f1, _, a1, t1, fun_mk l1 c1 k1, (fun_mk l1 c1 k1).binds fun _ _ _ _ _ _ us hl => match us, hl with | [_, _], _ => rfl⟩ }
theorem ref_mk {K : PySem.W.Frag} {h : Heap} {mg : Str → Option Value} {x : Str} {st : Stmt} {ps : List Str} {f c TP : Addr} {oc : Value} {od an : Option Addr} {osl : Array (Option Value)} {kV doc pm ct : Value} {e : Value} {dd : Option Addr} {vs : Array Value} {sl : Array (Option Value)} (X : K.In h) (G : h.Ns mainGlobals mg)
    (a : PySem.W.nsIn K mainGlobals x = some (some (.ref f))) (l : K.lookup f = some ⟨oc, od, .func (PySem.W.fnOf x x (defArgs st) (defBody st) (defScope st) .none kV doc pm an (.ref c) ct), osl⟩) (cd : PySem.W.codeIn K (.ref c) x = true) (k : PySem.W.keepIn K (.ref f) = true)
    (lc : K.lookup c = some ⟨e, dd, .fields vs, sl⟩) (v11 : vs[11]? = some (.ref TP)) (nk : K.lookup TP = none) (hd : PySem.W.codeHdIn K c TP = true)
    (b : ∀ (kV doc pm : Value) (an : Option Addr) (cdv ct : Value) (us : List Value), us.length = ps.length → bindArgs (PySem.W.fnOf x x (defArgs st) (defBody st) (defScope st) .none kV doc pm an cdv ct) ⟨us, []⟩ = pure (ps.zip us)) : AtC K mg x st ps c ∧ TabK K mg x c TP :=
  ⟨⟨f, oc, od, kV, doc, pm, an, ct, osl, PySem.W.mg_of X G a, l, cd, k, (fun_mk l cd k).binds b⟩, ⟨⟨f, _, _, e, dd, vs, sl, PySem.W.mg_of X G a, l, rfl, rfl, lc, v11⟩, nk, hd⟩⟩
theorem met_mk {K : PySem.W.Frag} {h : Heap} {mg : Str → Option Value} {f : Addr} {oc : Value} {od an : Option Addr} {osl : Array (Option Value)} {kV doc pm cdv ct : Value} (X : K.In h) (G : h.Ns mainGlobals mg)
    (a : PySem.W.nsIn K mainGlobals "_law_met" = some (some (.ref f))) (l : K.lookup f = some ⟨oc, od, .func (PySem.W.fnOf "_law_met" "_law_met" (defArgs s__law_met) (defBody s__law_met) (defScope s__law_met) .none kV doc pm an cdv ct), osl⟩) (cd : PySem.W.codeIn K cdv "_law_met" = true) (k : PySem.W.keepIn K (.ref f) = true) : MetF K mg f oc cdv kV doc pm od an ct osl :=
  ⟨PySem.W.mg_of X G a, k, l, cd, (fun_mk l cd k).binds fun _ _ _ _ _ _ us hl => match us, hl with | [_], _ => rfl⟩
theorem fnk_mk {K : PySem.W.Frag} {h : Heap} {mg : Str → Option Value} {x : Str} {f : Addr} {o : Obj} (X : K.In h) (G : h.Ns mainGlobals mg) (a : PySem.W.nsIn K mainGlobals x = some (some (.ref f))) (l : K.lookup f = some o) (hc : o.cls = .type "function") (k : PySem.W.keepIn K (.ref f) = true) :
    mg x = some (.ref f) ∧ PySem.W.keepIn K (.ref f) = true ∧ FnK K f := ⟨PySem.W.mg_of X G a, k, fnK_of l hc⟩
end K8

set_option Elab.async false
set_option linter.all false
set_option maxRecDepth 100000
open PySem PySem.W PyProof.Rows
set_option maxRecDepth 100000 in
set_option maxHeartbeats 0 in
theorem PySem.Challenge.cw_outofwishes_k08_whole_tight_tests_holds : PySem.Challenge.rw_outofwishes_k08_whole_tight_tests.Holds := by
  w_on; o_law; k_head; (case hw => w_witness2)
  k_fill
  refine K8.walk_tab (n := 63) (k := 18) (x := "_law_refused_right") (y := "script") (l := PySem.Challenge.rw_outofwishes_k08_whole_tight_tests) (sp := fun w TP => K8.spLaw _ TP) rfl (by decide) rfl ⟨rfl, by decide, by decide⟩ (by decide +kernel) (fun w h Y => PySem.W.km_in_of Y) (fun w TP H a ns hl _ ht hS => K8.spLaw_hsp _ TP H a ns hl ht hS) ?F
  case F =>
    intro w mg h Y KX G
    refine' K8.then_of (K8.at_mk (x := "is_whole") (st := K8.s_is_whole) (ps := ["thing"]) KX G ?a_1 ?l_1 ?c_1 ?k_1 (fun kV doc pm an cdv ct us hl => match us, hl with | [_], _ => rfl)) ?nxt_1
    case a_1 => k_is
    case l_1 => k_is
    case c_1 => k_is
    case k_1 => k_is
    intro h_is_whole
    refine' K8.then_of (K8.at_mk (x := "is_from_one") (st := K8.s_is_from_one) (ps := ["thing"]) KX G ?a_2 ?l_2 ?c_2 ?k_2 (fun kV doc pm an cdv ct us hl => match us, hl with | [_], _ => rfl)) ?nxt_2
    case a_2 => k_is
    case l_2 => k_is
    case c_2 => k_is
    case k_2 => k_is
    intro h_is_from_one
    refine' K8.then_of (K8.at_mk (x := "is_list") (st := K8.s_is_list) (ps := ["thing"]) KX G ?a_3 ?l_3 ?c_3 ?k_3 (fun kV doc pm an cdv ct us hl => match us, hl with | [_], _ => rfl)) ?nxt_3
    case a_3 => k_is
    case l_3 => k_is
    case c_3 => k_is
    case k_3 => k_is
    intro h_is_list
    refine' K8.then_of (K8.at_mk (x := "is_run") (st := K8.s_is_run) (ps := ["thing"]) KX G ?a_4 ?l_4 ?c_4 ?k_4 (fun kV doc pm an cdv ct us hl => match us, hl with | [_], _ => rfl)) ?nxt_4
    case a_4 => k_is
    case l_4 => k_is
    case c_4 => k_is
    case k_4 => k_is
    intro h_is_run
    refine' K8.then_of (K8.at_mk (x := "is_name") (st := K8.s_is_name) (ps := ["thing"]) KX G ?a_5 ?l_5 ?c_5 ?k_5 (fun kV doc pm an cdv ct us hl => match us, hl with | [_], _ => rfl)) ?nxt_5
    case a_5 => k_is
    case l_5 => k_is
    case c_5 => k_is
    case k_5 => k_is
    intro h_is_name
    refine' K8.then_of (K8.at_mk (x := "is_numbers") (st := K8.s_is_numbers) (ps := ["thing"]) KX G ?a_6 ?l_6 ?c_6 ?k_6 (fun kV doc pm an cdv ct us hl => match us, hl with | [_], _ => rfl)) ?nxt_6
    case a_6 => k_is
    case l_6 => k_is
    case c_6 => k_is
    case k_6 => k_is
    intro h_is_numbers
    refine' K8.then_of (K8.at_mk (x := "is_term") (st := K8.s_is_term) (ps := ["thing"]) KX G ?a_7 ?l_7 ?c_7 ?k_7 (fun kV doc pm an cdv ct us hl => match us, hl with | [_], _ => rfl)) ?nxt_7
    case a_7 => k_is
    case l_7 => k_is
    case c_7 => k_is
    case k_7 => k_is
    intro h_is_term
    refine' K8.then_of (K8.at_mk (x := "names_of") (st := K8.s_names_of) (ps := ["term"]) KX G ?a_8 ?l_8 ?c_8 ?k_8 (fun kV doc pm an cdv ct us hl => match us, hl with | [_], _ => rfl)) ?nxt_8
    case a_8 => k_is
    case l_8 => k_is
    case c_8 => k_is
    case k_8 => k_is
    intro h_names_of
    refine' K8.then_of (K8.at_mk (x := "told_term") (st := K8.s_told_term) (ps := ["term"]) KX G ?a_9 ?l_9 ?c_9 ?k_9 (fun kV doc pm an cdv ct us hl => match us, hl with | [_], _ => rfl)) ?nxt_9
    case a_9 => k_is
    case l_9 => k_is
    case c_9 => k_is
    case k_9 => k_is
    intro h_told_term
    refine' K8.then_of (K8.at_mk (x := "scaled") (st := K8.s_scaled) (ps := ["term", "number"]) KX G ?a_10 ?l_10 ?c_10 ?k_10 (fun kV doc pm an cdv ct us hl => match us, hl with | [_, _], _ => rfl)) ?nxt_10
    case a_10 => k_is
    case l_10 => k_is
    case c_10 => k_is
    case k_10 => k_is
    intro h_scaled
    refine' K8.then_of (K8.at_mk (x := "_divided") (st := K8.s__divided) (ps := ["term", "number"]) KX G ?a_11 ?l_11 ?c_11 ?k_11 (fun kV doc pm an cdv ct us hl => match us, hl with | [_, _], _ => rfl)) ?nxt_11
    case a_11 => k_is
    case l_11 => k_is
    case c_11 => k_is
    case k_11 => k_is
    intro h__divided
    refine' K8.then_of (K8.at_mk (x := "_rests") (st := K8.s__rests) (ps := ["term", "number"]) KX G ?a_12 ?l_12 ?c_12 ?k_12 (fun kV doc pm an cdv ct us hl => match us, hl with | [_, _], _ => rfl)) ?nxt_12
    case a_12 => k_is
    case l_12 => k_is
    case c_12 => k_is
    case k_12 => k_is
    intro h__rests
    refine' K8.then_of (K8.at_mk (x := "turned") (st := K8.s_turned) (ps := ["term"]) KX G ?a_13 ?l_13 ?c_13 ?k_13 (fun kV doc pm an cdv ct us hl => match us, hl with | [_], _ => rfl)) ?nxt_13
    case a_13 => k_is
    case l_13 => k_is
    case c_13 => k_is
    case k_13 => k_is
    intro h_turned
    refine' K8.then_of (K8.at_mk (x := "_divisor_of") (st := K8.s__divisor_of) (ps := ["term", "number"]) KX G ?a_14 ?l_14 ?c_14 ?k_14 (fun kV doc pm an cdv ct us hl => match us, hl with | [_, _], _ => rfl)) ?nxt_14
    case a_14 => k_is
    case l_14 => k_is
    case c_14 => k_is
    case k_14 => k_is
    intro h__divisor_of
    refine' K8.then_of (K8.at_mk (x := "_tight_row") (st := K8.s__tight_row) (ps := ["term"]) KX G ?a_15 ?l_15 ?c_15 ?k_15 (fun kV doc pm an cdv ct us hl => match us, hl with | [_], _ => rfl)) ?nxt_15
    case a_15 => k_is
    case l_15 => k_is
    case c_15 => k_is
    case k_15 => k_is
    intro h__tight_row
    refine' K8.then_of (K8.at_mk (x := "_tight_same") (st := K8.s__tight_same) (ps := ["term"]) KX G ?a_16 ?l_16 ?c_16 ?k_16 (fun kV doc pm an cdv ct us hl => match us, hl with | [_], _ => rfl)) ?nxt_16
    case a_16 => k_is
    case l_16 => k_is
    case c_16 => k_is
    case k_16 => k_is
    intro h__tight_same
    refine' K8.then_of (K8.at_mk (x := "_tight_by") (st := K8.s__tight_by) (ps := ["many", "term"]) KX G ?a_17 ?l_17 ?c_17 ?k_17 (fun kV doc pm an cdv ct us hl => match us, hl with | [_, _], _ => rfl)) ?nxt_17
    case a_17 => k_is
    case l_17 => k_is
    case c_17 => k_is
    case k_17 => k_is
    intro h__tight_by
    refine' K8.then_of (K8.at_mk (x := "is_test") (st := K8.s_is_test) (ps := ["thing"]) KX G ?a_18 ?l_18 ?c_18 ?k_18 (fun kV doc pm an cdv ct us hl => match us, hl with | [_], _ => rfl)) ?nxt_18
    case a_18 => k_is
    case l_18 => k_is
    case c_18 => k_is
    case k_18 => k_is
    intro h_is_test
    refine' K8.then_of (K8.at_mk (x := "_law_draw") (st := K8.s__law_draw) (ps := ["spring", "many"]) KX G ?a_19 ?l_19 ?c_19 ?k_19 (fun kV doc pm an cdv ct us hl => match us, hl with | [_, _], _ => rfl)) ?nxt_19
    case a_19 => k_is
    case l_19 => k_is
    case c_19 => k_is
    case k_19 => k_is
    intro h__law_draw
    refine' K8.then_of (K8.at_mk (x := "_law_pick") (st := K8.s__law_pick) (ps := ["spring", "some"]) KX G ?a_20 ?l_20 ?c_20 ?k_20 (fun kV doc pm an cdv ct us hl => match us, hl with | [_, _], _ => rfl)) ?nxt_20
    case a_20 => k_is
    case l_20 => k_is
    case c_20 => k_is
    case k_20 => k_is
    intro h__law_pick
    refine' K8.then_of (K8.at_mk (x := "_law_mixed") (st := K8.s__law_mixed) (ps := ["spring", "some"]) KX G ?a_21 ?l_21 ?c_21 ?k_21 (fun kV doc pm an cdv ct us hl => match us, hl with | [_, _], _ => rfl)) ?nxt_21
    case a_21 => k_is
    case l_21 => k_is
    case c_21 => k_is
    case k_21 => k_is
    intro h__law_mixed
    refine' K8.then_of (K8.at_mk (x := "_law_spring") (st := K8.s__law_spring) (ps := ["script", "turn"]) KX G ?a_22 ?l_22 ?c_22 ?k_22 (fun kV doc pm an cdv ct us hl => match us, hl with | [_, _], _ => rfl)) ?nxt_22
    case a_22 => k_is
    case l_22 => k_is
    case c_22 => k_is
    case k_22 => k_is
    intro h__law_spring
    refine' K8.then_of (K8.at_mk (x := "_law_w_names") (st := K8.s__law_w_names) (ps := ["spring", "least", "most"]) KX G ?a_23 ?l_23 ?c_23 ?k_23 (fun kV doc pm an cdv ct us hl => match us, hl with | [_, _, _], _ => rfl)) ?nxt_23
    case a_23 => k_is
    case l_23 => k_is
    case c_23 => k_is
    case k_23 => k_is
    intro h__law_w_names
    refine' K8.then_of (K8.at_mk (x := "_law_w_numbers") (st := K8.s__law_w_numbers) (ps := ["spring", "names", "far"]) KX G ?a_24 ?l_24 ?c_24 ?k_24 (fun kV doc pm an cdv ct us hl => match us, hl with | [_, _, _], _ => rfl)) ?nxt_24
    case a_24 => k_is
    case l_24 => k_is
    case c_24 => k_is
    case k_24 => k_is
    intro h__law_w_numbers
    refine' K8.then_of (K8.at_mk (x := "_law_w_worth") (st := K8.s__law_w_worth) (ps := ["term", "numbers"]) KX G ?a_25 ?l_25 ?c_25 ?k_25 (fun kV doc pm an cdv ct us hl => match us, hl with | [_, _], _ => rfl)) ?nxt_25
    case a_25 => k_is
    case l_25 => k_is
    case c_25 => k_is
    case k_25 => k_is
    intro h__law_w_worth
    refine' K8.then_of (K8.at_mk (x := "_law_w_is_so") (st := K8.s__law_w_is_so) (ps := ["body", "numbers"]) KX G ?a_26 ?l_26 ?c_26 ?k_26 (fun kV doc pm an cdv ct us hl => match us, hl with | [_, _], _ => rfl)) ?nxt_26
    case a_26 => k_is
    case l_26 => k_is
    case c_26 => k_is
    case k_26 => k_is
    intro h__law_w_is_so
    refine' K8.then_of (K8.at_mk (x := "_law_w_told") (st := K8.s__law_w_told) (ps := ["term"]) KX G ?a_27 ?l_27 ?c_27 ?k_27 (fun kV doc pm an cdv ct us hl => match us, hl with | [_], _ => rfl)) ?nxt_27
    case a_27 => k_is
    case l_27 => k_is
    case c_27 => k_is
    case k_27 => k_is
    intro h__law_w_told
    refine' K8.then_of (K8.at_mk (x := "_law_w_body_told") (st := K8.s__law_w_body_told) (ps := ["body"]) KX G ?a_28 ?l_28 ?c_28 ?k_28 (fun kV doc pm an cdv ct us hl => match us, hl with | [_], _ => rfl)) ?nxt_28
    case a_28 => k_is
    case l_28 => k_is
    case c_28 => k_is
    case k_28 => k_is
    intro h__law_w_body_told
    refine' K8.then_of (K8.at_mk (x := "_law_w_term") (st := K8.s__law_w_term) (ps := ["spring", "names", "great"]) KX G ?a_29 ?l_29 ?c_29 ?k_29 (fun kV doc pm an cdv ct us hl => match us, hl with | [_, _, _], _ => rfl)) ?nxt_29
    case a_29 => k_is
    case l_29 => k_is
    case c_29 => k_is
    case k_29 => k_is
    intro h__law_w_term
    refine' K8.then_of (K8.at_mk (x := "_law_w_test") (st := K8.s__law_w_test) (ps := ["spring", "names", "great"]) KX G ?a_30 ?l_30 ?c_30 ?k_30 (fun kV doc pm an cdv ct us hl => match us, hl with | [_, _, _], _ => rfl)) ?nxt_30
    case a_30 => k_is
    case l_30 => k_is
    case c_30 => k_is
    case k_30 => k_is
    intro h__law_w_test
    refine' K8.then_of (K8.at_mk (x := "_law_common") (st := K8.s__law_common) (ps := ["numbers"]) KX G ?a_31 ?l_31 ?c_31 ?k_31 (fun kV doc pm an cdv ct us hl => match us, hl with | [_], _ => rfl)) ?nxt_31
    case a_31 => k_is
    case l_31 => k_is
    case c_31 => k_is
    case k_31 => k_is
    intro h__law_common
    refine' K8.then_of (K8.at_mk (x := "_law_tight") (st := K8.s__law_tight) (ps := ["test"]) KX G ?a_32 ?l_32 ?c_32 ?k_32 (fun kV doc pm an cdv ct us hl => match us, hl with | [_], _ => rfl)) ?nxt_32
    case a_32 => k_is
    case l_32 => k_is
    case c_32 => k_is
    case k_32 => k_is
    intro h__law_tight
    refine' K8.then_of (K8.at_mk (x := "_law_w_turned") (st := K8.s__law_w_turned) (ps := ["term"]) KX G ?a_33 ?l_33 ?c_33 ?k_33 (fun kV doc pm an cdv ct us hl => match us, hl with | [_], _ => rfl)) ?nxt_33
    case a_33 => k_is
    case l_33 => k_is
    case c_33 => k_is
    case k_33 => k_is
    intro h__law_w_turned
    refine' K8.then_of (K8.at_mk (x := "_law_drawn") (st := K8.s__law_drawn) (ps := ["spring", "names", "great"]) KX G ?a_34 ?l_34 ?c_34 ?k_34 (fun kV doc pm an cdv ct us hl => match us, hl with | [_, _, _], _ => rfl)) ?nxt_34
    case a_34 => k_is
    case l_34 => k_is
    case c_34 => k_is
    case k_34 => k_is
    intro h__law_drawn
    refine' K8.then_of (K8.at_mk (x := "_law_w_handed") (st := K8.s__law_w_handed) (ps := ["spring", "thing"]) KX G ?a_35 ?l_35 ?c_35 ?k_35 (fun kV doc pm an cdv ct us hl => match us, hl with | [_, _], _ => rfl)) ?nxt_35
    case a_35 => k_is
    case l_35 => k_is
    case c_35 => k_is
    case k_35 => k_is
    intro h__law_w_handed
    refine' K8.then_of (K8.at_mk (x := "_law_w_no_bodies") (st := K8.s__law_w_no_bodies) (ps := ["good"]) KX G ?a_36 ?l_36 ?c_36 ?k_36 (fun kV doc pm an cdv ct us hl => match us, hl with | [_], _ => rfl)) ?nxt_36
    case a_36 => k_is
    case l_36 => k_is
    case c_36 => k_is
    case k_36 => k_is
    intro h__law_w_no_bodies
    refine' K8.then_of (K8.at_mk (x := "_law_near_right") (st := K8.s__law_near_right) (ps := ["spring", "names"]) KX G ?a_37 ?l_37 ?c_37 ?k_37 (fun kV doc pm an cdv ct us hl => match us, hl with | [_, _], _ => rfl)) ?nxt_37
    case a_37 => k_is
    case l_37 => k_is
    case c_37 => k_is
    case k_37 => k_is
    intro h__law_near_right
    refine' K8.then_of (K8.at_mk (x := "_law_same") (st := K8.s__law_same) (ps := ["found", "due"]) KX G ?a_38 ?l_38 ?c_38 ?k_38 (fun kV doc pm an cdv ct us hl => match us, hl with | [_, _], _ => rfl)) ?nxt_38
    case a_38 => k_is
    case l_38 => k_is
    case c_38 => k_is
    case k_38 => k_is
    intro h__law_same
    refine' K8.then_of (K8.at_mk (x := "tight") (st := K8.s_tight) (ps := ["test"]) KX G ?a_39 ?l_39 ?c_39 ?k_39 (fun kV doc pm an cdv ct us hl => match us, hl with | [_], _ => rfl)) ?nxt_39
    case a_39 => k_is
    case l_39 => k_is
    case c_39 => k_is
    case k_39 => k_is
    intro h_tight
    refine' K8.then_of (K8.at_mk (x := "_law_test_right") (st := K8.s__law_test_right) (ps := ["spring", "names", "test"]) KX G ?a_40 ?l_40 ?c_40 ?k_40 (fun kV doc pm an cdv ct us hl => match us, hl with | [_, _, _], _ => rfl)) ?nxt_40
    case a_40 => k_is
    case l_40 => k_is
    case c_40 => k_is
    case k_40 => k_is
    intro h__law_test_right
    refine' K8.then_of (K8.at_mk (x := "law") (st := K8.s_law) (ps := ["script"]) KX G ?a_41 ?l_41 ?c_41 ?k_41 (fun kV doc pm an cdv ct us hl => match us, hl with | [_], _ => rfl)) ?nxt_41
    case a_41 => k_is
    case l_41 => k_is
    case c_41 => k_is
    case k_41 => k_is
    intro h_law
    refine' K8.then_of (PySem.W.mg_none_of (n := "isinstance") KX G ?a_42) ?nxt_42
    case a_42 => k_is
    intro n_isinstance
    refine' K8.then_of (PySem.W.mg_none_of (n := "len") KX G ?a_43) ?nxt_43
    case a_43 => k_is
    intro n_len
    refine' K8.then_of (PySem.W.mg_none_of (n := "all") KX G ?a_44) ?nxt_44
    case a_44 => k_is
    intro n_all
    refine' K8.then_of (PySem.W.mg_none_of (n := "any") KX G ?a_45) ?nxt_45
    case a_45 => k_is
    intro n_any
    refine' K8.then_of (PySem.W.mg_none_of (n := "sum") KX G ?a_46) ?nxt_46
    case a_46 => k_is
    intro n_sum
    refine' K8.then_of (PySem.W.mg_none_of (n := "sorted") KX G ?a_47) ?nxt_47
    case a_47 => k_is
    intro n_sorted
    refine' K8.then_of (PySem.W.mg_none_of (n := "abs") KX G ?a_48) ?nxt_48
    case a_48 => k_is
    intro n_abs
    refine' K8.then_of (PySem.W.mg_none_of (n := "repr") KX G ?a_49) ?nxt_49
    case a_49 => k_is
    intro n_repr
    refine' K8.then_of (PySem.W.mg_none_of (n := "range") KX G ?a_50) ?nxt_50
    case a_50 => k_is
    intro n_range
    refine' K8.then_of (PySem.W.mg_none_of (n := "enumerate") KX G ?a_51) ?nxt_51
    case a_51 => k_is
    intro n_enumerate
    refine' K8.then_of (PySem.W.mg_none_of (n := "zip") KX G ?a_52) ?nxt_52
    case a_52 => k_is
    intro n_zip
    refine' K8.then_of (PySem.W.mg_none_of (n := "int") KX G ?a_53) ?nxt_53
    case a_53 => k_is
    intro n_int
    refine' K8.then_of (PySem.W.mg_none_of (n := "bool") KX G ?a_54) ?nxt_54
    case a_54 => k_is
    intro n_bool
    refine' K8.then_of (PySem.W.mg_none_of (n := "str") KX G ?a_55) ?nxt_55
    case a_55 => k_is
    intro n_str
    refine' K8.then_of (PySem.W.mg_none_of (n := "list") KX G ?a_56) ?nxt_56
    case a_56 => k_is
    intro n_list
    refine' K8.then_of (PySem.W.mg_none_of (n := "tuple") KX G ?a_57) ?nxt_57
    case a_57 => k_is
    intro n_tuple
    refine' K8.then_of (PySem.W.mg_none_of (n := "dict") KX G ?a_58) ?nxt_58
    case a_58 => k_is
    intro n_dict
    refine' K8.then_of (K8.txt_mk KX G n_isinstance n_len n_all n_any n_sum n_sorted n_abs n_repr n_range n_enumerate n_zip n_int n_bool n_str n_list n_tuple n_dict ?a_59 ?b_59 ?c_59 ?d_59 ?e_59 ?f_59 ?g_59) ?nxt_59
    case a_59 => k_is
    case b_59 => k_is
    case c_59 => k_is
    case d_59 => k_is
    case e_59 => k_is
    case f_59 => k_is
    case g_59 => decide +kernel
    intro T
    refine' K8.then_of (K8.bad_mk KX G ?gC_60 ?xL_60 ?sa_60 ?ga_60 ?gg_60 ?nb_60 ?ini_60 ?ti_60 ?li_60 ?ci_60 ?ki_60 ?kC_60 ?eC_60 ?tC_60 ?hC_60 ?iC_60 ?sC_60 ?rb_60) ?nxt_60
    case gC_60 => k_is
    case xL_60 => k_is
    case sa_60 => k_is
    case ga_60 => k_is
    case gg_60 => k_is
    case nb_60 => k_is
    case ini_60 => k_is
    case ti_60 => k_is
    case li_60 => k_is
    case ci_60 => k_is
    case ki_60 => k_is
    case kC_60 => k_is
    case eC_60 => k_is
    case tC_60 => k_is
    case hC_60 => k_is
    case iC_60 => k_is
    case sC_60 => k_is
    case rb_60 => decide +kernel
    intro B
    refine' K8.then_of (K8.ref_mk (x := "_law_refused_right") (st := K8.s__law_refused_right) (ps := ["spring", "names"]) KX G ?a_61 ?l_61 ?c_61 ?k_61 ?lc_61 ?v_61 ?nk_61 ?hd_61 (fun kV doc pm an cdv ct us hl => match us, hl with | [_, _], _ => rfl)) ?nxt_61
    case a_61 => k_is
    case l_61 => k_is
    case c_61 => k_is
    case k_61 => k_is
    case lc_61 => k_is
    case v_61 => exact rfl
    case nk_61 => kernel_rfl
    case hd_61 => kernel_rfl
    intro R
    refine' K8.then_of (K8.met_mk KX G ?a_62 ?l_62 ?c_62 ?k_62) ?nxt_62
    case a_62 => k_is
    case l_62 => k_is
    case c_62 => k_is
    case k_62 => k_is
    intro M
    refine' K8.then_of (K8.fnk_mk (x := "_law_w_no_bodies") KX G ?a_63 ?l_63 ?c_63 ?k_63) ?nxt_63
    case a_63 => k_is
    case l_63 => k_is
    case c_63 => exact rfl
    case k_63 => k_is
    intro N
    exact ⟨_, _, R.2, fun base _ _ TB => K8.all_ok T B h_is_whole h_is_from_one h_is_list h_is_run h_is_name h_is_numbers h_is_term h_names_of h_told_term h_scaled h__divided h__rests h_turned h__divisor_of h__tight_row h__tight_same h__tight_by h_is_test h__law_draw h__law_pick h__law_mixed h__law_spring h__law_w_names h__law_w_numbers h__law_w_worth h__law_w_is_so h__law_w_told h__law_w_body_told h__law_w_term h__law_w_test h__law_common h__law_tight h__law_w_turned h__law_drawn h__law_w_handed h__law_w_no_bodies h__law_near_right h__law_same h_tight h__law_test_right h_law R.1 TB M N.1 N.2.1 N.2.2⟩
