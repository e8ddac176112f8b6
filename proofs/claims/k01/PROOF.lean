import PyProof.Rows.All
import Wide.All
import OpenK.AllK
import Wide.FinOn
import HandS.Base
import HandS.Dict
import KE.SortData
import KE.LtData
import KE.SortCalls
import KE.DataEq
import KE.SortKeyHeap
import HandS.ForMost
import HandS.Defaults
import HandS.WordsExc
import HandS.SortKw
import HandS.ExcValue
import HandS.IsInst
import HandS.Wide
import HandS.Walk
import KE.KStateDown
import Lean
import HandS.More
import HandS.Head0
import HandS.Head1
import HandS.Head2
import HandS.HeadEnd
import HandS.HeadHook1
import HandS.HeadHook2
import PySem.Challenge.RW_deltaloom_k01_values_and_bags
import PyProof.ReprRoads
import PyProof.Rows.ReprItems
import PyProof.FitsInt
set_option Elab.async false
set_option linter.all false
set_option maxRecDepth 100000
set_option maxHeartbeats 4000000
/-! bags as lists of rows and counts: sums by row, the sorted form, and that it is the only one -/
namespace KA
open PySem PySem.W L2
abbrev Row := List Key
abbrev Bag := List (Row × Int)
/-! ### the order of values and rows -/
def sLt (a b : Str) : Bool := decide (a.cps.toList < b.cps.toList)
def oneLt : Key → Key → Bool
  | .inl i, .inl j => decide (i < j)
  | .inl _, .inr _ => true
  | .inr _, .inl _ => false
  | .inr x, .inr y => sLt x y
def rowLt : Row → Row → Bool
  | [], [] => false
  | [], _ :: _ => true
  | _ :: _, [] => false
  | a :: r, b :: t => if a = b then rowLt r t else oneLt a b
theorem str_ext {a b : Str} (h : a.cps.toList = b.cps.toList) : a = b := by
  cases a; cases b
  simp only [Str.mk.injEq]
  exact Array.toList_inj.mp h
theorem oneLt_irrefl (a : Key) : oneLt a a = false := by
  cases a with
  | inl i => simp [oneLt]
  | inr x => simp [oneLt, sLt, List.lt_irrefl]
theorem oneLt_total {a b : Key} (h : a ≠ b) (h1 : oneLt a b = false) : oneLt b a = true := by
  cases a with
  | inl i =>
    cases b with
    | inl j =>
      simp only [oneLt, decide_eq_false_iff_not, decide_eq_true_eq] at h1 ⊢
      have : i ≠ j := fun e => h (by rw [e])
      omega
    | inr y => simp [oneLt] at h1
  | inr x =>
    cases b with
    | inl j => rfl
    | inr y =>
      simp only [oneLt, sLt, decide_eq_false_iff_not, decide_eq_true_eq] at h1 ⊢
      have hne : x.cps.toList ≠ y.cps.toList := fun e => h (by rw [str_ext e])
      have h2 : y.cps.toList ≤ x.cps.toList := List.not_lt.mp h1
      by_cases z : y.cps.toList < x.cps.toList
      · exact z
      · exact absurd (List.le_antisymm (List.not_lt.mp z) h2) hne
theorem oneLt_asym {a b : Key} (h : oneLt a b = true) : oneLt b a = false := by
  cases a with
  | inl i =>
    cases b with
    | inl j => simp only [oneLt, decide_eq_false_iff_not, decide_eq_true_eq] at h ⊢; omega
    | inr y => rfl
  | inr x =>
    cases b with
    | inl j => simp [oneLt] at h
    | inr y =>
      simp only [oneLt, sLt, decide_eq_false_iff_not, decide_eq_true_eq] at h ⊢
      exact fun e => List.lt_irrefl _ (List.lt_trans h e)
theorem oneLt_trans {a b c : Key} (h1 : oneLt a b = true) (h2 : oneLt b c = true) : oneLt a c = true := by
  cases a with
  | inl i =>
    cases b with
    | inl j =>
      cases c with
      | inl k => simp only [oneLt, decide_eq_true_eq] at h1 h2 ⊢; omega
      | inr z => rfl
    | inr y =>
      cases c with
      | inl k => simp [oneLt] at h2
      | inr z => rfl
  | inr x =>
    cases b with
    | inl j => simp [oneLt] at h1
    | inr y =>
      cases c with
      | inl k => simp [oneLt] at h2
      | inr z =>
        simp only [oneLt, sLt, decide_eq_true_eq] at h1 h2 ⊢
        exact List.lt_trans h1 h2
theorem rowLt_irrefl : ∀ r : Row, rowLt r r = false
  | [] => rfl
  | a :: r => by
    rw [rowLt, if_pos rfl]
    exact rowLt_irrefl r
theorem rowLt_total : ∀ {a b : Row}, a ≠ b → rowLt a b = false → rowLt b a = true
  | [], [], h, _ => absurd rfl h
  | [], _ :: _, _, h => by simp [rowLt] at h
  | _ :: _, [], _, _ => rfl
  | x :: a, y :: b, h, h1 => by
    rw [rowLt] at h1 ⊢
    by_cases e : x = y
    · subst e
      rw [if_pos rfl] at h1 ⊢
      exact rowLt_total (fun q => h (by rw [q])) h1
    · rw [if_neg e] at h1
      rw [if_neg (fun q => e q.symm)]
      exact oneLt_total e h1
theorem rowLt_asym : ∀ {a b : Row}, rowLt a b = true → rowLt b a = false
  | [], [], h => by simp [rowLt] at h
  | [], _ :: _, _ => rfl
  | _ :: _, [], h => by simp [rowLt] at h
  | x :: a, y :: b, h => by
    rw [rowLt] at h ⊢
    by_cases e : x = y
    · subst e
      rw [if_pos rfl] at h ⊢
      exact rowLt_asym h
    · rw [if_neg e] at h
      rw [if_neg (fun q => e q.symm)]
      exact oneLt_asym h
theorem rowLt_trans : ∀ {a b c : Row}, rowLt a b = true → rowLt b c = true → rowLt a c = true
  | [], [], _, h, _ => by simp [rowLt] at h
  | [], _ :: _, [], _, h => by simp [rowLt] at h
  | [], _ :: _, _ :: _, _, _ => rfl
  | _ :: _, [], _, h, _ => by simp [rowLt] at h
  | _ :: _, _ :: _, [], _, h => by simp [rowLt] at h
  | x :: a, y :: b, z :: c, h1, h2 => by
    rw [rowLt] at h1 h2 ⊢
    by_cases e : x = y
    · subst e
      rw [if_pos rfl] at h1
      by_cases e2 : x = z
      · subst e2
        rw [if_pos rfl] at h2 ⊢
        exact rowLt_trans h1 h2
      · rw [if_neg e2] at h2 ⊢
        exact h2
    · rw [if_neg e] at h1
      by_cases e2 : y = z
      · subst e2
        rw [if_neg e]
        exact h1
      · rw [if_neg e2] at h2
        have h3 := oneLt_trans h1 h2
        have e3 : x ≠ z := fun q => by
          subst q
          rw [oneLt_irrefl] at h3
          cases h3
        rw [if_neg e3]
        exact h3
def rowLe (a b : Row) : Bool := !rowLt b a
/-! ### counts by row -/
/-- the sum of the counts that the pairs give to a row -/
def tot (ps : Bag) (r : Row) : Int := ((ps.filter fun e => decide (e.1 = r)).map (·.2)).sum
theorem tot_nil (r : Row) : tot [] r = 0 := rfl
theorem tot_cons (e : Row × Int) (ps : Bag) (r : Row) : tot (e :: ps) r = (if e.1 = r then e.2 else 0) + tot ps r := by
  unfold tot
  by_cases h : e.1 = r
  · rw [List.filter_cons_of_pos (by simpa using h), if_pos h, List.map_cons, List.sum_cons]
  · rw [List.filter_cons_of_neg (by simpa using h), if_neg h]
    omega
theorem tot_app (ps qs : Bag) (r : Row) : tot (ps ++ qs) r = tot ps r + tot qs r := by
  induction ps with
  | nil => rw [List.nil_append, tot_nil]; omega
  | cons e t ih => rw [List.cons_append, tot_cons, tot_cons, ih]; omega
theorem tot_map (ps : Bag) (f : Int → Int) (h : ∀ x y, f (x + y) = f x + f y) (h0 : f 0 = 0) (r : Row) : tot (ps.map fun e => (e.1, f e.2)) r = f (tot ps r) := by
  induction ps with
  | nil => rw [List.map_nil, tot_nil, h0]
  | cons e t ih =>
    rw [List.map_cons, tot_cons, tot_cons, ih, h]
    by_cases q : e.1 = r
    · rw [if_pos q, if_pos q]
    · rw [if_neg q, if_neg q, h0]
theorem tot_out {ps : Bag} {r : Row} (h : ∀ e ∈ ps, e.1 ≠ r) : tot ps r = 0 := by
  induction ps with
  | nil => rfl
  | cons e t ih =>
    rw [tot_cons, if_neg (h e List.mem_cons_self), ih fun x hx => h x (List.mem_cons_of_mem _ hx)]
    omega
theorem tot_in {ps : Bag} (hn : (ps.map (·.1)).Nodup) {e : Row × Int} (he : e ∈ ps) : tot ps e.1 = e.2 := by
  induction ps with
  | nil => cases he
  | cons x t ih =>
    rw [List.map_cons, List.nodup_cons] at hn
    rw [tot_cons]
    rcases List.mem_cons.mp he with q | q
    · subst q
      rw [if_pos rfl, tot_out fun y hy z => hn.1 (List.mem_map.mpr ⟨y, hy, z⟩)]
      omega
    · have hne : x.1 ≠ e.1 := fun z => hn.1 (List.mem_map.mpr ⟨e, q, z.symm⟩)
      rw [if_neg hne, ih hn.2 q]
      omega
/-! ### the dict that is filled pair by pair -/
def putI (m : Bag) (r : Row) (c : Int) : Bag :=
  if (m.any fun e => decide (e.1 = r)) = true then m.map (fun e => if e.1 = r then (e.1, c) else e) else m ++ [(r, c)]
def valI (m : Bag) (r : Row) : Option Int := (m.find? fun e => decide (e.1 = r)).map (·.2)
def tally (ps : Bag) : Bag := ps.foldl (fun m e => putI m e.1 ((valI m e.1).getD 0 + e.2)) []
abbrev vk (m : Bag) : List (Row × V) := m.map fun e => (e.1, V.int e.2)
theorem vk_val (m : Bag) (r : Row) : valV (vk m) r = (valI m r).map V.int := by
  induction m with
  | nil => rfl
  | cons e t ih =>
    by_cases h : e.1 = r
    · rw [show vk (e :: t) = (e.1, V.int e.2) :: vk t from rfl, valV_pos h]
      simp [valI, List.find?_cons, h]
    · rw [show vk (e :: t) = (e.1, V.int e.2) :: vk t from rfl, valV_neg h, ih]
      simp [valI, List.find?_cons, h]
theorem vk_put (m : Bag) (r : Row) (c : Int) : putK (vk m) r (.int c) = vk (putI m r c) := by
  unfold putK putI
  have e : ((vk m).any fun kv => decide (kv.1 = r)) = (m.any fun e => decide (e.1 = r)) := by
    rw [List.any_map]
    rfl
  rw [e]
  split
  · show (m.map fun e => (e.1, V.int e.2)).map (fun kv => if kv.1 = r then (kv.1, V.int c) else kv) = (m.map (fun e => if e.1 = r then (e.1, c) else e)).map fun e => (e.1, V.int e.2)
    rw [List.map_map, List.map_map]
    refine List.map_congr_left fun x _ => ?_
    show (if x.1 = r then (x.1, V.int c) else (x.1, V.int x.2)) = ((if x.1 = r then (x.1, c) else x).1, V.int (if x.1 = r then (x.1, c) else x).2)
    split <;> rfl
  · show (m.map fun e => (e.1, V.int e.2)) ++ [(r, V.int c)] = (m ++ [(r, c)]).map fun e => (e.1, V.int e.2)
    rw [List.map_append]
    rfl
theorem valI_tot {m : Bag} (hn : (m.map (·.1)).Nodup) (r : Row) : (valI m r).getD 0 = tot m r := by
  induction m with
  | nil => rfl
  | cons e t ih =>
    rw [List.map_cons, List.nodup_cons] at hn
    rw [tot_cons]
    by_cases h : e.1 = r
    · rw [if_pos h, tot_out fun x hx q => hn.1 (List.mem_map.mpr ⟨x, hx, q.trans h.symm⟩)]
      simp [valI, List.find?_cons, h]
    · rw [if_neg h, ← ih hn.2]
      simp [valI, List.find?_cons, h]
theorem valI_some {m : Bag} {e : Row × Int} (he : e ∈ m) : (valI m e.1).isSome = true := by
  unfold valI
  rw [Option.isSome_map, List.find?_isSome]
  exact ⟨e, he, by simp⟩
theorem putI_keys (m : Bag) (r : Row) (c : Int) : (r ∈ m.map (·.1) ∧ (putI m r c).map (·.1) = m.map (·.1)) ∨ (r ∉ m.map (·.1) ∧ (putI m r c).map (·.1) = m.map (·.1) ++ [r]) := by
  unfold putI
  by_cases h : r ∈ m.map (·.1)
  · refine .inl ⟨h, ?_⟩
    obtain ⟨e, he, q⟩ := List.mem_map.mp h
    rw [if_pos (List.any_eq_true.mpr ⟨e, he, by simpa using q⟩), List.map_map]
    refine List.map_congr_left fun x _ => ?_
    show (if x.1 = r then (x.1, c) else x).1 = x.1
    split <;> rfl
  · refine .inr ⟨h, ?_⟩
    rw [if_neg (fun q => by
      obtain ⟨e, he, z⟩ := List.any_eq_true.mp q
      exact h (List.mem_map.mpr ⟨e, he, by simpa using z⟩)), List.map_append]
    rfl
theorem putI_nodup {m : Bag} (hn : (m.map (·.1)).Nodup) (r : Row) (c : Int) : ((putI m r c).map (·.1)).Nodup := by
  rcases putI_keys m r c with ⟨_, e⟩ | ⟨h, e⟩
  · rw [e]; exact hn
  · rw [e]
    exact List.nodup_append.mpr ⟨hn, List.pairwise_singleton _ _, fun a ha b hb q => by
      rw [List.mem_singleton.mp hb] at q
      exact h (q ▸ ha)⟩
theorem putI_tot {m : Bag} (hn : (m.map (·.1)).Nodup) (r q : Row) (c : Int) : tot (putI m r c) q = if r = q then c else tot m q := by
  rw [← valI_tot (putI_nodup hn r c), ← valI_tot hn]
  unfold putI
  by_cases h : (m.any fun e => decide (e.1 = r)) = true
  · rw [if_pos h]
    clear hn
    induction m with
    | nil => simp at h
    | cons e t ih =>
      by_cases h1 : e.1 = r
      · by_cases h2 : r = q
        · simp [valI, List.find?_cons, h1, h2]
        · rw [if_neg h2]
          have h3 : ¬ e.1 = q := fun z => h2 (h1.symm.trans z)
          by_cases h4 : (t.any fun e => decide (e.1 = r)) = true
          · have ih' := ih h4
            rw [if_neg h2] at ih'
            simp only [valI, List.map_cons, h1, if_true, List.find?_cons] at ih' ⊢
            simp only [h2, decide_false] at ih' ⊢
            exact ih'
          · have e2 : t.map (fun e => if e.1 = r then (e.1, c) else e) = t := by
              conv => rhs; rw [← List.map_id t]
              refine List.map_congr_left fun x hx => ?_
              rw [if_neg fun z => h4 (List.any_eq_true.mpr ⟨x, hx, by simpa using z⟩)]
              rfl
            simp only [valI, List.map_cons, h1, if_true, List.find?_cons, h2, decide_false, e2]
      · have h4 : (t.any fun e => decide (e.1 = r)) = true := by simpa [h1] using h
        have ih' := ih h4
        by_cases h2 : e.1 = q
        · have h3 : ¬ r = q := fun z => h1 (h2.trans z.symm)
          rw [if_neg h3, List.map_cons, if_neg h1]
          simp [valI, List.find?_cons, h2]
        · simp only [valI, List.map_cons, h1, if_false, List.find?_cons, h2, decide_false] at ih' ⊢
          exact ih'
  · rw [if_neg h]
    by_cases h2 : r = q
    · subst h2
      have e : (m.find? fun e => decide (e.1 = r)) = none := by
        rw [List.find?_eq_none]
        intro x hx z
        exact h (List.any_eq_true.mpr ⟨x, hx, z⟩)
      simp [valI, List.find?_append, e]
    · cases z : (m.find? fun e => decide (e.1 = q)) with
      | none => simp [valI, List.find?_append, z, h2]
      | some x => simp [valI, List.find?_append, z, h2]
theorem tally_go : ∀ (ps m : Bag), (m.map (·.1)).Nodup → ((ps.foldl (fun m e => putI m e.1 ((valI m e.1).getD 0 + e.2)) m).map (·.1)).Nodup ∧
    (∀ r, tot (ps.foldl (fun m e => putI m e.1 ((valI m e.1).getD 0 + e.2)) m) r = tot m r + tot ps r) ∧ (ps.foldl (fun m e => putI m e.1 ((valI m e.1).getD 0 + e.2)) m).length ≤ m.length + ps.length
  | [], m, h => ⟨h, fun r => by rw [List.foldl_nil, tot_nil]; omega, by simp⟩
  | e :: ps, m, h => by
    obtain ⟨a, b, c⟩ := tally_go ps (putI m e.1 ((valI m e.1).getD 0 + e.2)) (putI_nodup h _ _)
    rw [List.foldl_cons]
    refine ⟨a, fun r => ?_, ?_⟩
    · rw [b, putI_tot h, tot_cons, valI_tot h]
      by_cases q : e.1 = r
      · rw [if_pos q, if_pos q, q]; omega
      · rw [if_neg q, if_neg q]; omega
    · have l : (putI m e.1 ((valI m e.1).getD 0 + e.2)).length ≤ m.length + 1 := by
        unfold putI
        split
        · rw [List.length_map]; omega
        · rw [List.length_append]; simp
      rw [List.length_cons]
      omega
theorem tally_nodup (ps : Bag) : ((tally ps).map (·.1)).Nodup := (tally_go ps [] List.nodup_nil).1
theorem tally_tot (ps : Bag) (r : Row) : tot (tally ps) r = tot ps r := by
  have h := (tally_go ps [] List.nodup_nil).2.1 r
  rw [tot_nil] at h
  unfold tally
  omega
theorem tally_len (ps : Bag) : (tally ps).length ≤ ps.length := by
  have h := (tally_go ps [] List.nodup_nil).2.2
  simpa [tally] using h
theorem tally_val (ps : Bag) (r : Row) : (valI (tally ps) r).getD 0 = tot ps r := by rw [valI_tot (tally_nodup ps), tally_tot]
/-! ### the bag of some pairs -/
def nzRows (ps : Bag) : List Row := ((tally ps).map (·.1)).filter fun r => decide (tot ps r ≠ 0)
def sortRows (l : List Row) : List Row := l.mergeSort rowLe
def mk (ps : Bag) : Bag := (sortRows (nzRows ps)).map fun r => (r, tot ps r)
structure Canon (b : Bag) : Prop where
  srt : b.Pairwise fun x y => rowLt x.1 y.1 = true
  nz : ∀ e ∈ b, e.2 ≠ 0
theorem rowLe_trans (a b c : Row) (h1 : rowLe a b = true) (h2 : rowLe b c = true) : rowLe a c = true := by
  unfold rowLe at *
  simp only [Bool.not_eq_true'] at *
  by_cases e : a = b
  · rw [e]; exact h2
  · by_cases e2 : b = c
    · rw [← e2]; exact h1
    · exact rowLt_asym (rowLt_trans (rowLt_total (fun z => e z.symm) h1) (rowLt_total (fun z => e2 z.symm) h2))
theorem rowLe_total (a b : Row) : (rowLe a b || rowLe b a) = true := by
  unfold rowLe
  cases h : rowLt b a with
  | false => rfl
  | true => rw [rowLt_asym h]; rfl
theorem sortRows_perm (l : List Row) : (sortRows l).Perm l := List.mergeSort_perm l rowLe
theorem sortRows_srt {l : List Row} (hn : l.Nodup) : (sortRows l).Pairwise fun a b => rowLt a b = true := by
  have h1 : (sortRows l).Pairwise fun a b => rowLe a b = true := List.pairwise_mergeSort rowLe_trans rowLe_total l
  have h2 : (sortRows l).Nodup := (sortRows_perm l).nodup_iff.mpr hn
  have h3 : (sortRows l).Pairwise fun a b => rowLe a b = true ∧ a ≠ b := h1.and h2
  refine h3.imp fun {a b} q => ?_
  have q1 : rowLt b a = false := by simpa [rowLe] using q.1
  exact rowLt_total (fun z => q.2 z.symm) q1
theorem nzRows_nodup (ps : Bag) : (nzRows ps).Nodup := List.Nodup.sublist List.filter_sublist (tally_nodup ps)
theorem mem_keys_of_tot {ps : Bag} {r : Row} (h : tot ps r ≠ 0) : r ∈ ps.map (·.1) := by
  by_cases q : r ∈ ps.map (·.1)
  · exact q
  · exact absurd (tot_out fun e he z => q (List.mem_map.mpr ⟨e, he, z⟩)) h
theorem mem_nz {ps : Bag} {r : Row} : r ∈ nzRows ps ↔ tot ps r ≠ 0 := by
  unfold nzRows
  rw [List.mem_filter]
  refine ⟨fun h => by simpa using h.2, fun h => ⟨?_, by simpa using h⟩⟩
  exact mem_keys_of_tot (by rw [tally_tot]; exact h)
theorem mk_canon (ps : Bag) : Canon (mk ps) := by
  refine ⟨?_, fun e he => ?_⟩
  · unfold mk
    rw [List.pairwise_map]
    exact sortRows_srt (nzRows_nodup ps)
  · obtain ⟨r, hr, rfl⟩ := List.mem_map.mp he
    exact mem_nz.mp ((sortRows_perm _).mem_iff.mp hr)
theorem Canon.nodup {b : Bag} (h : Canon b) : (b.map (·.1)).Nodup := by
  unfold List.Nodup
  rw [List.pairwise_map]
  refine h.srt.imp fun {x y} q z => ?_
  rw [z, rowLt_irrefl] at q
  cases q
theorem mk_tot (ps : Bag) (r : Row) : tot (mk ps) r = tot ps r := by
  by_cases h : tot ps r = 0
  · rw [h]
    refine tot_out fun e he z => ?_
    obtain ⟨q, hq, rfl⟩ := List.mem_map.mp he
    have h2 := mem_nz.mp ((sortRows_perm _).mem_iff.mp hq)
    exact h2 (by rw [show q = r from z]; exact h)
  · have hm : (r, tot ps r) ∈ mk ps := List.mem_map.mpr ⟨r, (sortRows_perm _).mem_iff.mpr (mem_nz.mpr h), rfl⟩
    exact tot_in (mk_canon ps).nodup hm
/-- a sorted bag is told by its counts -/
theorem Canon.ext : ∀ {a b : Bag}, Canon a → Canon b → (∀ r, tot a r = tot b r) → a = b
  | [], [], _, _, _ => rfl
  | [], y :: b, _, hb, h => by
    have h1 := h y.1
    rw [tot_nil, tot_in hb.nodup List.mem_cons_self] at h1
    exact absurd h1.symm (hb.nz y List.mem_cons_self)
  | x :: a, [], ha, _, h => by
    have h1 := h x.1
    rw [tot_nil, tot_in ha.nodup List.mem_cons_self] at h1
    exact absurd h1 (ha.nz x List.mem_cons_self)
  | x :: a, y :: b, ha, hb, h => by
    have key : ∀ {u v : Row × Int} {s t : Bag}, Canon (u :: s) → Canon (v :: t) → (∀ r, tot (u :: s) r = tot (v :: t) r) → rowLt u.1 v.1 = false := by
      intro u v s t hu hv e
      cases q : rowLt u.1 v.1 with
      | false => rfl
      | true =>
        exfalso
        have e1 := e u.1
        rw [tot_in hu.nodup List.mem_cons_self] at e1
        refine hu.nz u List.mem_cons_self (e1.trans (tot_out fun z hz w => ?_))
        rcases List.mem_cons.mp hz with k | k
        · rw [← w, k, rowLt_irrefl] at q; cases q
        · have k2 := (List.pairwise_cons.mp hv.srt).1 z k
          rw [w] at k2
          rw [rowLt_asym k2] at q; cases q
    have e1 : x.1 = y.1 := by
      by_cases z : x.1 = y.1
      · exact z
      · have q1 := key ha hb h
        have q2 := key hb ha fun r => (h r).symm
        rw [rowLt_total z q1] at q2; cases q2
    have e2 : x.2 = y.2 := by
      have q := h x.1
      rw [tot_in ha.nodup List.mem_cons_self, e1, tot_in hb.nodup List.mem_cons_self] at q
      exact q
    have exy : x = y := Prod.ext e1 e2
    subst exy
    rw [Canon.ext (a := a) (b := b) ⟨(List.pairwise_cons.mp ha.srt).2, fun e he => ha.nz e (List.mem_cons_of_mem _ he)⟩ ⟨(List.pairwise_cons.mp hb.srt).2, fun e he => hb.nz e (List.mem_cons_of_mem _ he)⟩ fun r => by
      have q := h r
      rw [tot_cons, tot_cons] at q
      omega]
theorem mk_of_canon {b : Bag} (h : Canon b) : mk b = b := Canon.ext (mk_canon b) h (mk_tot b)
theorem mk_ext {ps qs : Bag} (h : ∀ r, tot ps r = tot qs r) : mk ps = mk qs := Canon.ext (mk_canon ps) (mk_canon qs) fun r => by rw [mk_tot, mk_tot, h]
theorem mk_len (ps : Bag) : (mk ps).length ≤ ps.length := by
  unfold mk
  rw [List.length_map, (sortRows_perm _).length_eq]
  unfold nzRows
  exact Nat.le_trans (List.length_filter_le ..) (by rw [List.length_map]; exact tally_len ps)
/-! ### the other operations -/
def scaleB (b : Bag) (f : Int) : Bag := if f = 0 then [] else b.map fun e => (e.1, e.2 * f)
def posRows (b : Bag) : List Row := (b.filter fun e => decide (e.2 > 0)).map (·.1)
def onesB (l : List Row) : Bag := l.map fun r => (r, 1)
def cntB (b : Bag) (r : Row) : Int := ((b.find? fun e => decide (e.1 = r)).map (·.2)).getD 0
theorem cntB_tot {b : Bag} (h : Canon b) (r : Row) : cntB b r = tot b r := valI_tot h.nodup r
theorem scale_tot (b : Bag) (f : Int) (r : Row) : tot (scaleB b f) r = tot b r * f := by
  unfold scaleB
  by_cases h : f = 0
  · rw [if_pos h, h, tot_nil]; omega
  · rw [if_neg h, tot_map b (fun x => x * f) (fun x y => Int.add_mul x y f) (Int.zero_mul f)]
theorem scale_canon {b : Bag} (h : Canon b) (f : Int) : Canon (scaleB b f) := by
  unfold scaleB
  by_cases q : f = 0
  · rw [if_pos q]; exact ⟨List.Pairwise.nil, fun e he => by cases he⟩
  · rw [if_neg q]
    refine ⟨?_, fun e he => ?_⟩
    · rw [List.pairwise_map]; exact h.srt
    · obtain ⟨x, hx, rfl⟩ := List.mem_map.mp he
      exact Int.mul_ne_zero (h.nz x hx) q
/-- what the law asks of the scaled bag -/
theorem scale_law {b : Bag} (h : Canon b) (f : Int) : scaleB b f = mk (b.map fun e => (e.1, f * e.2)) :=
  Canon.ext (scale_canon h f) (mk_canon _) fun r => by
    rw [scale_tot, mk_tot, tot_map b (fun x => f * x) (fun x y => Int.mul_add f x y) (Int.mul_zero f), Int.mul_comm]
theorem minus_law (a b : Bag) : mk (a ++ scaleB b (-1)) = mk (a ++ b.map fun e => (e.1, 0 - e.2)) := mk_ext fun r => by
  rw [tot_app, tot_app, scale_tot, tot_map b (fun x => 0 - x) (fun x y => by omega) rfl]
  omega
theorem group1 {a b : Bag} (h : Canon a) : mk (mk (a ++ b) ++ scaleB b (-1)) = a := Canon.ext (mk_canon _) h fun r => by
  rw [mk_tot, tot_app, mk_tot, tot_app, scale_tot]; omega
theorem group2 (a b : Bag) : mk (b ++ a) = mk (a ++ b) := mk_ext fun r => by rw [tot_app, tot_app]; omega
theorem group3 (a : Bag) : mk (a ++ scaleB a (-1)) = [] := Canon.ext (mk_canon _) ⟨List.Pairwise.nil, fun e he => by cases he⟩ fun r => by
  rw [mk_tot, tot_app, scale_tot, tot_nil]; omega
theorem group4 (a b : Bag) (f : Int) : scaleB (mk (a ++ b)) f = mk (scaleB a f ++ scaleB b f) := Canon.ext (scale_canon (mk_canon _) f) (mk_canon _) fun r => by
  rw [scale_tot, mk_tot, mk_tot, tot_app, tot_app, scale_tot, scale_tot, Int.add_mul]
def cntR (l : List Row) (r : Row) : Nat := (l.filter fun x => decide (x = r)).length
theorem cntR_pos {l : List Row} {r : Row} : 0 < cntR l r ↔ r ∈ l := by
  unfold cntR
  rw [List.length_pos_iff_exists_mem]
  constructor
  · rintro ⟨x, hx⟩
    obtain ⟨h1, h2⟩ := List.mem_filter.mp hx
    have e : x = r := by simpa using h2
    rw [← e]; exact h1
  · exact fun h => ⟨r, List.mem_filter.mpr ⟨h, by simp⟩⟩
theorem tot_ones (l : List Row) (r : Row) : tot (onesB l) r = (cntR l r : Nat) := by
  induction l with
  | nil => rfl
  | cons x t ih =>
    rw [show onesB (x :: t) = (x, 1) :: onesB t from rfl, tot_cons, ih]
    unfold cntR
    by_cases h : x = r
    · rw [if_pos (show (x, (1 : Int)).1 = r from h), List.filter_cons_of_pos (by simpa using h), List.length_cons]; omega
    · rw [if_neg (show ¬ (x, (1 : Int)).1 = r from h), List.filter_cons_of_neg (by simpa using h)]; omega
theorem cntR_nodup {l : List Row} (h : l.Nodup) (r : Row) : (r ∈ l → cntR l r = 1) ∧ (r ∉ l → cntR l r = 0) := by
  induction l with
  | nil => exact ⟨fun q => (List.not_mem_nil q).elim, fun _ => rfl⟩
  | cons x t ih =>
    obtain ⟨h1, h2⟩ := List.nodup_cons.mp h
    obtain ⟨a, b⟩ := ih h2
    unfold cntR at *
    by_cases q : x = r
    · subst q
      rw [List.filter_cons_of_pos (by simp), List.length_cons, b h1]
      refine ⟨fun _ => rfl, fun z => ?_⟩
      exact absurd List.mem_cons_self z
    · rw [List.filter_cons_of_neg (by simpa using q)]
      exact ⟨fun z => a ((List.mem_cons.mp z).resolve_left fun w => q w.symm), fun z => b fun w => z (List.mem_cons_of_mem _ w)⟩
theorem set_law {b : Bag} (h : Canon b) : onesB (posRows (mk (onesB (b.map (·.1) ++ posRows b)))) = b.map fun e => (e.1, 1) := by
  have hc := mk_canon (onesB (b.map (·.1) ++ posRows b))
  have hpos : ∀ e ∈ mk (onesB (b.map (·.1) ++ posRows b)), e.2 > 0 := fun e he => by
    have e1 := tot_in hc.nodup he
    rw [mk_tot, tot_ones] at e1
    have e2 := hc.nz e he
    omega
  have hall : posRows (mk (onesB (b.map (·.1) ++ posRows b))) = (mk (onesB (b.map (·.1) ++ posRows b))).map (·.1) := by
    unfold posRows
    rw [List.filter_eq_self.mpr fun e he => by simpa using hpos e he]
  have hs1 : (onesB ((mk (onesB (b.map (·.1) ++ posRows b))).map (·.1))).Pairwise fun x y => rowLt x.1 y.1 = true := by
    unfold onesB
    rw [List.map_map, List.pairwise_map]
    exact hc.srt
  have hs2 : (b.map fun e => ((e.1, 1) : Row × Int)).Pairwise fun x y => rowLt x.1 y.1 = true := by
    rw [List.pairwise_map]
    exact h.srt
  have hn : ∀ l : List Row, ∀ e ∈ onesB l, e.2 ≠ 0 := fun l e he => by
    obtain ⟨x, _, rfl⟩ := List.mem_map.mp he
    exact (by decide : (1 : Int) ≠ 0)
  have e0 : (b.map fun e => ((e.1, 1) : Row × Int)) = onesB (b.map (·.1)) := by
    unfold onesB
    rw [List.map_map]
    rfl
  rw [hall, e0]
  rw [e0] at hs2
  refine Canon.ext ⟨hs1, hn _⟩ ⟨hs2, hn _⟩ fun r => ?_
  rw [tot_ones, tot_ones]
  have n1 := hc.nodup
  have n2 := h.nodup
  have mem : r ∈ (mk (onesB (b.map (·.1) ++ posRows b))).map (·.1) ↔ r ∈ b.map (·.1) := by
    constructor
    · intro q
      obtain ⟨e, he, rfl⟩ := List.mem_map.mp q
      have e1 := tot_in hc.nodup he
      rw [mk_tot, tot_ones] at e1
      have e2 := hpos e he
      have e3 : 0 < cntR (b.map (·.1) ++ posRows b) e.1 := by omega
      rcases List.mem_append.mp (cntR_pos.mp e3) with z | z
      · exact z
      · obtain ⟨x, hx, y⟩ := List.mem_map.mp z
        exact List.mem_map.mpr ⟨x, (List.mem_filter.mp hx).1, y⟩
    · intro q
      have e3 : 0 < cntR (b.map (·.1) ++ posRows b) r := cntR_pos.mpr (List.mem_append_left _ q)
      have e4 : tot (onesB (b.map (·.1) ++ posRows b)) r ≠ 0 := by rw [tot_ones]; omega
      exact mem_keys_of_tot (by rw [mk_tot]; exact e4)
  by_cases q : r ∈ b.map (·.1)
  · rw [(cntR_nodup n1 r).1 (mem.mpr q), (cntR_nodup n2 r).1 q]
  · rw [(cntR_nodup n1 r).2 (fun z => q (mem.mp z)), (cntR_nodup n2 r).2 q]
end KA
set_option Elab.async false
set_option linter.all false
set_option maxRecDepth 100000
set_option maxHeartbeats 8000000
/-! a < b of two tuples where only the first place that differs need be comparable -/
namespace KA
open PySem PySem.W L2 PySem.SeqAt
open AutoSeq1 (wpAny_loadPart')
open MeetsSeq MeetsSeq2 MeetsSeq3 SeqRoads2
/-- all places ahead of j are equal -/
def Ahead (e : Nat → Bool) (j : Nat) : Prop := ∀ i, i < j → e i = true
section
variable (l b : Addr) (xs ys : Array Value) (n m : Nat) (dx dy : Option Addr) (sx sy : Array (Option Value)) (e r : Nat → Bool)
/-- what the two tuples are, and what is known of their places -/
structure Two (A : Around) (s : Shared) : Prop where
  hl : s.heap.get? l = some { cls := .type "tuple", dict := dx, data := .seq xs n, slots := sx }
  hb : s.heap.get? b = some { cls := .type "tuple", dict := dy, data := .seq ys m, slots := sy }
  he : ∀ j (h1 : j < xs.size) (h2 : j < ys.size), EqAt A.in1 s xs[j] ys[j] (e j)
  hr : ∀ j (h1 : j < xs.size) (h2 : j < ys.size), Ahead e j → e j = false → RcLt A.in1 s xs[j] ys[j] (r j)
def outLt : Bool := firstLt e r (decide (xs.size < ys.size)) (List.range (min xs.size ys.size))
theorem tup_first :
    Meets (Builtin.«tuple.__lt__» ⟨[.ref l, .ref b], []⟩) (fun A R s => Two l b xs ys n m dx dy sx sy e r A s ∧ R (.ok (.ret (.bool (outLt xs ys e r)))) s) :=
  .of_wp fun prog w A R s h => by
    obtain ⟨T, h⟩ := h
    obtain ⟨hl, hb, he, hr⟩ := T
    obtain ⟨hp, g, d, tk, os⟩ := s
    have sub := AutoSeq1.sub_tuple_tuple
    have zl : (xs.toList.zip ys.toList).length = min xs.size ys.size := by simp
    wp_walk using wpAny_loadPart' hl, wpAny_loadPart' hb, wpAny_forIn_list _ (fun rest v s' => v.1 = none ∧ s' = ⟨hp, g, d, tk, os⟩ ∧ ∃ i,
        rest = (xs.toList.zip ys.toList).drop i ∧ Ahead e (min i (min xs.size ys.size)) ∧
        R (.ok (.ret (.bool (firstLt e r (decide (xs.size < ys.size)) ((List.range (min xs.size ys.size)).drop i))))) ⟨hp, g, d, tk, os⟩) _
    case turn =>
      rintro ⟨y, x⟩ rest v s' ⟨hv, rfl, i, hz, ha, hR⟩
      have hlt : i < (xs.toList.zip ys.toList).length := by
        refine Nat.lt_of_not_le fun q => ?_
        rw [List.drop_of_length_le q] at hz
        cases hz
      have hm : i < min xs.size ys.size := by rw [← zl]; exact hlt
      have i1 : i < xs.size := by omega
      have i2 : i < ys.size := by omega
      rw [List.drop_eq_getElem_cons hlt] at hz
      injection hz with hyx hrest
      obtain rfl : y = xs[i] := by simpa using congrArg Prod.fst hyx
      obtain rfl : x = ys[i] := by simpa using congrArg Prod.snd hyx
      have hd : (List.range (min xs.size ys.size)).drop i = i :: (List.range (min xs.size ys.size)).drop (i + 1) := by simp [List.drop_eq_getElem_cons, hm]
      have ha' : Ahead e i := fun k hk => ha k (by omega)
      rw [hd] at hR
      refine wpAny_bind (he i i1 i2 prog w _ _ ?_)
      cases q : e i with
      | true =>
        rw [firstLt_yes q] at hR
        wp_walk
        refine ⟨rfl, rfl, i + 1, hrest, fun k hk => ?_, hR⟩
        by_cases z : k = i
        · rw [z]; exact q
        · exact ha' k (by omega)
      | false =>
        rw [firstLt_no q] at hR
        rw [if_pos (by rfl)]
        refine wpAny_bind (wpAny_rule (wpAny_bind (hr i i1 i2 ha' q prog w _ _ ?_)))
        wp_walk
        exact ⟨_, rfl, hR⟩
    case fin =>
      rintro ⟨b1, b2⟩ s' ⟨hb', rfl, i, hz, ha, hR⟩
      simp only at hb'
      subst hb'
      have hge : min xs.size ys.size ≤ i := by
        refine Nat.le_of_not_lt fun q => ?_
        rw [← zl] at q
        rw [List.drop_eq_getElem_cons q] at hz
        cases hz
      rw [List.drop_of_length_le (by simpa using hge)] at hR
      wp_walk
      exact ⟨_, rfl, by simpa [Builtin.Tuple.tupleCompareSizes, firstLt] using hR⟩
    case h =>
      exact ⟨rfl, rfl, 0, rfl, fun k hk => absurd hk (by omega), by simpa [outLt] using h⟩
end
section
variable {A : Around} {s : Shared} {l b : Addr} {xs ys : Array Value} {e r : Nat → Bool}
/-- t < u, decided at the first place that differs -/
theorem rcLt_first (hl : s.heap.IsTuple l xs) (hb : s.heap.IsTuple b ys) (hu : A.units < cLine) (he : ∀ j (h1 : j < xs.size) (h2 : j < ys.size), EqAt A.in1 s xs[j] ys[j] (e j))
    (hr : ∀ j (h1 : j < xs.size) (h2 : j < ys.size), Ahead e j → e j = false → RcLt A.in1 s xs[j] ys[j] (r j)) : RcLt A s (.ref l) (.ref b) (outLt xs ys e r) := by
  intro prog w E Q h
  obtain ⟨⟨c1, d1, t1, s1⟩, o1, q1, n1, e1⟩ := id hl
  obtain ⟨⟨c2, d2, t2, s2⟩, o2, q2, n2, e2⟩ := id hb
  simp only at q1 e1 q2 e2
  subst q1 e1 q2 e2
  exact richCompare_meets_room (op := .Lt) ⟨_, o1, rfl⟩ ⟨_, o2, rfl⟩ F.slot_tuple_lt F.entry_tuple_lt (F.args_tuple_lt_2 _ _) (tup_first l b xs ys n1 n2 d1 d2 s1 s2 e r)
    ⟨⟨o1, o2, he, hr⟩, show Value.bool (outLt xs ys e r) ≠ Value.notImplemented ∧ Q (.bool (outLt xs ys e r)) s from ⟨(fun z => nomatch z), h⟩⟩ hu
/-- tuple's own test, as sorting calls it -/
theorem call_tup_lt {prog : Program} {w : World} {E Q : Value → Shared → Prop} (hl : s.heap.IsTuple l xs) (hb : s.heap.IsTuple b ys) (he : ∀ j (h1 : j < xs.size) (h2 : j < ys.size), EqAt A.in1 s xs[j] ys[j] (e j))
    (hr : ∀ j (h1 : j < xs.size) (h2 : j < ys.size), Ahead e j → e j = false → RcLt A.in1 s xs[j] ys[j] (r j)) (h : Q (.bool (outLt xs ys e r)) s) :
    wpAny (model prog w) A (call (.builtin "tuple.__lt__") [.ref l, .ref b]) Q E s := by
  obtain ⟨⟨c1, d1, t1, s1⟩, o1, q1, n1, e1⟩ := id hl
  obtain ⟨⟨c2, d2, t2, s2⟩, o2, q2, n2, e2⟩ := id hb
  simp only at q1 e1 q2 e2
  subst q1 e1 q2 e2
  exact call_meets F.slot_tuple_lt ⟨_, o1, rfl⟩ F.entry_tuple_lt (F.args_tuple_lt_2 _ _) (tup_first l b xs ys n1 n2 d1 d2 s1 s2 e r) ⟨⟨o1, o2, he, hr⟩, h⟩
end
end KA
set_option Elab.async false
set_option linter.all false
set_option maxRecDepth 100000
set_option maxHeartbeats 8000000
/-! the keys by which the program and the law sort rows: how they compare -/
namespace KA
open PySem PySem.W L2 PySem.SeqAt
def keyD : Key → PyData
  | .inl i => .int i
  | .inr x => .str x
def rowD (r : Row) : PyData := .tuple (r.map keyD)
/-- what rank gives; the law's own key of a value -/
def rankD : Key → PyData
  | .inl i => .tuple [.int 0, .int i]
  | .inr x => .tuple [.int 1, .str x]
def lawD : Key → PyData
  | .inl i => .tuple [.int 0, .int i, .str ""]
  | .inr x => .tuple [.int 1, .int 0, .str x]
def rankRow (r : Row) : PyData := .tuple (r.map rankD)
def lawRow (r : Row) : PyData := .list (r.map lawD)
theorem sLt_irrefl (x : Str) : sLt x x = false := by simp [sLt, List.lt_irrefl]
theorem eqv_str (x y : Str) : PyData.eqv (.str x) (.str y) = decide (x = y) := by
  simp only [PyData.eqv]
  by_cases h : x = y
  · subst h; simp
  · rw [decide_eq_false h]
    exact beq_eq_false_iff_ne.mpr h
theorem eqv_int (i j : Int) : PyData.eqv (.int i) (.int j) = decide (i = j) := by
  simp only [PyData.eqv]
  by_cases h : i = j
  · subst h; simp
  · rw [decide_eq_false h]
    exact beq_eq_false_iff_ne.mpr h
theorem eqv_key (x y : Key) : PyData.eqv (keyD x) (keyD y) = decide (x = y) := by
  cases x with
  | inl i =>
    cases y with
    | inl j => rw [show keyD (.inl i) = .int i from rfl, show keyD (.inl j) = .int j from rfl, eqv_int]; simp
    | inr y => simp [keyD, PyData.eqv]
  | inr x =>
    cases y with
    | inl j => simp [keyD, PyData.eqv]
    | inr y => rw [show keyD (.inr x) = .str x from rfl, show keyD (.inr y) = .str y from rfl, eqv_str]; simp
theorem eqv_rank (x y : Key) : PyData.eqv (rankD x) (rankD y) = decide (x = y) := by
  cases x with
  | inl i =>
    cases y with
    | inl j =>
      simp only [rankD, PyData.eqv, PyData.eqvAll]
      rw [show ((i == j) : Bool) = decide (i = j) by by_cases h : i = j <;> simp [h]]
      simp
    | inr y => simp [rankD, PyData.eqv, PyData.eqvAll]
  | inr x =>
    cases y with
    | inl j => simp [rankD, PyData.eqv, PyData.eqvAll]
    | inr y =>
      have h := eqv_str x y
      simp only [rankD, PyData.eqv, PyData.eqvAll] at h ⊢
      rw [h]
      simp
theorem eqv_law (x y : Key) : PyData.eqv (lawD x) (lawD y) = decide (x = y) := by
  cases x with
  | inl i =>
    cases y with
    | inl j =>
      have h := eqv_int i j
      simp only [lawD, PyData.eqv, PyData.eqvAll] at h ⊢
      rw [h]
      simp
    | inr y => simp [lawD, PyData.eqv, PyData.eqvAll]
  | inr x =>
    cases y with
    | inl j => simp [lawD, PyData.eqv, PyData.eqvAll]
    | inr y =>
      have h := eqv_str x y
      simp only [lawD, PyData.eqv, PyData.eqvAll] at h ⊢
      rw [h]
      simp
section
variable {A : Around} {s : Shared}
theorem rc_int {i j : Int} {t u : Tok} : RcLt A s (.int i t) (.int j u) (decide (i < j)) := fun prog w E Q h => P.lt_int h
theorem rc_str {x y : Str} {t u : Tok} : RcLt A s (.str x t) (.str y u) (sLt x y) := fun prog w E Q h => P.lt_str h
/-- the items of a tuple that reads as data -/
theorem tup_items {h : Heap} {v : Value} {ds : List PyData} {as : List Addr} (r : Reads h v (.tuple ds) as) : ∃ (l : Addr) (xs : Array Value), v = .ref l ∧ h.IsTuple l xs ∧ ReadsAll h xs.toList ds as := by
  cases r with
  | @tuple a o xs n _ _ h1 h2 h3 h4 => exact ⟨a, xs, rfl, ⟨_, h1, h2, _, h3⟩, h4⟩
theorem lst_items {h : Heap} {v : Value} {ds : List PyData} {as : List Addr} (r : Reads h v (.list ds) as) : ∃ (l : Addr) (xs : Array Value) (bs : List Addr), v = .ref l ∧ h.IsList l xs ∧ ReadsAll h xs.toList ds bs := by
  cases r with
  | @list a o xs n _ _ h1 h2 h3 h4 => exact ⟨a, xs, _, rfl, ⟨_, h1, h2, _, h3⟩, h4⟩
theorem int_back {h : Heap} {v : Value} {i : Int} {as : List Addr} (r : Reads h v (.int i) as) : ∃ t, v = .int i t := by
  cases r with
  | int _ t => exact ⟨t, rfl⟩
theorem str_back {h : Heap} {v : Value} {x : Str} {as : List Addr} (r : Reads h v (.str x) as) : ∃ t, v = .str x t := by
  cases r with
  | str _ t => exact ⟨t, rfl⟩
theorem all1 {h : Heap} {xs : Array Value} {d : PyData} {ds : List PyData} {as : List Addr} {i : Nat} (r : ReadsAll h (xs.toList.drop i) (d :: ds) as) : ∃ (hi : i < xs.size) (bs cs : List Addr), Reads h xs[i] d bs ∧ ReadsAll h (xs.toList.drop (i + 1)) ds cs := by
  have hl := SeqAt.ReadsAll.length _ _ _ r
  rw [List.length_drop] at hl
  have hi : i < xs.toList.length := by
    simp only [List.length_cons] at hl
    omega
  rw [List.drop_eq_getElem_cons hi] at r
  cases r with
  | cons r1 r2 => exact ⟨by simpa using hi, _, _, by simpa using r1, r2⟩
theorem key_back {h : Heap} {v : Value} {x : Key} {as : List Addr} (r : Reads h v (keyD x) as) : (∃ i t, x = .inl i ∧ v = .int i t) ∨ ∃ z t, x = .inr z ∧ v = .str z t := by
  cases x with
  | inl i =>
    obtain ⟨t, rfl⟩ := int_back r
    exact .inl ⟨i, t, rfl, rfl⟩
  | inr z =>
    obtain ⟨t, rfl⟩ := str_back r
    exact .inr ⟨z, t, rfl, rfl⟩
def tag : Key → Int
  | .inl _ => 0
  | .inr _ => 1
/-- rank(one) < rank(other) -/
theorem rc_rank {x y : Key} {v u : Value} {as bs : List Addr} (rx : Reads s.heap v (rankD x) as) (ry : Reads s.heap u (rankD y) bs) (hu : A.units + 8 < cLine) : RcLt A s v u (oneLt x y) := by
  have cx : rankD x = .tuple [.int (tag x), keyD x] := by cases x <;> rfl
  have cy : rankD y = .tuple [.int (tag y), keyD y] := by cases y <;> rfl
  rw [cx] at rx
  rw [cy] at ry
  obtain ⟨l, xs, rfl, hl, ra⟩ := tup_items rx
  obtain ⟨b, ys, rfl, hb, rb⟩ := tup_items ry
  obtain ⟨x0, _, _, a0, ra1⟩ := all1 (i := 0) (by simpa using ra)
  obtain ⟨x1, _, _, a1, ra2⟩ := all1 (i := 1) ra1
  obtain ⟨y0, _, _, b0, rb1⟩ := all1 (i := 0) (by simpa using rb)
  obtain ⟨y1, _, _, b1, rb2⟩ := all1 (i := 1) rb1
  have nx : xs.size = 2 := by
    have q := SeqAt.ReadsAll.length _ _ _ ra
    simpa using q
  have ny : ys.size = 2 := by
    have q := SeqAt.ReadsAll.length _ _ _ rb
    simpa using q
  have can : ∀ z : Key, (keyD z).plain = true := fun z => by cases z <;> rfl
  have hdep : ∀ z : Key, (keyD z).depth = 0 := fun z => by cases z <;> simp [keyD, PyData.depth]
  have key := rcLt_first (A := A) (s := s) (e := pairEq [.int (tag x), keyD x] [.int (tag y), keyD y]) (r := fun j => if j = 0 then decide (tag x < tag y) else oneLt x y) hl hb (by omega)
    (fun j j1 j2 => by
      have q := eqAt_plainAll _ _ A.in1 s _ _ _ _ ra rb (by simp [PyData.plainAll, PyData.plain, can]) (by simp [PyData.plainAll, PyData.plain, can])
        (by show A.units + 1 + _ < _; simp [PyData.depthAll, PyData.depth, hdep]; omega) j (by simpa using j1) (by simpa using j2)
      simpa using q)
    (fun j j1 j2 ha hj => by
      match j, j1, j2, ha, hj with
      | 0, j1, j2, ha, hj =>
        obtain ⟨t, e1⟩ := int_back a0
        obtain ⟨t', e2⟩ := int_back b0
        rw [e1, e2]
        exact rc_int
      | 1, j1, j2, ha, hj =>
        have h0 : tag x = tag y := by
          have q := ha 0 (by omega)
          simpa [pairEq, PyData.eqv] using q
        show RcLt A.in1 s xs[1] ys[1] (oneLt x y)
        rcases key_back a1 with ⟨i, t, rfl, e1⟩ | ⟨z, t, rfl, e1⟩
        · rcases key_back b1 with ⟨j, t', rfl, e2⟩ | ⟨z', t', rfl, e2⟩
          · rw [e1, e2]; exact rc_int
          · exact absurd (show (0 : Int) = 1 from h0) (by decide)
        · rcases key_back b1 with ⟨j, t', rfl, e2⟩ | ⟨z', t', rfl, e2⟩
          · exact absurd (show (1 : Int) = 0 from h0) (by decide)
          · rw [e1, e2]; exact rc_str
      | j + 2, j1, _, _, _ => exact absurd j1 (by omega))
  have e : outLt xs ys (pairEq [.int (tag x), keyD x] [.int (tag y), keyD y]) (fun j => if j = 0 then decide (tag x < tag y) else oneLt x y) = oneLt x y := by
    unfold outLt
    rw [nx, ny, show List.range (min 2 2) = [0, 1] from rfl]
    have e0 : pairEq [.int (tag x), keyD x] [.int (tag y), keyD y] 0 = decide (tag x = tag y) := by
      show PyData.eqv (.int (tag x)) (.int (tag y)) = _
      exact eqv_int _ _
    have e1 : pairEq [.int (tag x), keyD x] [.int (tag y), keyD y] 1 = decide (x = y) := by
      show PyData.eqv (keyD x) (keyD y) = _
      exact eqv_key _ _
    simp only [firstLt, e0, e1]
    by_cases h : tag x = tag y
    · rw [if_pos (by simpa using h)]
      by_cases h2 : x = y
      · subst h2; simp [oneLt_irrefl]
      · rw [if_neg (by simpa using h2)]; simp
    · rw [if_neg (by simpa using h)]
      cases x <;> cases y <;> simp_all [tag, oneLt]
  rw [e] at key
  exact key
/-- the law's own key of one value -/
theorem rc_law {x y : Key} {v u : Value} {as bs : List Addr} (rx : Reads s.heap v (lawD x) as) (ry : Reads s.heap u (lawD y) bs) (hu : A.units + 8 < cLine) : RcLt A s v u (oneLt x y) := by
  have hal : alike (lawD x) (lawD y) = true := by cases x <;> cases y <;> simp [lawD, alike, alikeAll]
  have hdep : ∀ z : Key, (lawD z).depth ≤ 2 := fun z => by cases z <;> simp [lawD, PyData.depth, PyData.depthAll]
  have h := rcLt_alike (lawD x) (lawD y) A s v u as bs rx ry hal (by cases x <;> exact fun z => nomatch z) (by have := hdep x; omega)
  have e : dataLt (lawD x) (lawD y) = oneLt x y := by
    cases x with
    | inl i =>
      cases y with
      | inl j =>
        simp only [lawD]
        rw [dataLt_tuple, dataLt_all_yes (by simp [alike]) (by simp [PyData.eqv])]
        by_cases q : i = j
        · subst q
          simp [oneLt, PyProof.Rows.lex_irrefl]
        · rw [dataLt_all_no (by simp [alike]) (by rw [eqv_int]; simpa using q), dataLt_int]
          rfl
      | inr y =>
        simp only [lawD]
        rw [dataLt_tuple, dataLt_all_no (by simp [alike]) (by simp [PyData.eqv]), dataLt_int]
        rfl
    | inr x =>
      cases y with
      | inl j =>
        simp only [lawD]
        rw [dataLt_tuple, dataLt_all_no (by simp [alike]) (by simp [PyData.eqv]), dataLt_int]
        rfl
      | inr y =>
        simp only [lawD]
        rw [dataLt_tuple, dataLt_all_yes (by simp [alike]) (by simp [PyData.eqv]), dataLt_all_yes (by simp [alike]) (by simp [PyData.eqv])]
        by_cases q : x = y
        · subst q
          simp [oneLt, sLt_irrefl, PyProof.Rows.lex_irrefl]
        · rw [dataLt_all_no (by simp [alike]) (by rw [eqv_str]; simpa using q), dataLt_str]
          rfl
  rw [e] at h
  exact h
/-- the first place that differs, for items that compare as values do -/
theorem first_row (enc : Key → PyData) (hq : ∀ x y, PyData.eqv (enc x) (enc y) = decide (x = y)) : ∀ (a b : Row),
    firstLt (pairEq (a.map enc) (b.map enc)) (fun j => oneLt (a.getD j (.inl 0)) (b.getD j (.inl 0))) (decide (a.length < b.length)) (List.range (min a.length b.length)) = rowLt a b
  | [], [] => rfl
  | [], _ :: _ => by simp [firstLt, rowLt]
  | _ :: _, [] => by simp [firstLt, rowLt]
  | x :: a, y :: b => by
    have ih := first_row enc hq a b
    have em : min (x :: a).length (y :: b).length = min a.length b.length + 1 := by simp only [List.length_cons]; omega
    have ed : decide ((x :: a).length < (y :: b).length) = decide (a.length < b.length) := by
      simp only [List.length_cons]
      exact decide_eq_decide.mpr (by omega)
    rw [em, ed, List.range_succ_eq_map, rowLt]
    have e0 : pairEq ((x :: a).map enc) ((y :: b).map enc) 0 = decide (x = y) := hq x y
    by_cases h : x = y
    · rw [firstLt_yes (by rw [e0]; simpa using h), if_pos h, firstLt_map, ← ih]
      rfl
    · rw [firstLt_no (by rw [e0]; simpa using h), if_neg h]
      rfl
/-- a place of a row that is read item by item -/
theorem at_row {h : Heap} {enc : Key → PyData} : ∀ {r : Row} {vs : List Value} {as : List Addr}, ReadsAll h vs (r.map enc) as → ∀ j (hj : j < vs.length), ∃ bs, Reads h vs[j] (enc (r.getD j (.inl 0))) bs
  | [], vs, as, q, j, hj => by
    have e := SeqAt.ReadsAll.length _ _ _ q
    simp only [List.map_nil, List.length_nil] at e
    omega
  | x :: r, vs, as, q, j, hj => by
    have q' : ReadsAll h vs (enc x :: r.map enc) as := q
    cases q' with
    | cons q1 q2 =>
      cases j with
      | zero => exact ⟨_, q1⟩
      | succ j => exact at_row q2 j (by simpa using hj)
theorem plain_map {enc : Key → PyData} (hp : ∀ x, (enc x).plain = true) : ∀ r : Row, PyData.plainAll (r.map enc) = true
  | [] => rfl
  | x :: r => by simp [PyData.plainAll, hp x, plain_map hp r]
theorem depth_map {enc : Key → PyData} (hd : ∀ x, (enc x).depth ≤ 2) : ∀ r : Row, PyData.depthAll (r.map enc) ≤ 2
  | [] => by simp [PyData.depthAll]
  | x :: r => by
    have a := hd x
    have b := depth_map hd r
    simp only [List.map_cons, PyData.depthAll]
    omega
theorem rank_plain (x : Key) : (rankD x).plain = true := by cases x <;> rfl
theorem law_plain (x : Key) : (lawD x).plain = true := by cases x <;> rfl
theorem rank_depth (x : Key) : (rankD x).depth ≤ 2 := by cases x <;> simp [rankD, PyData.depth, PyData.depthAll]
theorem law_depth (x : Key) : (lawD x).depth ≤ 2 := by cases x <;> simp [lawD, PyData.depth, PyData.depthAll]
/-- what the two tests of places are, for two rows of keys -/
theorem row_parts {enc : Key → PyData} (hq : ∀ x y, PyData.eqv (enc x) (enc y) = decide (x = y)) (hp : ∀ x, (enc x).plain = true) (hd : ∀ x, (enc x).depth ≤ 2) {a b : Row} {xs ys : Array Value} {as bs : List Addr}
    (rc : ∀ (B : Around) (x y : Key) (v u : Value) (cs ds : List Addr), Reads s.heap v (enc x) cs → Reads s.heap u (enc y) ds → B.units + 8 < cLine → RcLt B s v u (oneLt x y))
    (ra : ReadsAll s.heap xs.toList (a.map enc) as) (rb : ReadsAll s.heap ys.toList (b.map enc) bs) (hu : A.units + 12 < cLine) :
    (∀ j (h1 : j < xs.size) (h2 : j < ys.size), EqAt A.in1 s xs[j] ys[j] (pairEq (a.map enc) (b.map enc) j)) ∧ (∀ j (h1 : j < xs.size) (h2 : j < ys.size), RcLt A.in1 s xs[j] ys[j] (oneLt (a.getD j (.inl 0)) (b.getD j (.inl 0)))) ∧
    outLt xs ys (pairEq (a.map enc) (b.map enc)) (fun j => oneLt (a.getD j (.inl 0)) (b.getD j (.inl 0))) = rowLt a b := by
  have na : xs.size = a.length := by
    have q := SeqAt.ReadsAll.length _ _ _ ra
    simpa using q
  have nb : ys.size = b.length := by
    have q := SeqAt.ReadsAll.length _ _ _ rb
    simpa using q
  refine ⟨fun j j1 j2 => ?_, fun j j1 j2 => ?_, ?_⟩
  · have q := eqAt_plainAll _ _ A.in1 s _ _ _ _ ra rb (plain_map hp a) (plain_map hp b) (by show A.units + 1 + _ < _; have := depth_map hd a; omega) j (by simpa using j1) (by simpa using j2)
    simpa using q
  · obtain ⟨cs, q1⟩ := at_row ra j (by simpa using j1)
    obtain ⟨ds, q2⟩ := at_row rb j (by simpa using j2)
    exact rc A.in1 _ _ _ _ cs ds (by simpa using q1) (by simpa using q2) (by show A.units + 1 + 8 < _; omega)
  · unfold outLt
    rw [na, nb]
    exact first_row enc hq a b
/-- row_rank(a) < row_rank(b) -/
theorem rc_rankRow {a b : Row} {v u : Value} {as bs : List Addr} (rx : Reads s.heap v (rankRow a) as) (ry : Reads s.heap u (rankRow b) bs) (hu : A.units + 12 < cLine) : RcLt A s v u (rowLt a b) := by
  obtain ⟨l, xs, rfl, hl, ra⟩ := tup_items rx
  obtain ⟨m, ys, rfl, hm, rb⟩ := tup_items ry
  obtain ⟨h1, h2, h3⟩ := row_parts (A := A) eqv_rank rank_plain rank_depth (fun B x y v u cs ds r1 r2 q => rc_rank r1 r2 q) ra rb hu
  have h := rcLt_first hl hm (by omega) h1 fun j j1 j2 _ _ => h2 j j1 j2
  rw [h3] at h
  exact h
/-- _law_key(a) < _law_key(b) -/
theorem rc_lawRow {a b : Row} {v u : Value} {as bs : List Addr} (rx : Reads s.heap v (lawRow a) as) (ry : Reads s.heap u (lawRow b) bs) (hu : A.units + 12 < cLine) : RcLt A s v u (rowLt a b) := by
  obtain ⟨l, xs, cs, rfl, hl, ra⟩ := lst_items rx
  obtain ⟨m, ys, ds, rfl, hm, rb⟩ := lst_items ry
  obtain ⟨h1, h2, h3⟩ := row_parts (A := A) eqv_law law_plain law_depth (fun B x y v u cs ds r1 r2 q => rc_law r1 r2 q) ra rb hu
  have h := RcLt.lists hl hm (by omega) h1 fun j j1 j2 _ => h2 j j1 j2
  rw [show firstLt (pairEq (a.map lawD) (b.map lawD)) (fun j => oneLt (a.getD j (.inl 0)) (b.getD j (.inl 0))) (decide (xs.size < ys.size)) (List.range (min xs.size ys.size)) = rowLt a b from h3] at h
  exact h
end
end KA
set_option Elab.async false
set_option linter.all false
set_option maxRecDepth 100000
set_option maxHeartbeats 8000000
/-! keys of rows can be sorted, whatever the kind that the list's sort picks -/
namespace KA
open PySem PySem.W PySem.Calls PyProof.Rows L2
open PySem.SeqAt (RcLt)
def KeyIs1 (h : Heap) (E : Row → PyData) (v : Value) (r : Row) : Prop := ∃ as, Reads h v (E r) as
/-- a key that says which row it is the key of -/
structure Tells (E : Row → PyData) : Prop where
  inj : ∀ a b, E a = E b → a = b
  plain : ∀ a, (E a).plain = true
/-- rows as a kind of keys -/
noncomputable def rowKind (h : Heap) (E : Row → PyData) : PyProof.Rows.KeyKind where
  α := Row
  blt := rowLt
  irrefl := rowLt_irrefl
  trans := fun _ _ _ => rowLt_trans
  negTrans := fun a b c h1 => by
    by_cases e : a = b
    · subst e; exact .inr h1
    · cases q : rowLt a b with
      | true => exact .inl rfl
      | false => exact .inr (rowLt_trans (rowLt_total e q) h1)
  total := fun a b h1 h2 => by
    by_cases e : a = b
    · exact e
    · rw [rowLt_total e h1] at h2; cases h2
  keyOf := fun v => open Classical in if q : ∃ r, KeyIs1 h E v r then some q.choose else none
  dflt := []
theorem rowKind_some {h : Heap} {E : Row → PyData} (T : Tells E) {v : Value} {r : Row} (k : KeyIs1 h E v r) : (rowKind h E).keyOf v = some r := by
  have q : ∃ r, KeyIs1 h E v r := ⟨r, k⟩
  have e : (rowKind h E).keyOf v = some q.choose := by
    show (open Classical in if q : ∃ r, KeyIs1 h E v r then some q.choose else none) = _
    rw [dif_pos q]
  obtain ⟨as, r1⟩ := q.choose_spec
  obtain ⟨bs, r2⟩ := k
  rw [e, T.inj _ _ (SeqAt.plain_unique _ _ _ _ _ (T.plain _) r1 r2)]
theorem rowKind_inv {h : Heap} {E : Row → PyData} {v : Value} {r : Row} (e : (rowKind h E).keyOf v = some r) : KeyIs1 h E v r := by
  by_cases q : ∃ r, KeyIs1 h E v r
  · have e' : (rowKind h E).keyOf v = some q.choose := by
      show (open Classical in if q : ∃ r, KeyIs1 h E v r then some q.choose else none) = _
      rw [dif_pos q]
    rw [e'] at e
    rw [← Option.some.inj e]
    exact q.choose_spec
  · have e' : (rowKind h E).keyOf v = none := by
      show (open Classical in if q : ∃ r, KeyIs1 h E v r then some q.choose else none) = _
      rw [dif_neg q]
      rfl
    rw [e'] at e
    cases e
theorem map_inj {enc : Key → PyData} (hi : ∀ x y, enc x = enc y → x = y) : ∀ {a b : Row}, a.map enc = b.map enc → a = b
  | [], [], _ => rfl
  | [], _ :: _, h => by simp at h
  | _ :: _, [], h => by simp at h
  | x :: a, y :: b, h => by
    have h' : enc x :: a.map enc = enc y :: b.map enc := h
    injection h' with h1 h2
    rw [hi _ _ h1, map_inj hi h2]
theorem rank_inj (x y : Key) (h : rankD x = rankD y) : x = y := by
  cases x <;> cases y <;> simp [rankD] at h <;> simp [h]
theorem law_inj (x y : Key) (h : lawD x = lawD y) : x = y := by
  cases x <;> cases y <;> simp [lawD] at h <;> simp [h]
theorem tells_rank : Tells rankRow := ⟨fun a b h => map_inj rank_inj (by injection h), fun a => by show PyData.plainAll (a.map rankD) = true; exact plain_map rank_plain a⟩
theorem tells_law : Tells lawRow := ⟨fun a b h => map_inj law_inj (by injection h), fun a => by show PyData.plainAll (a.map lawD) = true; exact plain_map law_plain a⟩
section
variable {prog : Program} {w : World} {A : Around} {E : Value → Shared → Prop} {s : Shared} {Q : Bool → Shared → Prop}
/-- the test where one type is known: the type's own -/
theorem one_lists {a b : Row} {v u : Value} {as bs : List Addr} (rx : Reads s.heap v (lawRow a) as) (ry : Reads s.heap u (lawRow b) bs) (hu : A.units + 12 < cLine) (hq : Q (rowLt a b) s) : wpAny (model prog w) A (oneLt' true v u) Q E s := by
  obtain ⟨l, xs, cs, rfl, hl, ra⟩ := lst_items rx
  obtain ⟨m, ys, ds, rfl, hm, rb⟩ := lst_items ry
  obtain ⟨h1, h2, h3⟩ := row_parts (A := A) eqv_law law_plain law_depth (fun B x y v u cs ds r1 r2 q => rc_law r1 r2 q) ra rb hu
  obtain ⟨o, o1, o2, _⟩ := id hl
  rw [oneLt'_eq]
  simp only [if_true]
  refine wpAny_bind (wpAny_cRoomFor (by omega) ?_)
  refine wpAny_bind (wpAny_callSpecialIfBound?_slot (T := "list") ⟨o, o1, o2⟩ F.slot_list_lt (SeqAt.call_list_lt (e := SeqAt.pairEq (a.map lawD) (b.map lawD)) (r := fun j => oneLt (a.getD j (.inl 0)) (b.getD j (.inl 0))) hl hm h1 (fun j j1 j2 _ => h2 j j1 j2) ?_))
  rw [show SeqAt.firstLt (SeqAt.pairEq (a.map lawD) (b.map lawD)) (fun j => oneLt (a.getD j (.inl 0)) (b.getD j (.inl 0))) (decide (xs.size < ys.size)) (List.range (min xs.size ys.size)) = rowLt a b from h3]
  exact wpAny_truthy_bool hq
theorem one_tups {a b : Row} {v u : Value} {as bs : List Addr} (rx : Reads s.heap v (rankRow a) as) (ry : Reads s.heap u (rankRow b) bs) (hu : A.units + 12 < cLine) (hq : Q (rowLt a b) s) : wpAny (model prog w) A (oneLt' true v u) Q E s := by
  obtain ⟨l, xs, rfl, hl, ra⟩ := tup_items rx
  obtain ⟨m, ys, rfl, hm, rb⟩ := tup_items ry
  obtain ⟨h1, h2, h3⟩ := row_parts (A := A) eqv_rank rank_plain rank_depth (fun B x y v u cs ds r1 r2 q => rc_rank r1 r2 q) ra rb hu
  obtain ⟨o, o1, o2, _⟩ := id hl
  rw [oneLt'_eq]
  simp only [if_true]
  refine wpAny_bind (wpAny_cRoomFor (by omega) ?_)
  refine wpAny_bind (wpAny_callSpecialIfBound?_slot (T := "tuple") ⟨o, o1, o2⟩ F.slot_tuple_lt (call_tup_lt hl hm h1 (fun j j1 j2 _ _ => h2 j j1 j2) ?_))
  rw [h3]
  exact wpAny_truthy_bool hq
/-- the test of no known type -/
theorem one_gen {k : Bool} {v u : Value} (h : RcLt A s v u k) (hq : Q k s) : wpAny (model prog w) A (oneLt' false v u) Q E s := by
  rw [oneLt'_eq]
  simp only [Bool.false_eq_true, if_false]
  exact wpAny_bind (h prog w E _ (wpAny_truthy_bool hq))
/-- the test place by place, as tuples that are not empty are compared -/
theorem kat_rows : ∀ (a b : Row) (i : Nat) (vs ws : List Value) (as bs : List Addr) (fin : Bool), ReadsAll s.heap vs (a.map rankD) as → ReadsAll s.heap ws (b.map rankD) bs → A.units + 12 < cLine → fin = decide (a.length < b.length) → Q (rowLt a b) s →
    KatLex prog w A false fin Q (vs.zip ws) i s
  | [], [], i, vs, ws, as, bs, fin, ra, rb, _, hf, hq => by
    cases ra; cases rb
    subst hf
    exact kat_nil (by simpa [rowLt] using hq)
  | [], y :: b, i, vs, ws, as, bs, fin, ra, rb, _, hf, hq => by
    cases ra
    subst hf
    rw [List.zip_nil_left]
    exact kat_nil (by simpa [rowLt] using hq)
  | x :: a, [], i, vs, ws, as, bs, fin, ra, rb, _, hf, hq => by
    cases rb
    subst hf
    rw [List.zip_nil_right]
    exact kat_nil (by simpa [rowLt] using hq)
  | x :: a, y :: b, i, vs, ws, as, bs, fin, ra, rb, hu, hf, hq => by
    have ra' : ReadsAll s.heap vs (rankD x :: a.map rankD) as := ra
    have rb' : ReadsAll s.heap ws (rankD y :: b.map rankD) bs := rb
    cases ra' with
    | cons r1 r2 =>
      cases rb' with
      | cons q1 q2 =>
        rw [List.zip_cons_cons]
        refine kat_cons (SeqAt.eqAt_plain (rankD x) (rankD y) A s _ _ _ _ r1 q1 (rank_plain x) (rank_plain y) (by have := rank_depth x; omega) prog w _ _ ?_)
        rw [eqv_rank]
        rw [rowLt] at hq
        by_cases h : x = y
        · rw [if_pos h] at hq
          rw [decide_eq_true h]
          exact kat_yes (kat_rows a b (i + 1) _ _ _ _ fin r2 q2 hu (by simpa using hf) hq)
        · rw [if_neg h] at hq
          rw [decide_eq_false h]
          exact kat_no (one_gen (rc_rank r1 q1 (by omega)) hq)
end
section
variable {M : Model} {A : Around} {E : Value → Shared → Prop} {s : Shared}
/-- the first items, where there are any -/
theorem firsts_rank : ∀ (vs : List Value) (rows : List Row), EachIs (KeyIs1 s.heap rankRow) vs rows → ∃ fs : List (Option Value), fs.map (·.isSome) = rows.map (fun r => !r.isEmpty) ∧
    (∀ v, some v ∈ fs → ∃ x as, Reads s.heap v (rankD x) as) ∧ ∀ Q : List (Option Value) → Shared → Prop, Q fs s → wpAny M A (vs.mapM firstOfTuple') Q E s
  | [], [], _ => by
    refine ⟨[], rfl, fun v hv => ?_, fun Q hq => ?_⟩
    · exact (List.not_mem_nil hv).elim
    · rw [List.mapM_nil]
      exact wpAny_pure hq
  | [], _ :: _, h => by cases h
  | _ :: _, [], h => by cases h
  | v :: vs, r :: rows, h => by
    cases h with
    | cons h1 h2 =>
      obtain ⟨fs, f1, f2, f3⟩ := firsts_rank vs rows h2
      obtain ⟨as, k⟩ := h1
      obtain ⟨l, xs, rfl, hl, ra⟩ := tup_items k
      obtain ⟨o, o1, o2, n, o3⟩ := id hl
      refine ⟨xs[0]? :: fs, ?_, fun u hu => ?_, fun Q hq => ?_⟩
      · rw [List.map_cons, List.map_cons, f1]
        congr 1
        have n1 := SeqAt.ReadsAll.length _ _ _ ra
        cases r with
        | nil =>
          have z : xs.size = 0 := by simpa using n1
          rw [Array.getElem?_eq_none (by omega)]
          rfl
        | cons x t =>
          have z : 0 < xs.size := by
            have : xs.size = t.length + 1 := by simpa using n1
            omega
          rw [Array.getElem?_eq_getElem z]
          rfl
      · rcases List.mem_cons.mp hu with q | q
        · cases r with
          | nil =>
            have n1 := SeqAt.ReadsAll.length _ _ _ ra
            have z : xs.size = 0 := by simpa using n1
            rw [Array.getElem?_eq_none (by omega)] at q
            cases q
          | cons x t =>
            obtain ⟨z, bs, cs, r1, _⟩ := all1 (i := 0) (show ReadsAll s.heap (xs.toList.drop 0) (rankD x :: t.map rankD) as from ra)
            rw [Array.getElem?_eq_getElem z] at q
            rw [Option.some.inj q]
            exact ⟨x, bs, r1⟩
        · exact f2 u q
      · rw [List.mapM_cons]
        refine wpAny_bind ?_
        rw [kas_first_eq]
        refine wpAny_bind (Looks.here (show Looks M s.heap (typeOf (.ref l)) o.cls from (Looks.ld o1).andThen .now) ?_)
        rw [o2, if_neg (by first | decide | simp)]
        refine wpAny_bind (listItems_at o1 o3 (wpAny_pure ?_))
        exact wpAny_bind (f3 (fun bs s' => wpAny M A (pure (xs[0]? :: bs)) Q E s') (wpAny_pure hq))
theorem one_type {vs : List Value} {T : Value} {Q : Option Value → Shared → Prop} (h1 : 0 < vs.length) (hT : ∀ v ∈ vs, Looks M s.heap (typeOf v) T) (hT2 : (T == T) = true) (hq : Q (some T) s) : wpAny M A (oneTypeOnly' vs.toArray) Q E s := by
  rw [oneTypeOnly'_eq, List.mapM_toArray, map_eq_pure_bind]
  refine wpAny_bind (wpAny_bind (kas_mapM (r := T) _ (fun v hv Q' q => (hT v hv).here q) (wpAny_pure ?_)))
  obtain ⟨v, vs', rfl⟩ : ∃ v vs', vs = v :: vs' := by
    match vs, h1 with
    | v :: vs', _ => exact ⟨v, vs', rfl⟩
  have hall : ((List.map (fun _ => T) (v :: vs')).toArray.all fun x => x == T) = true := by
    simp only [List.all_toArray, List.all_map, List.all_eq_true]
    intro _ _
    exact hT2
  rw [show (List.map (fun _ => T) (v :: vs')).toArray[0]? = some T by simp]
  simp only [hall, if_true]
  exact wpAny_pure hq
end
section
variable {prog : Program} {w : World} {A : Around} {s : Shared}
theorem looks_rank {v : Value} {r : Row} (k : KeyIs1 s.heap rankRow v r) {M : Model} : Looks M s.heap (typeOf v) (.type "tuple") := by
  obtain ⟨as, k⟩ := k
  exact looks_reads k
theorem each_left {α β : Type} {R : α → β → Prop} {as : List α} {bs : List β} (h : EachIs R as bs) {a : α} (ha : a ∈ as) : ∃ b, R a b := by
  obtain ⟨b, _, r⟩ := h.left a ha
  exact ⟨b, r⟩
theorem sorts_rank {ks : List Value} {rows : List Row} (e : EachIs (KeyIs1 s.heap rankRow) ks rows) (hu : A.units + 12 < cLine) : SortsAt prog w A s (rowKind s.heap rankRow) ks := by
  refine ⟨fun v hv => ?_, ?_⟩
  · obtain ⟨r, k⟩ := each_left e hv
    exact ⟨r, rowKind_some tells_rank k⟩
  · have gen : H.LtAt prog w A s (rowKind s.heap rankRow) general' := fun E x y (a b : Row) Q ha hb hq => by
      obtain ⟨as, ra⟩ := rowKind_inv ha
      obtain ⟨bs, rb⟩ := rowKind_inv hb
      exact one_gen (rc_rankRow ra rb hu) hq
    have one : H.LtAt prog w A s (rowKind s.heap rankRow) oneType' := fun E x y (a b : Row) Q ha hb hq => by
      obtain ⟨as, ra⟩ := rowKind_inv ha
      obtain ⟨bs, rb⟩ := rowKind_inv hb
      rw [keyLt'_oneType]
      exact one_tups ra rb hu hq
    have tup : H.LtAt prog w A s (rowKind s.heap rankRow) (tuples' false) := fun E x y (a b : Row) Q ha hb hq => by
      obtain ⟨as, ra⟩ := rowKind_inv ha
      obtain ⟨bs, rb⟩ := rowKind_inv hb
      obtain ⟨l, xs, rfl, ⟨o, o1, o2, n, o3⟩, r1⟩ := tup_items ra
      obtain ⟨m, ys, rfl, ⟨p, p1, p2, k, p3⟩, r2⟩ := tup_items rb
      have n1 := SeqAt.ReadsAll.length _ _ _ r1
      have n2 := SeqAt.ReadsAll.length _ _ _ r2
      refine kat_lt o1 o3 p1 p3 (kat_rows a b 0 _ _ _ _ _ r1 r2 hu ?_ hq)
      simp only [Array.length_toList, List.length_map] at n1 n2
      rw [n1, n2]
    obtain ⟨fs, f1, f2, f3⟩ := firsts_rank (M := model prog w) (A := A) (E := fun _ _ => True) ks rows e
    by_cases hall : (fs.toArray.all fun x => x.isSome) = true
    · refine ⟨tuples' false, tup, fun h2 E Q hq => ?_⟩
      obtain ⟨fs', g1, g2, g3⟩ := firsts_rank (M := model prog w) (A := A) (E := E) ks rows e
      have hl : fs'.map (·.isSome) = fs.map (·.isSome) := by rw [g1, f1]
      have hall' : (fs'.toArray.all fun x => x.isSome) = true := by
        have q : (fs.map (·.isSome)).all id = true := by rw [List.all_map]; simpa using hall
        rw [← hl, List.all_map] at q
        simpa using q
      rw [keyKind'_eq, List.mapM_toArray, map_eq_pure_bind]
      refine wpAny_bind (wpAny_bind (g3 _ (wpAny_pure ?_)))
      rw [if_pos hall']
      refine wpAny_bind (wpAny_rule ?_)
      have hlen : fs'.length = ks.length := by
        have q := congrArg List.length g1
        simp only [List.length_map] at q
        rw [q, e.length]
      obtain ⟨gs, hgs⟩ : ∃ gs : List Value, fs' = gs.map some := ⟨fs'.filterMap id, by
        have : ∀ l : List (Option Value), (∀ o ∈ l, o.isSome = true) → l = (l.filterMap id).map some := by
          intro l
          induction l with
          | nil => intro _; rfl
          | cons o t ih =>
            intro h
            cases o with
            | none => exact absurd (h none List.mem_cons_self) (by simp)
            | some v =>
              show some v :: t = some v :: (t.filterMap id).map some
              rw [← ih fun o ho => h o (List.mem_cons_of_mem _ ho)]
        refine this fs' fun o ho => ?_
        have q := hall'
        simp only [List.all_toArray, List.all_eq_true] at q
        exact q o ho⟩
      have hfm : fs'.toArray.filterMap id = gs.toArray := by rw [hgs]; simp
      rw [hfm]
      refine wpAny_bind (one_type (T := .type "tuple") (by rw [hgs, List.length_map] at hlen; omega) (fun v hv => ?_) (by simp) (wpAny_pure ?_))
      · obtain ⟨x, as, k⟩ := g2 v (by rw [hgs]; exact List.mem_map.mpr ⟨v, hv, rfl⟩)
        have q := looks_reads (M := model prog w) k
        cases x <;> exact q
      · simpa using hq
    · by_cases hfst : rows.head?.any (fun r => !r.isEmpty) = true
      · refine ⟨general', gen, fun h2 E Q hq => ?_⟩
        obtain ⟨fs', g1, g2, g3⟩ := firsts_rank (M := model prog w) (A := A) (E := E) ks rows e
        have hl : fs'.map (·.isSome) = fs.map (·.isSome) := by rw [g1, f1]
        have hall' : ¬ (fs'.toArray.all fun x => x.isSome) = true := fun z => hall (by
          have q : (fs'.map (·.isSome)).all id = true := by rw [List.all_map]; simpa using z
          rw [hl, List.all_map] at q
          simpa using q)
        have h0 : (fs'.toArray[0]?.bind id).isSome = true := by
          cases rows with
          | nil => simp at hfst
          | cons r rows =>
            cases fs' with
            | nil => simp at g1
            | cons o fs' =>
              have q : o.isSome = !r.isEmpty := by
                have z : o.isSome :: fs'.map (·.isSome) = (!r.isEmpty) :: rows.map (fun r => !r.isEmpty) := g1
                injection z
              have z : (!r.isEmpty) = true := by simpa using hfst
              rw [z] at q
              simpa using q
        rw [keyKind'_eq, List.mapM_toArray, map_eq_pure_bind]
        refine wpAny_bind (wpAny_bind (g3 _ (wpAny_pure ?_)))
        rw [if_neg hall', if_pos h0]
        exact wpAny_pure hq
      · refine ⟨oneType', one, fun h2 E Q hq => ?_⟩
        obtain ⟨fs', g1, g2, g3⟩ := firsts_rank (M := model prog w) (A := A) (E := E) ks rows e
        have hl : fs'.map (·.isSome) = fs.map (·.isSome) := by rw [g1, f1]
        have hall' : ¬ (fs'.toArray.all fun x => x.isSome) = true := fun z => hall (by
          have q : (fs'.map (·.isSome)).all id = true := by rw [List.all_map]; simpa using z
          rw [hl, List.all_map] at q
          simpa using q)
        have h0 : ¬ (fs'.toArray[0]?.bind id).isSome = true := by
          cases rows with
          | nil =>
            cases fs' with
            | nil => simp
            | cons o fs' => simp at g1
          | cons r rows =>
            cases fs' with
            | nil => simp at g1
            | cons o fs' =>
              have q : o.isSome = !r.isEmpty := by
                have z : o.isSome :: fs'.map (·.isSome) = (!r.isEmpty) :: rows.map (fun r => !r.isEmpty) := g1
                injection z
              have z : (!r.isEmpty) = false := by simpa using hfst
              rw [z] at q
              cases o with
              | none => simp
              | some v => simp at q
        rw [keyKind'_eq, List.mapM_toArray, map_eq_pure_bind]
        refine wpAny_bind (wpAny_bind (g3 _ (wpAny_pure ?_)))
        rw [if_neg hall', if_neg h0]
        refine wpAny_bind (one_type (T := .type "tuple") (by omega) (fun v hv => ?_) (by simp) (wpAny_pure ?_))
        · obtain ⟨r, k⟩ := each_left e hv
          exact looks_rank k
        · simpa using hq
theorem sorts_law {ks : List Value} {rows : List Row} (e : EachIs (KeyIs1 s.heap lawRow) ks rows) (hu : A.units + 12 < cLine) : SortsAt prog w A s (rowKind s.heap lawRow) ks := by
  refine ⟨fun v hv => ?_, oneType', fun E x y (a b : Row) Q ha hb hq => ?_, fun h2 E Q hq => ?_⟩
  · obtain ⟨r, k⟩ := each_left e hv
    exact ⟨r, rowKind_some tells_law k⟩
  · obtain ⟨as, ra⟩ := rowKind_inv ha
    obtain ⟨bs, rb⟩ := rowKind_inv hb
    rw [keyLt'_oneType]
    exact one_lists ra rb hu hq
  · refine kas_kind (T := .type "list") h2 (fun v hv => ?_) (by decide) (by simp) hq
    obtain ⟨r, as, k⟩ := each_left e hv
    exact looks_reads k
end
end KA
set_option Elab.async false
set_option linter.all false
set_option maxRecDepth 100000
set_option maxHeartbeats 4000000
/-! how rows, pairs and bags stand in the abstract heap; calls of defs by name -/
namespace KA
open PySem PySem.Spec PyProof.Rows L2
open PySem.W (EachIs)
def RowAt (H : Hp) (q : Addr) (r : Row) : Prop := H q = some (.tup (r.map kV))
def PairAt (H : Hp) (t : Addr) (e : Row × Int) : Prop := ∃ q, H t = some (.tup [.ref q, .int e.2]) ∧ RowAt H q e.1
def RowsAt (H : Hp) (p : Addr) (rs : List Row) : Prop := ∃ as : List Addr, H p = some (.lst (as.map V.ref)) ∧ EachIs (RowAt H) as rs
def BagAt (H : Hp) (p : Addr) (b : Bag) : Prop := ∃ ts : List Addr, H p = some (.lst (ts.map V.ref)) ∧ EachIs (PairAt H) ts b
theorem same_new {H : Hp} {p : Addr} {o : HO} (h : H p = none) : Same H (upd H p o) := fun b x e => by
  rw [upd_ne (ne_of_none e h)]
  exact e
/-- an object that was not there at the start may change -/
theorem same_mut {H H' : Hp} {p : Addr} {o : HO} (e : Same H H') (h : H p = none) : Same H (upd H' p o) := fun b x q => by
  rw [upd_ne (ne_of_none q h)]
  exact e b x q
theorem RowAt.mono {H H' : Hp} (s : Same H H') {q : Addr} {r : Row} (h : RowAt H q r) : RowAt H' q r := s _ _ h
theorem PairAt.mono {H H' : Hp} (s : Same H H') {t : Addr} {e : Row × Int} (h : PairAt H t e) : PairAt H' t e := by
  obtain ⟨q, h1, h2⟩ := h
  exact ⟨q, s _ _ h1, h2.mono s⟩
theorem RowsAt.mono {H H' : Hp} (s : Same H H') {p : Addr} {rs : List Row} (h : RowsAt H p rs) : RowsAt H' p rs := by
  obtain ⟨as, h1, h2⟩ := h
  exact ⟨as, s _ _ h1, h2.mono fun _ _ q => q.mono s⟩
theorem BagAt.mono {H H' : Hp} (s : Same H H') {p : Addr} {b : Bag} (h : BagAt H p b) : BagAt H' p b := by
  obtain ⟨ts, h1, h2⟩ := h
  exact ⟨ts, s _ _ h1, h2.mono fun _ _ q => q.mono s⟩
theorem sq_l {K : PySem.W.Frag} {H : Hp} {a : Addr} {xs : List V} (h : H a = some (.lst xs)) : SqL K H a xs := .inl (.inl h)
theorem sq_t {K : PySem.W.Frag} {H : Hp} {a : Addr} {xs : List V} (h : H a = some (.tup xs)) : SqT K H a xs := .inl (.inl h)
theorem RowAt.sq {K : PySem.W.Frag} {H : Hp} {q : Addr} {r : Row} (h : RowAt H q r) : SqT K H q (r.map kV) := sq_t h
/-! ### data -/
theorem dp_key {K : PySem.W.Frag} {H : Hp} (x : Key) : Dp K H (kV x) (keyD x) := by
  cases x with
  | inl i => exact .int i
  | inr x => exact .str x
theorem dp_keys {K : PySem.W.Frag} {H : Hp} : ∀ r : Row, DpAll K H (r.map kV) (r.map keyD)
  | [] => .nil
  | x :: r => .cons (dp_key x) (dp_keys r)
theorem dp_row {K : PySem.W.Frag} {H : Hp} {q : Addr} {r : Row} (h : RowAt H q r) : Dp K H (.ref q) (rowD r) := .tup h.sq (dp_keys r)
def pairD (e : Row × Int) : PyData := .tuple [rowD e.1, .int e.2]
def bagD (b : Bag) : PyData := .list (b.map pairD)
theorem dp_pair {K : PySem.W.Frag} {H : Hp} {t : Addr} {e : Row × Int} (h : PairAt H t e) : Dp K H (.ref t) (pairD e) := by
  obtain ⟨q, h1, h2⟩ := h
  exact .tup (sq_t h1) (.cons (dp_row h2) (.cons (.int _) .nil))
theorem dp_each {K : PySem.W.Frag} {H : Hp} {α : Type} {R : Addr → α → Prop} {D : α → PyData} (f : ∀ a x, R a x → Dp K H (.ref a) (D x)) : ∀ {as : List Addr} {xs : List α}, EachIs R as xs → DpAll K H (as.map V.ref) (xs.map D)
  | _, _, .nil => .nil
  | _, _, .cons h t => .cons (f _ _ h) (dp_each f t)
theorem dp_bag {K : PySem.W.Frag} {H : Hp} {p : Addr} {b : Bag} (h : BagAt H p b) : Dp K H (.ref p) (bagD b) := by
  obtain ⟨ts, h1, h2⟩ := h
  exact .lst (sq_l h1) (dp_each (D := pairD) (fun _ _ q => dp_pair q) h2)
theorem dp_rows {K : PySem.W.Frag} {H : Hp} {p : Addr} {rs : List Row} (h : RowsAt H p rs) : Dp K H (.ref p) (.list (rs.map rowD)) := by
  obtain ⟨ts, h1, h2⟩ := h
  exact .lst (sq_l h1) (dp_each (D := rowD) (fun _ _ q => dp_row q) h2)
/-- all but what stands as something else than data is kept -/
def SameD (H H' : Hp) : Prop := ∀ b o, H b = some o → (∀ φ, o ≠ .ext φ) → H' b = some o
theorem Same.d {H H' : Hp} (s : Same H H') : SameD H H' := fun b o h _ => s b o h
theorem SameD.rd {H H' : Hp} (s : SameD H H') {a : Addr} {u : HO} (hu : ∀ φ, u ≠ .ext φ) (h : Rd H a u) : Rd H' a u := by
  rcases h with h | ⟨o, h⟩
  · exact .inl (s _ _ h hu)
  · exact .inr ⟨o, s _ _ h fun φ z => nomatch z⟩
mutual
theorem Dp.monoD {K : PySem.W.Frag} {H H' : Hp} (s : SameD H H') : ∀ (d : PyData) (v : V), Dp K H v d → Dp K H' v d
  | .none, _, h => by cases h; exact .non
  | .bool b, _, h => by cases h; exact .bl b
  | .int i, _, h => by cases h; exact .int i
  | .str x, _, h => by cases h; exact .str x
  | .list ds, _, h => by
    cases h with
    | lst hs ha =>
      refine .lst ?_ (DpAll.monoD s ds _ ha)
      rcases hs with q | q
      · exact .inl (s.rd (fun φ z => nomatch z) q)
      · exact .inr q
  | .tuple ds, _, h => by
    cases h with
    | tup hs ha =>
      refine .tup ?_ (DpAll.monoD s ds _ ha)
      rcases hs with q | q
      · exact .inl (s.rd (fun φ z => nomatch z) q)
      · exact .inr q
  | .dict _, _, h => by cases h
theorem DpAll.monoD {K : PySem.W.Frag} {H H' : Hp} (s : SameD H H') : ∀ (ds : List PyData) (vs : List V), DpAll K H vs ds → DpAll K H' vs ds
  | [], _, h => by cases h; exact .nil
  | d :: ds, _, h => by
    cases h with
    | cons h1 h2 => exact .cons (Dp.monoD s d _ h1) (DpAll.monoD s ds _ h2)
end
theorem Dp.mono {K : PySem.W.Frag} {H H' : Hp} (s : Same H H') {d : PyData} {v : V} (h : Dp K H v d) : Dp K H' v d := Dp.monoD (Same.d s) d v h
/-! ### == and != of data without a bound on their texts -/
section
variable {X : Cx}
def rEqP (K : PySem.W.Frag) : R2 := fun x y H Q => ∃ d e, Dp K H x d ∧ Dp K H y e ∧ d.plain = true ∧ e.plain = true ∧ d.depth ≤ 60 ∧ Q (.bl (PyData.eqv d e)) H
def rNeP (K : PySem.W.Frag) : R2 := fun x y H Q => ∃ d e, Dp K H x d ∧ Dp K H y e ∧ d.plain = true ∧ e.plain = true ∧ d.depth ≤ 60 ∧ Q (.bl (!PyData.eqv d e)) H
theorem op_eqP (hu : X.A.units + 64 < cLine) : OpR X (compareOp .Eq) (rEqP X.K) := by
  intro pins s σ H x y v u Q I rx ry h
  obtain ⟨d, e, hd, he, pd, pe, dd, q⟩ := h
  obtain ⟨as, r1⟩ := Dp.reads I d x v hd rx
  obtain ⟨bs, r2⟩ := Dp.reads I e y u he ry
  exact SeqAt.eq_plain r1 r2 pd pe (by omega) ⟨.bl _, H, I, rfl, q⟩
theorem op_neP (hu : X.A.units + 64 < cLine) : OpR X (compareOp .NotEq) (rNeP X.K) := by
  intro pins s σ H x y v u Q I rx ry h
  obtain ⟨d, e, hd, he, pd, pe, dd, q⟩ := h
  obtain ⟨as, r1⟩ := Dp.reads I d x v hd rx
  obtain ⟨bs, r2⟩ := Dp.reads I e y u he ry
  exact SeqAt.ne_plain r1 r2 pd pe (by omega) ⟨.bl _, H, I, rfl, q⟩
/-- t < u of two keys of rows, or of one value -/
def rLtK (K : PySem.W.Frag) : R2 := fun x y H Q => (∃ a b, Dp K H x (rankRow a) ∧ Dp K H y (rankRow b) ∧ Q (.bl (rowLt a b)) H) ∨ (∃ a b, Dp K H x (lawRow a) ∧ Dp K H y (lawRow b) ∧ Q (.bl (rowLt a b)) H) ∨
  (∃ a b, Dp K H x (rankD a) ∧ Dp K H y (rankD b) ∧ Q (.bl (oneLt a b)) H)
theorem op_ltK (hu : X.A.units + 64 < cLine) : OpR X (compareOp .Lt) (rLtK X.K) := by
  intro pins s σ H x y v u Q I rx ry h
  rcases h with ⟨a, b, hd, he, q⟩ | ⟨a, b, hd, he, q⟩ | ⟨a, b, hd, he, q⟩
  · obtain ⟨as, r1⟩ := Dp.reads I _ x v hd rx
    obtain ⟨bs, r2⟩ := Dp.reads I _ y u he ry
    exact rc_rankRow r1 r2 (by omega) X.prog X.w _ _ ⟨.bl _, H, I, rfl, q⟩
  · obtain ⟨as, r1⟩ := Dp.reads I _ x v hd rx
    obtain ⟨bs, r2⟩ := Dp.reads I _ y u he ry
    exact rc_lawRow r1 r2 (by omega) X.prog X.w _ _ ⟨.bl _, H, I, rfl, q⟩
  · obtain ⟨as, r1⟩ := Dp.reads I _ x v hd rx
    obtain ⟨bs, r2⟩ := Dp.reads I _ y u he ry
    exact rc_rank r1 r2 (by omega) X.prog X.w _ _ ⟨.bl _, H, I, rfl, q⟩
end
/-! ### defs called by their names -/
/-- the module's name x stands for a def that keeps the promise sp -/
def Cal (P : Program) (w : World) (K : PySem.W.Frag) (mg : Str → Option Value) (base : Heap) (x : Str) (k : Nat) (ps : List Str) (sp : Sp) : Prop :=
  ∃ f fd, mg x = some (.ref f) ∧ PySem.W.keepIn K (.ref f) = true ∧ Binds K fd ps [] ∧ FnOk P w K mg base CX0 k f fd ps sp
section
variable {X : Cx} {x : Str} {k : Nat} {ps : List Str} {sp : Sp} {E : XK} {p pos : Pos} {e : Expr} {es : List Expr} {t : TA}
theorem pe_cal (c : Cal X.prog X.w X.K X.mg X.base x k ps sp) (hr : Room k X.A) (ha : PA X (e :: es) t) (hg : Gl X x := by rfl) (hx : Passes CX0 X E0 := by exact pass0) (hdb : (x == ("__debug__" : Str)) = false := by decide)
    (he : starEach (e :: es) X.env = (false, eval e X.env) :: starEach es X.env := by rfl) (hpl : (backTo pos (starEach es X.env)).any (·.1) = false := by rfl) : PE X (.Call (.Name x p) (e :: es) [] pos) (tCall sp [] E0 t) := by
  obtain ⟨f, fd, g, kp, b, G⟩ := c
  exact pe_call G hr hg g kp b .nil hx ha hdb he hpl
end
/-- room for a call below -/
theorem _root_.L2.Room.lt {j k : Nat} {A : Around} (r : Room k A) (h : j ≤ k := by decide) : Room j A := r.mono h
theorem _root_.L2.Room.u64 {k : Nat} {A : Around} (r : Room k A) : A.units + 64 < cLine := by
  have := r.un
  omega
theorem _root_.L2.Room.u1 {k : Nat} {A : Around} (r : Room k A) : A.units + 1 < cLine := by
  have := r.un
  omega
end KA
set_option Elab.async false
set_option linter.all false
set_option maxRecDepth 100000
set_option maxHeartbeats 8000000
/-! sorted(rows, key=f), f a def that gives the key of a row -/
namespace KA
open PySem PySem.Spec PyProof.Rows L2
open PySem.W (EachIs SortsAt KeepsBut sorted_of_sort copyHeap copyHeap_at copyHeap_old keyH_end sortVals)
open PySem.Calls
section
variable {X : Cx}
/-- what a call f(row) does, wherever it is made -/
def KeyCall (X : Cx) (E : Row → PyData) (f : Addr) : Prop :=
  ∀ (pins : List (Addr × Obj)) (s : Shared) (σ : L2.St) (H : Hp) (q : Addr) (r : Row), Inv X pins σ H s → RowAt H q r → r.length ≤ 1000 →
    wpAny (model X.prog X.w) X.A.in1.in1 (call (.ref f) [.ref q]) (fun u s' => ∃ v H', Inv X pins σ H' s' ∧ Same H H' ∧ RelV v u ∧ Dp X.K H' v (E r)) (fun _ _ => False) s
/-- the promise of a def that gives keys -/
def spKey (K : PySem.W.Frag) (E : Row → PyData) : Sp := fun vs H Q _ => ∃ (q : Addr) (r : Row), vs = [.ref q] ∧ RowAt H q r ∧ r.length ≤ 1000 ∧ ∀ v H', Same H H' → Dp K H' v (E r) → Q v H'
theorem keyCall_of {E : Row → PyData} {f : Addr} {fd : FuncData} {k : Nat} {x : Str} (G : FnOk X.prog X.w X.K X.mg X.base CX0 k f fd [x] (spKey X.K E)) (hb : Binds X.K fd [x] []) (hr : Room (k + 2) X.A) : KeyCall X E f := by
  intro pins s σ H q r I hq hl
  have e0 := (I.env0.in1).in1
  refine wpAny_call (codeAny_mono (G.run X.A.in1.in1 X.stack s H ⟨[.ref q], []⟩ [.ref q] [.ref q] (fun v H' => Same H H' ∧ Dp X.K H' v (E r)) E0 (hr.in1).in1 e0 (hb s [.ref q] I.kIn rfl) (.cons rfl .nil)
    ⟨q, r, rfl, hq, hl, fun v H' s1 d => ⟨s1, d⟩⟩) fun z s' hz => ?_)
  cases z with
  | error e => exact False.elim hz
  | ok fl =>
    cases fl with
    | ret u =>
      obtain ⟨v, H', I', rv, s1, d⟩ := I.after hz
      exact ⟨v, H', I', s1, rv, d⟩
    | next => exact False.elim hz
    | brk => exact False.elim hz
    | cont => exact False.elim hz
def rSortRows (X : Cx) (f : Addr) : List V → List V → Hp → VK → Prop := fun vs zs H Q => ∃ (l : Addr) (as : List Addr) (rows : List Row), vs = [.ref l] ∧ zs = [.ref f] ∧ SqL X.K H l (as.map V.ref) ∧ EachIs (RowAt H) as rows ∧
  (∀ r ∈ rows, r.length ≤ 1000) ∧ (∀ p, H p = none → X.H_0 p = none) ∧ ∀ (p : Addr) (H' : Hp), Same H H' → H p = none → RowsAt H' p (sortRows rows) → Q (.ref p) H'
/-- the list of the keys so far -/
def keysO (kS : Addr) (kvs : List V) : HO := .ext fun h => ∃ (arr : Array Value) (e : Nat), Vals kvs arr.toList ∧ h.get? kS = some (seqObj "list" arr e)
/-- the list that is sorted, empty meanwhile -/
def nilO (a : Addr) (e : Nat) : HO := .ext fun h => h.get? a = some (seqObj "list" #[] e)
theorem keysO_ok {P : Program} {w : World} {H : Hp} {h : Heap} {kS : Addr} {kvs : List V} {arr : Array Value} {e : Nat} (v : Vals kvs arr.toList) (q : h.get? kS = some (seqObj "list" arr e)) : ObjOk P w H h kS (keysO kS kvs) :=
  ⟨⟨arr, e, v, q⟩, ⟨_, q⟩, fun h1 h2 ⟨a1, e1, v1, q1⟩ k => ⟨a1, e1, v1, k _ q1⟩⟩
theorem nilO_ok {P : Program} {w : World} {H : Hp} {h : Heap} {a : Addr} {e : Nat} (q : h.get? a = some (seqObj "list" #[] e)) : ObjOk P w H h a (nilO a e) :=
  ⟨q, ⟨_, q⟩, fun h1 h2 q1 k => k _ q1⟩
theorem upd_ext {H : Hp} {a : Addr} {o : HO} {φ : Heap → Prop} (h : H a = some (.ext φ)) : SameD H (upd H a o) := fun b u q n => by
  by_cases e : b = a
  · rw [e, h] at q
    exact absurd (Option.some.inj q).symm (n φ)
  · rw [upd_ne e]
    exact q
theorem del_ext {H : Hp} {a : Addr} {φ : Heap → Prop} (h : H a = some (.ext φ)) : SameD H (delH H a) := fun b u q n => by
  by_cases e : b = a
  · rw [e, h] at q
    exact absurd (Option.some.inj q).symm (n φ)
  · rw [delH_ne e]
    exact q
theorem refs_vals : ∀ {as : List Addr} {its : List Value}, Vals (as.map V.ref) its → its = as.map Value.ref
  | [], _, h => by cases h; rfl
  | a :: as, _, h => by
    have h' : Vals (V.ref a :: as.map V.ref) _ := h
    cases h' with
    | cons r t =>
      rw [refs_vals t]
      have e : _ = Value.ref a := r
      rw [e]
      rfl
theorem vals_refs : ∀ as : List Addr, Vals (as.map V.ref) (as.map Value.ref)
  | [] => .nil
  | a :: as => .cons rfl (vals_refs as)
theorem dps_reads {pins : List (Addr × Obj)} {s : Shared} {σ : L2.St} {H : Hp} {E : Row → PyData} (I : Inv X pins σ H s) : ∀ {kvs : List V} {rows : List Row} {ks : List Value}, EachIs (fun v r => Dp X.K H v (E r)) kvs rows → Vals kvs ks → EachIs (KeyIs1 s.heap E) ks rows
  | _, _, _, .nil, h => by cases h; exact .nil
  | _, _, _, .cons h t, q => by
    cases q with
    | cons q1 q2 =>
      obtain ⟨as, r⟩ := Dp.reads I _ _ _ h q1
      exact .cons ⟨as, r⟩ (dps_reads I t q2)
theorem each_snoc1 {α β : Type} {R : α → β → Prop} {x : α} {y : β} (h : R x y) : ∀ {as : List α} {bs : List β}, EachIs R as bs → EachIs R (as ++ [x]) (bs ++ [y])
  | _, _, .nil => .cons h .nil
  | _, _, .cons q t => .cons q (each_snoc1 h t)
theorem each_at {α β : Type} {R : α → β → Prop} : ∀ {as : List α} {bs : List β} {i : Nat} {x : α}, EachIs R as bs → as[i]? = some x → ∃ y, bs[i]? = some y ∧ R x y
  | _, _, _, _, .nil, h => by simp at h
  | _, _, 0, _, .cons q t, h => by
    simp at h
    subst h
    exact ⟨_, rfl, q⟩
  | _, _, i + 1, x, .cons q t, h => each_at (i := i) t (by simpa using h)
theorem vals_snoc {x : V} {u : Value} (r : RelV x u) {xs : List V} {us : List Value} (h : Vals xs us) : Vals (xs ++ [x]) (us ++ [u]) := h.append (.cons r .nil)
theorem each_refs {α : Type} {R : Addr → α → Prop} : ∀ {vs : List Value} {bs : List α}, EachIs (fun v b => ∃ a, v = Value.ref a ∧ R a b) vs bs → ∃ as : List Addr, vs = as.map Value.ref ∧ EachIs R as bs
  | _, _, .nil => ⟨[], rfl, .nil⟩
  | _, _, .cons ⟨a, e, r⟩ t => by
    obtain ⟨as, e2, r2⟩ := each_refs t
    exact ⟨a :: as, by rw [e, e2]; rfl, .cons r r2⟩
theorem each_map_l {α β γ : Type} {R : β → γ → Prop} (f : α → β) : ∀ {as : List α} {cs : List γ}, EachIs (fun a c => R (f a) c) as cs → EachIs R (as.map f) cs
  | _, _, .nil => .nil
  | _, _, .cons h t => .cons h (each_map_l f t)
theorem cr_sortKey {E : Row → PyData} {f : Addr} (T : Tells E)
    (hS : ∀ (prog : Program) (w : World) (A : Around) (s : Shared) (ks : List Value) (rows : List Row), EachIs (KeyIs1 s.heap E) ks rows → A.units + 12 < cLine → SortsAt prog w A s (rowKind s.heap E) ks)
    (hc : KeyCall X E f) (hu : X.A.units + 64 < cLine) (hx : X.ex = []) : CallRK X (.builtin "sorted") [Str.ofString "key"] (rSortRows X f) := by
  intro pins s σ H vs zs us ws Q I r rz h
  obtain ⟨l, as, rows, rfl, rfl, hs, hrow, hrl, h0, q⟩ := h
  obtain rfl := Vals.ref1 r
  obtain ⟨w1, rfl, e1⟩ := vals1 rz
  obtain rfl : w1 = Value.ref f := e1
  obtain ⟨its, rv, hl, hz⟩ := I.list hs
  obtain rfl := refs_vals rv
  rw [List.length_map] at hz
  have hzi : (as.map Value.ref).length ≤ sizeLine := by rw [List.length_map]; exact hz
  show wpAny (model X.prog X.w) X.A (call (.builtin "sorted") [.ref l] [(Str.ofString "key", .ref f)]) (EP X pins σ Q) X.xe s
  refine sorted_of_sort (vs := as.map Value.ref) hl.isList hzi (ksk_s1 _ _) (fun x => ksk_l1 _ _) fun E' => ?_
  rw [ksk_t1]
  obtain ⟨a, ea⟩ : ∃ a, a = s.heap.objs.size + 1 := ⟨_, rfl⟩
  rw [← ea]
  have ho := copyHeap_at s.heap (as.map Value.ref)
  rw [← ea] at ho
  have hHa : H a = none := I.hok.fresh (by rw [ea]; exact Nat.le_succ _)
  obtain ⟨e1, ho1⟩ : ∃ e1, ((copyHeap s.heap (as.map Value.ref)).update a (Obj.mapSeq fun _ => (#[] : Array Value))).get? a = some (seqObj "list" #[] e1) := ⟨_, get?_update_seq ho fun _ => #[]⟩
  have s1 := Heap.SameBut.update (copyHeap s.heap (as.map Value.ref)) a (Obj.mapSeq fun _ => (#[] : Array Value))
  have k1 : ∀ b u, s.heap.get? b = some u → ((copyHeap s.heap (as.map Value.ref)).update a (Obj.mapSeq fun _ => (#[] : Array Value))).get? b = some u := fun b u z =>
    (s1.2 b (by rw [ea]; exact Nat.ne_of_lt (Nat.lt_succ_of_lt (Heap.lt_size z)))).trans (copyHeap_old z)
  unfold ksk_tree
  refine wpAny_bind (listItems_at ho rfl ?_)
  refine wpAny_bind (listUpdate_at ho rfl ?_ (by rw [List.size_toArray]; exact hzi) (Nat.zero_le _))
  refine wpAny_bind (seqEpoch_at ho1 rfl ?_)
  refine wpAny_bind (wpAny_newTuple ?_ (by show (as.map Value.ref).toArray.toList.length ≤ _; simpa using hz))
  refine wpAny_bind (wpAny_newList ?_ (Nat.zero_le _))
  refine wpAny_holding ?_
  have I1 : Inv X pins σ (upd H a (nilO a e1)) { s with heap := (copyHeap s.heap (as.map Value.ref)).update a (Obj.mapSeq fun _ => (#[] : Array Value)) } :=
    I.laid (t' := s.toks) k1 (by rw [ea]; exact Nat.le_succ _) (nilO_ok ho1)
  obtain ⟨hT, ehT⟩ : ∃ hT, hT = ((copyHeap s.heap (as.map Value.ref)).update a (Obj.mapSeq fun _ => (#[] : Array Value))).push (seqObj "tuple" (as.map Value.ref).toArray 0) := ⟨_, rfl⟩
  have I2 : Inv X pins σ (upd H a (nilO a e1)) { s with heap := hT } := I1.kept (t' := s.toks) fun b u z => by rw [ehT]; exact Heap.get?_push_of_some _ z
  obtain ⟨kS, ekS⟩ : ∃ kS, kS = hT.objs.size := ⟨_, rfl⟩
  have hk0 : (upd H a (nilO a e1)) kS = none := I2.hok.fresh (by rw [ekS]; exact Nat.le_refl _)
  have hka : kS ≠ a := fun z => by
    rw [z, upd_same] at hk0
    cases hk0
  have hHk : H kS = none := by
    rw [upd_ne hka] at hk0
    exact hk0
  have nk0 : (hT.push (seqObj "list" #[] 0)).get? kS = some (seqObj "list" #[] 0) := by
    rw [ekS]
    exact Heap.get?_push_size _ rfl
  have I3 : Inv X pins σ (upd (upd H a (nilO a e1)) kS (keysO kS [])) { s with heap := hT.push (seqObj "list" #[] 0) } :=
    I2.laid (t' := s.toks) (fun b u z => Heap.get?_push_of_some _ z) (by rw [ekS]; exact Nat.le_refl _) (keysO_ok (arr := #[]) .nil nk0)
  rw [← ehT]
  show wpAny _ X.A.in1.in1 (ksk_rest a (.ref f) false (as.map Value.ref).toArray e1 (.ref hT.objs.size)) _ _ { s with heap := hT.push (seqObj "list" #[] 0) }
  rw [← ekS]
  unfold ksk_rest
  refine wpAny_bind (wpAny_rule ?_)
  rw [List.forIn_toArray]
  refine wpAny_bind (ksk_fold (fun i s' => ∃ H' kvs, Inv X pins σ H' s' ∧ Same H H' ∧ H' a = some (nilO a e1) ∧ H' kS = some (keysO kS kvs) ∧ EachIs (fun v r => Dp X.K H' v (E r)) kvs (rows.take i)) (as.map Value.ref) 0 _
    ⟨_, [], I3, same_mut (same_mut (Same.refl H) hHa) hHk, by rw [upd_ne hka.symm, upd_same], upd_same, by rw [List.take_zero]; exact .nil⟩ ?step ?done)
  case step =>
    rintro j x s' hxj ⟨H', kvs, I', sm, na, nk, hd⟩
    simp only [Nat.zero_add] at hd ⊢
    rw [List.getElem?_map] at hxj
    cases haj : as[j]? with
    | none => rw [haj] at hxj; cases hxj
    | some p =>
      rw [haj] at hxj
      obtain rfl : Value.ref p = x := Option.some.inj hxj
      obtain ⟨r, hrj, hrp⟩ := each_at hrow haj
      have hj : j < rows.length := (List.getElem?_eq_some_iff.mp hrj).1
      refine wpAny_bind (wpAny_attempt (wpAny_mono (hc pins s' σ H' p r I' (hrp.mono sm) (hrl r (List.mem_of_getElem? hrj))) (fun v s'' he => ?_) fun _ _ hF => hF.elim))
      obtain ⟨kv, H2, I4, sm2, rkv, hdp⟩ := he
      try dsimp only
      obtain ⟨⟨arr, e, va, gk⟩, _, _⟩ := I4.hok kS _ (sm2 _ _ nk)
      have la : arr.size ≤ as.length := by
        have q1 := va.length
        have q2 := hd.length
        rw [List.length_take] at q2
        have q3 := hrow.length
        have q4 : arr.toList.length = arr.size := Array.length_toList
        omega
      obtain ⟨c2, hc2⟩ : ∃ c2, (s''.heap.update kS (Obj.mapSeq (·.push v))).get? kS = some (seqObj "list" (arr.push v) c2) := ⟨_, get?_update_seq gk (·.push v)⟩
      have s3 := Heap.SameBut.update s''.heap kS (Obj.mapSeq (·.push v))
      refine wpAny_bind (listUpdate_at gk rfl ?_ (Nat.le_trans la hz) (Nat.le_trans (Nat.le_of_eq (Array.size_push ..)) (Nat.succ_le_succ (Nat.le_trans la hz))))
      have nk2 : H2 kS = some (keysO kS kvs) := sm2 _ _ nk
      have I5 : Inv X pins σ (upd H2 kS (keysO kS (kvs ++ [kv]))) { s'' with heap := s''.heap.update kS (Obj.mapSeq (·.push v)) } :=
        I4.write (t' := s''.toks) (by rw [nk2]; trivial) (.inl rfl) (fun b u hb z => (s3.2 b hb).trans z) ⟨_, hc2⟩ (keysO_ok (arr := arr.push v) (by rw [Array.toList_push]; exact vals_snoc rkv va) hc2)
      have sd : SameD H2 (upd H2 kS (keysO kS (kvs ++ [kv]))) := upd_ext nk2
      refine wpAny_pure ⟨rfl, _, kvs ++ [kv], I5, same_mut (sm.trans sm2) hHk, by rw [upd_ne hka.symm]; exact sm2 _ _ na, upd_same, ?_⟩
      rw [List.take_add_one, hrj]
      exact each_snoc1 (R := fun v r => Dp X.K (upd H2 kS (keysO kS (kvs ++ [kv]))) v (E r)) (Dp.monoD sd _ _ hdp) (hd.mono fun v r z => Dp.monoD sd _ _ (Dp.mono sm2 z))
  case done =>
    rintro s' ⟨H', kvs, I', sm, na, nk, hd⟩
    have et : rows.take (0 + (as.map Value.ref).length) = rows := List.take_of_length_le (by rw [List.length_map, hrow.length]; omega)
    rw [et] at hd
    obtain ⟨⟨arr, e, va, gk⟩, _, _⟩ := I'.hok kS _ nk
    have ga : s'.heap.get? a = some (seqObj "list" #[] e1) := (I'.hok a _ na).1
    try dsimp only
    refine wpAny_bind (listItems_at gk rfl ?_)
    have hks : EachIs (KeyIs1 s'.heap E) arr.toList rows := dps_reads I' hd va
    have hsz : arr.size = (as.map Value.ref).length := by
      have q1 := hks.length
      rw [Array.length_toList] at q1
      rw [q1, List.length_map, hrow.length]
    obtain ⟨G, gs, gn, J⟩ := I'.untrack nk (fr0_none (h0 kS hHk)) hx
    refine keyH_end (κ := rowKind s'.heap E) (h₁ := G) (fun b o _ z => gs b o z) gn gk ga hka (hS _ _ _ _ _ _ hks (by show X.A.units + 1 + 1 + 12 < _; omega)) hsz hzi fun h3 tk c k3 n3 => ⟨rfl, ?_⟩
    have hout : EachIs (fun v r => ∃ b, v = Value.ref b ∧ RowAt H b r) (sortVals (rowKind s'.heap E) false arr.toList (as.map Value.ref)) (sortRows rows) :=
      PySem.W.sortVals_each (κ := rowKind s'.heap E) (rev := false) (fun r => r) (each_map_l (R := fun v r => ∃ b, v = Value.ref b ∧ RowAt H b r) Value.ref (hrow.mono fun a r z => ⟨a, rfl, z⟩)) (hks.mono fun v r z => rowKind_some T z)
    obtain ⟨bs, eb, hb⟩ := each_refs hout
    rw [eb] at n3
    have nka : (delH H' kS) a = some (nilO a e1) := by
      rw [delH_ne hka.symm]
      exact na
    have J2 : Inv X pins σ (upd (delH H' kS) a (.lst (bs.map V.ref))) { s' with heap := h3, toks := tk } :=
      J.write (t' := tk) (by rw [nka]; trivial) (.inl rfl) (fun b u hbn z => k3 b u hbn z) ⟨_, n3⟩ ⟨by rw [List.length_map, hb.length, (sortRows_perm rows).length_eq, ← hrow.length]; exact hz, bs.map Value.ref, c, vals_refs bs, by simpa using n3⟩
    have sf : Same H (upd (delH H' kS) a (.lst (bs.map V.ref))) := by
      refine same_mut (fun b o z => ?_) hHa
      rw [delH_ne (ne_of_none z hHk)]
      exact sm b o z
    exact ⟨.ref a, _, J2, rfl, q a _ sf hHa ⟨bs, upd_same, hb.mono fun b r z => z.mono sf⟩⟩
end
end KA
set_option Elab.async false
set_option linter.all false
set_option maxRecDepth 100000
set_option maxHeartbeats 4000000
/-! comprehensions and loops: what is made, item by item -/
namespace KA
open PySem PySem.Spec PyProof.Rows L2
open PySem.W (EachIs)
/-- the tuples alone -/
def tups (H : Hp) : Hp := fun a => match H a with
  | some (.tup xs) => some (.tup xs)
  | _ => none
theorem tups_at {H : Hp} {a : Addr} {xs : List V} (h : H a = some (.tup xs)) : tups H a = some (.tup xs) := by
  unfold tups
  rw [h]
theorem tups_is {H : Hp} {a : Addr} {o : HO} (h : tups H a = some o) : ∃ xs, o = .tup xs ∧ H a = some (.tup xs) := by
  unfold tups at h
  split at h
  · rename_i xs e
    exact ⟨xs, (Option.some.inj h).symm, e⟩
  · cases h
theorem tups_sub (H : Hp) : Same (tups H) H := fun a o h => by
  obtain ⟨xs, rfl, e⟩ := tups_is h
  exact e
def TupKeep (H H' : Hp) : Prop := Same (tups H) (tups H')
theorem TupKeep.refl (H : Hp) : TupKeep H H := Same.refl _
theorem TupKeep.trans {H H1 H2 : Hp} (a : TupKeep H H1) (b : TupKeep H1 H2) : TupKeep H H2 := Same.trans a b
theorem TupKeep.of {H H' : Hp} (h : ∀ a xs, H a = some (.tup xs) → H' a = some (.tup xs)) : TupKeep H H' := fun a o q => by
  obtain ⟨xs, rfl, e⟩ := tups_is q
  exact tups_at (h a xs e)
theorem TupKeep.at {H H' : Hp} (k : TupKeep H H') {a : Addr} {xs : List V} (h : H a = some (.tup xs)) : H' a = some (.tup xs) := tups_sub H' _ _ (k _ _ (tups_at h))
theorem _root_.L2.Same.tk {H H' : Hp} (s : Same H H') : TupKeep H H' := .of fun _ _ h => s _ _ h
theorem tk_upd {H : Hp} {D : Addr} {o : HO} (h : ∀ xs, H D ≠ some (.tup xs)) : TupKeep H (upd H D o) := .of fun a xs q => by
  rw [upd_ne (fun e => h xs (by rw [← e]; exact q))]
  exact q
theorem tk_lst {H : Hp} {D : Addr} {o : HO} {xs : List V} (h : H D = some (.lst xs)) : TupKeep H (upd H D o) := tk_upd fun ys q => by
  rw [h] at q
  cases q
theorem RowAt.tk {H H' : Hp} (k : TupKeep H H') {q : Addr} {r : Row} (h : RowAt H q r) : RowAt H' q r := k.at h
theorem PairAt.tk {H H' : Hp} (k : TupKeep H H') {t : Addr} {e : Row × Int} (h : PairAt H t e) : PairAt H' t e := by
  obtain ⟨q, h1, h2⟩ := h
  exact ⟨q, k.at h1, h2.tk k⟩
section
variable {J : It} {n : Nat} {G : Hp → Prop} {Y : Nat → Hp → V → Hp → Prop} {β : Type}
/-- a comprehension over anything that is walked -/
theorem lc_go (w : Walk J n G Y) (bs : List β) (hn : bs.length = n) (keep : β → Bool) (R : Hp → V → β → Prop) (hR : ∀ H H' v b, TupKeep H H' → R H v b → R H' v b) (Rel : Hp → Prop)
    {g : TG} {tt : TT} {te : TE} {vs : List Nat} {σ : L2.St} {H1 : Hp} {D : Addr} {Qd : Hp → Prop} (h0 : Rel (upd H1 D (.lst []))) (hG : ∀ H, Rel H → G H) (hD : ∀ H acc, Rel H → Rel (upd H D (.lst acc))) (hz : n ≤ 100000)
    (turn : ∀ i x b H H', i < n → bs[i]? = some b → Rel H → (∃ acc, H D = some (.lst acc)) → Y i H x H' → ∀ (Q : VK) (Qn : Hp → Prop), (keep b = true → ∀ v H'', Rel H'' → H'' D = H D → TupKeep H H'' → R H'' v b → Q v H'') →
      (keep b = false → ∀ H'', Rel H'' → H'' D = H D → TupKeep H H'' → Qn H'') → g x (wipe σ vs) H' fun σ2 H2 => wipe σ2 vs = wipe σ vs ∧ tt σ2 H2 fun c H3 => if c = true then te σ2 H3 Q else Qn H3)
    (done : ∀ H acc, Rel H → H D = some (.lst acc) → EachIs (R H) acc (bs.filter keep) → Qd H) :
    ∃ W : Nat → Nat → Hp → Prop, (∃ m, W 0 m (upd H1 D (.lst []))) ∧ ∀ i m H, W i m H →
      (J.stop i H ∧ Qd H) ∨ (J.go i H ∧ ∃ Nx : Hp → Prop, (∀ H', Nx H' → ∃ m', m' < m ∧ W (i + 1) m' H') ∧ ∀ x H', J.yld i H x H' → g x (wipe σ vs) H' fun σ2 H2 => wipe σ2 vs = wipe σ vs ∧ tt σ2 H2 fun b H3 =>
        if b = true then te σ2 H3 fun y H4 => ∃ acc, H4 D = some (.lst acc) ∧ acc.length < sizeLine ∧ Nx (upd H4 D (.lst (acc ++ [y]))) else Nx H3) := by
  refine lc_it w (fun i H => Rel H ∧ ∃ acc, H D = some (.lst acc) ∧ EachIs (R H) acc ((bs.take i).filter keep)) ⟨h0, [], upd_same, by rw [List.take_zero]; exact .nil⟩ (fun i H _ p => hG H p.1) ?_ ?_
  · rintro i x H H' hi ⟨hr, acc, ha, he⟩ y
    obtain ⟨b, hb⟩ : ∃ b, bs[i]? = some b := ⟨_, List.getElem?_eq_getElem (by omega)⟩
    have et : bs.take (i + 1) = bs.take i ++ [b] := by rw [List.take_add_one, hb]; rfl
    refine turn i x b H H' hi hb hr ⟨acc, ha⟩ y _ _ (fun hk v H2 r2 d2 tk rv => ?_) fun hk H2 r2 d2 tk => ?_
    · have hlen : acc.length ≤ i := by
        rw [he.length]
        exact Nat.le_trans (List.length_filter_le ..) (by rw [List.length_take]; exact Nat.min_le_left _ _)
      have hd : H2 D = some (.lst acc) := d2.trans ha
      refine ⟨acc, hd, Nat.lt_of_lt_of_le (show acc.length < 100001 by omega) (by decide), hD _ _ r2, acc ++ [v], upd_same, ?_⟩
      rw [et, List.filter_append, List.filter_cons_of_pos hk]
      have k2 : TupKeep H2 (upd H2 D (.lst (acc ++ [v]))) := tk_lst hd
      exact each_snoc1 (hR _ _ _ _ k2 rv) (he.mono fun v b z => hR _ _ _ _ (tk.trans k2) z)
    · refine ⟨r2, acc, d2.trans ha, ?_⟩
      rw [et, List.filter_append, List.filter_cons_of_neg (by rw [hk]; exact Bool.false_ne_true), List.filter_nil, List.append_nil]
      exact he.mono fun v b z => hR _ _ _ _ tk z
  · rintro H ⟨hr, acc, ha, he⟩
    rw [List.take_of_length_le (by omega)] at he
    exact done H acc hr ha he
/-- the same where all objects of the start are kept -/
theorem lc_same (w : Walk J n G Y) (bs : List β) (hn : bs.length = n) (keep : β → Bool) (R : Hp → V → β → Prop) (hR : ∀ H H' v b, TupKeep H H' → R H v b → R H' v b)
    {g : TG} {tt : TT} {te : TE} {vs : List Nat} {σ : L2.St} {H1 : Hp} {D : Addr} {Qd : Hp → Prop} (hD : H1 D = none) (hG : ∀ H, Same H1 H → G H) (hz : n ≤ 100000)
    (turn : ∀ i x b H H', i < n → bs[i]? = some b → Same H1 H → Y i H x H' → ∀ (Q : VK) (Qn : Hp → Prop), (keep b = true → ∀ v H'', Same H H'' → R H'' v b → Q v H'') → (keep b = false → ∀ H'', Same H H'' → Qn H'') →
      g x (wipe σ vs) H' fun σ2 H2 => wipe σ2 vs = wipe σ vs ∧ tt σ2 H2 fun c H3 => if c = true then te σ2 H3 Q else Qn H3)
    (done : ∀ H acc, Same H1 H → H D = some (.lst acc) → EachIs (R H) acc (bs.filter keep) → Qd H) :
    ∃ W : Nat → Nat → Hp → Prop, (∃ m, W 0 m (upd H1 D (.lst []))) ∧ ∀ i m H, W i m H →
      (J.stop i H ∧ Qd H) ∨ (J.go i H ∧ ∃ Nx : Hp → Prop, (∀ H', Nx H' → ∃ m', m' < m ∧ W (i + 1) m' H') ∧ ∀ x H', J.yld i H x H' → g x (wipe σ vs) H' fun σ2 H2 => wipe σ2 vs = wipe σ vs ∧ tt σ2 H2 fun b H3 =>
        if b = true then te σ2 H3 fun y H4 => ∃ acc, H4 D = some (.lst acc) ∧ acc.length < sizeLine ∧ Nx (upd H4 D (.lst (acc ++ [y]))) else Nx H3) :=
  lc_go w bs hn keep R hR (Same H1) (same_new hD) hG (fun H acc s => same_mut s hD) hz (fun i x b H H' hi hb hr ⟨acc, ha⟩ y Q Qn h1 h2 => turn i x b H H' hi hb hr y Q Qn
    (fun hk v H2 s2 rv => h1 hk v H2 (hr.trans s2) (by rw [ha]; exact s2 _ _ ha) s2.tk rv) fun hk H2 s2 => h2 hk H2 (hr.trans s2) (by rw [ha]; exact s2 _ _ ha) s2.tk) done
end
theorem yes_in {te : TE} {σ : L2.St} {H : Hp} {Q : VK} {Qn : Hp → Prop} (h : te σ H Q) : tYes σ H fun c H3 => if c = true then te σ H3 Q else Qn H3 := by
  show if true = true then te σ H Q else Qn H
  rw [if_pos rfl]
  exact h
theorem filter_true {α : Type} (l : List α) : l.filter (fun _ => true) = l := List.filter_eq_self.mpr fun _ _ => rfl
theorem each_list {α : Type} {R : V → α → Prop} {P : Addr → α → Prop} (h : ∀ v x, R v x → ∃ a, v = V.ref a ∧ P a x) : ∀ {vs : List V} {xs : List α}, EachIs R vs xs → ∃ as : List Addr, vs = as.map V.ref ∧ EachIs P as xs
  | _, _, .nil => ⟨[], rfl, .nil⟩
  | _, _, .cons q t => by
    obtain ⟨a, rfl, p⟩ := h _ _ q
    obtain ⟨as, rfl, ps⟩ := each_list h t
    exact ⟨a :: as, rfl, .cons p ps⟩
theorem each_dps {K : PySem.W.Frag} {H : Hp} {α : Type} {E : α → PyData} : ∀ {vs : List V} {r : List α}, EachIs (fun v x => Dp K H v (E x)) vs r → DpAll K H vs (r.map E)
  | _, _, .nil => .nil
  | _, _, .cons h t => .cons h (each_dps t)
theorem map_at {α : Type} {f : α → V} {r : List α} {i : Nat} {v : V} (h : (r.map f)[i]? = some v) : ∃ x, r[i]? = some x ∧ v = f x := by
  rw [List.getElem?_map] at h
  cases e : r[i]? with
  | none => rw [e] at h; cases h
  | some x => rw [e] at h; exact ⟨x, rfl, (Option.some.inj h).symm⟩
/-- a datum of tuples alone -/
def Tp (K : PySem.W.Frag) (H : Hp) (v : V) (d : PyData) : Prop := Dp K (tups H) v d
theorem Tp.tk {K : PySem.W.Frag} {H H' : Hp} (k : TupKeep H H') {v : V} {d : PyData} (h : Tp K H v d) : Tp K H' v d := Dp.mono k h
theorem Tp.dp {K : PySem.W.Frag} {H : Hp} {v : V} {d : PyData} (h : Tp K H v d) : Dp K H v d := Dp.mono (tups_sub H) h
theorem sq_tups {K : PySem.W.Frag} {H : Hp} {a : Addr} {xs : List V} (h : H a = some (.tup xs)) : SqT K (tups H) a xs := .inl (.inl (tups_at h))
end KA
set_option Elab.async false
set_option linter.all false
set_option maxRecDepth 100000
set_option maxHeartbeats 0
namespace KA
open PySem PySem.Spec PyProof.Rows L2
def top (i : Nat) : Stmt := PySem.Challenge.pw_deltaloom_k01_values_and_bags.main.body.getD i (.Pass ⟨0, 0, 0, 0⟩)
abbrev s_wrap : Stmt := top 3
abbrev s_rank : Stmt := top 4
abbrev s_row_rank : Stmt := top 5
abbrev s_make_bag : Stmt := top 7
abbrev s_plus : Stmt := top 8
abbrev s_minus : Stmt := top 9
abbrev s_scaled : Stmt := top 10
abbrev s_count_of : Stmt := top 11
abbrev s_rows_of : Stmt := top 12
abbrev s_support : Stmt := top 13
abbrev s_set_bag : Stmt := top 14
abbrev s__law_state : Stmt := top 16
abbrev s__law_draw : Stmt := top 17
abbrev s__law_one : Stmt := top 18
abbrev s__law_row : Stmt := top 19
abbrev s__law_key : Stmt := top 20
abbrev s__law_canon : Stmt := top 21
abbrev s__law_bag : Stmt := top 22
abbrev s__law_counts : Stmt := top 23
abbrev s__law_ordered : Stmt := top 24
abbrev s__law_group : Stmt := top 25
abbrev s_law : Stmt := top 26
theorem sc_wrap : FnScope ["n"] ["n"] (defScope s_wrap) := ⟨rfl, rfl, rfl, by decide +kernel, rfl, by decide +kernel, by decide +kernel⟩
theorem sc_rank : FnScope ["value"] ["value"] (defScope s_rank) := ⟨rfl, rfl, rfl, by decide +kernel, rfl, by decide +kernel, by decide +kernel⟩
theorem sc_row_rank : FnScope ["row", "value"] ["row"] (defScope s_row_rank) := ⟨rfl, rfl, rfl, by decide +kernel, rfl, by decide +kernel, by decide +kernel⟩
theorem sc_make_bag : FnScope ["pairs", "counts", "row", "count", "rows"] ["pairs"] (defScope s_make_bag) := ⟨rfl, rfl, rfl, by decide +kernel, rfl, by decide +kernel, by decide +kernel⟩
theorem sc_plus : FnScope ["first", "second"] ["first", "second"] (defScope s_plus) := ⟨rfl, rfl, rfl, by decide +kernel, rfl, by decide +kernel, by decide +kernel⟩
theorem sc_minus : FnScope ["first", "second"] ["first", "second"] (defScope s_minus) := ⟨rfl, rfl, rfl, by decide +kernel, rfl, by decide +kernel, by decide +kernel⟩
theorem sc_scaled : FnScope ["bag", "factor", "row", "count"] ["bag", "factor"] (defScope s_scaled) := ⟨rfl, rfl, rfl, by decide +kernel, rfl, by decide +kernel, by decide +kernel⟩
theorem sc_count_of : FnScope ["bag", "row", "other", "count"] ["bag", "row"] (defScope s_count_of) := ⟨rfl, rfl, rfl, by decide +kernel, rfl, by decide +kernel, by decide +kernel⟩
theorem sc_rows_of : FnScope ["bag", "row", "count"] ["bag"] (defScope s_rows_of) := ⟨rfl, rfl, rfl, by decide +kernel, rfl, by decide +kernel, by decide +kernel⟩
theorem sc_support : FnScope ["bag", "row"] ["bag"] (defScope s_support) := ⟨rfl, rfl, rfl, by decide +kernel, rfl, by decide +kernel, by decide +kernel⟩
theorem sc_set_bag : FnScope ["rows", "row"] ["rows"] (defScope s_set_bag) := ⟨rfl, rfl, rfl, by decide +kernel, rfl, by decide +kernel, by decide +kernel⟩
theorem sc__law_state : FnScope ["script", "seed", "cell"] ["script"] (defScope s__law_state) := ⟨rfl, rfl, rfl, by decide +kernel, rfl, by decide +kernel, by decide +kernel⟩
theorem sc__law_draw : FnScope ["state", "many", "cells", "k", "amount", "mixed"] ["state", "many"] (defScope s__law_draw) := ⟨rfl, rfl, rfl, by decide +kernel, rfl, by decide +kernel, by decide +kernel⟩
theorem sc__law_one : FnScope ["state", "kind"] ["state"] (defScope s__law_one) := ⟨rfl, rfl, rfl, by decide +kernel, rfl, by decide +kernel, by decide +kernel⟩
theorem sc__law_row : FnScope ["state", "most", "k"] ["state", "most"] (defScope s__law_row) := ⟨rfl, rfl, rfl, by decide +kernel, rfl, by decide +kernel, by decide +kernel⟩
theorem sc__law_key : FnScope ["row", "one"] ["row"] (defScope s__law_key) := ⟨rfl, rfl, rfl, by decide +kernel, rfl, by decide +kernel, by decide +kernel⟩
theorem sc__law_canon : FnScope ["counts", "rows", "row"] ["counts"] (defScope s__law_canon) := ⟨rfl, rfl, rfl, by decide +kernel, rfl, by decide +kernel, by decide +kernel⟩
theorem sc__law_bag : FnScope ["state", "most", "counts", "k", "row"] ["state", "most"] (defScope s__law_bag) := ⟨rfl, rfl, rfl, by decide +kernel, rfl, by decide +kernel, by decide +kernel⟩
theorem sc__law_counts : FnScope ["pairs", "counts", "row", "count"] ["pairs"] (defScope s__law_counts) := ⟨rfl, rfl, rfl, by decide +kernel, rfl, by decide +kernel, by decide +kernel⟩
theorem sc__law_ordered : FnScope ["state", "rows", "k", "first", "second", "one", "other", "n", "told"] ["state"] (defScope s__law_ordered) := ⟨rfl, rfl, rfl, by decide +kernel, rfl, by decide +kernel, by decide +kernel⟩
theorem sc__law_group : FnScope ["first", "second", "factor", "total"] ["first", "second", "factor"] (defScope s__law_group) := ⟨rfl, rfl, rfl, by decide +kernel, rfl, by decide +kernel, by decide +kernel⟩
theorem sc_law : FnScope ["script", "state", "pairs", "k", "kept", "first", "second", "less", "row", "count", "factor", "rows", "given"] ["script"] (defScope s_law) := ⟨rfl, rfl, rfl, by decide +kernel, rfl, by decide +kernel, by decide +kernel⟩
abbrev FnP (K : PySem.W.Frag) (x : Str) (st : Stmt) (f : Addr) (fd : FuncData) : Prop := FunD K x x (defArgs st) (defBody st) (defScope st) [] [] f fd
def d_wrap : He.DefD := ⟨("wrap", none), "wrap", "wrap", defArgs s_wrap, defBody s_wrap, defScope s_wrap, [], []⟩
def d_rank : He.DefD := ⟨("rank", none), "rank", "rank", defArgs s_rank, defBody s_rank, defScope s_rank, [], []⟩
def d_row_rank : He.DefD := ⟨("row_rank", none), "row_rank", "row_rank", defArgs s_row_rank, defBody s_row_rank, defScope s_row_rank, [], []⟩
def d_make_bag : He.DefD := ⟨("make_bag", none), "make_bag", "make_bag", defArgs s_make_bag, defBody s_make_bag, defScope s_make_bag, [], []⟩
def d_plus : He.DefD := ⟨("plus", none), "plus", "plus", defArgs s_plus, defBody s_plus, defScope s_plus, [], []⟩
def d_minus : He.DefD := ⟨("minus", none), "minus", "minus", defArgs s_minus, defBody s_minus, defScope s_minus, [], []⟩
def d_scaled : He.DefD := ⟨("scaled", none), "scaled", "scaled", defArgs s_scaled, defBody s_scaled, defScope s_scaled, [], []⟩
def d_count_of : He.DefD := ⟨("count_of", none), "count_of", "count_of", defArgs s_count_of, defBody s_count_of, defScope s_count_of, [], []⟩
def d_rows_of : He.DefD := ⟨("rows_of", none), "rows_of", "rows_of", defArgs s_rows_of, defBody s_rows_of, defScope s_rows_of, [], []⟩
def d_support : He.DefD := ⟨("support", none), "support", "support", defArgs s_support, defBody s_support, defScope s_support, [], []⟩
def d_set_bag : He.DefD := ⟨("set_bag", none), "set_bag", "set_bag", defArgs s_set_bag, defBody s_set_bag, defScope s_set_bag, [], []⟩
def d__law_state : He.DefD := ⟨("_law_state", none), "_law_state", "_law_state", defArgs s__law_state, defBody s__law_state, defScope s__law_state, [], []⟩
def d__law_draw : He.DefD := ⟨("_law_draw", none), "_law_draw", "_law_draw", defArgs s__law_draw, defBody s__law_draw, defScope s__law_draw, [], []⟩
def d__law_one : He.DefD := ⟨("_law_one", none), "_law_one", "_law_one", defArgs s__law_one, defBody s__law_one, defScope s__law_one, [], []⟩
def d__law_row : He.DefD := ⟨("_law_row", none), "_law_row", "_law_row", defArgs s__law_row, defBody s__law_row, defScope s__law_row, [], []⟩
def d__law_key : He.DefD := ⟨("_law_key", none), "_law_key", "_law_key", defArgs s__law_key, defBody s__law_key, defScope s__law_key, [], []⟩
def d__law_canon : He.DefD := ⟨("_law_canon", none), "_law_canon", "_law_canon", defArgs s__law_canon, defBody s__law_canon, defScope s__law_canon, [], []⟩
def d__law_bag : He.DefD := ⟨("_law_bag", none), "_law_bag", "_law_bag", defArgs s__law_bag, defBody s__law_bag, defScope s__law_bag, [], []⟩
def d__law_counts : He.DefD := ⟨("_law_counts", none), "_law_counts", "_law_counts", defArgs s__law_counts, defBody s__law_counts, defScope s__law_counts, [], []⟩
def d__law_ordered : He.DefD := ⟨("_law_ordered", none), "_law_ordered", "_law_ordered", defArgs s__law_ordered, defBody s__law_ordered, defScope s__law_ordered, [], []⟩
def d__law_group : He.DefD := ⟨("_law_group", none), "_law_group", "_law_group", defArgs s__law_group, defBody s__law_group, defScope s__law_group, [], []⟩
def d_law : He.DefD := ⟨("law", none), "law", "law", defArgs s_law, defBody s_law, defScope s_law, [], []⟩
def fn : List He.DefD := [d_wrap, d_rank, d_row_rank, d_make_bag, d_plus, d_minus, d_scaled, d_count_of, d_rows_of, d_support, d_set_bag, d__law_state, d__law_draw, d__law_one, d__law_row, d__law_key, d__law_canon, d__law_bag, d__law_counts, d__law_ordered, d__law_group, d_law]
def fa : List He.Fa := [.glo "wrap", .glo "rank", .glo "row_rank", .glo "make_bag", .glo "plus", .glo "minus", .glo "scaled", .glo "count_of", .glo "rows_of", .glo "support", .glo "set_bag", .glo "_law_state", .glo "_law_draw", .glo "_law_one", .glo "_law_row", .glo "_law_key", .glo "_law_canon", .glo "_law_bag", .glo "_law_counts", .glo "_law_ordered", .glo "_law_group", .glo "law", .int "SPAN" (4294967296), .int "LOWEST" (-2147483648), .free "len", .free "range", .free "int", .free "abs", .free "isinstance", .free "tuple", .free "sorted", .free "repr", .free "str"]
abbrev R : PySem.W.OpenRow := PySem.W.OpenLaw.row PySem.Challenge.rw_deltaloom_k01_values_and_bags
abbrev hk : PySem.W.Hook := He.hookD 4 fa fn
def ob (s : PySem.W.SharedT) : He.AlD := He.obsDG 4 fa fn (HandSHeadRun.getT s)
theorem ob_eq (s : PySem.W.SharedT) : ob s = hk.obs s.abs := He.obsDG_eq (HandSHeadRun.getT_eq s)
theorem run (w : World) : HandSHeadRun.RunEq R (PySem.W.view R.prog [26]) hk ob 4000 ["SPAN", "LOWEST", "wrap", "rank", "row_rank", "make_bag", "plus", "minus", "scaled", "count_of", "rows_of", "support", "set_bag", "_law_state", "_law_draw", "_law_one", "_law_row", "_law_key", "_law_canon", "_law_bag", "_law_counts", "_law_ordered", "_law_group"] w := by
  intro os
  kernel_rfl
end KA
set_option Elab.async false
set_option linter.all false
set_option maxRecDepth 100000
set_option maxHeartbeats 4000000
/-! wrap, rank, row_rank, _law_key -/
namespace KA
open PySem PySem.Spec PyProof.Rows L2
open PySem.W (EachIs)
section
variable {P : Program} {w : World} {K : PySem.W.Frag} {mg : Str → Option Value} {base : Heap} {f : Addr} {fd : FuncData}
def wrapZ (n : Int) : Int := (n - (-2147483648)) % 4294967296 + (-2147483648)
def spWrap : Sp := fun vs H Q _ => ∃ n : Int, vs = [.int n] ∧ Q (.int (wrapZ n)) H
theorem ok_wrap (F : FnP K "wrap" s_wrap f fd) {tS tL : Tok} (gS : mg "SPAN" = some (.int 4294967296 tS)) (gL : mg "LOWEST" = some (.int (-2147483648) tL)) : FnOk P w K mg base CX0 1 f fd ["n"] spWrap := by
  refine F.ok sc_wrap (fun vs H Q E h => ?_) (fun cdv A outer s H vs Q E hr h => ?_)
  · obtain ⟨n, rfl, _⟩ := h
    rfl
  · obtain ⟨n, rfl, q⟩ := h
    refine ⟨_, PSs.nox (pss_one (ps_ret (pe_op op_add (pe_op op_mod (pe_op op_sub (pv 0) (pe_glob (v := .int (-2147483648)) rfl gL ⟨_, rfl⟩)) (pe_glob (v := .int 4294967296) rfl gS ⟨_, rfl⟩)) (pe_glob (v := .int (-2147483648)) rfl gL ⟨_, rfl⟩)))), ?_⟩
    exact ⟨_, rfl, _, _, rfl, rfl, _, _, rfl, rfl, by show (0 : Int) < 4294967296; decide, _, _, rfl, rfl, q⟩
def spRank (K : PySem.W.Frag) : Sp := fun vs H Q _ => ∃ x : Key, vs = [kV x] ∧ ∀ v H', Same H H' → Tp K H' v (rankD x) → Q v H'
theorem ok_rank (F : FnP K "rank" s_rank f fd) (gI : mg "isinstance" = none) (gS : mg "str" = none) : FnOk P w K mg base CX0 1 f fd ["value"] (spRank K) := by
  refine F.ok sc_rank (fun vs H Q E h => ?_) (fun cdv A outer s H vs Q E hr h => ?_)
  · obtain ⟨n, rfl, _⟩ := h
    rfl
  · obtain ⟨x, rfl, q⟩ := h
    refine ⟨_, PSs.nox (pss_cons (ps_if (pt_val (pe_callB call_isi (by rfl) gI (by decide +kernel) (pa_cons (pv 0) (pa_cons (pe_bltn (v := .ty "str") (by rfl) gS (by decide +kernel) rfl) pa_nil)))) (pss_one (ps_ret (pe_tup (pa_cons pe_int (pa_cons (pv 0) pa_nil))))) pss_nil)
      (pss_one (ps_ret (pe_tup (pa_cons pe_int (pa_cons (pv 0) pa_nil)))))), ?_⟩
    cases x with
    | inl i =>
      refine ⟨_, rfl, _, _, .type "int", .type "str", false, rfl, .ty "str", .base (.int i), kit_ty (by decide +kernel), _, rfl, iteF ?_⟩
      exact ⟨_, rfl, (by show 2 ≤ sizeLine; decide), fun p hp => q _ _ (same_new hp) (.tup (sq_tups upd_same) (.cons (.int _) (.cons (.int _) .nil)))⟩
    | inr z =>
      refine ⟨_, rfl, _, _, .type "str", .type "str", true, rfl, .ty "str", .base (.str z), kit_ty (by decide +kernel), _, rfl, iteT ?_⟩
      exact ⟨_, rfl, (by show 2 ≤ sizeLine; decide), fun p hp => q _ _ (same_new hp) (.tup (sq_tups upd_same) (.cons (.int _) (.cons (.str _) .nil)))⟩
theorem ok_row_rank (F : FnP K "row_rank" s_row_rank f fd) (gT : mg "tuple" = none) (C : Cal P w K mg base "rank" 1 ["value"] (spRank K)) : FnOk P w K mg base CX0 2 f fd ["row"] (spKey K rankRow) := by
  refine F.ok sc_row_rank (fun vs H Q E h => ?_) (fun cdv A outer s H vs Q E hr h => ?_)
  · obtain ⟨n, r, rfl, _⟩ := h
    rfl
  · obtain ⟨a, r, rfl, hq, hl, q⟩ := h
    refine ⟨_, PSs.nox (pss_one (ps_ret (pe_callTy call_tuple_of (by rfl) gT (by decide +kernel) (pa_cons (pe_lc (own := [("value", 1)]) (g := gName 1) (tt := tYes) (by rfl) sc_row_rank.nd (pi_tup (pv 0))
      (blkOk_by (own := [("value", 1)]) (N := ["row", "value"]) (sc := defScope s_row_rank) (by decide +kernel)) (fun _ _ _ _ _ => pg_name (i := 1) sc_row_rank.nd rfl (Or.inl rfl)) (fun _ _ _ _ _ => pts_nil)
      (fun _ _ _ _ _ => pe_cal C hr (pa_cons (pv 1) pa_nil))) pa_nil)))), ?_⟩
    refine ⟨_, rfl, a, rfl, ⟨_, hq.sq⟩, fun D hD => ?_⟩
    refine lc_same (walk_tup (xs := r.map kV)) r (by rw [List.length_map]) (fun _ => true) (fun H v x => Tp K H v (rankD x)) (fun _ _ _ _ k z => Tp.tk k z) hD (fun H' s' => (hq.mono s').sq) (by rw [List.length_map]; omega) ?_ ?_
    · rintro i x b H1 _ hi hb s1 ⟨rfl, hx⟩ Q' Qn h1 _
      obtain ⟨b', hb', rfl⟩ := map_at hx
      obtain rfl : b = b' := Option.some.inj (hb.symm.trans hb')
      exact ⟨rfl, yes_in ⟨_, rfl, b, rfl, fun v H2 s2 d => h1 rfl v H2 s2 d⟩⟩
    · intro H1 acc s1 ha he
      rw [filter_true] at he
      refine ⟨D, acc, rfl, .inl ⟨sq_l ha, fun p hp => ?_⟩⟩
      have s2 : Same H1 (upd H1 p (.tup acc)) := same_new hp
      exact q _ _ (s1.trans s2) (.tup (sq_t upd_same) (each_dps (he.mono fun v x z => (Tp.tk s2.tk z).dp)))
/-- a row as a tuple, or its items in a list -/
def spLawKey (K : PySem.W.Frag) : Sp := fun vs H Q _ => ∃ (q : Addr) (r : Row), vs = [.ref q] ∧ (RowAt H q r ∨ H q = some (.lst (r.map kV))) ∧ r.length ≤ 1000 ∧ ∀ v H', Same H H' → Dp K H' v (lawRow r) → Q v H'
theorem law_item (x : Key) {H : Hp} {K : PySem.W.Frag} {σ : L2.St} {i : Nat} (hs : σ[i]? = some (some (kV x))) {Q : VK} (h : ∀ v H', Same H H' → Tp K H' v (lawD x) → Q v H') :
    tIf (tB (tCB (rIsi K) (tCons (tVar i) (tCons (tC (V.ty "int")) tNil)))) (tTup (tCons (tC (.int 0)) (tCons (tVar i) (tCons (tC (.str "")) tNil)))) (tTup (tCons (tC (.int 1)) (tCons (tC (.int 0)) (tCons (tVar i) tNil)))) σ H Q := by
  cases x with
  | inl n =>
    refine ⟨_, hs, _, _, .type "int", .type "int", true, rfl, .ty "int", .base (.int n), kit_ty (by decide +kernel), _, rfl, iteT ?_⟩
    exact ⟨_, hs, (by show 3 ≤ sizeLine; decide), fun p hp => h _ _ (same_new hp) (.tup (sq_tups upd_same) (.cons (.int _) (.cons (.int _) (.cons (.str _) .nil))))⟩
  | inr z =>
    refine ⟨_, hs, _, _, .type "str", .type "int", false, rfl, .ty "int", .base (.str z), kit_ty (by decide +kernel), _, rfl, iteF ?_⟩
    exact ⟨_, hs, (by show 3 ≤ sizeLine; decide), fun p hp => h _ _ (same_new hp) (.tup (sq_tups upd_same) (.cons (.int _) (.cons (.int _) (.cons (.str _) .nil))))⟩
theorem ok_law_key (F : FnP K "_law_key" s__law_key f fd) (gI : mg "isinstance" = none) (gN : mg "int" = none) : FnOk P w K mg base CX0 1 f fd ["row"] (spLawKey K) := by
  refine F.ok sc__law_key (fun vs H Q E h => ?_) (fun cdv A outer s H vs Q E hr h => ?_)
  · obtain ⟨n, r, rfl, _⟩ := h
    rfl
  · obtain ⟨a, r, rfl, hq, hl, q⟩ := h
    have fin : ∀ H1 D acc, Same H H1 → H1 D = some (.lst acc) → EachIs (fun v x => Tp K H1 v (lawD x)) acc (r.filter fun _ => true) → Q (.ref D) H1 := fun H1 D acc s1 ha he => by
      rw [filter_true] at he
      exact q _ _ s1 (.lst (sq_l ha) (each_dps (he.mono fun v x z => z.dp)))
    rcases hq with hq | hq
    · refine ⟨_, PSs.nox (pss_one (ps_ret (pe_lc (own := [("one", 1)]) (g := gName 1) (tt := tYes) (by rfl) sc__law_key.nd (pi_tup (pv 0))
        (blkOk_by (own := [("one", 1)]) (N := ["row", "one"]) (sc := defScope s__law_key) (by decide +kernel)) (fun _ _ _ _ _ => pg_name (i := 1) sc__law_key.nd rfl (Or.inl rfl)) (fun _ _ _ _ _ => pts_nil)
        (fun _ _ _ _ _ => pe_ifExp (pt_val (pe_callB (id := "isinstance") (r := rIsi K) call_isi (by rfl) gI (by decide +kernel) (pa_cons (pv 1) (pa_cons (pe_bltn (v := .ty "int") (by rfl) gN (by decide +kernel) rfl) pa_nil))))
          (pe_tup (pa_cons pe_int (pa_cons (pv 1) (pa_cons pe_str pa_nil)))) (pe_tup (pa_cons pe_int (pa_cons pe_int (pa_cons (pv 1) pa_nil)))))))), ?_⟩
      refine ⟨_, rfl, a, rfl, ⟨_, hq.sq⟩, fun D hD => ?_⟩
      refine lc_same (walk_tup (xs := r.map kV)) r (by rw [List.length_map]) (fun _ => true) (fun H v x => Tp K H v (lawD x)) (fun _ _ _ _ k z => Tp.tk k z) hD (fun H' s' => (hq.mono s').sq) (by rw [List.length_map]; omega) ?_ (fun H1 acc s1 ha he => fin H1 D acc s1 ha he)
      rintro i x b H1 _ hi hb s1 ⟨rfl, hx⟩ Q' Qn h1 _
      obtain ⟨b', hb', rfl⟩ := map_at hx
      obtain rfl : b = b' := Option.some.inj (hb.symm.trans hb')
      exact ⟨rfl, yes_in (law_item b rfl fun v H2 s2 d => h1 rfl v H2 s2 d)⟩
    · refine ⟨_, PSs.nox (pss_one (ps_ret (pe_lc (own := [("one", 1)]) (g := gName 1) (tt := tYes) (by rfl) sc__law_key.nd (pi_list (pv 0))
        (blkOk_by (own := [("one", 1)]) (N := ["row", "one"]) (sc := defScope s__law_key) (by decide +kernel)) (fun _ _ _ _ _ => pg_name (i := 1) sc__law_key.nd rfl (Or.inl rfl)) (fun _ _ _ _ _ => pts_nil)
        (fun _ _ _ _ _ => pe_ifExp (pt_val (pe_callB (id := "isinstance") (r := rIsi K) call_isi (by rfl) gI (by decide +kernel) (pa_cons (pv 1) (pa_cons (pe_bltn (v := .ty "int") (by rfl) gN (by decide +kernel) rfl) pa_nil))))
          (pe_tup (pa_cons pe_int (pa_cons (pv 1) (pa_cons pe_str pa_nil)))) (pe_tup (pa_cons pe_int (pa_cons pe_int (pa_cons (pv 1) pa_nil)))))))), ?_⟩
      refine ⟨_, rfl, a, rfl, ⟨_, sq_l hq⟩, fun D hD => ?_⟩
      refine lc_same (walk_list (xs := r.map kV)) r (by rw [List.length_map]) (fun _ => true) (fun H v x => Tp K H v (lawD x)) (fun _ _ _ _ k z => Tp.tk k z) hD (fun H' s' => sq_l (s' _ _ hq)) (by rw [List.length_map]; omega) ?_ (fun H1 acc s1 ha he => fin H1 D acc s1 ha he)
      rintro i x b H1 _ hi hb s1 ⟨rfl, hx⟩ Q' Qn h1 _
      obtain ⟨b', hb', rfl⟩ := map_at hx
      obtain rfl : b = b' := Option.some.inj (hb.symm.trans hb')
      exact ⟨rfl, yes_in (law_item b rfl fun v H2 s2 d => h1 rfl v H2 s2 d)⟩
end
end KA
set_option Elab.async false
set_option linter.all false
set_option maxRecDepth 100000
set_option maxHeartbeats 4000000
/-! scaled, rows_of, support, count_of -/
namespace KA
open PySem PySem.Spec PyProof.Rows L2
open PySem.W (EachIs)
/-- the pairs of a bag, as a comprehension or a loop meets them -/
theorem each_get {α β : Type} {R : α → β → Prop} : ∀ {as : List α} {bs : List β} {i : Nat} {x : α} {y : β}, EachIs R as bs → as[i]? = some x → bs[i]? = some y → R x y
  | _, _, _, _, _, .nil, h, _ => by simp at h
  | _, _, 0, _, _, .cons q t, h, g => by
    simp at h g
    subst h g
    exact q
  | _, _, i + 1, x, y, .cons q t, h, g => each_get (i := i) t (by simpa using h) (by simpa using g)
theorem ref_at {as : List Addr} {i : Nat} {v : V} (h : (as.map V.ref)[i]? = some v) : ∃ a, as[i]? = some a ∧ v = .ref a := map_at h
theorem each_map_r {α β γ : Type} {R : α → γ → Prop} (f : β → γ) : ∀ {as : List α} {bs : List β}, EachIs (fun a b => R a (f b)) as bs → EachIs R as (bs.map f)
  | _, _, .nil => .nil
  | _, _, .cons h t => .cons h (each_map_r f t)
abbrev gP2 (K : PySem.W.Frag) (i j : Nat) : TG := gTup K 2 (gCons (gName i) (gCons (gName j) gNil))
theorem gp2 {K : PySem.W.Frag} {i j : Nat} {t : Addr} {x y : V} {σ : L2.St} {H : Hp} {Q : L2.St → Hp → Prop} (hp : H t = some (.tup [x, y])) (h : Q ((σ.set i (some x)).set j (some y)) H) : gP2 K i j (.ref t) σ H Q :=
  ⟨t, _, rfl, sq_t hp, rfl, _, _, rfl, _, _, rfl, rfl, h⟩
theorem if_in {te : TE} {tt : TT} {c : Bool} {σ : L2.St} {H : Hp} {Q : VK} {Qn : Hp → Prop} (ht : ∀ Q : Bool → Hp → Prop, Q c H → tt σ H Q) (h1 : c = true → te σ H Q) (h2 : c = false → Qn H) : tt σ H fun c H3 => if c = true then te σ H3 Q else Qn H3 := by
  refine ht _ ?_
  cases c with
  | true => rw [if_pos rfl]; exact h1 rfl
  | false => rw [if_neg Bool.false_ne_true]; exact h2 rfl
section
variable {P : Program} {w : World} {K : PySem.W.Frag} {mg : Str → Option Value} {base : Heap} {f : Addr} {fd : FuncData}
def BdB (n : Nat) (b : Bag) : Prop := ∀ e ∈ b, e.2.natAbs ≤ n
theorem BdB.mono {n m : Nat} {b : Bag} (h : BdB n b) (hn : n ≤ m) : BdB m b := fun e he => Nat.le_trans (h e he) hn
/-- a pair made on the spot stands for an entry -/
theorem pair_new {H : Hp} {p q : Addr} {r : Row} {c : Int} (hp : H p = none) (hq : RowAt H q r) : PairAt (upd H p (.tup [.ref q, .int c])) p (r, c) := ⟨q, upd_same, hq.mono (same_new hp)⟩
def spScaled : Sp := fun vs H Q _ => ∃ (p : Addr) (b : Bag) (m : Int), vs = [.ref p, .int m] ∧ BagAt H p b ∧ b.length ≤ 1000 ∧ BdB (2 ^ 60) b ∧ ∀ q H', Same H H' → BagAt H' q (scaleB b m) → Q (.ref q) H'
theorem ok_scaled (F : FnP K "scaled" s_scaled f fd) : FnOk P w K mg base CX0 1 f fd ["bag", "factor"] spScaled := by
  refine F.ok sc_scaled (fun vs H Q E h => ?_) (fun cdv A outer s H vs Q E hr h => ?_)
  · obtain ⟨n, r, m, rfl, _⟩ := h
    rfl
  · obtain ⟨a, b, m, rfl, hb, hl, hbd, q⟩ := h
    refine ⟨_, PSs.nox (pss_cons (ps_if (pt_cmpR op_eq (pv 1) pe_int (nomark _)) (pss_one (ps_ret (pe_lst pa_nil))) pss_nil)
      (pss_one (ps_ret (pe_lc (own := [("row", 2), ("count", 3)]) (g := gP2 K 2 3) (tt := tYes) (by rfl) sc_scaled.nd (pi_list (pv 0))
      (blkOk_by (own := [("row", 2), ("count", 3)]) (N := ["bag", "factor", "row", "count"]) (sc := defScope s_scaled) (by decide +kernel))
      (fun _ _ _ _ _ => pg_tup rfl (pgs_cons (pg_name (i := 2) sc_scaled.nd rfl (Or.inl rfl)) (pgs_cons (pg_name (i := 3) sc_scaled.nd rfl (Or.inl rfl)) pgs_nil))) (fun _ _ _ _ _ => pts_nil)
      (fun _ _ _ _ _ => pe_tup (pa_cons (pv 2) (pa_cons (pe_op op_mul (pv 3) (pv 1)) pa_nil))))))), ?_⟩
    refine ⟨_, rfl, rfl, _, rfl, ?_⟩
    by_cases hm : m = 0
    · subst hm
      refine iteT ⟨Nat.zero_le _, fun p hp => q _ _ (same_new hp) ⟨[], upd_same, ?_⟩⟩
      unfold scaleB
      rw [if_pos rfl]
      exact .nil
    · have e : decide (V.int m = V.int 0) = false := decide_eq_false fun z => hm (by injection z)
      rw [e]
      refine iteF ?_
      obtain ⟨ts, h1, h2⟩ := id hb
      refine ⟨_, rfl, a, rfl, ⟨_, sq_l h1⟩, fun D hD => ?_⟩
      have hn : b.length = ts.length := h2.length.symm
      refine lc_same (walk_list (xs := ts.map V.ref)) b (by rw [List.length_map, hn]) (fun _ => true) (fun H v e => ∃ t, v = .ref t ∧ PairAt H t (e.1, e.2 * m)) (fun _ _ _ _ k ⟨t, e, z⟩ => ⟨t, e, z.tk k⟩) hD (fun H' s' => sq_l (s' _ _ h1)) (by rw [List.length_map]; omega) ?_ ?_
      · rintro i x e H1 _ hi he s1 ⟨rfl, hx⟩ Q' Qn k1 _
        obtain ⟨t, ht, rfl⟩ := ref_at hx
        obtain ⟨qa, p1, p2⟩ := (each_get h2 ht he).mono s1
        have hbe := hbd e (List.mem_of_getElem? he)
        refine gp2 p1 ⟨rfl, yes_in ⟨_, rfl, _, rfl, _, rfl, _, _, rfl, rfl, .inl ⟨by omega, by omega⟩, (by show 2 ≤ sizeLine; decide), fun p hp => ?_⟩⟩
        exact k1 rfl _ _ (same_new hp) ⟨p, rfl, pair_new hp p2⟩
      · intro H1 acc s1 ha he
        rw [filter_true] at he
        obtain ⟨as, rfl, hp⟩ := each_list (P := fun t (e : Row × Int) => PairAt H1 t (e.1, e.2 * m)) (fun v e z => z) he
        refine q _ _ s1 ⟨as, ha, ?_⟩
        unfold scaleB
        rw [if_neg hm]
        exact each_map_r (R := PairAt H1) (fun e : Row × Int => (e.1, e.2 * m)) hp
def spRowsOf : Sp := fun vs H Q _ => ∃ (p : Addr) (b : Bag), vs = [.ref p] ∧ BagAt H p b ∧ b.length ≤ 1000 ∧ ∀ q H', Same H H' → RowsAt H' q (posRows b) → Q (.ref q) H'
theorem ok_rows_of (F : FnP K "rows_of" s_rows_of f fd) : FnOk P w K mg base CX0 1 f fd ["bag"] spRowsOf := by
  refine F.ok sc_rows_of (fun vs H Q E h => ?_) (fun cdv A outer s H vs Q E hr h => ?_)
  · obtain ⟨n, r, rfl, _⟩ := h
    rfl
  · obtain ⟨a, b, rfl, hb, hl, q⟩ := h
    refine ⟨_, PSs.nox (pss_one (ps_ret (pe_lc (own := [("row", 1), ("count", 2)]) (g := gP2 K 1 2) (tt := tTest (tOp (rI0 fun i j => .bl (decide (i > j))) (tVar 2) (tC (.int 0)))) (by rfl) sc_rows_of.nd (pi_list (pv 0))
      (blkOk_by (own := [("row", 1), ("count", 2)]) (N := ["bag", "row", "count"]) (sc := defScope s_rows_of) (by decide +kernel))
      (fun _ _ _ _ _ => pg_tup rfl (pgs_cons (pg_name (i := 1) sc_rows_of.nd rfl (Or.inl rfl)) (pgs_cons (pg_name (i := 2) sc_rows_of.nd rfl (Or.inl rfl)) pgs_nil))) (fun _ _ _ _ _ => pts_one (pt_cmpR op_gt (pv 2) pe_int (nomark _)))
      (fun _ _ _ _ _ => pv 1)))), ?_⟩
    obtain ⟨ts, h1, h2⟩ := id hb
    refine ⟨_, rfl, a, rfl, ⟨_, sq_l h1⟩, fun D hD => ?_⟩
    have hn : b.length = ts.length := h2.length.symm
    refine lc_same (walk_list (xs := ts.map V.ref)) b (by rw [List.length_map, hn]) (fun e => decide (e.2 > 0)) (fun H v e => ∃ t, v = .ref t ∧ RowAt H t e.1) (fun _ _ _ _ k ⟨t, e, z⟩ => ⟨t, e, z.tk k⟩) hD (fun H' s' => sq_l (s' _ _ h1)) (by rw [List.length_map]; omega) ?_ ?_
    · rintro i x e H1 _ hi he s1 ⟨rfl, hx⟩ Q' Qn k1 k2
      obtain ⟨t, ht, rfl⟩ := ref_at hx
      obtain ⟨qa, p1, p2⟩ := (each_get h2 ht he).mono s1
      refine gp2 p1 ⟨rfl, if_in (c := decide (e.2 > 0)) (fun Q z => ⟨_, rfl, _, _, rfl, rfl, _, rfl, z⟩) (fun hc => ⟨_, rfl, k1 hc _ _ (Same.refl _) ⟨qa, rfl, p2⟩⟩) fun hc => k2 hc _ (Same.refl _)⟩
    · intro H1 acc s1 ha he
      obtain ⟨as, rfl, hp⟩ := each_list (P := fun t (e : Row × Int) => RowAt H1 t e.1) (fun v e z => z) he
      exact q _ _ s1 ⟨as, ha, each_map_r (R := RowAt H1) (fun e : Row × Int => e.1) hp⟩
/-- a list of rows gives the list of pairs of each row and 1 -/
def spSupport : Sp := fun vs H Q _ => ∃ (p : Addr) (b : Bag), vs = [.ref p] ∧ BagAt H p b ∧ b.length ≤ 1000 ∧ ∀ q H', Same H H' → BagAt H' q (onesB (posRows b)) → Q (.ref q) H'
theorem ok_support (F : FnP K "support" s_support f fd) (C : Cal P w K mg base "rows_of" 1 ["bag"] spRowsOf) : FnOk P w K mg base CX0 2 f fd ["bag"] spSupport := by
  refine F.ok sc_support (fun vs H Q E h => ?_) (fun cdv A outer s H vs Q E hr h => ?_)
  · obtain ⟨n, r, rfl, _⟩ := h
    rfl
  · obtain ⟨a, b, rfl, hb, hl, q⟩ := h
    refine ⟨_, PSs.nox (pss_one (ps_ret (pe_lc (own := [("row", 1)]) (g := gName 1) (tt := tYes) (by rfl) sc_support.nd (pi_list (pe_cal C hr (pa_cons (pv 0) pa_nil)))
      (blkOk_by (own := [("row", 1)]) (N := ["bag", "row"]) (sc := defScope s_support) (by decide +kernel))
      (fun _ _ _ _ _ => pg_name (i := 1) sc_support.nd rfl (Or.inl rfl)) (fun _ _ _ _ _ => pts_nil)
      (fun _ _ _ _ _ => pe_tup (pa_cons (pv 1) (pa_cons pe_int pa_nil)))))), ?_⟩
    refine ⟨_, rfl, a, b, rfl, hb, hl, fun p H0 s0 hrw => ?_⟩
    obtain ⟨ts, h1, h2⟩ := id hrw
    refine ⟨p, rfl, ⟨_, sq_l h1⟩, fun D hD => ?_⟩
    have hn : (posRows b).length = ts.length := h2.length.symm
    have hle : (posRows b).length ≤ 1000 := by
      unfold posRows
      rw [List.length_map]
      exact Nat.le_trans (List.length_filter_le ..) hl
    refine lc_same (walk_list (xs := ts.map V.ref)) (posRows b) (by rw [List.length_map, hn]) (fun _ => true) (fun H v r => ∃ t, v = .ref t ∧ PairAt H t (r, 1)) (fun _ _ _ _ k ⟨t, e, z⟩ => ⟨t, e, z.tk k⟩) hD (fun H' s' => sq_l (s' _ _ h1)) (by rw [List.length_map]; omega) ?_ ?_
    · rintro i x e H1 _ hi he s1 ⟨rfl, hx⟩ Q' Qn k1 _
      obtain ⟨t, ht, rfl⟩ := ref_at hx
      have p2 := (each_get h2 ht he).mono s1
      exact ⟨rfl, yes_in ⟨_, rfl, (by show 2 ≤ sizeLine; decide), fun p hp => k1 rfl _ _ (same_new hp) ⟨p, rfl, pair_new hp p2⟩⟩⟩
    · intro H1 acc s1 ha he
      rw [filter_true] at he
      obtain ⟨as, rfl, hp⟩ := each_list (P := fun t (r : Row) => PairAt H1 t (r, 1)) (fun v e z => z) he
      exact q _ _ (s0.trans s1) ⟨as, ha, each_map_r (R := PairAt H1) (fun r : Row => (r, 1)) hp⟩
def spCountOf : Sp := fun vs H Q _ => ∃ (p t : Addr) (b : Bag) (r : Row), vs = [.ref p, .ref t] ∧ BagAt H p b ∧ RowAt H t r ∧ b.length ≤ 1000 ∧ Q (.int (cntB b r)) H
theorem row_plain (r : Row) : (rowD r).plain = true := by
  show PyData.plainAll (r.map keyD) = true
  exact plain_map (fun x => by cases x <;> rfl) r
theorem row_depth (r : Row) : (rowD r).depth ≤ 3 := by
  have h := depth_map (enc := keyD) (fun x => by cases x <;> simp [keyD, PyData.depth]) r
  simp only [rowD, PyData.depth]
  omega
theorem eqv_rows : ∀ a b : Row, PyData.eqvAll (a.map keyD) (b.map keyD) = decide (a = b)
  | [], [] => by simp [PyData.eqvAll]
  | [], _ :: _ => by simp [PyData.eqvAll]
  | _ :: _, [] => by simp [PyData.eqvAll]
  | x :: a, y :: b => by
    rw [List.map_cons, List.map_cons, PySem.W.eqv_all_cons, eqv_key, eqv_rows a b]
    by_cases h : x = y
    · by_cases h2 : a = b <;> simp [h, h2]
    · simp [h]
theorem eqv_row (a b : Row) : PyData.eqv (rowD a) (rowD b) = decide (a = b) := by
  simp only [rowD, PyData.eqv]
  exact eqv_rows a b
theorem cntB_cons (e : Row × Int) (b : Bag) (r : Row) : cntB (e :: b) r = if e.1 = r then e.2 else cntB b r := by
  unfold cntB
  by_cases h : e.1 = r <;> simp [List.find?_cons, h]
theorem cnt_drop {b : Bag} {i : Nat} {e : Row × Int} (h : b[i]? = some e) (r : Row) : cntB (b.drop i) r = if e.1 = r then e.2 else cntB (b.drop (i + 1)) r := by
  obtain ⟨hi, he⟩ := List.getElem?_eq_some_iff.mp h
  rw [List.drop_eq_getElem_cons hi, he, cntB_cons]
theorem ok_count_of (F : FnP K "count_of" s_count_of f fd) : FnOk P w K mg base CX0 1 f fd ["bag", "row"] spCountOf := by
  refine F.ok sc_count_of (fun vs H Q E h => ?_) (fun cdv A outer s H vs Q E hr h => ?_)
  · obtain ⟨n, t, b, r, rfl, _⟩ := h
    rfl
  · obtain ⟨a, t, b, r, rfl, hb, ht, hl, q⟩ := h
    refine ⟨_, PSs.nox (pss_cons (ps_for PassesOwn.never rfl (pi_list (pv 0)) (pg_tup rfl (pgs_cons (pg_name (i := 2) sc_count_of.nd rfl (Or.inl rfl)) (pgs_cons (pg_name (i := 3) sc_count_of.nd rfl (Or.inl rfl)) pgs_nil)))
      (pss_one (ps_if (pt_cmpR (op_eqP hr.u64) (pv 2) (pv 1) (nomark _)) (pss_one (ps_ret (pv 3))) pss_nil))) (pss_one (ps_ret pe_int))), ?_⟩
    obtain ⟨ts, h1, h2⟩ := id hb
    have hn : b.length = ts.length := h2.length.symm
    refine ⟨_, rfl, a, rfl, ⟨_, sq_l h1⟩, ?_⟩
    refine for_it (walk_list (xs := ts.map V.ref)) (fun i σ H' => H' = H ∧ (∃ u v, σ = [some (.ref a), some (.ref t), u, v]) ∧ cntB (b.drop i) r = cntB b r) ⟨rfl, ⟨_, _, rfl⟩, by rw [List.drop_zero]⟩ (fun i σ H' _ z => by rw [z.1]; exact sq_l h1) ?_ ?_
    · rintro i x σ H' _ hi ⟨rfl, ⟨u, v, rfl⟩, hc⟩ ⟨rfl, hx⟩
      obtain ⟨z, hz, rfl⟩ := ref_at hx
      have hib : i < b.length := by rw [List.length_map] at hi; omega
      have he : b[i]? = some b[i] := List.getElem?_eq_getElem hib
      obtain ⟨qa, p1, p2⟩ := each_get h2 hz he
      rw [cnt_drop he] at hc
      refine gp2 p1 ⟨_, rfl, _, rfl, _, _, dp_row p2, dp_row ht, row_plain _, row_plain _, Nat.le_trans (row_depth _) (by decide), _, rfl, ?_⟩
      rw [eqv_row]
      by_cases e : b[i].1 = r
      · rw [decide_eq_true e]
        rw [if_pos e] at hc
        refine iteT ⟨_, rfl, ?_⟩
        show Q (.int b[i].2) _
        rw [hc]
        exact q
      · rw [decide_eq_false e]
        rw [if_neg e] at hc
        exact iteF ⟨rfl, ⟨_, _, rfl⟩, hc⟩
    · rintro σ H' ⟨rfl, ⟨u, v, rfl⟩, hc⟩
      rw [List.length_map, List.drop_of_length_le (by omega)] at hc
      show Q (.int 0) _
      rw [show (0 : Int) = cntB b r from hc]
      exact q
end
end KA
set_option Elab.async false
set_option linter.all false
set_option maxRecDepth 100000
set_option maxHeartbeats 4000000
/-! _law_counts, make_bag, _law_canon, plus, minus, set_bag -/
namespace KA
open PySem PySem.Spec PyProof.Rows L2
open PySem.W (EachIs)
theorem tally_snoc (ps : Bag) (e : Row × Int) : tally (ps ++ [e]) = putI (tally ps) e.1 ((valI (tally ps) e.1).getD 0 + e.2) := by
  unfold tally
  rw [List.foldl_append]
  rfl
theorem bag_take {b : Bag} {i : Nat} {e : Row × Int} (h : b[i]? = some e) : b.take (i + 1) = b.take i ++ [e] := by
  rw [List.take_add_one, h]
  rfl
theorem vk_getD (m : Bag) (r : Row) : (valV (vk m) r).getD (.int 0) = .int ((valI m r).getD 0) := by
  rw [vk_val]
  cases valI m r <;> rfl
def tCount : TS := sDPut (tVar 1) (tVar 2) (tOp (rI0 fun i j => .int (i + j)) (tDGet2 (tVar 1) (tVar 2) (tC (.int 0))) (tVar 3))
/-- the loop that fills the dict of counts -/
theorem count_loop {K : PySem.W.Frag} {a d : Addr} {ps : Bag} {H H1 : Hp} (hb : BagAt H a ps) (hl : ps.length ≤ 1000) (s1 : Same H H1) (h0 : H d = none) (h1 : H1 d = some (.dT [])) (rest : L2.St) (u0 v0 : Option V) (D : Ends)
    (done : ∀ u v H', Same H H' → H' d = some (.dT (vk (tally ps))) → D.nx ([some (.ref a), some (.ref d), u, v] ++ rest) H') :
    ∃ W : Nat → Nat → L2.St → Hp → Prop, (∃ m, W 0 m ([some (.ref a), some (.ref d), u0, v0] ++ rest) H1) ∧ ∀ i m σ H, W i m σ H →
      ((Itl K a).stop i H ∧ D.nx σ H) ∨ ((Itl K a).go i H ∧ ∃ N : L2.St → Hp → Prop, (∀ σ' H', N σ' H' → ∃ m', m' < m ∧ W (i + 1) m' σ' H') ∧ ∀ x H', (Itl K a).yld i H x H' → gP2 K 2 3 x σ H' fun σ2 H2 => tCount { D with nx := N, ct := N, bk := D.nx } σ2 H2) := by
  obtain ⟨ts, b1, b2⟩ := id hb
  have hn : ps.length = ts.length := b2.length.symm
  refine for_it (walk_list (xs := ts.map V.ref)) (fun i σ H' => (∃ u v, σ = [some (.ref a), some (.ref d), u, v] ++ rest) ∧ Same H H' ∧ H' d = some (.dT (vk (tally (ps.take i))))) ⟨⟨_, _, rfl⟩, s1, h1⟩ (fun i σ H' _ z => sq_l (z.2.1 _ _ b1)) ?_ ?_
  · rintro i x σ H' _ hi ⟨⟨u, v, rfl⟩, s2, hd⟩ ⟨rfl, hx⟩
    obtain ⟨z, hz, rfl⟩ := ref_at hx
    have hib : i < ps.length := by rw [List.length_map] at hi; omega
    have he : ps[i]? = some ps[i] := List.getElem?_eq_getElem hib
    obtain ⟨qa, p1, p2⟩ := (each_get b2 hz he).mono s2
    refine gp2 p1 ⟨_, rfl, d, rfl, .inr ⟨_, .inl hd⟩, _, rfl, _, DGet.t hd p2, _, rfl, _, _, vk_getD _ _, rfl, ?_⟩
    have hlt : (vk (tally (ps.take i))).length < sizeLine := by
      rw [List.length_map]
      have q := tally_len (ps.take i)
      rw [List.length_take] at q
      exact Nat.lt_of_lt_of_le (show _ < 2000 by omega) (by decide)
    refine ⟨_, rfl, _, rfl, d, _, rfl, DPut.t hd p2 hlt, ⟨_, _, rfl⟩, same_mut s2 h0, ?_⟩
    rw [upd_same, vk_put, bag_take he, tally_snoc]
  · rintro σ H' ⟨⟨u, v, rfl⟩, s2, hd⟩
    rw [List.length_map, List.take_of_length_le (by omega)] at hd
    exact done u v H' s2 hd
section
variable {P : Program} {w : World} {K : PySem.W.Frag} {mg : Str → Option Value} {base : Heap} {f : Addr} {fd : FuncData}
def spCounts : Sp := fun vs H Q _ => ∃ (p : Addr) (b : Bag), vs = [.ref p] ∧ BagAt H p b ∧ b.length ≤ 1000 ∧ ∀ d H', Same H H' → H d = none → H' d = some (.dT (vk (tally b))) → Q (.ref d) H'
theorem ok_counts (F : FnP K "_law_counts" s__law_counts f fd) : FnOk P w K mg base CX0 1 f fd ["pairs"] spCounts := by
  refine F.ok sc__law_counts (fun vs H Q E h => ?_) (fun cdv A outer s H vs Q E hr h => ?_)
  · obtain ⟨n, r, rfl, _⟩ := h
    rfl
  · obtain ⟨a, b, rfl, hb, hl, q⟩ := h
    refine ⟨_, PSs.nox (pss_cons (ps_set (i := 1) sc__law_counts.nd rfl (Or.inl rfl) pe_dnewT)
      (pss_cons (ps_for PassesOwn.never rfl (pi_list (pv 0)) (pg_tup rfl (pgs_cons (pg_name (i := 2) sc__law_counts.nd rfl (Or.inl rfl)) (pgs_cons (pg_name (i := 3) sc__law_counts.nd rfl (Or.inl rfl)) pgs_nil)))
        (pss_one (ps_dput hr.u1 (pv 1) (pv 2) (pe_op op_add (pe_dget2 hr.u1 (pv 1) (pv 2) pe_int ⟨rfl, rfl, rfl, rfl⟩) (pv 3)) rfl)))
      (pss_one (ps_ret (pv 1))))), ?_⟩
    refine fun d hd => ?_
    obtain ⟨ts, b1, b2⟩ := id hb
    refine ⟨_, rfl, a, rfl, ⟨_, sq_l (same_new hd _ _ b1)⟩, count_loop hb hl (same_new hd) hd upd_same [] none none _ fun u v H' s' h' => ?_⟩
    exact ⟨_, rfl, q d H' s' hd h'⟩
/-- the rows whose count is not 0, in a comprehension over the locked dict -/
theorem nz_filter (b : Bag) : ((tally b).filter fun e => decide (e.2 ≠ 0)).map (·.1) = nzRows b := by
  have key : ∀ m : Bag, (∀ e ∈ m, tot b e.1 = e.2) → (m.filter fun e => decide (e.2 ≠ 0)).map (·.1) = (m.map (·.1)).filter fun r => decide (tot b r ≠ 0) := by
    intro m
    induction m with
    | nil => intro _; rfl
    | cons e t ih =>
      intro h
      have he := h e List.mem_cons_self
      rw [List.map_cons]
      by_cases z : e.2 = 0
      · rw [List.filter_cons_of_neg (by simpa using z), List.filter_cons_of_neg (by rw [he]; simpa using z), ih fun x hx => h x (List.mem_cons_of_mem _ hx)]
      · rw [List.filter_cons_of_pos (by simpa using z), List.filter_cons_of_pos (by rw [he]; simpa using z), List.map_cons, ih fun x hx => h x (List.mem_cons_of_mem _ hx)]
  unfold nzRows
  exact key _ fun e he => by rw [← tally_tot, tot_in (tally_nodup b) he]
theorem vk_at {m : Bag} {i : Nat} {k : Row} {v : V} (h : (vk m)[i]? = some (k, v)) : ∃ e, m[i]? = some e ∧ k = e.1 ∧ v = .int e.2 := by
  rw [List.getElem?_map] at h
  cases q : m[i]? with
  | none => rw [q] at h; cases h
  | some e =>
    rw [q] at h
    have h' := Option.some.inj h
    injection h' with h1 h2
    exact ⟨e, rfl, h1.symm, h2.symm⟩
theorem val_in {m : Bag} (hn : (m.map (·.1)).Nodup) {e : Row × Int} (he : e ∈ m) : valV (vk m) e.1 = some (.int e.2) := by
  rw [vk_val]
  have h1 := valI_some he
  have h2 := valI_tot hn e.1
  rw [tot_in hn he] at h2
  cases q : valI m e.1 with
  | none => rw [q] at h1; cases h1
  | some c =>
    rw [q] at h2
    rw [show c = e.2 from h2]
    rfl
/-- what the comprehension over the locked dict makes; si, sr: the slots of the dict and of the row -/
theorem nz_comp {K : PySem.W.Frag} {si sr : Nat} {σ : L2.St} {d : Addr} {od : Obj} {b : Bag} {H : Hp} (hl : b.length ≤ 1000) (hd : H d = some (.frz od (.dT (vk (tally b))))) (hsr : sr < σ.length) (hne : si ≠ sr) (hσ : σ[si]? = some (some (.ref d))) {D : Addr} (hD : H D = none) {Qd : Hp → Prop}
    (done : ∀ H', Same H H' → RowsAt H' D (nzRows b) → Qd H') :
    ∃ W : Nat → Nat → Hp → Prop, (∃ m, W 0 m (upd H D (.lst []))) ∧ ∀ i m H, W i m H →
      ((Itkt d od (vk (tally b))).stop i H ∧ Qd H) ∨ ((Itkt d od (vk (tally b))).go i H ∧ ∃ Nx : Hp → Prop, (∀ H', Nx H' → ∃ m', m' < m ∧ W (i + 1) m' H') ∧ ∀ x H', (Itkt d od (vk (tally b))).yld i H x H' → gName sr x (wipe σ [sr]) H' fun σ2 H2 => wipe σ2 [sr] = wipe σ [sr] ∧
        tTest (tOp rNe (tDGet (tVar si) (tVar sr)) (tC (.int 0))) σ2 H2 fun b H3 => if b = true then tVar sr σ2 H3 fun y H4 => ∃ acc, H4 D = some (.lst acc) ∧ acc.length < sizeLine ∧ Nx (upd H4 D (.lst (acc ++ [y]))) else Nx H3) := by
  have hlen : (tally b).length ≤ 1000 := Nat.le_trans (tally_len b) hl
  refine lc_same walk_keysT (tally b) (by rw [List.length_map]) (fun e => decide (e.2 ≠ 0)) (fun H v e => ∃ t, v = .ref t ∧ RowAt H t e.1) (fun _ _ _ _ k ⟨t, e, z⟩ => ⟨t, e, z.tk k⟩) hD (fun H' s' => s' _ _ hd) (by rw [List.length_map]; omega) ?_ ?_
  · rintro i x e H1 _ hi he s1 ⟨rfl, k, v, t, hk, rfl, ht⟩ Q' Qn k1 k2
    obtain ⟨e', he', rfl, rfl⟩ := vk_at hk
    obtain rfl : e = e' := Option.some.inj (he.symm.trans he')
    have hd1 := s1 _ _ hd
    have w1 : wipe ((wipe σ [sr]).set sr (some (.ref t))) [sr] = wipe σ [sr] := by
      show (((σ.set sr none).set sr (some (.ref t))).set sr none) = σ.set sr none
      rw [List.set_set, List.set_set]
    have g1 : ((wipe σ [sr]).set sr (some (.ref t)))[si]? = some (some (.ref d)) := by
      show ((σ.set sr none).set sr (some (.ref t)))[si]? = _
      rw [List.getElem?_set_ne (fun z => hne z.symm), List.getElem?_set_ne (fun z => hne z.symm)]
      exact hσ
    have g2 : ((wipe σ [sr]).set sr (some (.ref t)))[sr]? = some (some (.ref t)) := by
      show ((σ.set sr none).set sr (some (.ref t)))[sr]? = _
      rw [List.getElem?_set_self (by rw [List.length_set]; exact hsr)]
    have hv := val_in (tally_nodup b) (List.mem_of_getElem? he)
    refine ⟨w1, if_in (c := decide (e.2 ≠ 0)) (fun Q z => ⟨_, g1, _, g2, d, .int e.2, rfl, .inr ⟨_, e.1, t, .inr ⟨_, hd1⟩, rfl, ht, hv.symm⟩, rfl, _, rfl, ?_⟩) (fun hc => ⟨_, g2, k1 hc _ _ (Same.refl _) ⟨t, rfl, ht⟩⟩) fun hc => k2 hc _ (Same.refl _)⟩
    have e2 : (!decide (V.int e.2 = V.int 0)) = decide (e.2 ≠ 0) := by
      by_cases z : e.2 = 0 <;> simp [z]
    rw [e2]
    exact z
  · intro H1 acc s1 ha he
    obtain ⟨as, rfl, hp⟩ := each_list (P := fun t (e : Row × Int) => RowAt H1 t e.1) (fun v e z => z) he
    refine done H1 s1 ⟨as, ha, ?_⟩
    rw [← nz_filter]
    exact each_map_r (R := RowAt H1) (fun e : Row × Int => e.1) hp
end
end KA
set_option Elab.async false
set_option linter.all false
set_option maxRecDepth 100000
set_option maxHeartbeats 4000000
/-! make_bag, _law_canon, plus, minus, set_bag -/
namespace KA
open PySem PySem.Spec PyProof.Rows L2
open PySem.W (EachIs)
theorem mem_sorted {l : List Row} {r : Row} (h : r ∈ sortRows l) : r ∈ l := (sortRows_perm l).mem_iff.mp h
theorem nz_in {b : Bag} {r : Row} (h : r ∈ nzRows b) : ∃ e ∈ tally b, e.1 = r ∧ e.2 = tot b r := by
  unfold nzRows at h
  obtain ⟨h1, h2⟩ := List.mem_filter.mp h
  obtain ⟨e, he, rfl⟩ := List.mem_map.mp h1
  exact ⟨e, he, rfl, by rw [← tot_in (tally_nodup b) he, tally_tot]⟩
theorem tally_rows {b : Bag} {e : Row × Int} (h : e ∈ tally b) : ∃ e' ∈ b, e'.1 = e.1 := by
  have key : ∀ (ps m : Bag) (r : Row), r ∈ (ps.foldl (fun m e => putI m e.1 ((valI m e.1).getD 0 + e.2)) m).map (·.1) → r ∈ m.map (·.1) ∨ r ∈ ps.map (·.1) := by
    intro ps
    induction ps with
    | nil => exact fun m r h => .inl h
    | cons x t ih =>
      intro m r h
      rw [List.foldl_cons] at h
      rcases ih _ _ h with q | q
      · rcases putI_keys m x.1 ((valI m x.1).getD 0 + x.2) with ⟨_, e⟩ | ⟨_, e⟩
        · rw [e] at q; exact .inl q
        · rw [e] at q
          rcases List.mem_append.mp q with q | q
          · exact .inl q
          · exact .inr (by rw [List.mem_singleton.mp q]; exact List.mem_map.mpr ⟨x, List.mem_cons_self, rfl⟩)
      · exact .inr (by
          obtain ⟨y, hy, e⟩ := List.mem_map.mp q
          exact List.mem_map.mpr ⟨y, List.mem_cons_of_mem _ hy, e⟩)
  rcases key b [] e.1 (List.mem_map.mpr ⟨e, h, rfl⟩) with q | q
  · cases q
  · obtain ⟨y, hy, z⟩ := List.mem_map.mp q
    exact ⟨y, hy, z⟩
def RowB (n : Nat) (b : Bag) : Prop := ∀ e ∈ b, e.1.length ≤ n
theorem nz_len {n : Nat} {b : Bag} (h : RowB n b) : ∀ r ∈ nzRows b, r.length ≤ n := fun r hr => by
  obtain ⟨e, he, rfl, _⟩ := nz_in hr
  obtain ⟨e', he', z⟩ := tally_rows he
  rw [← z]
  exact h e' he'
theorem each_sorted {R : Addr → Row → Prop} {l : List Row} {as : List Addr} (h : EachIs R as (sortRows l)) : as.length = l.length := by rw [h.length, (sortRows_perm l).length_eq]
/-- the comprehension that makes the pairs of the sorted rows -/
theorem pair_comp {K : PySem.W.Frag} {sd sr : Nat} {σ : L2.St} {p d : Addr} {b : Bag} {H : Hp} (hl : b.length ≤ 1000) (hp : RowsAt H p (sortRows (nzRows b))) (hd : H d = some (.dT (vk (tally b)))) (hsr : sr < σ.length) (hne : sd ≠ sr) (hσ : σ[sd]? = some (some (.ref d)))
    {D : Addr} (hD : H D = none) {Qd : Hp → Prop} (done : ∀ H', Same H H' → BagAt H' D (mk b) → Qd H') :
    ∃ W : Nat → Nat → Hp → Prop, (∃ m, W 0 m (upd H D (.lst []))) ∧ ∀ i m H, W i m H →
      ((Itl K p).stop i H ∧ Qd H) ∨ ((Itl K p).go i H ∧ ∃ Nx : Hp → Prop, (∀ H', Nx H' → ∃ m', m' < m ∧ W (i + 1) m' H') ∧ ∀ x H', (Itl K p).yld i H x H' → gName sr x (wipe σ [sr]) H' fun σ2 H2 => wipe σ2 [sr] = wipe σ [sr] ∧
        tYes σ2 H2 fun b H3 => if b = true then tTup (tCons (tVar sr) (tCons (tDGet (tVar sd) (tVar sr)) tNil)) σ2 H3 fun y H4 => ∃ acc, H4 D = some (.lst acc) ∧ acc.length < sizeLine ∧ Nx (upd H4 D (.lst (acc ++ [y]))) else Nx H3) := by
  obtain ⟨as, h1, h2⟩ := id hp
  have hlen : as.length ≤ 1000 := by
    rw [each_sorted h2]
    unfold nzRows
    refine Nat.le_trans (List.length_filter_le ..) ?_
    rw [List.length_map]
    exact Nat.le_trans (tally_len b) hl
  refine lc_same (walk_list (xs := as.map V.ref)) (sortRows (nzRows b)) (by rw [List.length_map, h2.length]) (fun _ => true) (fun H v r => ∃ t, v = .ref t ∧ PairAt H t (r, tot b r)) (fun _ _ _ _ k ⟨t, e, z⟩ => ⟨t, e, z.tk k⟩) hD (fun H' s' => sq_l (s' _ _ h1)) (by rw [List.length_map]; omega) ?_ ?_
  · rintro i x r H1 _ hi he s1 ⟨rfl, hx⟩ Q' Qn k1 _
    obtain ⟨t, ht, rfl⟩ := ref_at hx
    have p2 := (each_get h2 ht he).mono s1
    have hd1 := s1 _ _ hd
    have w1 : wipe ((wipe σ [sr]).set sr (some (.ref t))) [sr] = wipe σ [sr] := by
      show (((σ.set sr none).set sr (some (.ref t))).set sr none) = σ.set sr none
      rw [List.set_set, List.set_set]
    have g1 : ((wipe σ [sr]).set sr (some (.ref t)))[sd]? = some (some (.ref d)) := by
      show ((σ.set sr none).set sr (some (.ref t)))[sd]? = _
      rw [List.getElem?_set_ne (fun z => hne z.symm), List.getElem?_set_ne (fun z => hne z.symm)]
      exact hσ
    have g2 : ((wipe σ [sr]).set sr (some (.ref t)))[sr]? = some (some (.ref t)) := by
      show ((σ.set sr none).set sr (some (.ref t)))[sr]? = _
      rw [List.getElem?_set_self (by rw [List.length_set]; exact hsr)]
    obtain ⟨e, hm, rfl, hc⟩ := nz_in (mem_sorted (List.mem_of_getElem? he))
    have hv := val_in (tally_nodup b) hm
    refine ⟨w1, yes_in ⟨_, g2, _, g1, _, g2, d, .int e.2, rfl, .inr ⟨_, e.1, t, .inl hd1, rfl, p2, hv.symm⟩, (by show 2 ≤ sizeLine; decide), fun q hq => ?_⟩⟩
    rw [hc]
    exact k1 rfl _ _ (same_new hq) ⟨q, rfl, pair_new hq p2⟩
  · intro H1 acc s1 ha he
    rw [filter_true] at he
    obtain ⟨cs, rfl, hc⟩ := each_list (P := fun t (r : Row) => PairAt H1 t (r, tot b r)) (fun v e z => z) he
    exact done H1 s1 ⟨cs, ha, each_map_r (R := PairAt H1) (fun r : Row => (r, tot b r)) hc⟩
section
variable {P : Program} {w : World} {K : PySem.W.Frag} {mg : Str → Option Value} {base : Heap} {f : Addr} {fd : FuncData}
def spMakeBag : Sp := fun vs H Q _ => ∃ (p : Addr) (b : Bag), vs = [.ref p] ∧ BagAt H p b ∧ b.length ≤ 1000 ∧ RowB 1000 b ∧ ∀ q H', Same H H' → BagAt H' q (mk b) → Q (.ref q) H'
theorem ok_make_bag (F : FnP K "make_bag" s_make_bag f fd) (gS : mg "sorted" = none) (C : Cal P w K mg base "row_rank" 2 ["row"] (spKey K rankRow)) : FnOk P w K mg base CX0 5 f fd ["pairs"] spMakeBag := by
  obtain ⟨fR, fdR, gR, kR, bR, GR⟩ := C
  refine F.ok sc_make_bag (fun vs H Q E h => ?_) (fun cdv A outer s H vs Q E hr h => ?_)
  · obtain ⟨n, r, rfl, _⟩ := h
    rfl
  · obtain ⟨a, b, rfl, hb, hl, hrb, q⟩ := h
    have hcall : ∀ E0 : XK, KeyCall (cxOf CX0 P w K mg base ["pairs", "counts", "row", "count", "rows"] "make_bag" (defScope s_make_bag) f cdv A outer s H E0).nox rankRow fR := fun _ => keyCall_of GR bR hr
    refine ⟨_, PSs.nox (pss_cons (ps_set (i := 1) sc_make_bag.nd rfl (Or.inr rfl) pe_dnewT)
      (pss_cons (ps_for PassesOwn.never rfl (pi_list (pv 0)) (pg_tup rfl (pgs_cons (pg_name (i := 2) sc_make_bag.nd rfl (Or.inl rfl)) (pgs_cons (pg_name (i := 3) sc_make_bag.nd rfl (Or.inl rfl)) pgs_nil)))
        (pss_one (ps_dput hr.u1 (pv 1) (pv 2) (pe_op op_add (pe_dget2 hr.u1 (pv 1) (pv 2) pe_int ⟨rfl, rfl, rfl, rfl⟩) (pv 3)) rfl)))
      (pss_cons (ps_lock (ps_setLc (i := 4) (own := [("row", 2)]) (g := gName 2) (tt := tTest (tOp rNe (tDGet (tVar 1) (tVar 2)) (tC (.int 0)))) (by rfl) sc_make_bag.nd rfl rfl (sw_true rfl rfl rfl (by decide +kernel)) (pi_keys (pv 1))
        (blkOk_by (own := [("row", 2)]) (N := ["pairs", "counts", "row", "count", "rows"]) (sc := defScope s_make_bag) (by decide +kernel)) (fun _ _ _ _ _ => pg_name (i := 2) sc_make_bag.nd rfl (Or.inl rfl))
        (fun _ _ _ _ _ => pts_one (pt_cmpR op_ne (pe_dget hr.u1 (pv 1) (pv 2) (fun _ _ => rfl)) pe_int (nomark _))) (fun _ _ _ _ _ => pv 2)))
      (pss_one (ps_ret (pe_lc (own := [("row", 2)]) (g := gName 2) (tt := tYes) (by rfl) sc_make_bag.nd
        (pi_list (pe_callBK (cr_sortKey tells_rank (fun _ _ _ _ _ _ e u => sorts_rank e u) (hcall _) hr.u64 rfl) (by rfl) gS (by decide +kernel) (pa_cons (pv 4) pa_nil) (pk_cons (pe_glob (v := .ref fR) rfl gR rfl) pk_nil)))
        (blkOk_by (own := [("row", 2)]) (N := ["pairs", "counts", "row", "count", "rows"]) (sc := defScope s_make_bag) (by decide +kernel)) (fun _ _ _ _ _ => pg_name (i := 2) sc_make_bag.nd rfl (Or.inl rfl)) (fun _ _ _ _ _ => pts_nil)
        (fun _ _ _ _ _ => pe_tup (pa_cons (pv 2) (pa_cons (pe_dget hr.u1 (pv 1) (pv 2) (fun _ _ => rfl)) pa_nil))))))))), ?_⟩
    refine fun d hd => ?_
    obtain ⟨ts, b1, b2⟩ := id hb
    refine ⟨_, rfl, a, rfl, ⟨_, sq_l (same_new hd _ _ b1)⟩, count_loop hb hl (same_new hd) hd upd_same [none] none none _ fun u v H1 s1 h1 => ?_⟩
    refine ⟨d, _, h1, trivial, fun od => ?_⟩
    refine ⟨_, rfl, d, od, rfl, .inr ⟨_, upd_same, fun D hD => ?_⟩⟩
    have nD : D ≠ d := fun z => by
      rw [z, upd_same] at hD
      cases hD
    refine nz_comp (K := K) (si := 1) (sr := 2) (b := b) hl upd_same (by show 2 < 5; decide) (by decide) rfl hD fun H2 s2 hrw => ?_
    refine ⟨s2 _ _ upd_same, ?_⟩
    have s3 : Same H (upd H2 d (.dT (vk (tally b)))) := fun c o hc => by
      have nc : c ≠ d := ne_of_none hc hd
      rw [upd_ne nc]
      refine s2 _ _ ?_
      rw [upd_ne nc]
      exact s1 _ _ hc
    have hrw2 : RowsAt (upd H2 d (.dT (vk (tally b)))) D (nzRows b) := by
      obtain ⟨as, r1, r2⟩ := hrw
      have hdf := s2 _ _ (upd_same (H := H1) (a := d) (o := .frz od (.dT (vk (tally b)))))
      have tk : TupKeep H2 (upd H2 d (.dT (vk (tally b)))) := tk_upd fun xs z => by
        rw [hdf] at z
        cases z
      exact ⟨as, by rw [upd_ne nD]; exact r1, r2.mono fun t r z => z.tk tk⟩
    obtain ⟨as, r1, r2⟩ := id hrw2
    refine ⟨_, rfl, D, as, nzRows b, rfl, rfl, sq_l r1, r2, nz_len hrb, fun c hc => s3.free hc, fun p H4 s4 hp4 hso => ?_⟩
    refine ⟨p, rfl, ?_, fun D2 hD2 => ?_⟩
    · obtain ⟨cs, c1, _⟩ := id hso
      exact ⟨_, sq_l c1⟩
    · exact pair_comp (K := K) (sd := 1) (sr := 2) hl hso (s4 _ _ upd_same) (by show 2 < 5; decide) (by decide) rfl hD2 fun H5 s5 hbag => q _ _ ((s3.trans s4).trans s5) hbag
def spCanon : Sp := fun vs H Q _ => ∃ (d : Addr) (b : Bag), vs = [.ref d] ∧ H d = some (.dT (vk (tally b))) ∧ b.length ≤ 1000 ∧ RowB 1000 b ∧ ∀ q H', Same H H' → BagAt H' q (mk b) → Q (.ref q) H'
theorem ok_canon (F : FnP K "_law_canon" s__law_canon f fd) (gS : mg "sorted" = none) (C : Cal P w K mg base "_law_key" 1 ["row"] (spLawKey K)) : FnOk P w K mg base CX0 4 f fd ["counts"] spCanon := by
  obtain ⟨fR, fdR, gR, kR, bR, GR0⟩ := C
  have GR : FnOk P w K mg base CX0 1 fR fdR ["row"] (spKey K lawRow) := GR0.imp fun vs H Q E ⟨q, r, e, h1, h2, h3⟩ => ⟨q, r, e, .inl h1, h2, h3⟩
  refine F.ok sc__law_canon (fun vs H Q E h => ?_) (fun cdv A outer s H vs Q E hr h => ?_)
  · obtain ⟨n, r, rfl, _⟩ := h
    rfl
  · obtain ⟨d, b, rfl, hd, hl, hrb, q⟩ := h
    have hcall : ∀ E0 : XK, KeyCall (cxOf CX0 P w K mg base ["counts", "rows", "row"] "_law_canon" (defScope s__law_canon) f cdv A outer s H E0).nox lawRow fR := fun _ => keyCall_of GR bR hr
    refine ⟨_, PSs.nox (pss_cons (ps_set (i := 1) sc__law_canon.nd rfl (Or.inl rfl)
      (pe_callBK (cr_sortKey tells_law (fun _ _ _ _ _ _ e u => sorts_law e u) (hcall _) hr.u64 rfl) (by rfl) gS (by decide +kernel)
        (pa_cons (pe_lock (pe_lc (own := [("row", 2)]) (g := gName 2) (tt := tTest (tOp rNe (tDGet (tVar 0) (tVar 2)) (tC (.int 0)))) (by rfl) sc__law_canon.nd (pi_keys (pv 0))
          (blkOk_by (own := [("row", 2)]) (N := ["counts", "rows", "row"]) (sc := defScope s__law_canon) (by decide +kernel)) (fun _ _ _ _ _ => pg_name (i := 2) sc__law_canon.nd rfl (Or.inl rfl))
          (fun _ _ _ _ _ => pts_one (pt_cmpR op_ne (pe_dget hr.u1 (pv 0) (pv 2) (fun _ _ => rfl)) pe_int (nomark _))) (fun _ _ _ _ _ => pv 2))) pa_nil)
        (pk_cons (pe_glob (v := .ref fR) rfl gR rfl) pk_nil)))
      (pss_one (ps_ret (pe_lc (own := [("row", 2)]) (g := gName 2) (tt := tYes) (by rfl) sc__law_canon.nd (pi_list (pv 1))
        (blkOk_by (own := [("row", 2)]) (N := ["counts", "rows", "row"]) (sc := defScope s__law_canon) (by decide +kernel)) (fun _ _ _ _ _ => pg_name (i := 2) sc__law_canon.nd rfl (Or.inl rfl)) (fun _ _ _ _ _ => pts_nil)
        (fun _ _ _ _ _ => pe_tup (pa_cons (pv 2) (pa_cons (pe_dget hr.u1 (pv 0) (pv 2) (fun _ _ => rfl)) pa_nil))))))), ?_⟩
    refine ⟨d, _, hd, trivial, fun od => ?_⟩
    refine ⟨_, rfl, d, od, rfl, .inr ⟨_, upd_same, fun D hD => ?_⟩⟩
    have nD : D ≠ d := fun z => by
      rw [z, upd_same] at hD
      cases hD
    refine nz_comp (K := K) (si := 0) (sr := 2) (b := b) hl upd_same (by show 2 < 3; decide) (by decide) rfl hD fun H2 s2 hrw => ?_
    refine ⟨s2 _ _ upd_same, ?_⟩
    have s3 : Same H (upd H2 d (.dT (vk (tally b)))) := fun c o hc => by
      by_cases nc : c = d
      · rw [nc, hd] at hc
        rw [nc, upd_same]
        exact hc
      · rw [upd_ne nc]
        refine s2 _ _ ?_
        rw [upd_ne nc]
        exact hc
    have hrw2 : RowsAt (upd H2 d (.dT (vk (tally b)))) D (nzRows b) := by
      obtain ⟨as, r1, r2⟩ := hrw
      have hdf := s2 _ _ (upd_same (H := H) (a := d) (o := .frz od (.dT (vk (tally b)))))
      have tk : TupKeep H2 (upd H2 d (.dT (vk (tally b)))) := tk_upd fun xs z => by
        rw [hdf] at z
        cases z
      exact ⟨as, by rw [upd_ne nD]; exact r1, r2.mono fun t r z => z.tk tk⟩
    obtain ⟨as, r1, r2⟩ := id hrw2
    refine ⟨D, as, nzRows b, rfl, rfl, sq_l r1, r2, nz_len hrb, fun c hc => s3.free hc, fun p H4 s4 hp4 hso => ?_⟩
    obtain ⟨cs, c1, c2⟩ := id hso
    refine ⟨_, rfl, p, rfl, ⟨_, sq_l c1⟩, fun D2 hD2 => ?_⟩
    exact pair_comp (K := K) (sd := 0) (sr := 2) hl hso (s4 _ _ upd_same) (by show 2 < 3; decide) (by decide) rfl hD2 fun H5 s5 hbag => q _ _ ((s3.trans s4).trans s5) hbag
theorem bag_app {H : Hp} {p : Addr} {ts us : List Addr} {a b : Bag} (hp : H p = some (.lst (ts.map V.ref ++ us.map V.ref))) (h1 : EachIs (PairAt H) ts a) (h2 : EachIs (PairAt H) us b) : BagAt H p (a ++ b) := by
  refine ⟨ts ++ us, by rw [List.map_append]; exact hp, ?_⟩
  clear hp
  induction h1 with
  | nil => exact h2
  | cons h t ih => exact .cons h ih
theorem RowB.app {n : Nat} {a b : Bag} (h1 : RowB n a) (h2 : RowB n b) : RowB n (a ++ b) := fun e he => (List.mem_append.mp he).elim (h1 e) (h2 e)
theorem BdB.app {n : Nat} {a b : Bag} (h1 : BdB n a) (h2 : BdB n b) : BdB n (a ++ b) := fun e he => (List.mem_append.mp he).elim (h1 e) (h2 e)
theorem rowB_scale {n : Nat} {b : Bag} (h : RowB n b) (m : Int) : RowB n (scaleB b m) := fun e he => by
  unfold scaleB at he
  split at he
  · cases he
  · obtain ⟨x, hx, rfl⟩ := List.mem_map.mp he
    exact h x hx
theorem len_scale (b : Bag) (m : Int) : (scaleB b m).length ≤ b.length := by
  unfold scaleB
  split
  · exact Nat.zero_le _
  · rw [List.length_map]; exact Nat.le_refl _
def spPlus : Sp := fun vs H Q _ => ∃ (p t : Addr) (a b : Bag), vs = [.ref p, .ref t] ∧ BagAt H p a ∧ BagAt H t b ∧ a.length ≤ 400 ∧ b.length ≤ 400 ∧ RowB 1000 a ∧ RowB 1000 b ∧ ∀ q H', Same H H' → BagAt H' q (mk (a ++ b)) → Q (.ref q) H'
theorem cat_in {ts us : List Addr} {a b : Bag} {H : Hp} (h1 : EachIs (PairAt H) ts a) (h2 : EachIs (PairAt H) us b) (la : a.length ≤ 400) (lb : b.length ≤ 400) : (ts.map V.ref).length ≤ sizeLine ∧ (us.map V.ref).length ≤ sizeLine ∧ (ts.map V.ref).length + (us.map V.ref).length ≤ sizeLine := by
  rw [List.length_map, List.length_map, h1.length, h2.length]
  refine ⟨?_, ?_, ?_⟩ <;> exact Nat.le_trans (show _ ≤ 800 by omega) (by decide)
theorem ok_plus (F : FnP K "plus" s_plus f fd) (C : Cal P w K mg base "make_bag" 5 ["pairs"] spMakeBag) : FnOk P w K mg base CX0 6 f fd ["first", "second"] spPlus := by
  refine F.ok sc_plus (fun vs H Q E h => ?_) (fun cdv A outer s H vs Q E hr h => ?_)
  · obtain ⟨n, r, a, b, rfl, _⟩ := h
    rfl
  · obtain ⟨p, t, a, b, rfl, ha, hb, la, lb, ra, rb, q⟩ := h
    refine ⟨_, PSs.nox (pss_one (ps_ret (pe_cal C hr (pa_cons (pe_op op_cat (pv 0) (pv 1)) pa_nil)))), ?_⟩
    obtain ⟨ts, a1, a2⟩ := id ha
    obtain ⟨us, b1, b2⟩ := id hb
    refine ⟨_, rfl, _, rfl, p, t, _, _, rfl, rfl, a1, b1, (cat_in a2 b2 la lb).2.2, fun l hl => ?_⟩
    have s1 := same_new (o := .lst (ts.map V.ref ++ us.map V.ref)) hl
    refine ⟨l, a ++ b, rfl, bag_app upd_same (a2.mono fun _ _ z => z.mono s1) (b2.mono fun _ _ z => z.mono s1), by rw [List.length_append]; omega, ra.app rb, fun r H' s' hb' => q _ _ (s1.trans s') hb'⟩
def spMinus : Sp := fun vs H Q _ => ∃ (p t : Addr) (a b : Bag), vs = [.ref p, .ref t] ∧ BagAt H p a ∧ BagAt H t b ∧ a.length ≤ 400 ∧ b.length ≤ 400 ∧ RowB 1000 a ∧ RowB 1000 b ∧ BdB (2 ^ 60) b ∧ ∀ q H', Same H H' → BagAt H' q (mk (a ++ scaleB b (-1))) → Q (.ref q) H'
theorem ok_minus (F : FnP K "minus" s_minus f fd) (C : Cal P w K mg base "plus" 6 ["first", "second"] spPlus) (CS : Cal P w K mg base "scaled" 1 ["bag", "factor"] spScaled) : FnOk P w K mg base CX0 7 f fd ["first", "second"] spMinus := by
  refine F.ok sc_minus (fun vs H Q E h => ?_) (fun cdv A outer s H vs Q E hr h => ?_)
  · obtain ⟨n, r, a, b, rfl, _⟩ := h
    rfl
  · obtain ⟨p, t, a, b, rfl, ha, hb, la, lb, ra, rb, bb, q⟩ := h
    refine ⟨_, PSs.nox (pss_one (ps_ret (pe_cal C hr (pa_cons (pv 0) (pa_cons (pe_cal CS hr.lt (pa_cons (pv 1) (pa_cons (pe_un un_neg pe_int) pa_nil))) pa_nil))))), ?_⟩
    refine ⟨_, rfl, _, rfl, _, rfl, t, b, -1, rfl, hb, by omega, bb, fun r H1 s1 hb1 => ?_⟩
    refine ⟨p, r, a, _, rfl, ha.mono s1, hb1, la, Nat.le_trans (len_scale b _) lb, ra, rowB_scale rb _, fun r' H' s' hb' => q _ _ (s1.trans s') hb'⟩
def spSetBag : Sp := fun vs H Q _ => ∃ (p : Addr) (rs : List Row), vs = [.ref p] ∧ RowsAt H p rs ∧ rs.length ≤ 1000 ∧ (∀ r ∈ rs, r.length ≤ 1000) ∧ ∀ q H', Same H H' → BagAt H' q (onesB (posRows (mk (onesB rs)))) → Q (.ref q) H'
theorem ok_set_bag (F : FnP K "set_bag" s_set_bag f fd) (C : Cal P w K mg base "support" 2 ["bag"] spSupport) (CM : Cal P w K mg base "make_bag" 5 ["pairs"] spMakeBag) : FnOk P w K mg base CX0 6 f fd ["rows"] spSetBag := by
  refine F.ok sc_set_bag (fun vs H Q E h => ?_) (fun cdv A outer s H vs Q E hr h => ?_)
  · obtain ⟨n, r, rfl, _⟩ := h
    rfl
  · obtain ⟨a, rs, rfl, hrs, hl, hrb, q⟩ := h
    refine ⟨_, PSs.nox (pss_one (ps_ret (pe_cal C hr.lt (pa_cons (pe_cal CM hr.lt (pa_cons (pe_lc (own := [("row", 1)]) (g := gName 1) (tt := tYes) (by rfl) sc_set_bag.nd (pi_list (pv 0))
      (blkOk_by (own := [("row", 1)]) (N := ["rows", "row"]) (sc := defScope s_set_bag) (by decide +kernel)) (fun _ _ _ _ _ => pg_name (i := 1) sc_set_bag.nd rfl (Or.inl rfl)) (fun _ _ _ _ _ => pts_nil)
      (fun _ _ _ _ _ => pe_tup (pa_cons (pv 1) (pa_cons pe_int pa_nil)))) pa_nil)) pa_nil)))), ?_⟩
    obtain ⟨ts, h1, h2⟩ := id hrs
    refine ⟨_, rfl, a, rfl, ⟨_, sq_l h1⟩, fun D hD => ?_⟩
    have hn : rs.length = ts.length := h2.length.symm
    refine lc_same (walk_list (xs := ts.map V.ref)) rs (by rw [List.length_map, hn]) (fun _ => true) (fun H v r => ∃ t, v = .ref t ∧ PairAt H t (r, 1)) (fun _ _ _ _ k ⟨t, e, z⟩ => ⟨t, e, z.tk k⟩) hD (fun H' s' => sq_l (s' _ _ h1)) (by rw [List.length_map]; omega) ?_ ?_
    · rintro i x e H1 _ hi he s1 ⟨rfl, hx⟩ Q' Qn k1 _
      obtain ⟨t, ht, rfl⟩ := ref_at hx
      have p2 := (each_get h2 ht he).mono s1
      exact ⟨rfl, yes_in ⟨_, rfl, (by show 2 ≤ sizeLine; decide), fun p hp => k1 rfl _ _ (same_new hp) ⟨p, rfl, pair_new hp p2⟩⟩⟩
    · intro H1 acc s1 ha he
      rw [filter_true] at he
      obtain ⟨as, rfl, hp⟩ := each_list (P := fun t (r : Row) => PairAt H1 t (r, 1)) (fun v e z => z) he
      have hbag : BagAt H1 D (onesB rs) := ⟨as, ha, each_map_r (R := PairAt H1) (fun r : Row => (r, 1)) hp⟩
      have hlo : (onesB rs).length ≤ 1000 := by
        unfold onesB
        rw [List.length_map]
        exact hl
      have hro : RowB 1000 (onesB rs) := fun e he => by
        obtain ⟨r, hr', rfl⟩ := List.mem_map.mp he
        exact hrb r hr'
      refine ⟨D, _, rfl, hbag, hlo, hro, fun r H2 s2 hb2 => ?_⟩
      exact ⟨r, _, rfl, hb2, Nat.le_trans (mk_len _) hlo, fun r' H' s' hb' => q _ _ ((s1.trans s2).trans s') hb'⟩
end
end KA
set_option Elab.async false
set_option linter.all false
set_option maxRecDepth 100000
set_option maxHeartbeats 4000000
/-! the law's own draws: a state of two lists that each draw changes -/
namespace KA
open PySem PySem.Spec PyProof.Rows L2
open PySem.W (EachIs)
/-- the state at st: its cells at cl, its seed -/
structure StateAt (H : Hp) (st cl : Addr) (cells : List Int) (seed : Int) : Prop where
  hs : H st = some (.lst [.ref cl, .int seed])
  hc : H cl = some (.lst (cells.map V.int))
  lo : 0 ≤ seed
  hi : seed < 2147483648
  len : cells.length ≤ 63
  nn : ∀ c ∈ cells, 0 ≤ c
def StOk (H : Hp) (st cl : Addr) : Prop := ∃ cells seed, StateAt H st cl cells seed
theorem StateAt.ne {H : Hp} {st cl : Addr} {cells : List Int} {seed : Int} (S : StateAt H st cl cells seed) : st ≠ cl := fun e => by
  have h1 := S.hs
  have h2 := S.hc
  rw [e, h2] at h1
  have h3 : cells.map V.int = [V.ref cl, V.int seed] := by injection (Option.some.inj h1)
  cases cells with
  | nil => cases h3
  | cons c t => injection h3 with h4 _; cases h4
/-- what a draw leaves: all objects but the state's two, a state, no cells if there were none -/
structure Drawn (st cl : Addr) (H H' : Hp) : Prop where
  but : ∀ a o, a ≠ st → a ≠ cl → H a = some o → H' a = some o
  ok : StOk H' st cl
  nil : H cl = some (.lst []) → H' cl = some (.lst [])
theorem Drawn.trans {st cl : Addr} {H H1 H2 : Hp} (a : Drawn st cl H H1) (b : Drawn st cl H1 H2) : Drawn st cl H H2 := ⟨fun x o h1 h2 h => b.but x o h1 h2 (a.but x o h1 h2 h), b.ok, fun h => b.nil (a.nil h)⟩
theorem Drawn.refl {st cl : Addr} {H : Hp} (h : StOk H st cl) : Drawn st cl H H := ⟨fun _ _ _ _ h => h, h, fun h => h⟩
theorem StOk.same {H H' : Hp} {st cl : Addr} (s : Same H H') (h : StOk H st cl) : StOk H' st cl := by
  obtain ⟨c, z, S⟩ := h
  exact ⟨c, z, s _ _ S.hs, s _ _ S.hc, S.lo, S.hi, S.len, S.nn⟩
theorem Drawn.of_same {H H' : Hp} {st cl : Addr} (s : Same H H') (h : StOk H st cl) : Drawn st cl H H' := ⟨fun _ _ _ _ q => s _ _ q, h.same s, fun q => s _ _ q⟩
theorem Drawn.tk {st cl : Addr} {H H' : Hp} (d : Drawn st cl H H') (h : StOk H st cl) : TupKeep H H' := .of fun a xs q => by
  obtain ⟨c, z, S⟩ := h
  refine d.but a _ (fun e => ?_) (fun e => ?_) q
  · rw [e, S.hs] at q; cases q
  · rw [e, S.hc] at q; cases q
/-- a list of objects is not one of the state's two, or it is empty as those cells are -/
theorem Drawn.refs {st cl : Addr} {H H' : Hp} (d : Drawn st cl H H') (h : StOk H st cl) {p : Addr} {ts : List Addr} (q : H p = some (.lst (ts.map V.ref))) : H' p = some (.lst (ts.map V.ref)) := by
  obtain ⟨c, z, S⟩ := h
  by_cases e1 : p = st
  · rw [e1, S.hs] at q
    have q' : [V.ref cl, V.int z] = ts.map V.ref := by injection (Option.some.inj q)
    match ts, q' with
    | [], q' => cases q'
    | [_], q' => injection q' with _ q2; cases q2
    | _ :: _ :: _, q' =>
      injection q' with _ q2
      injection q2 with q3 _
      cases q3
  · by_cases e2 : p = cl
    · rw [e2, S.hc] at q
      have q' : c.map V.int = ts.map V.ref := by injection (Option.some.inj q)
      cases c with
      | nil =>
        cases ts with
        | nil => rw [e2]; exact d.nil S.hc
        | cons _ _ => cases q'
      | cons c t =>
        cases ts with
        | nil => cases q'
        | cons _ _ => injection q' with q3 _; cases q3
    · exact d.but p _ e1 e2 q
theorem BagAt.drawn {st cl : Addr} {H H' : Hp} (d : Drawn st cl H H') (h : StOk H st cl) {p : Addr} {b : Bag} (q : BagAt H p b) : BagAt H' p b := by
  obtain ⟨ts, h1, h2⟩ := q
  exact ⟨ts, d.refs h h1, h2.mono fun _ _ z => z.tk (d.tk h)⟩
theorem RowsAt.drawn {st cl : Addr} {H H' : Hp} (d : Drawn st cl H H') (h : StOk H st cl) {p : Addr} {b : List Row} (q : RowsAt H p b) : RowsAt H' p b := by
  obtain ⟨ts, h1, h2⟩ := q
  exact ⟨ts, d.refs h h1, h2.mono fun _ _ z => z.tk (d.tk h)⟩
section
variable {P : Program} {w : World} {K : PySem.W.Frag} {mg : Str → Option Value} {base : Heap} {f : Addr} {fd : FuncData}
def spState (K : PySem.W.Frag) : Sp := fun vs H Q _ => ∃ (a : Addr) (ns : List Int), vs = [.ref a] ∧ SqL K H a (ns.map V.int) ∧ ns.length ≤ 63 ∧ ∀ st cl H', Same H H' → StOk H' st cl → Q (.ref st) H'
theorem int_at {ns : List Int} {i : Nat} {v : V} (h : (ns.map V.int)[i]? = some v) : ∃ n, ns[i]? = some n ∧ v = .int n := map_at h
theorem ok_state (F : FnP K "_law_state" s__law_state f fd) (gI : mg "int" = none) (gA : mg "abs" = none) : FnOk P w K mg base CX0 1 f fd ["script"] (spState K) := by
  refine F.ok sc__law_state (fun vs H Q E h => ?_) (fun cdv A outer s H vs Q E hr h => ?_)
  · obtain ⟨n, r, rfl, _⟩ := h
    rfl
  · obtain ⟨a, ns, rfl, hS, hl, q⟩ := h
    refine ⟨_, PSs.nox (pss_cons (ps_set (i := 1) sc__law_state.nd rfl (Or.inl rfl) pe_int)
      (pss_cons (ps_for PassesOwn.never rfl (pi_list (pv 0)) (pg_name (i := 2) sc__law_state.nd rfl (Or.inl rfl))
        (pss_one (ps_set (i := 1) sc__law_state.nd rfl (Or.inl rfl) (pe_op op_mod (pe_callTy call_int1 (by rfl) gI (by decide +kernel) (pa_cons (pe_op op_add (pe_op op_mul (pv 1) pe_int) (pv 2)) pa_nil)) pe_int))))
      (pss_one (ps_ret (pe_lst (pa_cons (pe_lc (own := [("cell", 2)]) (g := gName 2) (tt := tYes) (by rfl) sc__law_state.nd (pi_list (pv 0))
        (blkOk_by (own := [("cell", 2)]) (N := ["script", "seed", "cell"]) (sc := defScope s__law_state) (by decide +kernel)) (fun _ _ _ _ _ => pg_name (i := 2) sc__law_state.nd rfl (Or.inl rfl)) (fun _ _ _ _ _ => pts_nil)
        (fun _ _ _ _ _ => pe_callB (id := "abs") (r := fun xs H Q => ∃ i, xs = [.int i] ∧ Q (.int (if i < 0 then -i else i)) H) call_abs (by rfl) gA (by decide +kernel) (pa_cons (pv 2) pa_nil))) (pa_cons (pe_op op_add (pv 1) pe_int) pa_nil))))))), ?_⟩
    refine ⟨_, rfl, a, rfl, ⟨_, hS⟩, for_it (walk_list (xs := ns.map V.int)) (fun i σ H' => H' = H ∧ ∃ z v, σ = [some (.ref a), some (.int z), v] ∧ 0 ≤ z ∧ z < 1000003) ⟨rfl, 11, none, rfl, by decide, by decide⟩ (fun i σ H' _ z => by rw [z.1]; exact hS) ?_ ?_⟩
    · rintro i x σ H' _ hi ⟨rfl, z, v, rfl, z0, z1⟩ ⟨rfl, hx⟩
      obtain ⟨n, hn, rfl⟩ := int_at hx
      refine ⟨_, rfl, _, _, rfl, rfl, .inl ⟨by omega, by omega⟩, _, rfl, _, _, rfl, rfl, .inl ⟨_, rfl, _, _, rfl, rfl, (by show (0 : Int) < 1000003; decide), ?_⟩⟩
      exact ⟨rfl, _, _, rfl, Int.emod_nonneg _ (by decide), Int.emod_lt_of_pos _ (by decide)⟩
    · rintro σ H' ⟨rfl, z, v, rfl, z0, z1⟩
      refine ⟨_, rfl, a, rfl, ⟨_, hS⟩, fun D hD => ?_⟩
      refine lc_same (walk_list (xs := ns.map V.int)) ns (by rw [List.length_map]) (fun _ => true) (fun _ v n => ∃ m : Int, v = .int m ∧ 0 ≤ m) (fun _ _ _ _ _ z => z) hD (fun H' s' => s'.seq hS) (by rw [List.length_map]; omega) ?_ ?_
      · rintro i x n H1 _ hi hn s1 ⟨rfl, hx⟩ Q' Qn k1 _
        obtain ⟨n', hn', rfl⟩ := int_at hx
        refine ⟨rfl, yes_in ⟨_, rfl, _, rfl, k1 rfl _ _ (Same.refl _) ⟨_, rfl, ?_⟩⟩⟩
        split <;> omega
      · intro H1 acc s1 ha he
        rw [filter_true] at he
        obtain ⟨ms, rfl, hms, hml⟩ : ∃ ms : List Int, acc = ms.map V.int ∧ (∀ c ∈ ms, 0 ≤ c) ∧ ms.length = ns.length := by
          clear ha hl hS
          induction he with
          | nil => exact ⟨[], rfl, fun c hc => (List.not_mem_nil hc).elim, rfl⟩
          | cons h t ih =>
            obtain ⟨m, rfl, hm⟩ := h
            obtain ⟨ms, rfl, h1, h2⟩ := ih
            exact ⟨m :: ms, rfl, fun c hc => (List.mem_cons.mp hc).elim (fun e => by rw [e]; exact hm) (h1 c), by simp [h2]⟩
        refine ⟨_, rfl, _, _, rfl, rfl, (by show 2 ≤ sizeLine; decide), fun p hp => ?_⟩
        have nDp : D ≠ p := ne_of_none ha hp
        exact q p D _ (s1.trans (same_new hp)) ⟨ms, z + 1, upd_same, by rw [upd_ne nDp]; exact ha, by omega, by omega, by omega, hms⟩
def spDraw : Sp := fun vs H Q _ => ∃ (st cl : Addr) (m : Int), vs = [.ref st, .int m] ∧ StOk H st cl ∧ 0 < m ∧ m < 2 ^ 40 ∧ ∀ v H', Drawn st cl H H' → 0 ≤ v → v < m → Q (.int v) H'
theorem at0 {c : Int} {t : List Int} : atI ((c :: t).map V.int) 0 = some (.int c) := atI_nat (j := 0) rfl
theorem ixN0 {n : Nat} (h : 0 < n) : ixN n 0 = some 0 := by
  unfold ixN
  rw [if_pos (by decide), if_pos (by omega)]
  rfl
theorem seqIx0 {n : Nat} (h : 0 < n) : seqIndex? 0 n = some 0 := (ixN_seq (ixN0 h)).1
theorem ok_draw (F : FnP K "_law_draw" s__law_draw f fd) (gI : mg "int" = none) (gL : mg "len" = none) (gR : mg "range" = none) : FnOk P w K mg base CX0 1 f fd ["state", "many"] spDraw := by
  refine F.ok sc__law_draw (fun vs H Q E h => ?_) (fun cdv A outer s H vs Q E hr h => ?_)
  · obtain ⟨n, r, m, rfl, _⟩ := h
    rfl
  · obtain ⟨st, cl, m, rfl, hS, m0, m1, q⟩ := h
    refine ⟨_, PSs.nox (pss_cons (ps_set (i := 2) sc__law_draw.nd rfl (Or.inl rfl) (pe_ix ix_list (pv 0) pe_int (fun _ _ => rfl)))
      (pss_cons (ps_for PassesOwn.never rfl (pi_range1 rfl gR (pa_cons (pe_callB call_len_seq (by rfl) gL PySem.boot_len (pa_cons (pv 2) pa_nil)) pa_nil)) (pg_name (i := 3) sc__law_draw.nd rfl (Or.inl rfl))
        (pss_one (ps_if (PW.pt (pw_and (pt_cmpR op_eq (pe_ix ix_list (pv 2) pe_int (fun _ _ => rfl)) pe_int (nomark _)) (pw_and1 (pt_cmpR op_gt (pe_callB call_len_seq (by rfl) gL PySem.boot_len (pa_cons (pv 2) pa_nil)) pe_int (nomark _)))))
          (pss_one (ps_expr (pe_bm PySem.F.plainAttrs_list PySem.F.slot_list_pop PySem.F.type_list_pop mt_popAt (pv 2) (pa_cons pe_int pa_nil)))) pss_nil)))
      (pss_cons (ps_if (PW.pt (pw_and (pt_cmpR op_gt (pe_callB call_len_seq (by rfl) gL PySem.boot_len (pa_cons (pv 2) pa_nil)) pe_int (nomark _)) (pw_and1 (pt_cmpR op_gt (pe_ix ix_list (pv 2) pe_int (fun _ _ => rfl)) pe_int (nomark _)))))
          (pss_cons (ps_set (i := 4) sc__law_draw.nd rfl (Or.inl rfl) (pe_ix ix_list (pv 2) pe_int (fun _ _ => rfl)))
            (pss_cons (ps_asg (pe_op op_fdivW (pv 4) (pv 1)) (pg_sub (pv 2) pe_int set_list (fun _ => rfl)))
            (pss_one (ps_ret (pe_op op_mod (pe_callTy call_int1 (by rfl) gI (by decide +kernel) (pa_cons (pv 4) pa_nil)) (pv 1)))))) pss_nil)
      (pss_cons (ps_set (i := 5) sc__law_draw.nd rfl (Or.inl rfl) (pe_op op_mod (pe_callTy call_int1 (by rfl) gI (by decide +kernel) (pa_cons (pe_op op_add (pe_op op_mul (pe_ix ix_list (pv 0) pe_int (fun _ _ => rfl)) pe_int) pe_int) pa_nil)) pe_int))
      (pss_cons (ps_asg (pv 5) (pg_sub (pv 0) pe_int set_list (fun _ => rfl)))
      (pss_one (ps_ret (pe_op op_mod (pe_callTy call_int1 (by rfl) gI (by decide +kernel) (pa_cons (pe_op op_fdiv (pv 5) pe_int) pa_nil)) (pv 1))))))))), ?_⟩
    obtain ⟨cells, seed, S⟩ := id hS
    have ne := S.ne
    refine ⟨_, rfl, st, _, 0, .ref cl, rfl, rfl, sq_l S.hs, atI_nat (j := 0) rfl, ?_⟩
    refine ⟨_, rfl, cl, _, rfl, .inl (sq_l S.hc), _, rfl, by omega, by rw [List.length_map]; have := S.len; omega, ?_⟩
    rw [List.length_map, Int.toNat_natCast]
    -- behind the loop, whatever was popped
    refine for_it walk_range (fun i σ H' => ∃ k cs, σ = [some (.ref st), some (.int m), some (.ref cl), k, none, none] ∧ StateAt H' st cl cs seed ∧ (∀ a, a ≠ cl → H' a = H a) ∧ (cells = [] ↔ cs = [])) ⟨none, cells, rfl, S, fun _ _ => rfl, Iff.rfl⟩ (fun _ _ _ _ _ => trivial) ?_ ?_
    · rintro i x σ H' _ hi ⟨k, cs, rfl, S1, ot, nl⟩ ⟨rfl, rfl⟩
      have hne : cells ≠ [] := fun z => by rw [z] at hi; exact absurd hi (by simp)
      obtain ⟨c, t, rfl⟩ : ∃ c t, cs = c :: t := by
        cases cs with
        | nil => exact absurd (nl.mpr rfl) hne
        | cons c t => exact ⟨c, t, rfl⟩
      refine ⟨_, rfl, cl, _, 0, .int c, rfl, rfl, sq_l S1.hc, at0, rfl, _, rfl, ?_⟩
      by_cases hc : c = 0
      · rw [decide_eq_true (by rw [hc])]
        refine iteT ⟨_, rfl, cl, _, rfl, .inl (sq_l S1.hc), _, _, rfl, rfl, _, rfl, ?_⟩
        rw [List.length_map]
        by_cases hl : ((1 : Int) < ((c :: t).length : Nat))
        · rw [decide_eq_true hl]
          refine iteT ⟨_, rfl, .inl ⟨rfl, _, .inl (.inl S1.hc)⟩, cl, _, 0, 0, .int c, rfl, rfl, S1.hc, by decide, by decide, seqIx0 (by rw [List.length_map]; simp), rfl, ?_⟩
          have h2 : 0 < t.length := by
            simp only [List.length_cons] at hl
            omega
          refine ⟨_, t, rfl, ⟨by rw [upd_ne ne]; exact S1.hs, upd_same, S1.lo, S1.hi, ?_, fun z hz => S1.nn z (List.mem_cons_of_mem _ hz)⟩, fun a ha => by rw [upd_ne ha]; exact ot a ha, ?_⟩
          · have h3 := S1.len
            simp only [List.length_cons] at h3
            omega
          · exact ⟨fun z => absurd z hne, fun z => by rw [z] at h2; exact absurd h2 (by simp)⟩
        · rw [decide_eq_false hl]
          exact iteF ⟨_, _, rfl, S1, ot, nl⟩
      · rw [decide_eq_false fun z => hc (by injection z)]
        exact iteF (iteF ⟨_, _, rfl, S1, ot, nl⟩)
    · rintro σ H' ⟨k, cs, rfl, S1, ot, nl⟩
      have but : ∀ H2 : Hp, (∀ a, a ≠ cl → a ≠ st → H2 a = H' a) → ∀ a o, a ≠ st → a ≠ cl → H a = some o → H2 a = some o := fun H2 h a o h1 h2 h3 => by rw [h a h2 h1, ot a h2]; exact h3
      refine ⟨_, rfl, cl, _, rfl, .inl (sq_l S1.hc), _, _, rfl, rfl, _, rfl, ?_⟩
      rw [List.length_map]
      by_cases hl : (0 : Int) < (cs.length : Nat)
      · rw [decide_eq_true hl]
        obtain ⟨c, t, rfl⟩ : ∃ c t, cs = c :: t := by
          cases cs with
          | nil => exact absurd hl (by simp)
          | cons c t => exact ⟨c, t, rfl⟩
        refine iteT ⟨_, rfl, cl, _, 0, .int c, rfl, rfl, sq_l S1.hc, at0, _, _, rfl, rfl, _, rfl, ?_⟩
        have c0 : 0 ≤ c := S1.nn c List.mem_cons_self
        by_cases hc : (0 : Int) < c
        · rw [decide_eq_true hc]
          refine iteT ⟨_, rfl, cl, _, 0, .int c, rfl, rfl, sq_l S1.hc, at0, ?_⟩
          refine ⟨_, rfl, _, rfl, _, _, rfl, rfl, wide_div m0 (b := 40) (by omega) (by decide) (by decide), ?_⟩
          refine ⟨_, rfl, cl, _, 0, 0, rfl, rfl, S1.hc, ixN0 (by rw [List.length_map]; simp), ?_⟩
          refine ⟨_, rfl, .inl ⟨_, rfl, _, rfl, _, _, rfl, rfl, m0, ?_⟩⟩
          refine q _ _ ⟨but _ fun a h1 h2 => upd_ne h1, ⟨c / m :: t, seed, by rw [upd_ne ne]; exact S1.hs, upd_same, S1.lo, S1.hi, S1.len, fun z hz => ?_⟩, fun z => ?_⟩ (Int.emod_nonneg _ (by omega)) (Int.emod_lt_of_pos _ m0)
          · rcases List.mem_cons.mp hz with e | e
            · rw [e]; exact Int.ediv_nonneg c0 (by omega)
            · exact S1.nn z (List.mem_cons_of_mem _ e)
          · rw [S.hc] at z
            have z' : cells.map V.int = [] := by injection (Option.some.inj z)
            exact absurd (nl.mp (List.map_eq_nil_iff.mp z')) (by simp)
        · rw [decide_eq_false hc]
          refine iteF ?_
          have lo0 := S1.lo
          have hi0 := S1.hi
          refine ⟨_, rfl, st, _, 1, .int seed, rfl, rfl, sq_l S1.hs, atI_nat (j := 1) rfl, _, _, rfl, rfl, .inl ⟨by omega, by omega⟩, _, _, rfl, rfl, .inl ⟨_, rfl, _, _, rfl, rfl, (by show (0 : Int) < 2147483647; decide), ?_⟩⟩
          refine ⟨_, rfl, _, rfl, st, _, 1, 1, rfl, rfl, S1.hs, rfl, ?_⟩
          refine ⟨_, rfl, _, _, rfl, rfl, ⟨by decide, by decide⟩, .inl ⟨_, rfl, _, rfl, _, _, rfl, rfl, m0, ?_⟩⟩
          have lo := S1.lo
          have hi := S1.hi
          refine q _ _ ⟨but _ fun a h1 h2 => upd_ne h2, ⟨c :: t, _, upd_same, by rw [upd_ne ne.symm]; exact S1.hc, Int.emod_nonneg _ (by decide), Int.lt_trans (Int.emod_lt_of_pos _ (by decide)) (by decide), S1.len, S1.nn⟩, fun z => ?_⟩ (Int.emod_nonneg _ (by omega)) (Int.emod_lt_of_pos _ m0)
          rw [upd_ne ne.symm]
          rw [S.hc] at z
          have z' : cells.map V.int = [] := by injection (Option.some.inj z)
          rw [S1.hc, nl.mp (List.map_eq_nil_iff.mp z')]
          rfl
      · rw [decide_eq_false hl]
        refine iteF (iteF ?_)
        have lo0 := S1.lo
        have hi0 := S1.hi
        refine ⟨_, rfl, st, _, 1, .int seed, rfl, rfl, sq_l S1.hs, atI_nat (j := 1) rfl, _, _, rfl, rfl, .inl ⟨by omega, by omega⟩, _, _, rfl, rfl, .inl ⟨_, rfl, _, _, rfl, rfl, (by show (0 : Int) < 2147483647; decide), ?_⟩⟩
        refine ⟨_, rfl, _, rfl, st, _, 1, 1, rfl, rfl, S1.hs, rfl, ?_⟩
        refine ⟨_, rfl, _, _, rfl, rfl, ⟨by decide, by decide⟩, .inl ⟨_, rfl, _, rfl, _, _, rfl, rfl, m0, ?_⟩⟩
        have lo := S1.lo
        have hi := S1.hi
        refine q _ _ ⟨but _ fun a h1 h2 => upd_ne h2, ⟨cs, _, upd_same, by rw [upd_ne ne.symm]; exact S1.hc, Int.emod_nonneg _ (by decide), Int.lt_trans (Int.emod_lt_of_pos _ (by decide)) (by decide), S1.len, S1.nn⟩, fun z => ?_⟩ (Int.emod_nonneg _ (by omega)) (Int.emod_lt_of_pos _ m0)
        rw [upd_ne ne.symm]
        rw [S.hc] at z
        have z' : cells.map V.int = [] := by injection (Option.some.inj z)
        rw [S1.hc, nl.mp (List.map_eq_nil_iff.mp z')]
        rfl
end
end KA
set_option Elab.async false
set_option linter.all false
set_option maxRecDepth 100000
set_option maxHeartbeats 4000000
/-! _law_one, _law_row, _law_bag -/
namespace KA
open PySem PySem.Spec PyProof.Rows L2
open PySem.W (EachIs)
/-- what the law draws as a value -/
def KeyOk : Key → Prop
  | .inl i => i.natAbs ≤ 2 ^ 33
  | .inr x => x = "a" ∨ x = "b" ∨ x = "ab" ∨ x = ""
def RowOk (r : Row) : Prop := r.length ≤ 3 ∧ ∀ x ∈ r, KeyOk x
theorem four {v : Int} (h0 : 0 ≤ v) (h1 : v < 4) : v = 0 ∨ v = 1 ∨ v = 2 ∨ v = 3 := by omega
theorem six {v : Int} (h0 : 0 ≤ v) (h1 : v < 6) : v = 0 ∨ v = 1 ∨ v = 2 ∨ v = 3 ∨ v = 4 ∨ v = 5 := by omega
theorem Drawn.new {st cl : Addr} {H H' : Hp} (d : Drawn st cl H H') (h : StOk H st cl) {p : Addr} {o : HO} (q : H p = some o) (h0 : ∀ c z, StateAt H st cl c z → p ≠ st ∧ p ≠ cl) : H' p = some o := by
  obtain ⟨c, z, S⟩ := h
  obtain ⟨h1, h2⟩ := h0 c z S
  exact d.but p o h1 h2 q
theorem StateAt.away {H : Hp} {st cl : Addr} {c : List Int} {z : Int} (S : StateAt H st cl c z) {p : Addr} (h : H p = none) : p ≠ st ∧ p ≠ cl := ⟨fun e => (by rw [e, S.hs] at h; cases h), fun e => (by rw [e, S.hc] at h; cases h)⟩
theorem StOk.new {H : Hp} {st cl p : Addr} {o : HO} (h : StOk H st cl) (hp : H p = none) : StOk (upd H p o) st cl := h.same (same_new hp)
section
variable {P : Program} {w : World} {K : PySem.W.Frag} {mg : Str → Option Value} {base : Heap} {f : Addr} {fd : FuncData}
abbrev DrawC (P : Program) (w : World) (K : PySem.W.Frag) (mg : Str → Option Value) (base : Heap) : Prop := Cal P w K mg base "_law_draw" 1 ["state", "many"] spDraw
def spOne : Sp := fun vs H Q _ => ∃ (st cl : Addr), vs = [.ref st] ∧ StOk H st cl ∧ ∀ x H', Drawn st cl H H' → KeyOk x → Q (kV x) H'
theorem ok_one (F : FnP K "_law_one" s__law_one f fd) (C : DrawC P w K mg base) : FnOk P w K mg base CX0 2 f fd ["state"] spOne := by
  refine F.ok sc__law_one (fun vs H Q E h => ?_) (fun cdv A outer s H vs Q E hr h => ?_)
  · obtain ⟨n, r, rfl, _⟩ := h
    rfl
  · obtain ⟨st, cl, rfl, hS, q⟩ := h
    refine ⟨_, PSs.nox (pss_cons (ps_set (i := 1) sc__law_one.nd rfl (Or.inl rfl) (pe_cal C hr (pa_cons (pv 0) (pa_cons pe_int pa_nil))))
      (pss_cons (ps_if (pt_cmpR op_lt (pv 1) pe_int (nomark _)) (pss_one (ps_ret (pe_cal C hr (pa_cons (pv 0) (pa_cons pe_int pa_nil))))) pss_nil)
      (pss_cons (ps_if (pt_cmpR op_lt (pv 1) pe_int (nomark _)) (pss_one (ps_ret (pe_ix ix_list (pe_lst (pa_cons pe_str (pa_cons pe_str (pa_cons pe_str (pa_cons pe_str pa_nil))))) (pe_cal C hr (pa_cons (pv 0) (pa_cons pe_int pa_nil))) (fun _ _ => rfl)))) pss_nil)
      (pss_cons (ps_if (pt_cmpR op_eq (pv 1) pe_int (nomark _)) (pss_one (ps_ret (pe_ix ix_list (pe_lst (pa_cons (pe_un un_neg pe_int) (pa_cons (pe_un un_neg pe_int) (pa_cons pe_int (pa_cons pe_int (pa_cons pe_int (pa_cons (pe_un un_neg pe_int) pa_nil)))))))
        (pe_cal C hr (pa_cons (pv 0) (pa_cons pe_int pa_nil))) (fun _ _ => rfl)))) pss_nil)
      (pss_one (ps_ret (pe_op op_sub (pe_cal C hr (pa_cons (pv 0) (pa_cons pe_int pa_nil))) pe_int))))))), ?_⟩
    refine ⟨_, rfl, st, cl, 8, rfl, hS, by decide, by decide, fun k H1 d1 k0 k1 => ?_⟩
    refine ⟨_, rfl, _, _, rfl, rfl, _, rfl, ite2 (fun _ => ?_) fun _ => ?_⟩
    · exact ⟨_, rfl, st, cl, 4, rfl, d1.ok, by decide, by decide, fun v H2 d2 v0 v1 => q (.inl v) _ (d1.trans d2) (by show v.natAbs ≤ 2 ^ 33; omega)⟩
    refine ⟨_, rfl, _, _, rfl, rfl, _, rfl, ite2 (fun _ => ?_) fun _ => ?_⟩
    · refine ⟨(by show 4 ≤ sizeLine; decide), fun p hp => ?_⟩
      refine ⟨_, rfl, st, cl, 4, rfl, d1.ok.new hp, by decide, by decide, fun v H2 d2 v0 v1 => ?_⟩
      have hp2 : H2 p = some (.lst [.str "a", .str "b", .str "ab", .str ""]) := by
        obtain ⟨c, z, S⟩ := d1.ok
        obtain ⟨h1, h2⟩ := S.away hp
        exact d2.but p _ h1 h2 upd_same
      have d3 := (d1.trans (Drawn.of_same (same_new (o := .lst [.str "a", .str "b", .str "ab", .str ""]) hp) d1.ok)).trans d2
      rcases four v0 v1 with rfl | rfl | rfl | rfl
      · exact ⟨p, _, 0, .str "a", rfl, rfl, sq_l hp2, atI_nat (j := 0) rfl, q (.inr "a") _ d3 (.inl rfl)⟩
      · exact ⟨p, _, 1, .str "b", rfl, rfl, sq_l hp2, atI_nat (j := 1) rfl, q (.inr "b") _ d3 (.inr (.inl rfl))⟩
      · exact ⟨p, _, 2, .str "ab", rfl, rfl, sq_l hp2, atI_nat (j := 2) rfl, q (.inr "ab") _ d3 (.inr (.inr (.inl rfl)))⟩
      · exact ⟨p, _, 3, .str "", rfl, rfl, sq_l hp2, atI_nat (j := 3) rfl, q (.inr "") _ d3 (.inr (.inr (.inr rfl)))⟩
    refine ⟨_, rfl, rfl, _, rfl, ?_⟩
    by_cases h6 : k = 6
    · rw [decide_eq_true (by rw [h6])]
      refine iteT ⟨_, rfl, _, rfl, _, rfl, (by show 6 ≤ sizeLine; decide), fun p hp => ?_⟩
      refine ⟨_, rfl, st, cl, 6, rfl, d1.ok.new hp, by decide, by decide, fun v H2 d2 v0 v1 => ?_⟩
      have hp2 : H2 p = some (.lst [.int (-1), .int (-2147483648), .int 2147483647, .int 46341, .int 65536, .int (-7)]) := by
        obtain ⟨c, z, S⟩ := d1.ok
        obtain ⟨h1, h2⟩ := S.away hp
        exact d2.but p _ h1 h2 upd_same
      have d3 := (d1.trans (Drawn.of_same (same_new (o := .lst [.int (-1), .int (-2147483648), .int 2147483647, .int 46341, .int 65536, .int (-7)]) hp) d1.ok)).trans d2
      rcases six v0 v1 with rfl | rfl | rfl | rfl | rfl | rfl
      · exact ⟨p, _, 0, .int (-1), rfl, rfl, sq_l hp2, atI_nat (j := 0) rfl, q (.inl (-1)) _ d3 (by show (1 : Nat) ≤ 2 ^ 33; decide)⟩
      · exact ⟨p, _, 1, .int (-2147483648), rfl, rfl, sq_l hp2, atI_nat (j := 1) rfl, q (.inl (-2147483648)) _ d3 (by show (2147483648 : Nat) ≤ 2 ^ 33; decide)⟩
      · exact ⟨p, _, 2, .int 2147483647, rfl, rfl, sq_l hp2, atI_nat (j := 2) rfl, q (.inl 2147483647) _ d3 (by show (2147483647 : Nat) ≤ 2 ^ 33; decide)⟩
      · exact ⟨p, _, 3, .int 46341, rfl, rfl, sq_l hp2, atI_nat (j := 3) rfl, q (.inl 46341) _ d3 (by show (46341 : Nat) ≤ 2 ^ 33; decide)⟩
      · exact ⟨p, _, 4, .int 65536, rfl, rfl, sq_l hp2, atI_nat (j := 4) rfl, q (.inl 65536) _ d3 (by show (65536 : Nat) ≤ 2 ^ 33; decide)⟩
      · exact ⟨p, _, 5, .int (-7), rfl, rfl, sq_l hp2, atI_nat (j := 5) rfl, q (.inl (-7)) _ d3 (by show (7 : Nat) ≤ 2 ^ 33; decide)⟩
    · rw [decide_eq_false fun z => h6 (by injection z)]
      refine iteF ⟨_, rfl, st, cl, 4000000000, rfl, d1.ok, by decide, by decide, fun v H2 d2 v0 v1 => ?_⟩
      exact ⟨_, _, rfl, rfl, q (.inl (v - 2000000000)) _ (d1.trans d2) (by show (v - 2000000000).natAbs ≤ 2 ^ 33; omega)⟩
def spRow : Sp := fun vs H Q _ => ∃ (st cl : Addr), vs = [.ref st, .int 3] ∧ StOk H st cl ∧ ∀ p r H', Drawn st cl H H' → H p = none → RowAt H' p r → RowOk r → Q (.ref p) H'
theorem ok_row (F : FnP K "_law_row" s__law_row f fd) (gT : mg "tuple" = none) (gR : mg "range" = none) (C : DrawC P w K mg base) (CO : Cal P w K mg base "_law_one" 2 ["state"] spOne) : FnOk P w K mg base CX0 3 f fd ["state", "most"] spRow := by
  refine F.ok sc__law_row (fun vs H Q E h => ?_) (fun cdv A outer s H vs Q E hr h => ?_)
  · obtain ⟨n, r, rfl, _⟩ := h
    rfl
  · obtain ⟨st, cl, rfl, hS, q⟩ := h
    refine ⟨_, PSs.nox (pss_one (ps_ret (pe_callTy call_tuple_of (by rfl) gT (by decide +kernel) (pa_cons (pe_lc (own := [("k", 2)]) (g := gName 2) (tt := tYes) (by rfl) sc__law_row.nd
      (pi_range1 rfl gR (pa_cons (pe_cal C hr.lt (pa_cons (pv 0) (pa_cons (pe_op op_add (pv 1) pe_int) pa_nil))) pa_nil))
      (blkOk_by (own := [("k", 2)]) (N := ["state", "most", "k"]) (sc := defScope s__law_row) (by decide +kernel)) (fun _ _ _ _ _ => pg_name (i := 2) sc__law_row.nd rfl (Or.inl rfl)) (fun _ _ _ _ _ => pts_nil)
      (fun _ _ _ _ _ => pe_cal CO hr (pa_cons (pv 0) pa_nil))) pa_nil)))), ?_⟩
    refine ⟨_, rfl, _, rfl, _, _, rfl, rfl, st, cl, 4, rfl, hS, by decide, by decide, fun n H1 d1 n0 n1 => ?_⟩
    refine ⟨n, rfl, by omega, by omega, fun D hD => ?_⟩
    obtain ⟨c0, z0, S0⟩ := d1.ok
    obtain ⟨Dst, Dcl⟩ := S0.away hD
    refine lc_go walk_range (List.range n.toNat) (by rw [List.length_range]) (fun _ => true) (fun _ v _ => ∃ x, v = kV x ∧ KeyOk x) (fun _ _ _ _ _ z => z) (fun H' => Drawn st cl H1 H') (Drawn.of_same (same_new hD) d1.ok) (fun _ _ => trivial) ?_ (by omega) ?_ ?_
    · intro H' acc d
      refine ⟨fun a o h1 h2 h3 => ?_, ?_, fun z => ?_⟩
      · rw [upd_ne (ne_of_none h3 hD)]
        exact d.but a o h1 h2 h3
      · obtain ⟨c, z, S⟩ := d.ok
        exact ⟨c, z, by rw [upd_ne Dst.symm]; exact S.hs, by rw [upd_ne Dcl.symm]; exact S.hc, S.lo, S.hi, S.len, S.nn⟩
      · rw [upd_ne Dcl.symm]
        exact d.nil z
    · rintro i x b H2 _ hi hb d2 ⟨acc, ha⟩ ⟨rfl, rfl⟩ Q' Qn k1 _
      refine ⟨rfl, yes_in ⟨_, rfl, st, cl, rfl, d2.ok, fun x H3 d3 hx => k1 rfl _ _ (d2.trans d3) ?_ (d3.tk d2.ok) ⟨x, rfl, hx⟩⟩⟩
      rw [ha]
      exact d3.but D _ Dst Dcl ha
    · intro H2 acc d2 ha he
      rw [filter_true] at he
      obtain ⟨r, rfl, hr1, hr2⟩ : ∃ r : Row, acc = r.map kV ∧ (∀ x ∈ r, KeyOk x) ∧ r.length = n.toNat := by
        have hl := he.length
        rw [List.length_range] at hl
        clear ha
        revert hl
        generalize n.toNat = m
        intro hl
        have : ∀ {vs : List V} {ns : List Nat}, EachIs (fun v (_ : Nat) => ∃ x, v = kV x ∧ KeyOk x) vs ns → ∃ r : Row, vs = r.map kV ∧ (∀ x ∈ r, KeyOk x) ∧ r.length = vs.length := by
          intro vs ns h
          induction h with
          | nil => exact ⟨[], rfl, fun x hx => (List.not_mem_nil hx).elim, rfl⟩
          | cons h t ih =>
            obtain ⟨x, rfl, hx⟩ := h
            obtain ⟨r, rfl, h1, h2⟩ := ih
            exact ⟨x :: r, rfl, fun y hy => (List.mem_cons.mp hy).elim (fun e => by rw [e]; exact hx) (h1 y), by simp⟩
        obtain ⟨r, e, h1, h2⟩ := this he
        exact ⟨r, e, h1, h2.trans hl⟩
      refine ⟨D, _, rfl, .inl ⟨sq_l ha, fun p hp => ?_⟩⟩
      have hp0 : H p = none := by
        cases e : H p with
        | none => rfl
        | some o =>
          exfalso
          obtain ⟨c, z, S⟩ := d2.ok
          have h1 : p ≠ st := fun e => by rw [e, S.hs] at hp; cases hp
          have h2 : p ≠ cl := fun e => by rw [e, S.hc] at hp; cases hp
          rw [(d1.trans d2).but p o h1 h2 e] at hp
          cases hp
      exact q p r _ ((d1.trans d2).trans (Drawn.of_same (same_new hp) d2.ok)) hp0 upd_same ⟨by omega, hr1⟩
end
end KA
set_option Elab.async false
set_option linter.all false
set_option maxRecDepth 100000
set_option maxHeartbeats 4000000
/-! _law_bag -/
namespace KA
open PySem PySem.Spec PyProof.Rows L2
open PySem.W (EachIs)
theorem tot_bd {n : Nat} {ps : Bag} (h : BdB n ps) (r : Row) : (tot ps r).natAbs ≤ ps.length * n := by
  induction ps with
  | nil => rw [tot_nil]; simp
  | cons e t ih =>
    have h1 := h e List.mem_cons_self
    have h2 := ih fun x hx => h x (List.mem_cons_of_mem _ hx)
    rw [tot_cons, List.length_cons, Nat.succ_mul]
    by_cases q : e.1 = r
    · rw [if_pos q]; omega
    · rw [if_neg q]; omega
theorem mk_rows {ps : Bag} {e : Row × Int} (h : e ∈ mk ps) : ∃ e' ∈ ps, e'.1 = e.1 := by
  obtain ⟨r, hr, rfl⟩ := List.mem_map.mp h
  obtain ⟨x, hx, e, _⟩ := nz_in (mem_sorted hr)
  obtain ⟨y, hy, z⟩ := tally_rows hx
  exact ⟨y, hy, z.trans e⟩
theorem mk_bd {n : Nat} {ps : Bag} (h : BdB n ps) : BdB (ps.length * n) (mk ps) := fun e he => by
  obtain ⟨r, hr, rfl⟩ := List.mem_map.mp he
  exact tot_bd h r
def RowsOk (b : Bag) : Prop := ∀ e ∈ b, RowOk e.1
theorem mk_rowsOk {ps : Bag} (h : RowsOk ps) : RowsOk (mk ps) := fun e he => by
  obtain ⟨e', h1, h2⟩ := mk_rows he
  rw [← h2]
  exact h e' h1
theorem RowsOk.rowB {b : Bag} (h : RowsOk b) : RowB 1000 b := fun e he => Nat.le_trans (h e he).1 (by decide)
theorem RowsOk.app {a b : Bag} (h1 : RowsOk a) (h2 : RowsOk b) : RowsOk (a ++ b) := fun e he => (List.mem_append.mp he).elim (h1 e) (h2 e)
structure GoodBag (b : Bag) : Prop where
  canon : Canon b
  len : b.length ≤ 10
  bd : BdB 10000000 b
  rows : RowsOk b
theorem good_mk {ps : Bag} (hl : ps.length ≤ 10) (hb : BdB 1000000 ps) (hr : RowsOk ps) : GoodBag (mk ps) :=
  ⟨mk_canon ps, Nat.le_trans (mk_len ps) hl, (mk_bd hb).mono (by omega), mk_rowsOk hr⟩
section
variable {P : Program} {w : World} {K : PySem.W.Frag} {mg : Str → Option Value} {base : Heap} {f : Addr} {fd : FuncData}
abbrev RowC (P : Program) (w : World) (K : PySem.W.Frag) (mg : Str → Option Value) (base : Heap) : Prop := Cal P w K mg base "_law_row" 3 ["state", "most"] spRow
def spBag : Sp := fun vs H Q _ => ∃ (st cl : Addr) (m : Int), vs = [.ref st, .int m] ∧ 0 ≤ m ∧ m ≤ 8 ∧ StOk H st cl ∧ ∀ p b H', Drawn st cl H H' → BagAt H' p b → GoodBag b → Q (.ref p) H'
theorem ok_bag (F : FnP K "_law_bag" s__law_bag f fd) (gR : mg "range" = none) (C : DrawC P w K mg base) (CR : RowC P w K mg base) (CC : Cal P w K mg base "_law_canon" 4 ["counts"] spCanon) : FnOk P w K mg base CX0 5 f fd ["state", "most"] spBag := by
  refine F.ok sc__law_bag (fun vs H Q E h => ?_) (fun cdv A outer s H vs Q E hr h => ?_)
  · obtain ⟨n, r, m, rfl, _⟩ := h
    rfl
  · obtain ⟨st, cl, m, rfl, m0, m1, hS, q⟩ := h
    refine ⟨_, PSs.nox (pss_cons (ps_set (i := 2) sc__law_bag.nd rfl (Or.inl rfl) pe_dnewT)
      (pss_cons (ps_for PassesOwn.never rfl (pi_range1 rfl gR (pa_cons (pe_cal C hr.lt (pa_cons (pv 0) (pa_cons (pe_op op_add (pv 1) pe_int) pa_nil))) pa_nil)) (pg_name (i := 3) sc__law_bag.nd rfl (Or.inl rfl))
        (pss_cons (ps_set (i := 4) sc__law_bag.nd rfl (Or.inl rfl) (pe_cal CR hr.lt (pa_cons (pv 0) (pa_cons pe_int pa_nil))))
        (pss_one (ps_dput hr.u1 (pv 2) (pv 4) (pe_op op_add (pe_dget2 hr.u1 (pv 2) (pv 4) pe_int ⟨rfl, rfl, rfl, rfl⟩)
          (pe_ix ix_list (pe_lst (pa_cons pe_int (pa_cons pe_int (pa_cons pe_int (pa_cons (pe_un un_neg pe_int) (pa_cons (pe_un un_neg pe_int) (pa_cons pe_int pa_nil))))))) (pe_cal C hr.lt (pa_cons (pv 0) (pa_cons pe_int pa_nil))) (fun _ _ => rfl))) rfl))))
      (pss_one (ps_ret (pe_cal CC hr (pa_cons (pv 2) pa_nil)))))), ?_⟩
    refine fun d hd => ?_
    obtain ⟨c0, z0, S0⟩ := id hS
    obtain ⟨dst, dcl⟩ := S0.away hd
    refine ⟨_, rfl, _, rfl, _, _, rfl, rfl, st, cl, m + 1, rfl, hS.new hd, by omega, by omega, fun n H1 d1 n0 n1 => ?_⟩
    have upd_d : ∀ (H' : Hp) (o : HO), Drawn st cl H H' → Drawn st cl H (upd H' d o) := fun H' o D => by
      refine ⟨fun a x h1 h2 h3 => ?_, ?_, fun z => ?_⟩
      · rw [upd_ne (ne_of_none h3 hd)]
        exact D.but a x h1 h2 h3
      · obtain ⟨c, z, S⟩ := D.ok
        exact ⟨c, z, by rw [upd_ne dst.symm]; exact S.hs, by rw [upd_ne dcl.symm]; exact S.hc, S.lo, S.hi, S.len, S.nn⟩
      · rw [upd_ne dcl.symm]
        exact D.nil z
    refine ⟨n, rfl, by omega, by omega, ?_⟩
    refine for_it walk_range (fun i σ H' => (∃ k r, σ = [some (.ref st), some (.int m), some (.ref d), k, r]) ∧ Drawn st cl H H' ∧ ∃ ps, H' d = some (.dT (vk (tally ps))) ∧ ps.length ≤ i ∧ BdB 1000000 ps ∧ RowsOk ps)
      ⟨⟨_, _, rfl⟩, (Drawn.of_same (same_new hd) hS).trans d1, [], d1.but d _ dst dcl upd_same, Nat.le_refl _, (fun e he => (List.not_mem_nil he).elim), fun e he => (List.not_mem_nil he).elim⟩ (fun _ _ _ _ _ => trivial) ?_ ?_
    · rintro i x σ H2 _ hi ⟨⟨k, r, rfl⟩, D2, ps, hp, pl, pb, pr⟩ ⟨rfl, rfl⟩
      refine ⟨_, rfl, st, cl, rfl, D2.ok, fun t r H3 d3 ht hrow rok => ?_⟩
      have hp3 : H3 d = some (.dT (vk (tally ps))) := d3.but d _ dst dcl hp
      refine ⟨_, rfl, d, rfl, .inr ⟨_, .inl hp3⟩, _, rfl, _, DGet.t hp3 hrow, ?_⟩
      refine ⟨_, rfl, _, rfl, (by show 6 ≤ sizeLine; decide), fun p hpn => ?_⟩
      refine ⟨_, rfl, st, cl, 6, rfl, d3.ok.new hpn, by decide, by decide, fun v H4 d4 v0 v1 => ?_⟩
      have hpL : H4 p = some (.lst [.int 1, .int 1, .int 2, .int (-1), .int (-3), .int 1000000]) := by
        obtain ⟨c, z, S⟩ := d3.ok
        obtain ⟨h1, h2⟩ := S.away hpn
        exact d4.but p _ h1 h2 upd_same
      have s3 : Same H3 (upd H3 p (.lst [.int 1, .int 1, .int 2, .int (-1), .int (-3), .int 1000000])) := same_new hpn
      have D4 : Drawn st cl H H4 := ((D2.trans d3).trans (Drawn.of_same s3 d3.ok)).trans d4
      have hp4 : H4 d = some (.dT (vk (tally ps))) := d4.but d _ dst dcl (s3 _ _ hp3)
      have hrow4 : RowAt H4 t r := RowAt.tk (d4.tk (d3.ok.same s3)) (hrow.mono s3)
      have hlt : (vk (tally ps)).length < sizeLine := by
        rw [List.length_map]
        have := tally_len ps
        exact Nat.lt_of_lt_of_le (show _ < 2000 by omega) (by decide)
      obtain ⟨c, hc, hcb⟩ : ∃ c : Int, atI [V.int 1, .int 1, .int 2, .int (-1), .int (-3), .int 1000000] v = some (.int c) ∧ c.natAbs ≤ 1000000 := by
        rcases six v0 v1 with rfl | rfl | rfl | rfl | rfl | rfl
        · exact ⟨1, atI_nat (j := 0) rfl, by decide⟩
        · exact ⟨1, atI_nat (j := 1) rfl, by decide⟩
        · exact ⟨2, atI_nat (j := 2) rfl, by decide⟩
        · exact ⟨-1, atI_nat (j := 3) rfl, by decide⟩
        · exact ⟨-3, atI_nat (j := 4) rfl, by decide⟩
        · exact ⟨1000000, atI_nat (j := 5) rfl, by decide⟩
      refine ⟨p, _, v, .int c, rfl, rfl, sq_l hpL, hc, _, _, vk_getD _ _, rfl, ?_⟩
      refine ⟨_, rfl, _, rfl, d, _, rfl, DPut.t hp4 hrow4 hlt, ⟨_, _, rfl⟩, upd_d _ _ D4, ps ++ [(r, c)], ?_, by rw [List.length_append]; simp; omega, pb.app fun e he => ?_, pr.app fun e he => ?_⟩
      · rw [upd_same, vk_put, tally_snoc]
      · rw [List.mem_singleton.mp he]; exact hcb
      · rw [List.mem_singleton.mp he]; exact rok
    · rintro σ H2 ⟨⟨k, r, rfl⟩, D2, ps, hp, pl, pb, pr⟩
      refine ⟨_, rfl, d, ps, rfl, hp, by omega, pr.rowB, fun p H3 s3 hb => ?_⟩
      exact q p _ _ (D2.trans (Drawn.of_same s3 D2.ok)) hb (good_mk (by omega) pb pr)
end
end KA
set_option Elab.async false
set_option linter.all false
set_option maxRecDepth 100000
set_option maxHeartbeats 4000000
/-! _law_group -/
namespace KA
open PySem PySem.Spec PyProof.Rows L2
open PySem.W (EachIs)
theorem pair_plain (e : Row × Int) : (pairD e).plain = true := by
  have h := row_plain e.1
  simp only [pairD, PyData.plain, PyData.plainAll, h, Bool.and_self]
theorem bag_plain (b : Bag) : (bagD b).plain = true := by
  show PyData.plainAll (b.map pairD) = true
  induction b with
  | nil => rfl
  | cons e t ih => simp [PyData.plainAll, pair_plain e, ih]
theorem pair_depth (e : Row × Int) : (pairD e).depth ≤ 4 := by
  have h := row_depth e.1
  simp only [pairD, PyData.depth, PyData.depthAll]
  omega
theorem bag_depth (b : Bag) : (bagD b).depth ≤ 5 := by
  have key : ∀ b : Bag, PyData.depthAll (b.map pairD) ≤ 4 := fun b => by
    induction b with
    | nil => simp [PyData.depthAll]
    | cons e t ih =>
      have h := pair_depth e
      simp only [List.map_cons, PyData.depthAll]
      omega
  have h := key b
  simp only [bagD, PyData.depth]
  omega
theorem ne_bags {K : PySem.W.Frag} {H : Hp} {p q : Addr} {a b : Bag} {Q : VK} (hp : BagAt H p a) (hq : BagAt H q b) (e : a = b) (h : Q (.bl false) H) : rNeP K (.ref p) (.ref q) H Q := by
  subst e
  refine ⟨_, _, dp_bag hp, dp_bag hq, bag_plain a, bag_plain a, Nat.le_trans (bag_depth a) (by decide), ?_⟩
  rw [SeqAt.eqv_refl_plain _ (bag_plain a)]
  exact h
theorem eq_bags {K : PySem.W.Frag} {H : Hp} {p q : Addr} {a b : Bag} {Q : VK} (hp : BagAt H p a) (hq : BagAt H q b) (e : a = b) (h : Q (.bl true) H) : rEqP K (.ref p) (.ref q) H Q := by
  subst e
  refine ⟨_, _, dp_bag hp, dp_bag hq, bag_plain a, bag_plain a, Nat.le_trans (bag_depth a) (by decide), ?_⟩
  rw [SeqAt.eqv_refl_plain _ (bag_plain a)]
  exact h
structure OkBag (b : Bag) : Prop where
  canon : Canon b
  len : b.length ≤ 40
  bd : BdB (2 ^ 40) b
  rows : RowsOk b
theorem scale_rows {b : Bag} (h : RowsOk b) (m : Int) : RowsOk (scaleB b m) := fun e he => by
  unfold scaleB at he
  split at he
  · exact (List.not_mem_nil he).elim
  · obtain ⟨x, hx, rfl⟩ := List.mem_map.mp he
    exact h x hx
theorem OkBag.b60 {b : Bag} (h : OkBag b) : BdB (2 ^ 60) b := h.bd.mono (by decide)
theorem OkBag.sum {a b : Bag} (ha : OkBag a) (hb : OkBag b) : BdB (2 ^ 60) (KA.mk (a ++ b)) := (mk_bd (ha.bd.app hb.bd)).mono (by
  rw [List.length_append]
  have h1 := ha.len
  have h2 := hb.len
  calc (a.length + b.length) * 2 ^ 40 ≤ 80 * 2 ^ 40 := Nat.mul_le_mul_right _ (by omega)
    _ ≤ 2 ^ 60 := by decide)
theorem OkBag.slen {a b : Bag} (ha : OkBag a) (hb : OkBag b) : (KA.mk (a ++ b)).length ≤ 80 := Nat.le_trans (mk_len _) (by
  rw [List.length_append]
  have h1 := ha.len
  have h2 := hb.len
  omega)
section
variable {P : Program} {w : World} {K : PySem.W.Frag} {mg : Str → Option Value} {base : Heap} {f : Addr} {fd : FuncData}
def spGroup : Sp := fun vs H Q _ => ∃ (p q : Addr) (a b : Bag) (m : Int), vs = [.ref p, .ref q, .int m] ∧ BagAt H p a ∧ BagAt H q b ∧ OkBag a ∧ OkBag b ∧ ∀ H', Same H H' → Q (.bl true) H'
theorem ok_group (F : FnP K "_law_group" s__law_group f fd) (CP : Cal P w K mg base "plus" 6 ["first", "second"] spPlus) (CM : Cal P w K mg base "minus" 7 ["first", "second"] spMinus) (CS : Cal P w K mg base "scaled" 1 ["bag", "factor"] spScaled) :
    FnOk P w K mg base CX0 8 f fd ["first", "second", "factor"] spGroup := by
  refine F.ok sc__law_group (fun vs H Q E h => ?_) (fun cdv A outer s H vs Q E hr h => ?_)
  · obtain ⟨p, q, a, b, m, rfl, _⟩ := h
    rfl
  · obtain ⟨p, t, a, b, m, rfl, ha, hb, oa, ob, q⟩ := h
    refine ⟨_, PSs.nox (pss_cons (ps_set (i := 3) sc__law_group.nd rfl (Or.inl rfl) (pe_cal CP hr.lt (pa_cons (pv 0) (pa_cons (pv 1) pa_nil))))
      (pss_cons (ps_if (PW.pt (pw_or (pt_cmpR (op_neP hr.u64) (pe_cal CM hr (pa_cons (pv 3) (pa_cons (pv 1) pa_nil))) (pv 0) (nomark _)) (pw_or (pt_cmpR (op_neP hr.u64) (pe_cal CP hr.lt (pa_cons (pv 1) (pa_cons (pv 0) pa_nil))) (pv 3) (nomark _))
          (pw_or1 (pt_cmpR (op_neP hr.u64) (pe_cal CP hr.lt (pa_cons (pv 0) (pa_cons (pe_cal CS hr.lt (pa_cons (pv 0) (pa_cons (pe_un un_neg pe_int) pa_nil))) pa_nil))) (pe_lst pa_nil) (nomark _))))))
        (pss_one (ps_ret pe_bl)) pss_nil)
      (pss_one (ps_ret (pe_cmpR (op_eqP hr.u64) (pe_cal CS hr.lt (pa_cons (pv 3) (pa_cons (pv 2) pa_nil))) (pe_cal CP hr.lt (pa_cons (pe_cal CS hr.lt (pa_cons (pv 0) (pa_cons (pv 2) pa_nil))) (pa_cons (pe_cal CS hr.lt (pa_cons (pv 1) (pa_cons (pv 2) pa_nil))) pa_nil))) (nomark _)))))), ?_⟩
    have la := oa.len
    have lb := ob.len
    -- total
    refine ⟨_, rfl, _, rfl, p, t, a, b, rfl, ha, hb, by omega, by omega, oa.rows.rowB, ob.rows.rowB, fun u H1 s1 hu => ?_⟩
    have ru : RowB 1000 (mk (a ++ b)) := (mk_rowsOk (oa.rows.app ob.rows)).rowB
    have lu := oa.slen ob
    -- minus(total, second) != first
    refine ⟨_, rfl, _, rfl, u, t, _, b, rfl, hu, hb.mono s1, by omega, by omega, ru, ob.rows.rowB, ob.b60, fun x H2 s2 hx => ?_⟩
    have s12 := s1.trans s2
    refine ⟨_, rfl, ne_bags hx (ha.mono s12) (group1 oa.canon) ⟨_, rfl, iteF ?_⟩⟩
    -- plus(second, first) != total
    refine ⟨_, rfl, _, rfl, t, p, b, a, rfl, hb.mono s12, ha.mono s12, by omega, by omega, ob.rows.rowB, oa.rows.rowB, fun y H3 s3 hy => ?_⟩
    have s13 := s12.trans s3
    have hu3 := hu.mono (s2.trans s3)
    refine ⟨_, rfl, ne_bags hy hu3 (group2 a b) ⟨_, rfl, iteF ?_⟩⟩
    -- plus(first, scaled(first, -1)) != []
    refine ⟨_, rfl, _, rfl, _, rfl, p, a, -1, rfl, ha.mono s13, by omega, oa.b60, fun z H4 s4 hz => ?_⟩
    have s14 := s13.trans s4
    refine ⟨p, z, a, _, rfl, ha.mono s14, hz, by omega, Nat.le_trans (len_scale a _) (by omega), oa.rows.rowB, rowB_scale oa.rows.rowB _, fun v H5 s5 hv => ?_⟩
    refine ⟨Nat.zero_le _, fun n hn => ?_⟩
    have s6 : Same H5 (upd H5 n (.lst [])) := same_new hn
    have hn0 : BagAt (upd H5 n (.lst [])) n [] := ⟨[], upd_same, .nil⟩
    refine ne_bags (hv.mono s6) hn0 (group3 a) ⟨_, rfl, iteF ?_⟩
    have s16 := (s14.trans s5).trans s6
    have hu6 := hu3.mono ((s4.trans s5).trans s6)
    -- scaled(total, factor) == plus(scaled(first, factor), scaled(second, factor))
    refine ⟨_, rfl, _, rfl, u, _, m, rfl, hu6, by omega, oa.sum ob, fun c H7 s7 hc => ?_⟩
    have s17 := s16.trans s7
    refine ⟨_, rfl, _, rfl, p, a, m, rfl, ha.mono s17, by omega, oa.b60, fun d H8 s8 hd => ?_⟩
    refine ⟨_, rfl, _, rfl, t, b, m, rfl, hb.mono (s17.trans s8), by omega, ob.b60, fun e H9 s9 he => ?_⟩
    refine ⟨d, e, _, _, rfl, hd.mono s9, he, Nat.le_trans (len_scale a _) (by omega), Nat.le_trans (len_scale b _) (by omega), rowB_scale oa.rows.rowB _, rowB_scale ob.rows.rowB _, fun g H10 s10 hg => ?_⟩
    exact eq_bags (hc.mono ((s8.trans s9).trans s10)) hg (group4 a b m) (q _ (((s17.trans s8).trans s9).trans s10))
end
end KA
set_option Elab.async false
set_option linter.all false
set_option maxRecDepth 100000
set_option maxHeartbeats 4000000
/-! _law_ordered -/
namespace KA
open PySem PySem.Spec PyProof.Rows L2
open PySem.W (EachIs)
theorem ne_bl {b : Bool} {H : Hp} {Q : VK} (h : Q (.bl false) H) : rNe (.bl b) (.bl b) H Q := by
  refine ⟨rfl, ?_⟩
  rw [decide_eq_true rfl]
  exact h
theorem key_plain (x : Key) : (keyD x).plain = true := by cases x <;> rfl
theorem key_depth (x : Key) : (keyD x).depth ≤ 60 := by cases x <;> simp [keyD, PyData.depth]
/-- the rows that the law draws -/
theorem rows_of_acc {H : Hp} : ∀ {acc : List V} {ns : List Nat}, EachIs (fun v (_ : Nat) => ∃ t r, v = V.ref t ∧ RowAt H t r ∧ RowOk r) acc ns → ∃ (as : List Addr) (rs : List Row), acc = as.map V.ref ∧ EachIs (RowAt H) as rs ∧ ∀ r ∈ rs, RowOk r
  | _, _, .nil => ⟨[], [], rfl, .nil, fun r hr => (List.not_mem_nil hr).elim⟩
  | _, _, .cons ⟨t, r, e, h1, h2⟩ q => by
    obtain ⟨as, rs, e2, h3, h4⟩ := rows_of_acc q
    exact ⟨t :: as, r :: rs, by rw [e, e2]; rfl, .cons h1 h3, fun x hx => (List.mem_cons.mp hx).elim (fun z => by rw [z]; exact h2) (h4 x)⟩
section
variable {P : Program} {w : World} {K : PySem.W.Frag} {mg : Str → Option Value} {base : Heap} {f : Addr} {fd : FuncData}
def spOrdered : Sp := fun vs H Q _ => ∃ (st cl : Addr), vs = [.ref st] ∧ StOk H st cl ∧ ∀ H', Q (.bl true) H'
theorem ok_ordered (F : FnP K "_law_ordered" s__law_ordered f fd) (gR : mg "range" = none) (gI : mg "int" = none) (C : DrawC P w K mg base) (CR : RowC P w K mg base) (CW : Cal P w K mg base "wrap" 1 ["n"] spWrap)
    (CK : Cal P w K mg base "_law_key" 1 ["row"] (spLawKey K)) (CA : Cal P w K mg base "rank" 1 ["value"] (spRank K)) (CB : Cal P w K mg base "row_rank" 2 ["row"] (spKey K rankRow)) : FnOk P w K mg base CX0 4 f fd ["state"] spOrdered := by
  refine F.ok sc__law_ordered (fun vs H Q E h => ?_) (fun cdv A outer s H vs Q E hr h => ?_)
  · obtain ⟨n, r, rfl, _⟩ := h
    rfl
  · obtain ⟨st, cl, rfl, hS, q⟩ := h
    refine ⟨_, PSs.nox (pss_cons (ps_setLc (i := 1) (own := [("k", 2)]) (g := (gName 2)) (tt := tYes) (by rfl) sc__law_ordered.nd rfl rfl (sw_true rfl rfl rfl (by decide +kernel)) (pi_range1 rfl gR (pa_cons pe_int pa_nil)) (blkOk_by (own := [("k", 2)]) (N := ["state", "rows", "k", "first", "second", "one", "other", "n", "told"]) (sc := defScope s__law_ordered) (by decide +kernel)) (fun _ _ _ _ _ => (pg_name (i := 2) sc__law_ordered.nd rfl (Or.inl rfl))) (fun _ _ _ _ _ => pts_nil) (fun _ _ _ _ _ => (pe_cal CR hr.lt (pa_cons (pv 0) (pa_cons pe_int pa_nil)))))
      (pss_cons (ps_for PassesOwn.never rfl (pi_list (pv 1)) (pg_name (i := 3) sc__law_ordered.nd rfl (Or.inl rfl))
        (pss_one (ps_for PassesOwn.never rfl (pi_list (pv 1)) (pg_name (i := 4) sc__law_ordered.nd rfl (Or.inl rfl))
          (pss_cons (ps_if (pt_cmpR op_ne (pe_cmpR (op_ltK hr.u64) (pe_cal CB hr.lt (pa_cons (pv 3) pa_nil)) (pe_cal CB hr.lt (pa_cons (pv 4) pa_nil)) (nomark _)) (pe_cmpR (op_ltK hr.u64) (pe_cal CK hr.lt (pa_cons (pv 3) pa_nil)) (pe_cal CK hr.lt (pa_cons (pv 4) pa_nil)) (nomark _)) (nomark _))
            (pss_one (ps_ret pe_bl)) pss_nil)
          (pss_one (ps_for PassesOwn.never rfl (pi_tup (pv 3)) (pg_name (i := 5) sc__law_ordered.nd rfl (Or.inl rfl))
            (pss_one (ps_for PassesOwn.never rfl (pi_tup (pv 4)) (pg_name (i := 6) sc__law_ordered.nd rfl (Or.inl rfl))
              (pss_cons (ps_if (pt_cmpR op_ne (pe_cmpR (op_ltK hr.u64) (pe_cal CA hr.lt (pa_cons (pv 5) pa_nil)) (pe_cal CA hr.lt (pa_cons (pv 6) pa_nil)) (nomark _)) (pe_cmpR (op_ltK hr.u64) (pe_cal CK hr.lt (pa_cons (pe_lst (pa_cons (pv 5) pa_nil)) pa_nil)) (pe_cal CK hr.lt (pa_cons (pe_lst (pa_cons (pv 6) pa_nil)) pa_nil)) (nomark _)) (nomark _))
                (pss_one (ps_ret pe_bl)) pss_nil)
              (pss_one (ps_if (pt_cmpR op_ne (pe_cmpR (op_eqP hr.u64) (pe_cal CA hr.lt (pa_cons (pv 5) pa_nil)) (pe_cal CA hr.lt (pa_cons (pv 6) pa_nil)) (nomark _)) (pe_cmpR (op_eqP hr.u64) (pv 5) (pv 6) (nomark _)) (nomark _))
                (pss_one (ps_ret pe_bl)) pss_nil)))))))))))
      (pss_cons (ps_set (i := 7) sc__law_ordered.nd rfl (Or.inl rfl) (pe_op op_add (pe_op op_mul (pe_op op_sub (pe_cal C hr.lt (pa_cons (pv 0) (pa_cons pe_int pa_nil))) pe_int) (pe_op op_add pe_int (pe_cal C hr.lt (pa_cons (pv 0) (pa_cons pe_int pa_nil))))) (pe_cal C hr.lt (pa_cons (pv 0) (pa_cons pe_int pa_nil)))))
      (pss_cons (ps_if (pt_cmpR op_eq (pe_cal C hr.lt (pa_cons (pv 0) (pa_cons pe_int pa_nil))) pe_int (nomark _))
        (pss_one (ps_set (i := 7) sc__law_ordered.nd rfl (Or.inl rfl) (pe_ix ix_list (pe_lst (pa_cons pe_int (pa_cons pe_int (pa_cons (pe_un un_neg pe_int) (pa_cons (pe_un un_neg pe_int) (pa_cons pe_int pa_nil)))))) (pe_cal C hr.lt (pa_cons (pv 0) (pa_cons pe_int pa_nil))) (fun _ _ => rfl)))) pss_nil)
      (pss_cons (ps_set (i := 8) sc__law_ordered.nd rfl (Or.inl rfl) (pe_cal CW hr.lt (pa_cons (pv 7) pa_nil)))
      (pss_one (ps_ret (pe_and (pe_chain op_le op_lt (pe_un un_neg pe_int) (pv 8) pe_int) (pe_one (pe_cmpR op_eq (pe_op op_mod (pe_callTy call_int1 (by rfl) gI (by decide +kernel) (pa_cons (pe_op op_sub (pv 8) (pv 7)) pa_nil)) pe_int) pe_int (nomark _))))))))))), ?_⟩
    refine ⟨4, rfl, by decide, by decide, fun D hD => ?_⟩
    obtain ⟨c0, z0, S0⟩ := id hS
    obtain ⟨Dst, Dcl⟩ := S0.away hD
    refine lc_go walk_range (List.range 4) rfl (fun _ => true) (fun H v _ => ∃ t r, v = V.ref t ∧ RowAt H t r ∧ RowOk r) (fun _ _ _ _ k ⟨t, r, e, h1, h2⟩ => ⟨t, r, e, h1.tk k, h2⟩) (fun H' => Drawn st cl H H') (Drawn.of_same (same_new hD) hS) (fun _ _ => trivial) ?_ (by decide) ?_ ?_
    · intro H' acc d
      refine ⟨fun a o h1 h2 h3 => ?_, ?_, fun z => ?_⟩
      · rw [upd_ne (ne_of_none h3 hD)]
        exact d.but a o h1 h2 h3
      · obtain ⟨c, z, S⟩ := d.ok
        exact ⟨c, z, by rw [upd_ne Dst.symm]; exact S.hs, by rw [upd_ne Dcl.symm]; exact S.hc, S.lo, S.hi, S.len, S.nn⟩
      · rw [upd_ne Dcl.symm]
        exact d.nil z
    · rintro i x b H2 _ hi hb d2 ⟨acc, ha⟩ ⟨rfl, rfl⟩ Q' Qn k1 _
      refine ⟨rfl, yes_in ⟨_, rfl, st, cl, rfl, d2.ok, fun t r H3 d3 ht hrow rok => k1 rfl _ _ (d2.trans d3) ?_ (d3.tk d2.ok) ⟨t, r, rfl, hrow, rok⟩⟩⟩
      rw [ha]
      exact d3.but D _ Dst Dcl ha
    · intro H1 acc d1 ha he
      rw [filter_true] at he
      obtain ⟨as, rs, rfl, hrows, hok⟩ := rows_of_acc he
      -- for first in rows
      refine ⟨_, rfl, D, rfl, ⟨_, sq_l ha⟩, for_it (walk_list (xs := as.map V.ref)) (fun i σ H' => (∃ x2 x3 x4 x5 x6 x7 x8, σ = [some (.ref st), some (.ref D), x2, x3, x4, x5, x6, x7, x8]) ∧ Same H1 H') ⟨⟨_, _, _, _, _, _, _, rfl⟩, Same.refl _⟩ (fun i σ H' _ z => sq_l (z.2 _ _ ha)) ?_ ?_⟩
      · rintro i x σ H2 _ hi ⟨⟨x2, x3, x4, x5, x6, x7, x8, rfl⟩, s2⟩ ⟨rfl, hx⟩
        obtain ⟨a, ha1, rfl⟩ := ref_at hx
        obtain ⟨ra, hra, har⟩ := each_at hrows ha1
        have la : ra.length ≤ 1000 := Nat.le_trans (hok ra (List.mem_of_getElem? hra)).1 (by decide)
        -- for second in rows
        refine ⟨_, rfl, D, rfl, ⟨_, sq_l (s2 _ _ ha)⟩, for_it (walk_list (xs := as.map V.ref)) (fun i σ H' => (∃ x2 x4 x5 x6 x7 x8, σ = [some (.ref st), some (.ref D), x2, some (.ref a), x4, x5, x6, x7, x8]) ∧ Same H1 H') ⟨⟨_, _, _, _, _, _, rfl⟩, s2⟩ (fun i σ H' _ z => sq_l (z.2 _ _ ha)) ?_ ?_⟩
        · rintro j y σ H3 _ hj ⟨⟨x2, x4, x5, x6, x7, x8, rfl⟩, s3⟩ ⟨rfl, hy⟩
          obtain ⟨b, hb1, rfl⟩ := ref_at hy
          obtain ⟨rb, hrb, hbr⟩ := each_at hrows hb1
          have lb : rb.length ≤ 1000 := Nat.le_trans (hok rb (List.mem_of_getElem? hrb)).1 (by decide)
          have har3 := har.mono s3
          have hbr3 := hbr.mono s3
          -- the keys of both rows
          refine ⟨_, rfl, a, ra, rfl, har3, la, fun v1 H4 s4 d4 => ?_⟩
          refine ⟨_, rfl, b, rb, rfl, hbr3.mono s4, lb, fun v2 H5 s5 d5 => ?_⟩
          refine .inl ⟨ra, rb, Dp.mono s5 d4, d5, ?_⟩
          refine ⟨_, rfl, a, ra, rfl, .inl ((har3.mono s4).mono s5), la, fun v3 H6 s6 d6 => ?_⟩
          refine ⟨_, rfl, b, rb, rfl, .inl (((hbr3.mono s4).mono s5).mono s6), lb, fun v4 H7 s7 d7 => ?_⟩
          refine .inr (.inl ⟨ra, rb, Dp.mono s7 d6, d7, ne_bl ⟨_, rfl, iteF ?_⟩⟩)
          have s37 := ((s4.trans s5).trans s6).trans s7
          have s17 := s3.trans s37
          -- for one in first
          refine ⟨_, rfl, a, rfl, ⟨_, (har.mono s17).sq⟩, for_it (walk_tup (xs := ra.map kV)) (fun i σ H' => (∃ x2 x5 x6 x7 x8, σ = [some (.ref st), some (.ref D), x2, some (.ref a), some (.ref b), x5, x6, x7, x8]) ∧ Same H1 H') ⟨⟨_, _, _, _, _, rfl⟩, s17⟩ (fun i σ H' _ z => (har.mono z.2).sq) ?_ ?_⟩
          · rintro k u σ H8 _ hk ⟨⟨x2, x5, x6, x7, x8, rfl⟩, s8⟩ ⟨rfl, hu⟩
            obtain ⟨kx, hkx, rfl⟩ := map_at hu
            refine ⟨_, rfl, b, rfl, ⟨_, (hbr.mono s8).sq⟩, for_it (walk_tup (xs := rb.map kV)) (fun i σ H' => (∃ x2 x6 x7 x8, σ = [some (.ref st), some (.ref D), x2, some (.ref a), some (.ref b), some (kV kx), x6, x7, x8]) ∧ Same H1 H') ⟨⟨_, _, _, _, rfl⟩, s8⟩ (fun i σ H' _ z => (hbr.mono z.2).sq) ?_ ?_⟩
            · rintro l z σ H9 _ hl ⟨⟨x2, x6, x7, x8, rfl⟩, s9⟩ ⟨rfl, hz⟩
              obtain ⟨ky, hky, rfl⟩ := map_at hz
              -- rank(one) < rank(other), by both keys
              refine ⟨_, rfl, kx, rfl, fun v1 H4 t4 d4 => ?_⟩
              refine ⟨_, rfl, ky, rfl, fun v2 H5 t5 d5 => ?_⟩
              refine .inr (.inr ⟨kx, ky, (Tp.tk t5.tk d4).dp, d5.dp, ?_⟩)
              refine ⟨_, rfl, (by show 1 ≤ sizeLine; decide), fun p1 hp1 => ?_⟩
              have u1 : Same H5 (upd H5 p1 (.lst [kV kx])) := same_new hp1
              refine ⟨p1, [kx], rfl, .inr upd_same, by show 1 ≤ 1000; decide, fun v3 H6 t6 d6 => ?_⟩
              refine ⟨_, rfl, (by show 1 ≤ sizeLine; decide), fun p2 hp2 => ?_⟩
              have u2 : Same H6 (upd H6 p2 (.lst [kV ky])) := same_new hp2
              refine ⟨p2, [ky], rfl, .inr upd_same, by show 1 ≤ 1000; decide, fun v4 H7 t7 d7 => ?_⟩
              have el : rowLt [kx] [ky] = oneLt kx ky := by
                rw [rowLt]
                by_cases e : kx = ky
                · rw [if_pos e, e, oneLt_irrefl]; rfl
                · rw [if_neg e]
              refine .inr (.inl ⟨[kx], [ky], Dp.mono t7 (Dp.mono u2 d6), d7, ?_⟩)
              rw [el]
              refine ne_bl ⟨_, rfl, iteF ?_⟩
              have s99 := s9.trans (((((t4.trans t5).trans u1).trans t6).trans u2).trans t7)
              -- rank(one) == rank(other)
              refine ⟨_, rfl, kx, rfl, fun w1 G4 r4 e4 => ?_⟩
              refine ⟨_, rfl, ky, rfl, fun w2 G5 r5 e5 => ?_⟩
              refine ⟨_, _, (Tp.tk r5.tk e4).dp, e5.dp, rank_plain kx, rank_plain ky, Nat.le_trans (rank_depth kx) (by decide), ?_⟩
              refine ⟨_, rfl, _, rfl, _, _, dp_key kx, dp_key ky, key_plain kx, key_plain ky, key_depth kx, ?_⟩
              rw [eqv_rank, eqv_key]
              exact ne_bl ⟨_, rfl, iteF ⟨⟨_, _, _, _, rfl⟩, (s99.trans r4).trans r5⟩⟩
            · rintro σ H9 ⟨⟨x2, x6, x7, x8, rfl⟩, s9⟩
              exact ⟨⟨_, _, _, _, _, rfl⟩, s9⟩
          · rintro σ H9 ⟨⟨x2, x5, x6, x7, x8, rfl⟩, s9⟩
            exact ⟨⟨_, _, _, _, _, _, rfl⟩, s9⟩
        · rintro σ H9 ⟨⟨x2, x4, x5, x6, x7, x8, rfl⟩, s9⟩
          exact ⟨⟨_, _, _, _, _, _, _, rfl⟩, s9⟩
      · rintro σ H2 ⟨⟨x2, x3, x4, x5, x6, x7, x8, rfl⟩, s2⟩
        -- n
        have ok2 := d1.ok.same s2
        refine ⟨_, rfl, st, cl, 8589934592, rfl, ok2, by decide, by decide, fun m1 H3 e3 m10 m11 => ?_⟩
        refine ⟨_, _, rfl, rfl, ?_⟩
        refine ⟨_, rfl, st, cl, 5, rfl, e3.ok, by decide, by decide, fun m2 H4 e4 m20 m21 => ?_⟩
        refine ⟨_, _, rfl, rfl, _, _, rfl, rfl, .inl ⟨by omega, by omega⟩, ?_⟩
        refine ⟨_, rfl, st, cl, 3, rfl, e4.ok, by decide, by decide, fun m3 H5 e5 m30 m31 => ?_⟩
        refine ⟨_, _, rfl, rfl, ?_⟩
        refine ⟨_, rfl, st, cl, 3, rfl, e5.ok, by decide, by decide, fun m4 H6 e6 m40 m41 => ?_⟩
        have fin : ∀ (n : Int) (G : Hp), StOk G st cl → (tSeq (tAsg (tCall spWrap [] E0 (tCons (tVar 7) tNil)) (gName 8)) (tRet (tAndV (tChain (rI0 fun i j => .bl (decide (i ≤ j))) (rI0 fun i j => .bl (decide (i < j))) (tUn (rU fun i => .int (-i)) (tC (.int 2147483648))) (tVar 8) (tC (.int 2147483648)))
            (tOp rEq (tOp (rI (fun _ j => 0 < j) fun i j => .int (i % j)) (tCB (fun xs H Q => (∃ i, xs = [.int i] ∧ Q (.int i) H) ∨ ∃ k, xs = [.bl k] ∧ Q (.int (if k then 1 else 0)) H) (tCons (tOp (rI0 fun i j => .int (i - j)) (tVar 8) (tVar 7)) tNil)) (tC (.int 4294967296))) (tC (.int 0))))))
            { nx := fun _ H' => Q .non H', rt := Q } [some (.ref st), some (.ref D), x2, x3, x4, x5, x6, some (.int n), x8] G := fun n G _ => by
          have lo : -2147483648 ≤ wrapZ n := by unfold wrapZ; omega
          have hi : wrapZ n < 2147483648 := by unfold wrapZ; omega
          have md : (wrapZ n - n) % 4294967296 = 0 := by unfold wrapZ; omega
          refine ⟨_, rfl, n, rfl, ?_⟩
          refine ⟨_, rfl, _, rfl, _, _, rfl, rfl, _, rfl, ?_⟩
          rw [if_pos (decide_eq_true lo)]
          refine ⟨_, _, rfl, rfl, _, rfl, ?_⟩
          rw [if_pos (decide_eq_true hi)]
          refine ⟨_, rfl, _, rfl, _, _, rfl, rfl, .inl ⟨_, rfl, _, _, rfl, rfl, (by show (0 : Int) < 4294967296; decide), rfl, ?_⟩⟩
          show Q (.bl (decide (V.int ((wrapZ n - n) % 4294967296) = V.int 0))) G
          rw [md, decide_eq_true rfl]
          exact q G
        refine ⟨rfl, _, rfl, ite2 (fun _ => ?_) fun _ => ?_⟩
        · refine ⟨_, rfl, _, rfl, (by show 5 ≤ sizeLine; decide), fun p hp => ?_⟩
          refine ⟨_, rfl, st, cl, 5, rfl, e6.ok.new hp, by decide, by decide, fun v H7 e7 v0 v1 => ?_⟩
          have hpL : H7 p = some (.lst [.int 2147483647, .int 2147483648, .int (-2147483648), .int (-2147483649), .int 0]) := by
            obtain ⟨c, z, S⟩ := e6.ok
            obtain ⟨h1, h2⟩ := S.away hp
            exact e7.but p _ h1 h2 upd_same
          obtain ⟨m, hm⟩ : ∃ m : Int, atI [V.int 2147483647, .int 2147483648, .int (-2147483648), .int (-2147483649), .int 0] v = some (.int m) := by
            have h5 : v = 0 ∨ v = 1 ∨ v = 2 ∨ v = 3 ∨ v = 4 := by omega
            rcases h5 with rfl | rfl | rfl | rfl | rfl
            · exact ⟨_, atI_nat (j := 0) rfl⟩
            · exact ⟨_, atI_nat (j := 1) rfl⟩
            · exact ⟨_, atI_nat (j := 2) rfl⟩
            · exact ⟨_, atI_nat (j := 3) rfl⟩
            · exact ⟨_, atI_nat (j := 4) rfl⟩
          exact ⟨p, _, v, .int m, rfl, rfl, sq_l hpL, hm, fin m _ e7.ok⟩
        · exact fin ((m1 - 4294967296) * (1 + m2) + m3) _ e6.ok
end
end KA
set_option Elab.async false
set_option linter.all false
set_option maxRecDepth 100000
set_option maxHeartbeats 4000000
/-! repr of data: how long its text is, the call -/
namespace KA
open PySem PySem.Spec PyProof.Rows L2
open PySem.W (EachIs)
theorem textFrom_le : ∀ (ts : List Str) (k : Nat) (acc : Str) (M : Nat), (∀ t ∈ ts, t.length ≤ M) → (textFrom k acc ts).length ≤ acc.length + ts.length * (M + 2)
  | [], k, acc, M, _ => by
    show acc.length ≤ _
    omega
  | t :: ts, k, acc, M, h => by
    have ih := textFrom_le ts (k + 1) (acc ++ (if k > 0 then ", " else "" : String) ++ t) M fun x hx => h x (List.mem_cons_of_mem _ hx)
    have ht := h t List.mem_cons_self
    have e : (acc ++ (if k > 0 then ", " else "" : String) ++ t).length ≤ acc.length + 2 + t.length := by
      rw [strLen_append, strLen_append]
      split
      · exact Nat.le_refl _
      · show acc.length + 0 + t.length ≤ _
        omega
    rw [List.length_cons, Nat.succ_mul]
    show (textFrom (k + 1) (acc ++ (if k > 0 then ", " else "" : String) ++ t) ts).length ≤ _
    omega
theorem listText_le {ts : List Str} {M : Nat} (h : ∀ t ∈ ts, t.length ≤ M) : (listText ts).length ≤ ts.length * (M + 2) + 2 := by
  unfold listText
  rw [strLen_append]
  have h1 := textFrom_le ts 0 "[" M h
  have e1 : (("[" : String) : Str).length = 1 := rfl
  have e2 : (("]" : String) : Str).length = 1 := rfl
  omega
theorem piled_le : ∀ {ts : List Str} {M : Nat}, (∀ t ∈ ts, t.length ≤ M) → piled ts ≤ ts.length * (M + 2)
  | [], M, _ => by simp [piled]
  | t :: ts, M, h => by
    have ih := piled_le (ts := ts) fun x hx => h x (List.mem_cons_of_mem _ hx)
    have ht := h t List.mem_cons_self
    rw [List.length_cons, Nat.succ_mul]
    simp only [piled] at ih ⊢
    simp only [List.map_cons, List.sum_cons] at ih ⊢
    omega
theorem tupleText_le {ts : List Str} {M : Nat} (h : ∀ t ∈ ts, t.length ≤ M) : (tupleText ts).length ≤ ts.length * (M + 2) + 3 := by
  unfold tupleText
  rw [strLen_append, strLen_append]
  have e1 : (("(" : String) : Str).length = 1 := rfl
  have e2 : ((if ts.length == 1 then ",)" else ")" : String) : Str).length ≤ 2 := by
    split
    · exact Nat.le_refl _
    · show 1 ≤ 2
      omega
  have h2 : (Str.join ", " ts).length ≤ ts.length * (M + 2) := by
    by_cases e : ts = []
    · subst e
      exact Nat.zero_le _
    · have h3 := join_length_add ts e
      have h4 := piled_le h
      omega
  have e3 : (("(" : Str)).length = 1 := rfl
  omega
theorem int_len {i : Int} (h : i.natAbs ≤ 2 ^ 40) : (PyData.int i).shown.length ≤ 50 := by
  show (Str.ofString (toString i)).length ≤ 50
  have hl : i.natAbs.log2 < 41 := by
    by_cases e : i.natAbs = 0
    · rw [e]; decide
    · exact (Nat.log2_lt e).mpr (Nat.lt_of_le_of_lt h (by decide))
  have e := int_text_length_le (k := 41) (by decide) hl
  rw [PySem.ofString_length]
  omega
theorem int_show {i : Int} (h : i.natAbs ≤ 2 ^ 40) : (PyData.int i).showable = true := by
  simp only [PyData.showable, decide_eq_true_eq]
  by_cases e : i.natAbs = 0
  · rw [e]; decide
  · exact Nat.lt_of_lt_of_le ((Nat.log2_lt e).mpr (Nat.lt_of_le_of_lt h (show 2 ^ 40 < 2 ^ 41 by decide))) (by decide)
theorem key_len {x : Key} (h : KeyOk x) : (keyD x).shown.length ≤ 50 ∧ (keyD x).showable = true ∧ (keyD x).hasDict = false := by
  cases x with
  | inl i =>
    have h' : i.natAbs ≤ 2 ^ 33 := h
    have h2 : i.natAbs ≤ 2 ^ 40 := Nat.le_trans h' (by decide)
    exact ⟨int_len h2, int_show h2, rfl⟩
  | inr x =>
    refine ⟨?_, rfl, rfl⟩
    show (reprText x).length ≤ 50
    rcases h with rfl | rfl | rfl | rfl <;> decide +kernel
theorem all_show {α : Type} {D : α → PyData} : ∀ {xs : List α}, (∀ x ∈ xs, (D x).showable = true ∧ (D x).hasDict = false) → PyData.showableAll (xs.map D) = true ∧ PyData.hasDictAll (xs.map D) = false
  | [], _ => ⟨rfl, rfl⟩
  | x :: xs, h => by
    obtain ⟨h1, h2⟩ := all_show (D := D) (xs := xs) fun y hy => h y (List.mem_cons_of_mem _ hy)
    obtain ⟨h3, h4⟩ := h x List.mem_cons_self
    exact ⟨by simp [PyData.showableAll, h1, h3], by simp [PyData.hasDictAll, h2, h4]⟩
theorem mem_shown {α : Type} {D : α → PyData} {xs : List α} {t : Str} (h : t ∈ PyData.shownAll (xs.map D)) : ∃ x ∈ xs, t = (D x).shown := by
  rw [shownAll_eq_map, List.map_map] at h
  obtain ⟨x, hx, e⟩ := List.mem_map.mp h
  exact ⟨x, hx, e.symm⟩
theorem len_shown {α : Type} {D : α → PyData} (xs : List α) : (PyData.shownAll (xs.map D)).length = xs.length := by
  rw [shownAll_eq_map, List.length_map, List.length_map]
structure Prints (d : PyData) (n : Nat) : Prop where
  len : d.shown.length ≤ n
  sh : d.showable = true
  nd : d.hasDict = false
theorem tup_prints {α : Type} {D : α → PyData} {xs : List α} {n k : Nat} (h : ∀ x ∈ xs, Prints (D x) n) (hk : xs.length ≤ k) : Prints (.tuple (xs.map D)) (k * (n + 2) + 3) := by
  obtain ⟨h1, h2⟩ := all_show (D := D) (xs := xs) fun x hx => ⟨(h x hx).sh, (h x hx).nd⟩
  refine ⟨?_, by simpa [PyData.showable] using h1, by simpa [PyData.hasDict] using h2⟩
  have h3 := tupleText_le (ts := PyData.shownAll (xs.map D)) (M := n) fun t ht => by
    obtain ⟨x, hx, rfl⟩ := mem_shown ht
    exact (h x hx).len
  rw [len_shown] at h3
  simp only [PyData.shown]
  exact Nat.le_trans h3 (Nat.add_le_add_right (Nat.mul_le_mul_right _ hk) 3)
theorem lst_prints {α : Type} {D : α → PyData} {xs : List α} {n k : Nat} (h : ∀ x ∈ xs, Prints (D x) n) (hk : xs.length ≤ k) : Prints (.list (xs.map D)) (k * (n + 2) + 2) := by
  obtain ⟨h1, h2⟩ := all_show (D := D) (xs := xs) fun x hx => ⟨(h x hx).sh, (h x hx).nd⟩
  refine ⟨?_, by simpa [PyData.showable] using h1, by simpa [PyData.hasDict] using h2⟩
  have h3 := listText_le (ts := PyData.shownAll (xs.map D)) (M := n) fun t ht => by
    obtain ⟨x, hx, rfl⟩ := mem_shown ht
    exact (h x hx).len
  rw [len_shown] at h3
  simp only [PyData.shown]
  exact Nat.le_trans h3 (Nat.add_le_add_right (Nat.mul_le_mul_right _ hk) 2)
theorem row_prints {r : Row} (h : RowOk r) : Prints (rowD r) 200 := by
  have q := tup_prints (D := keyD) (xs := r) (n := 50) (k := 3) (fun x hx => let z := key_len (h.2 x hx); ⟨z.1, z.2.1, z.2.2⟩) h.1
  exact ⟨Nat.le_trans q.len (by decide), q.sh, q.nd⟩
theorem pair_prints {e : Row × Int} (h : RowOk e.1) (hb : e.2.natAbs ≤ 2 ^ 40) : Prints (pairD e) 500 := by
  have q := tup_prints (D := fun d : PyData => d) (xs := [rowD e.1, .int e.2]) (n := 200) (k := 2) (fun d hd => by
    rcases List.mem_cons.mp hd with rfl | hd
    · exact row_prints h
    · rw [List.mem_singleton.mp hd]
      exact ⟨Nat.le_trans (int_len hb) (by decide), int_show hb, rfl⟩) (by simp)
  exact ⟨Nat.le_trans q.len (by decide), q.sh, q.nd⟩
theorem bag_prints {b : Bag} (hl : b.length ≤ 40) (hr : RowsOk b) (hb : BdB (2 ^ 40) b) : Prints (bagD b) 21000 := by
  have q := lst_prints (D := pairD) (xs := b) (n := 500) (k := 40) (fun e he => pair_prints (hr e he) (hb e he)) hl
  exact ⟨Nat.le_trans q.len (by decide), q.sh, q.nd⟩
theorem two_prints {a b : Bag} (ha : Prints (bagD a) 21000) (hb : Prints (bagD b) 21000) : Prints (.list [bagD a, bagD b]) 50000 := by
  have q := lst_prints (D := fun d : PyData => d) (xs := [bagD a, bagD b]) (n := 21000) (k := 2) (fun d hd => by
    rcases List.mem_cons.mp hd with rfl | hd
    · exact ha
    · rw [List.mem_singleton.mp hd]; exact hb) (by simp)
  exact ⟨Nat.le_trans q.len (by decide), q.sh, q.nd⟩
/-- repr(x), x an object that reads as data -/
def rRepr (K : PySem.W.Frag) : List V → Hp → VK → Prop := fun xs H Q => ∃ (a : Addr) (d : PyData), xs = [.ref a] ∧ Dp K H (.ref a) d ∧ Prints d 50000 ∧ d.depth ≤ 50 ∧ Q (.str d.shown) H
theorem call_reprD {X : Cx} (hg : X.A.guards = some []) (hu : X.A.units + 64 < cLine) : CallR X (.builtin "repr") (rRepr X.K) := by
  intro pins s σ H xs us Q I r h
  obtain ⟨a, d, rfl, hd, pr, dd, q⟩ := h
  obtain rfl := Vals.ref1 r
  obtain ⟨as, rd⟩ := Dp.reads I d _ _ hd rfl
  refine PySem.repr_of_reads' rd pr.sh (fun z => by rw [pr.nd] at z; cases z) hg (by omega) (fun _ _ z => z) (fun h' u tk hk => ?_) (Nat.le_trans pr.len (by decide))
  exact ⟨.str d.shown, H, I.kept (t' := tk) hk, ⟨u, rfl⟩, q⟩
end KA
set_option Elab.async false
set_option linter.all false
set_option maxRecDepth 100000
set_option maxHeartbeats 4000000
/-! the law: its comprehensions -/
namespace KA
open PySem PySem.Spec PyProof.Rows L2
open PySem.W (EachIs)
section
variable {K : PySem.W.Frag} {σ : L2.St} {p : Addr} {b : Bag} {H : Hp} {D : Addr} {Qd : Hp → Prop} {te : TE} {tt : TT} {vs : List Nat} {si sj : Nat}
/-- pairs made of the pairs of a bag -/
theorem pair_map (g : Row × Int → Row × Int) (hp : BagAt H p b) (hl : b.length ≤ 1000) (hD : H D = none) (hw : ∀ x y, wipe (((wipe σ vs).set si x).set sj y) vs = wipe σ vs)
    (turn : ∀ (e : Row × Int) (q : Addr) (H' : Hp), e ∈ b → Same H H' → RowAt H' q e.1 → ∀ Q : VK, (∀ z H'', Same H' H'' → PairAt H'' z (g e) → Q (.ref z) H'') → te (((wipe σ vs).set si (some (.ref q))).set sj (some (.int e.2))) H' Q)
    (done : ∀ H', Same H H' → BagAt H' D (b.map g) → Qd H') :
    ∃ W : Nat → Nat → Hp → Prop, (∃ m, W 0 m (upd H D (.lst []))) ∧ ∀ i m H, W i m H →
      ((Itl K p).stop i H ∧ Qd H) ∨ ((Itl K p).go i H ∧ ∃ Nx : Hp → Prop, (∀ H', Nx H' → ∃ m', m' < m ∧ W (i + 1) m' H') ∧ ∀ x H', (Itl K p).yld i H x H' → gP2 K si sj x (wipe σ vs) H' fun σ2 H2 => wipe σ2 vs = wipe σ vs ∧
        tYes σ2 H2 fun b H3 => if b = true then te σ2 H3 fun y H4 => ∃ acc, H4 D = some (.lst acc) ∧ acc.length < sizeLine ∧ Nx (upd H4 D (.lst (acc ++ [y]))) else Nx H3) := by
  obtain ⟨ts, h1, h2⟩ := id hp
  have hn : b.length = ts.length := h2.length.symm
  refine lc_same (walk_list (xs := ts.map V.ref)) b (by rw [List.length_map, hn]) (fun _ => true) (fun H v e => ∃ t, v = .ref t ∧ PairAt H t (g e)) (fun _ _ _ _ k ⟨t, e, z⟩ => ⟨t, e, z.tk k⟩) hD (fun H' s' => sq_l (s' _ _ h1)) (by rw [List.length_map]; omega) ?_ ?_
  · rintro i x e H1 _ hi he s1 ⟨rfl, hx⟩ Q' Qn k1 _
    obtain ⟨t, ht, rfl⟩ := ref_at hx
    obtain ⟨qa, p1, p2⟩ := (each_get h2 ht he).mono s1
    exact gp2 p1 ⟨hw _ _, yes_in (turn e qa _ (List.mem_of_getElem? he) s1 p2 _ fun z H2 s2 hz => k1 rfl _ _ s2 ⟨z, rfl, hz⟩)⟩
  · intro H1 acc s1 ha he
    rw [filter_true] at he
    obtain ⟨as, rfl, hq⟩ := each_list (P := fun t (e : Row × Int) => PairAt H1 t (g e)) (fun v e z => z) he
    exact done H1 s1 ⟨as, ha, each_map_r (R := PairAt H1) g hq⟩
/-- the rows of the pairs of a bag, of all or of some -/
theorem row_map (keep : Row × Int → Bool) (hp : BagAt H p b) (hl : b.length ≤ 1000) (hD : H D = none) (hw : ∀ x y, wipe (((wipe σ vs).set si x).set sj y) vs = wipe σ vs)
    (test : ∀ (e : Row × Int) (q : Addr) (H' : Hp), e ∈ b → ∀ Q : Bool → Hp → Prop, Q (keep e) H' → tt (((wipe σ vs).set si (some (.ref q))).set sj (some (.int e.2))) H' Q)
    (turn : ∀ (e : Row × Int) (q : Addr) (H' : Hp) (Q : VK), Q (.ref q) H' → te (((wipe σ vs).set si (some (.ref q))).set sj (some (.int e.2))) H' Q)
    (done : ∀ H', Same H H' → RowsAt H' D ((b.filter keep).map (·.1)) → Qd H') :
    ∃ W : Nat → Nat → Hp → Prop, (∃ m, W 0 m (upd H D (.lst []))) ∧ ∀ i m H, W i m H →
      ((Itl K p).stop i H ∧ Qd H) ∨ ((Itl K p).go i H ∧ ∃ Nx : Hp → Prop, (∀ H', Nx H' → ∃ m', m' < m ∧ W (i + 1) m' H') ∧ ∀ x H', (Itl K p).yld i H x H' → gP2 K si sj x (wipe σ vs) H' fun σ2 H2 => wipe σ2 vs = wipe σ vs ∧
        tt σ2 H2 fun b H3 => if b = true then te σ2 H3 fun y H4 => ∃ acc, H4 D = some (.lst acc) ∧ acc.length < sizeLine ∧ Nx (upd H4 D (.lst (acc ++ [y]))) else Nx H3) := by
  obtain ⟨ts, h1, h2⟩ := id hp
  have hn : b.length = ts.length := h2.length.symm
  refine lc_same (walk_list (xs := ts.map V.ref)) b (by rw [List.length_map, hn]) keep (fun H v e => ∃ t, v = .ref t ∧ RowAt H t e.1) (fun _ _ _ _ k ⟨t, e, z⟩ => ⟨t, e, z.tk k⟩) hD (fun H' s' => sq_l (s' _ _ h1)) (by rw [List.length_map]; omega) ?_ ?_
  · rintro i x e H1 _ hi he s1 ⟨rfl, hx⟩ Q' Qn k1 k2
    obtain ⟨t, ht, rfl⟩ := ref_at hx
    obtain ⟨qa, p1, p2⟩ := (each_get h2 ht he).mono s1
    exact gp2 p1 ⟨hw _ _, if_in (c := keep e) (fun Q z => test e qa _ (List.mem_of_getElem? he) Q z) (fun hc => turn e qa _ _ (k1 hc _ _ (Same.refl _) ⟨qa, rfl, p2⟩)) fun hc => k2 hc _ (Same.refl _)⟩
  · intro H1 acc s1 ha he
    obtain ⟨as, rfl, hq⟩ := each_list (P := fun t (e : Row × Int) => RowAt H1 t e.1) (fun v e z => z) he
    exact done H1 s1 ⟨as, ha, each_map_r (R := RowAt H1) (fun e : Row × Int => e.1) hq⟩
/-- pairs made of the rows of a list -/
theorem row_pairs {rs : List Row} (g : Row → Row × Int) (hp : RowsAt H p rs) (hl : rs.length ≤ 1000) (hD : H D = none) (hw : ∀ x, wipe ((wipe σ vs).set si x) vs = wipe σ vs)
    (turn : ∀ (r : Row) (q : Addr) (H' : Hp), Same H H' → RowAt H' q r → ∀ Q : VK, (∀ z H'', Same H' H'' → PairAt H'' z (g r) → Q (.ref z) H'') → te ((wipe σ vs).set si (some (.ref q))) H' Q)
    (done : ∀ H', Same H H' → BagAt H' D (rs.map g) → Qd H') :
    ∃ W : Nat → Nat → Hp → Prop, (∃ m, W 0 m (upd H D (.lst []))) ∧ ∀ i m H, W i m H →
      ((Itl K p).stop i H ∧ Qd H) ∨ ((Itl K p).go i H ∧ ∃ Nx : Hp → Prop, (∀ H', Nx H' → ∃ m', m' < m ∧ W (i + 1) m' H') ∧ ∀ x H', (Itl K p).yld i H x H' → gName si x (wipe σ vs) H' fun σ2 H2 => wipe σ2 vs = wipe σ vs ∧
        tYes σ2 H2 fun b H3 => if b = true then te σ2 H3 fun y H4 => ∃ acc, H4 D = some (.lst acc) ∧ acc.length < sizeLine ∧ Nx (upd H4 D (.lst (acc ++ [y]))) else Nx H3) := by
  obtain ⟨ts, h1, h2⟩ := id hp
  have hn : rs.length = ts.length := h2.length.symm
  refine lc_same (walk_list (xs := ts.map V.ref)) rs (by rw [List.length_map, hn]) (fun _ => true) (fun H v r => ∃ t, v = .ref t ∧ PairAt H t (g r)) (fun _ _ _ _ k ⟨t, e, z⟩ => ⟨t, e, z.tk k⟩) hD (fun H' s' => sq_l (s' _ _ h1)) (by rw [List.length_map]; omega) ?_ ?_
  · rintro i x r H1 _ hi he s1 ⟨rfl, hx⟩ Q' Qn k1 _
    obtain ⟨t, ht, rfl⟩ := ref_at hx
    have p2 := (each_get h2 ht he).mono s1
    exact ⟨hw _, yes_in (turn r t _ s1 p2 _ fun z H2 s2 hz => k1 rfl _ _ s2 ⟨z, rfl, hz⟩)⟩
  · intro H1 acc s1 ha he
    rw [filter_true] at he
    obtain ⟨as, rfl, hq⟩ := each_list (P := fun t (r : Row) => PairAt H1 t (g r)) (fun v e z => z) he
    exact done H1 s1 ⟨as, ha, each_map_r (R := PairAt H1) g hq⟩
end
/-- xs[:j] of a list of objects -/
theorem cut_to (ts : List Addr) {j : Int} (h : 0 ≤ j) : cutV (ts.map V.ref) none (some j) = (ts.take j.toNat).map V.ref := by
  obtain ⟨n, rfl⟩ : ∃ n : Nat, j = n := ⟨j.toNat, by omega⟩
  unfold cutV
  rw [HT.sIx_none, HT.sIx_nat, List.drop_zero, Nat.sub_zero, Int.toNat_natCast, List.map_take, List.length_map]
  by_cases q : n ≤ ts.length
  · rw [Nat.min_eq_left q]
  · rw [Nat.min_eq_right (by omega), List.take_of_length_le (by simp), List.take_of_length_le (by simp; omega)]
theorem each_take {α β : Type} {R : α → β → Prop} : ∀ {as : List α} {bs : List β} (n : Nat), EachIs R as bs → EachIs R (as.take n) (bs.take n)
  | _, _, 0, _ => by simp; exact .nil
  | _, _, n + 1, .nil => by simp; exact .nil
  | _, _, n + 1, .cons h t => by simp; exact .cons h (each_take n t)
theorem take_rows {b : Bag} (h : RowsOk b) (n : Nat) : RowsOk (b.take n) := fun e he => h e (List.mem_of_mem_take he)
theorem take_bd {m : Nat} {b : Bag} (h : BdB m b) (n : Nat) : BdB m (b.take n) := fun e he => h e (List.mem_of_mem_take he)
/-- a new list of the objects of two lists -/
theorem bag_cat {H : Hp} {l : Addr} {ts us : List Addr} {a b : Bag} (hl : H l = none) (h1 : EachIs (PairAt H) ts a) (h2 : EachIs (PairAt H) us b) : BagAt (upd H l (.lst (ts.map V.ref ++ us.map V.ref))) l (a ++ b) :=
  bag_app upd_same (h1.mono fun _ _ z => z.mono (same_new hl)) (h2.mono fun _ _ z => z.mono (same_new hl))
end KA
set_option Elab.async false
set_option linter.all false
set_option maxRecDepth 100000
set_option maxHeartbeats 4000000
/-! the law's body -/
namespace KA
open PySem PySem.Spec PyProof.Rows L2
open PySem.W (EachIs)
theorem Drawn.upd_new {st cl : Addr} {H H' : Hp} (d : Drawn st cl H H') (h : StOk H st cl) {p : Addr} (hp : H p = none) (o : HO) : Drawn st cl H (upd H' p o) := by
  obtain ⟨c0, z0, S0⟩ := id h
  obtain ⟨pst, pcl⟩ := S0.away hp
  refine ⟨fun a x h1 h2 h3 => ?_, ?_, fun z => ?_⟩
  · rw [upd_ne (ne_of_none h3 hp)]
    exact d.but a x h1 h2 h3
  · obtain ⟨c, z, S⟩ := d.ok
    exact ⟨c, z, by rw [upd_ne pst.symm]; exact S.hs, by rw [upd_ne pcl.symm]; exact S.hc, S.lo, S.hi, S.len, S.nn⟩
  · rw [upd_ne pcl.symm]
    exact d.nil z
theorem ne_str {x : Str} {H : Hp} {Q : VK} (h : Q (.bl false) H) : rNe (.str x) (.str x) H Q := by
  refine ⟨rfl, ?_⟩
  rw [decide_eq_true rfl]
  exact h
theorem ne_int {x : Int} {H : Hp} {Q : VK} (h : Q (.bl false) H) : rNe (.int x) (.int x) H Q := by
  refine ⟨rfl, ?_⟩
  rw [decide_eq_true rfl]
  exact h
theorem join6 {c : TT} {ta tb : TE} {rest : TS} {D : Ends} {σ : L2.St} {H : Hp} {i : Nat} (Φ : V → Hp → Prop) (main : ∀ v H', Φ v H' → rest D (σ.set i (some v)) H') (br : ∀ K' : VK, (∀ v H', Φ v H' → K' v H') → tIf c ta tb σ H K') :
    tSeq (tAsg (tIf c ta tb) (gName i)) rest D σ H := br _ main
theorem rows_plain (rs : List Row) : (PyData.list (rs.map rowD)).plain = true := by
  show PyData.plainAll (rs.map rowD) = true
  induction rs with
  | nil => rfl
  | cons e t ih => simp [PyData.plainAll, row_plain e, ih]
theorem rows_depth (rs : List Row) : (PyData.list (rs.map rowD)).depth ≤ 5 := by
  have key : ∀ b : List Row, PyData.depthAll (b.map rowD) ≤ 4 := fun b => by
    induction b with
    | nil => simp [PyData.depthAll]
    | cons e t ih =>
      have h := row_depth e
      simp only [List.map_cons, PyData.depthAll]
      omega
  have h := key rs
  simp only [PyData.depth]
  omega
theorem ne_rowss {K : PySem.W.Frag} {H : Hp} {p q : Addr} {a : List Row} {Q : VK} (hp : RowsAt H p a) (hq : RowsAt H q a) (h : Q (.bl false) H) : rNeP K (.ref p) (.ref q) H Q := by
  refine ⟨_, _, dp_rows hp, dp_rows hq, rows_plain a, rows_plain a, Nat.le_trans (rows_depth a) (by decide), ?_⟩
  rw [SeqAt.eqv_refl_plain _ (rows_plain a)]
  exact h
theorem map_rows {b : Bag} (h : RowsOk b) (g : Row × Int → Int) : RowsOk (b.map fun e => (e.1, g e)) := fun e he => by
  obtain ⟨x, hx, rfl⟩ := List.mem_map.mp he
  exact h x hx
theorem rows_app {H : Hp} {l : Addr} {ts us : List Addr} {a b : List Row} (hl : H l = some (.lst (ts.map V.ref ++ us.map V.ref))) (h1 : EachIs (RowAt H) ts a) (h2 : EachIs (RowAt H) us b) : RowsAt H l (a ++ b) := by
  refine ⟨ts ++ us, by rw [List.map_append]; exact hl, ?_⟩
  clear hl
  induction h1 with
  | nil => exact h2
  | cons h t ih => exact .cons h ih
def spLaw (K : PySem.W.Frag) : Sp := fun vs H Q _ => ∃ (a : Addr) (ns : List Int), vs = [.ref a] ∧ SqL K H a (ns.map V.int) ∧ ns.length ≤ 63 ∧ ∀ H', Q (.bl true) H'
section
variable {P : Program} {w : World} {K : PySem.W.Frag} {mg : Str → Option Value} {base : Heap} {f : Addr} {fd : FuncData}
/-- the defs that the law calls -/
structure Cals (P : Program) (w : World) (K : PySem.W.Frag) (mg : Str → Option Value) (base : Heap) : Prop where
  CSt : Cal P w K mg base "_law_state" 1 ["script"] (spState K)
  C : DrawC P w K mg base
  CR : RowC P w K mg base
  CM : Cal P w K mg base "make_bag" 5 ["pairs"] spMakeBag
  CC : Cal P w K mg base "_law_canon" 4 ["counts"] spCanon
  CN : Cal P w K mg base "_law_counts" 1 ["pairs"] spCounts
  CB : Cal P w K mg base "_law_bag" 5 ["state", "most"] spBag
  CP : Cal P w K mg base "plus" 6 ["first", "second"] spPlus
  CI : Cal P w K mg base "minus" 7 ["first", "second"] spMinus
  CS : Cal P w K mg base "scaled" 1 ["bag", "factor"] spScaled
  CO : Cal P w K mg base "rows_of" 1 ["bag"] spRowsOf
  CU : Cal P w K mg base "support" 2 ["bag"] spSupport
  CQ : Cal P w K mg base "count_of" 1 ["bag", "row"] spCountOf
  CE : Cal P w K mg base "set_bag" 6 ["rows"] spSetBag
  CG : Cal P w K mg base "_law_group" 8 ["first", "second", "factor"] spGroup
  CD : Cal P w K mg base "_law_ordered" 4 ["state"] spOrdered
theorem law_body {cdv : Value} {A : Around} {outer : List Env} {s : Shared} {H : Hp} {vs : List V} {Q : VK} {E : XK} (hG : A.guards = some []) (hr : Room 8 (A.deeper (envOfC "law" (defScope s_law) s.heap.objs.size f cdv)))
    (cs : Cals P w K mg base) (gR : mg "range" = none) (gP : mg "repr" = none) (h : spLaw K vs H Q E) :
    ∃ t, PSs (cxOf CX0 P w K mg base ["script", "state", "pairs", "k", "kept", "first", "second", "less", "row", "count", "factor", "rows", "given"] "law" (defScope s_law) f cdv A outer s H E) (defBody s_law) t ∧
      t { nx := fun _ H' => Q .non H', rt := Q } (start ["script", "state", "pairs", "k", "kept", "first", "second", "less", "row", "count", "factor", "rows", "given"] vs) H := by
    obtain ⟨CSt, C, CR, CM, CC, CN, CB, CP, CI, CS, CO, CU, CQ, CE, CG, CD⟩ := cs
    obtain ⟨a, ns, rfl, hS, hl, q⟩ := h
    refine ⟨_, PSs.nox (pss_cons (ps_set (i := 1) sc_law.nd rfl (Or.inl rfl) (pe_cal CSt hr.lt (pa_cons (pv 0) pa_nil)))
      (pss_cons (ps_set (i := 2) sc_law.nd rfl (Or.inl rfl) (pe_lst pa_nil))
      (pss_cons (ps_for PassesOwn.never rfl (pi_range1 rfl gR (pa_cons (pe_cal C hr.lt (pa_cons (pv 1) (pa_cons pe_int pa_nil))) pa_nil)) (pg_name (i := 3) sc_law.nd rfl (Or.inl rfl))
        (pss_one (ps_expr (pe_bm PySem.F.plainAttrs_list PySem.F.slot_list_append PySem.F.type_list_append mt_append (pv 2) (pa_cons (pe_tup (pa_cons (pe_cal CR hr.lt (pa_cons (pv 1) (pa_cons pe_int pa_nil))) (pa_cons (pe_op op_sub (pe_cal C hr.lt (pa_cons (pv 1) (pa_cons pe_int pa_nil))) pe_int) pa_nil))) pa_nil)))))
      (pss_cons (ps_set (i := 2) sc_law.nd rfl (Or.inl rfl) (pe_op op_cat (pv 2) (pe_slice sl_list (pv 2) po_none (po_some (pe_cal C hr.lt (pa_cons (pv 1) (pa_cons pe_int pa_nil)))))))
      (pss_cons (ps_set (i := 4) sc_law.nd rfl (Or.inl rfl) (pe_callB (call_reprD hG hr.u64) (by rfl) gP (by decide +kernel) (pa_cons (pv 2) pa_nil)))
      (pss_cons (ps_if (PW.pt (pw_or (pt_cmpR (op_neP hr.u64) (pe_cal CM hr.lt (pa_cons (pv 2) pa_nil)) (pe_cal CC hr.lt (pa_cons (pe_cal CN hr.lt (pa_cons (pv 2) pa_nil)) pa_nil)) (nomark _)) (pw_or1 (pt_cmpR op_ne (pe_callB (call_reprD hG hr.u64) (by rfl) gP (by decide +kernel) (pa_cons (pv 2) pa_nil)) (pv 4) (nomark _)))))
        (pss_one (ps_ret pe_bl)) pss_nil)
      (pss_cons (ps_set (i := 5) sc_law.nd rfl (Or.inl rfl) (pe_cal CB hr.lt (pa_cons (pv 1) (pa_cons pe_int pa_nil))))
      (pss_cons (ps_set (i := 6) sc_law.nd rfl (Or.inl rfl) (pe_ifExp (pt_cmpR op_eq (pe_cal C hr.lt (pa_cons (pv 1) (pa_cons pe_int pa_nil))) pe_int (nomark _)) (pe_op op_cat (pe_slice sl_list (pv 5) po_none (po_some pe_int)) (pe_cal CB hr.lt (pa_cons (pv 1) (pa_cons pe_int pa_nil)))) (pe_cal CB hr.lt (pa_cons (pv 1) (pa_cons pe_int pa_nil)))))
      (pss_cons (ps_set (i := 6) sc_law.nd rfl (Or.inl rfl) (pe_cal CC hr.lt (pa_cons (pe_cal CN hr.lt (pa_cons (pv 6) pa_nil)) pa_nil)))
      (pss_cons (ps_set (i := 4) sc_law.nd rfl (Or.inl rfl) (pe_callB (call_reprD hG hr.u64) (by rfl) gP (by decide +kernel) (pa_cons (pe_lst (pa_cons (pv 5) (pa_cons (pv 6) pa_nil))) pa_nil)))
      (pss_cons (ps_setLc (i := 7) (own := [("row", 8), ("count", 9)]) (g := (gP2 K 8 9)) (tt := tYes) (by rfl) sc_law.nd rfl rfl (sw_true rfl rfl rfl (by decide +kernel)) (pi_list (pv 6)) (blkOk_by (own := [("row", 8), ("count", 9)]) (N := ["script", "state", "pairs", "k", "kept", "first", "second", "less", "row", "count", "factor", "rows", "given"]) (sc := defScope s_law) (by decide +kernel)) (fun _ _ _ _ _ => (pg_tup rfl (pgs_cons (pg_name (i := 8) sc_law.nd rfl (Or.inl rfl)) (pgs_cons (pg_name (i := 9) sc_law.nd rfl (Or.inl rfl)) pgs_nil)))) (fun _ _ _ _ _ => pts_nil) (fun _ _ _ _ _ => (pe_tup (pa_cons (pv 8) (pa_cons (pe_op op_sub pe_int (pv 9)) pa_nil)))))
      (pss_cons (ps_if (pt_cmpR (op_neP hr.u64) (pe_cal CP hr.lt (pa_cons (pv 5) (pa_cons (pv 6) pa_nil))) (pe_cal CC hr.lt (pa_cons (pe_cal CN hr.lt (pa_cons (pe_op op_cat (pv 5) (pv 6)) pa_nil)) pa_nil)) (nomark _))
        (pss_one (ps_ret pe_bl)) pss_nil)
      (pss_cons (ps_if (pt_cmpR (op_neP hr.u64) (pe_cal CI hr.lt (pa_cons (pv 5) (pa_cons (pv 6) pa_nil))) (pe_cal CC hr.lt (pa_cons (pe_cal CN hr.lt (pa_cons (pe_op op_cat (pv 5) (pv 7)) pa_nil)) pa_nil)) (nomark _))
        (pss_one (ps_ret pe_bl)) pss_nil)
      (pss_cons (ps_set (i := 10) sc_law.nd rfl (Or.inr rfl) (pe_ix ix_list (pe_lst (pa_cons pe_int (pa_cons pe_int (pa_cons (pe_un un_neg pe_int) (pa_cons pe_int (pa_cons (pe_un un_neg pe_int) pa_nil)))))) (pe_cal C hr.lt (pa_cons (pv 1) (pa_cons pe_int pa_nil))) (fun _ _ => rfl)))
      (pss_cons (ps_if (pt_cmpR (op_neP hr.u64) (pe_cal CS hr.lt (pa_cons (pv 5) (pa_cons (pv 10) pa_nil))) (pe_cal CC hr.lt (pa_cons (pe_cal CN hr.lt (pa_cons (pe_lc (own := [("row", 8), ("count", 9)]) (g := (gP2 K 8 9)) (tt := tYes) (by rfl) sc_law.nd (pi_list (pv 5)) (blkOk_by (own := [("row", 8), ("count", 9)]) (N := ["script", "state", "pairs", "k", "kept", "first", "second", "less", "row", "count", "factor", "rows", "given"]) (sc := defScope s_law) (by decide +kernel)) (fun _ _ _ _ _ => (pg_tup rfl (pgs_cons (pg_name (i := 8) sc_law.nd rfl (Or.inl rfl)) (pgs_cons (pg_name (i := 9) sc_law.nd rfl (Or.inl rfl)) pgs_nil)))) (fun _ _ _ _ _ => pts_nil) (fun _ _ _ _ _ => (pe_tup (pa_cons (pv 8) (pa_cons (pe_op op_mul (pv 10) (pv 9)) pa_nil))))) pa_nil)) pa_nil)) (nomark _))
        (pss_one (ps_ret pe_bl)) pss_nil)
      (pss_cons (ps_setLc (i := 11) (own := [("row", 8), ("count", 9)]) (g := (gP2 K 8 9)) (tt := tTest (tOp (rI0 fun i j => .bl (decide (i > j))) (tVar 9) (tC (.int 0)))) (by rfl) sc_law.nd rfl rfl (sw_true rfl rfl rfl (by decide +kernel)) (pi_list (pv 5)) (blkOk_by (own := [("row", 8), ("count", 9)]) (N := ["script", "state", "pairs", "k", "kept", "first", "second", "less", "row", "count", "factor", "rows", "given"]) (sc := defScope s_law) (by decide +kernel)) (fun _ _ _ _ _ => (pg_tup rfl (pgs_cons (pg_name (i := 8) sc_law.nd rfl (Or.inl rfl)) (pgs_cons (pg_name (i := 9) sc_law.nd rfl (Or.inl rfl)) pgs_nil)))) (fun _ _ _ _ _ => pts_one (pt_cmpR op_gt (pv 9) pe_int (nomark _))) (fun _ _ _ _ _ => (pv 8)))
      (pss_cons (ps_if (PW.pt (pw_or (pt_cmpR (op_neP hr.u64) (pe_cal CO hr.lt (pa_cons (pv 5) pa_nil)) (pv 11) (nomark _)) (pw_or1 (pt_cmpR (op_neP hr.u64) (pe_cal CU hr.lt (pa_cons (pv 5) pa_nil)) (pe_lc (own := [("row", 8)]) (g := (gName 8)) (tt := tYes) (by rfl) sc_law.nd (pi_list (pv 11)) (blkOk_by (own := [("row", 8)]) (N := ["script", "state", "pairs", "k", "kept", "first", "second", "less", "row", "count", "factor", "rows", "given"]) (sc := defScope s_law) (by decide +kernel)) (fun _ _ _ _ _ => (pg_name (i := 8) sc_law.nd rfl (Or.inl rfl))) (fun _ _ _ _ _ => pts_nil) (fun _ _ _ _ _ => (pe_tup (pa_cons (pv 8) (pa_cons pe_int pa_nil))))) (nomark _)))))
        (pss_one (ps_ret pe_bl)) pss_nil)
      (pss_cons (ps_for PassesOwn.never rfl (pi_list (pe_op op_cat (pv 5) (pe_lst (pa_cons (pe_tup (pa_cons (pe_cal CR hr.lt (pa_cons (pv 1) (pa_cons pe_int pa_nil))) (pa_cons pe_int pa_nil))) pa_nil)))) (pg_tup rfl (pgs_cons (pg_name (i := 8) sc_law.nd rfl (Or.inl rfl)) (pgs_cons (pg_name (i := 9) sc_law.nd rfl (Or.inl rfl)) pgs_nil)))
        (pss_one (ps_if (pt_cmpR op_ne (pe_cal CQ hr.lt (pa_cons (pv 5) (pa_cons (pv 8) pa_nil))) (pe_dget2 hr.u1 (pe_cal CN hr.lt (pa_cons (pv 5) pa_nil)) (pv 8) pe_int ⟨rfl, rfl, rfl, rfl⟩) (nomark _))
          (pss_one (ps_ret pe_bl)) pss_nil)))
      (pss_cons (ps_set (i := 12) sc_law.nd rfl (Or.inl rfl) (pe_op op_cat (pe_lc (own := [("row", 8), ("count", 9)]) (g := (gP2 K 8 9)) (tt := tYes) (by rfl) sc_law.nd (pi_list (pv 5)) (blkOk_by (own := [("row", 8), ("count", 9)]) (N := ["script", "state", "pairs", "k", "kept", "first", "second", "less", "row", "count", "factor", "rows", "given"]) (sc := defScope s_law) (by decide +kernel)) (fun _ _ _ _ _ => (pg_tup rfl (pgs_cons (pg_name (i := 8) sc_law.nd rfl (Or.inl rfl)) (pgs_cons (pg_name (i := 9) sc_law.nd rfl (Or.inl rfl)) pgs_nil)))) (fun _ _ _ _ _ => pts_nil) (fun _ _ _ _ _ => (pv 8))) (pv 11)))
      (pss_cons (ps_if (PW.pt (pw_or (pt_cmpR (op_neP hr.u64) (pe_cal CE hr.lt (pa_cons (pv 12) pa_nil)) (pe_lc (own := [("row", 8), ("count", 9)]) (g := (gP2 K 8 9)) (tt := tYes) (by rfl) sc_law.nd (pi_list (pv 5)) (blkOk_by (own := [("row", 8), ("count", 9)]) (N := ["script", "state", "pairs", "k", "kept", "first", "second", "less", "row", "count", "factor", "rows", "given"]) (sc := defScope s_law) (by decide +kernel)) (fun _ _ _ _ _ => (pg_tup rfl (pgs_cons (pg_name (i := 8) sc_law.nd rfl (Or.inl rfl)) (pgs_cons (pg_name (i := 9) sc_law.nd rfl (Or.inl rfl)) pgs_nil)))) (fun _ _ _ _ _ => pts_nil) (fun _ _ _ _ _ => (pe_tup (pa_cons (pv 8) (pa_cons pe_int pa_nil))))) (nomark _)) (pw_or1 (pt_cmpR op_ne (pe_callB (call_reprD hG hr.u64) (by rfl) gP (by decide +kernel) (pa_cons (pe_lst (pa_cons (pv 5) (pa_cons (pv 6) pa_nil))) pa_nil)) (pv 4) (nomark _)))))
        (pss_one (ps_ret pe_bl)) pss_nil)
      (pss_one (ps_ret (pe_and (pe_cal CG hr.lt (pa_cons (pv 5) (pa_cons (pv 6) (pa_cons (pv 10) pa_nil)))) (pe_one (pe_cal CD hr.lt (pa_cons (pv 1) pa_nil)))))))))))))))))))))))))), ?_⟩
    -- state, pairs = []
    refine ⟨_, rfl, a, ns, rfl, hS, hl, fun st cl H1 s1 ok1 => ?_⟩
    refine ⟨Nat.zero_le _, fun p hp => ?_⟩
    have ok2 := ok1.new (o := .lst []) hp
    -- the loop of appends
    refine ⟨_, rfl, st, cl, 9, rfl, ok2, by decide, by decide, fun n H3 d3 n0 n1 => ?_⟩
    have D3 : Drawn st cl H1 H3 := (Drawn.of_same (same_new hp) ok1).trans d3
    have e3 : BagAt H3 p [] := BagAt.drawn d3 ok2 ⟨[], upd_same, .nil⟩
    refine ⟨n, rfl, by omega, by omega, ?_⟩
    refine for_it walk_range (fun i σ H' => (∃ k, σ = [some (.ref a), some (.ref st), some (.ref p), k, none, none, none, none, none, none, none, none, none]) ∧ Drawn st cl H1 H' ∧ ∃ ps, BagAt H' p ps ∧ ps.length ≤ i ∧ BdB 3 ps ∧ RowsOk ps)
      ⟨⟨_, rfl⟩, D3, [], e3, Nat.le_refl _, (fun e he => (List.not_mem_nil he).elim), fun e he => (List.not_mem_nil he).elim⟩ (fun _ _ _ _ _ => trivial) ?_ ?_
    · rintro i x σ H4 _ hi ⟨⟨k, rfl⟩, D4, ps, hps, pl, pb, pr⟩ ⟨rfl, rfl⟩
      obtain ⟨ts, t1, t2⟩ := id hps
      refine ⟨_, rfl, .inl ⟨rfl, _, .inl (.inl t1)⟩, ?_⟩
      refine ⟨_, rfl, st, cl, rfl, D4.ok, fun t r H5 d5 ht hrow rok => ?_⟩
      refine ⟨_, rfl, st, cl, 7, rfl, d5.ok, by decide, by decide, fun v H6 d6 v0 v1 => ⟨_, _, rfl, rfl, ?_⟩⟩
      refine ⟨(by show 2 ≤ sizeLine; decide), fun z hz => ?_⟩
      have D6 := D4.trans (d5.trans d6)
      have hrow6 := RowAt.tk (d6.tk d5.ok) hrow
      have t6 := (d5.trans d6).refs D4.ok t1
      have nzp : p ≠ z := ne_of_none t6 hz
      have hps6 := BagAt.drawn (d5.trans d6) D4.ok hps
      have sz : Same H6 (upd H6 z (.tup [.ref t, .int (v - 3)])) := same_new hz
      have t7 : (upd H6 z (.tup [.ref t, .int (v - 3)])) p = some (.lst (ts.map V.ref)) := sz _ _ t6
      have tl : ts.length = ps.length := t2.length
      refine ⟨p, _, _, rfl, rfl, t7, Nat.lt_of_lt_of_le (show _ < 2000 by rw [List.length_map]; omega) (by decide), ?_⟩
      refine ⟨⟨_, rfl⟩, Drawn.upd_new (D6.trans (Drawn.of_same sz D6.ok)) ok1 hp _, ps ++ [(r, v - 3)], ?_, by rw [List.length_append]; simp; omega, pb.app fun e he => ?_, pr.app fun e he => ?_⟩
      · have k1 : TupKeep (upd H6 z (.tup [.ref t, .int (v - 3)])) (upd (upd H6 z (.tup [.ref t, .int (v - 3)])) p (.lst (ts.map V.ref ++ [.ref z]))) := tk_lst t7
        obtain ⟨ts', u1, u2⟩ := id hps6
        have e1 : ts'.map V.ref = ts.map V.ref := by
          rw [t6] at u1
          injection (Option.some.inj u1) with u3
          exact u3.symm
        have e2 : ts' = ts := by
          have inj : ∀ {x y : List Addr}, x.map V.ref = y.map V.ref → x = y := by
            intro x
            induction x with
            | nil => intro y h; cases y with
              | nil => rfl
              | cons _ _ => cases h
            | cons c x ih => intro y h; cases y with
              | nil => cases h
              | cons d y => injection h with h1 h2; injection h1 with h3; rw [h3, ih h2]
          exact inj e1
        subst e2
        exact bag_app (us := [z]) upd_same ((u2.mono fun _ _ y => y.mono sz).mono fun _ _ y => y.tk k1) (.cons ((pair_new hz hrow6).tk k1) .nil)
      · rw [List.mem_singleton.mp he]
        show (v - 3).natAbs ≤ 3
        omega
      · rw [List.mem_singleton.mp he]; exact rok
    rintro σ H4 ⟨⟨k, rfl⟩, D4, ps, hps, pl, pb, pr⟩
    -- pairs = pairs + pairs[:..]
    obtain ⟨ts, t1, t2⟩ := id hps
    refine ⟨_, rfl, _, rfl, _, rfl, st, cl, 3, rfl, D4.ok, by decide, by decide, fun j H5 d5 j0 j1 => ?_⟩
    have t5 := d5.refs D4.ok t1
    refine ⟨j, rfl, p, _, rfl, sq_l t5, fun c hc => ?_⟩
    rw [cut_to ts j0]
    have sc : Same H5 (upd H5 c (.lst ((ts.take j.toNat).map V.ref))) := same_new hc
    have tl : ts.length = ps.length := t2.length
    refine ⟨p, c, _, _, rfl, rfl, sc _ _ t5, upd_same, ?_, fun l hl2 => ?_⟩
    · rw [List.length_map, List.length_map, List.length_take]
      exact Nat.le_trans (show _ ≤ 100 by omega) (by decide)
    obtain ⟨b0, eb0⟩ : ∃ b0, b0 = ps ++ ps.take j.toNat := ⟨_, rfl⟩
    have t25 := (t2.mono fun _ _ y => y.tk (d5.tk D4.ok)).mono fun _ _ y => y.mono sc
    have hb0 := bag_cat hl2 t25 (each_take j.toNat t25)
    rw [← eb0] at hb0
    have l0 : b0.length ≤ 20 := by rw [eb0, List.length_append, List.length_take]; omega
    have r0 : RowsOk b0 := by rw [eb0]; exact pr.app (take_rows pr _)
    have bd0 : BdB (2 ^ 40) b0 := by rw [eb0]; exact (pb.app (take_bd pb _)).mono (by decide)
    have p0 := bag_prints (Nat.le_trans l0 (by decide)) r0 bd0
    have p0' : Prints (bagD b0) 50000 := ⟨Nat.le_trans p0.len (by decide), p0.sh, p0.nd⟩
    obtain ⟨H6, eH6⟩ : ∃ H6, H6 = upd (upd H5 c (.lst ((ts.take j.toNat).map V.ref))) l (.lst (ts.map V.ref ++ (ts.take j.toNat).map V.ref)) := ⟨_, rfl⟩
    rw [← eH6] at hb0 ⊢
    have s56 : Same H5 H6 := by rw [eH6]; exact sc.trans (same_new hl2)
    have D6 : StOk H6 st cl := d5.ok.same s56
    -- kept = repr(pairs)
    refine ⟨_, rfl, l, bagD b0, rfl, dp_bag hb0, p0', Nat.le_trans (bag_depth b0) (by decide), ?_⟩
    -- make_bag(pairs) != _law_canon(_law_counts(pairs))
    refine ⟨_, rfl, l, b0, rfl, hb0, by omega, r0.rowB, fun x H7 s7 hx => ?_⟩
    refine ⟨_, rfl, l, b0, rfl, hb0.mono s7, by omega, fun d H8 s8 d0 hd => ?_⟩
    refine ⟨d, b0, rfl, hd, by omega, r0.rowB, fun y H9 s9 hy => ?_⟩
    refine ne_bags (hx.mono (s8.trans s9)) hy rfl ⟨_, rfl, iteF ?_⟩
    have s69 := (s7.trans s8).trans s9
    -- repr(pairs) != kept
    refine ⟨_, rfl, l, bagD b0, rfl, dp_bag (hb0.mono s69), p0', Nat.le_trans (bag_depth b0) (by decide), ?_⟩
    refine ⟨_, rfl, ne_str ⟨_, rfl, iteF ?_⟩⟩
    have ok9 := D6.same s69
    clear hb0 hx hy hd s7 s8 s9 s69 s56 hps e3 t1 t2 t25 t5
    -- first
    refine ⟨_, rfl, st, cl, 6, rfl, by decide, by decide, ok9, fun u b1 H10 d10 hb1 g1 => ?_⟩
    dsimp only [gName]
    refine join6 (fun v H' => ∃ w bw, v = .ref w ∧ Drawn st cl H10 H' ∧ BagAt H' w bw ∧ bw.length ≤ 20 ∧ RowsOk bw ∧ BdB 10000000 bw) ?main ?br
    case br =>
      intro K' hK
      refine ⟨_, rfl, st, cl, 2, rfl, d10.ok, by decide, by decide, fun v H11 d11 v0 v1 => ?_⟩
      refine ⟨rfl, _, rfl, ite2 (fun _ => ?_) fun _ => ?_⟩
      · have hb11 := BagAt.drawn d11 d10.ok hb1
        obtain ⟨us, u1, u2⟩ := id hb11
        refine ⟨_, rfl, 2, rfl, u, _, rfl, sq_l u1, fun c hc => ?_⟩
        rw [cut_to us (by decide)]
        have sc : Same H11 (upd H11 c (.lst ((us.take (2 : Int).toNat).map V.ref))) := same_new hc
        refine ⟨_, rfl, st, cl, 4, rfl, by decide, by decide, d11.ok.new hc, fun w bw H12 d12 hbw gw => ?_⟩
        have hc12 := d12.refs (d11.ok.new (o := .lst ((us.take (2 : Int).toNat).map V.ref)) hc) upd_same
        obtain ⟨ws, w1, w2⟩ := id hbw
        have u12 := ((u2.mono fun _ _ y => y.mono sc).mono fun _ _ y => y.tk (d12.tk (d11.ok.same sc)))
        have lw := w2.length
        have gl := gw.len
        refine ⟨c, w, _, _, rfl, rfl, hc12, w1, ?_, fun l hl2 => ?_⟩
        · rw [List.length_map, List.length_map, List.length_take]
          exact Nat.le_trans (show _ ≤ 100 by omega) (by decide)
        · refine hK _ _ ⟨l, _, rfl, ((d11.trans (Drawn.of_same sc d11.ok)).trans d12).trans (Drawn.of_same (same_new hl2) d12.ok), bag_cat hl2 (each_take _ u12) w2, ?_, (take_rows g1.rows _).app gw.rows, (take_bd g1.bd _).app gw.bd⟩
          rw [List.length_append, List.length_take]
          show min 2 b1.length + bw.length ≤ 20
          omega
      · exact ⟨_, rfl, st, cl, 6, rfl, by decide, by decide, d11.ok, fun w bw H12 d12 hbw gw => hK _ _ ⟨w, bw, rfl, d11.trans d12, hbw, Nat.le_trans gw.len (by decide), gw.rows, gw.bd⟩⟩
    case main =>
      rintro v H11 ⟨w, bw, rfl, d11, hbw, lw, rw', dw⟩
      have hb11 := BagAt.drawn d11 d10.ok hb1
      have o1 : OkBag b1 := ⟨g1.canon, Nat.le_trans g1.len (by decide), g1.bd.mono (by decide), g1.rows⟩
      -- second = _law_canon(_law_counts(second))
      refine ⟨_, rfl, w, bw, rfl, hbw, by omega, fun d H12 s12 d0 hd => ?_⟩
      refine ⟨d, bw, rfl, hd, by omega, rw'.rowB, fun z H13 s13 hz => ?_⟩
      obtain ⟨b2, eb2⟩ : ∃ b2, b2 = mk bw := ⟨_, rfl⟩
      rw [← eb2] at hz
      have o2 : OkBag b2 := by
        rw [eb2]
        refine ⟨mk_canon bw, Nat.le_trans (mk_len bw) (by omega), (mk_bd dw).mono ?_, mk_rowsOk rw'⟩
        exact Nat.le_trans (Nat.mul_le_mul_right _ lw) (by decide)
      have s1113 := s12.trans s13
      have hb13 := hb11.mono s1113
      have ok13 := d11.ok.same s1113
      have l1 := o1.len
      have l2 := o2.len
      have pr1 := bag_prints o1.len o1.rows o1.bd
      have pr2 := bag_prints o2.len o2.rows o2.bd
      have prT := two_prints pr1 pr2
      have dpt : (PyData.list [bagD b1, bagD b2]).depth ≤ 50 := by
        have h1 := bag_depth b1
        have h2 := bag_depth b2
        simp only [PyData.depth, PyData.depthAll]
        omega
      clear hd s12 s13 s1113 hbw
      -- kept = repr([first, second])
      refine ⟨_, rfl, _, rfl, (by show 2 ≤ sizeLine; decide), fun t ht => ?_⟩
      have st1 : Same H13 (upd H13 t (.lst [.ref u, .ref z])) := same_new ht
      refine ⟨t, .list [bagD b1, bagD b2], rfl, .lst (sq_l upd_same) (.cons (dp_bag (hb13.mono st1)) (.cons (dp_bag (hz.mono st1)) .nil)), prT, dpt, ?_⟩
      obtain ⟨H14, eH14⟩ : ∃ H14, H14 = upd H13 t (.lst [.ref u, .ref z]) := ⟨_, rfl⟩
      rw [← eH14] at st1 ⊢
      have hb14 := hb13.mono st1
      have hz14 := hz.mono st1
      have ok14 := ok13.same st1
      clear eH14 hb13 hz ok13 st1
      -- less
      refine ⟨_, rfl, z, rfl, ?_, fun D hD => ?_⟩
      · obtain ⟨ts', t1', _⟩ := id hz14
        exact ⟨_, sq_l t1'⟩
      refine pair_map (K := K) (fun e => (e.1, 0 - e.2)) hz14 (by omega) hD (fun _ _ => rfl) (fun e qa H' he s' hq Q' hQ => ⟨_, rfl, _, rfl, _, _, rfl, rfl, (by show 2 ≤ sizeLine; decide), fun p' hp' => hQ p' _ (same_new hp') (pair_new hp' hq)⟩) fun H15 s15 hless => ?_
      have hb15 := hb14.mono s15
      have hz15 := hz14.mono s15
      have ok15 := ok14.same s15
      have hlessL : (b2.map fun e => ((e.1, 0 - e.2) : Row × Int)).length ≤ 40 := by rw [List.length_map]; exact o2.len
      have hlessR : RowsOk (b2.map fun e => ((e.1, 0 - e.2) : Row × Int)) := map_rows o2.rows _
      -- plus(first, second) != ..
      refine ⟨_, rfl, _, rfl, u, z, b1, b2, rfl, hb15, hz15, by omega, by omega, o1.rows.rowB, o2.rows.rowB, fun x H16 s16 hx => ?_⟩
      obtain ⟨us, u1, u2⟩ := id (hb15.mono s16)
      obtain ⟨zs, z1, z2⟩ := id (hz15.mono s16)
      refine ⟨_, rfl, _, rfl, u, z, _, _, rfl, rfl, u1, z1, (cat_in u2 z2 (by omega) (by omega)).2.2, fun l hl2 => ?_⟩
      have hcat := bag_cat hl2 u2 z2
      have sl : Same H16 (upd H16 l (.lst (us.map V.ref ++ zs.map V.ref))) := same_new hl2
      refine ⟨l, b1 ++ b2, rfl, hcat, by rw [List.length_append]; omega, fun d H17 s17 d0 hd => ?_⟩
      refine ⟨d, b1 ++ b2, rfl, hd, by rw [List.length_append]; omega, (o1.rows.app o2.rows).rowB, fun y H18 s18 hy => ?_⟩
      refine ne_bags (hx.mono ((sl.trans s17).trans s18)) hy rfl ⟨_, rfl, iteF ?_⟩
      have s1518 := ((s16.trans sl).trans s17).trans s18
      have hb18 := hb15.mono s1518
      have hz18 := hz15.mono s1518
      have hless18 := hless.mono s1518
      have ok18 := ok15.same s1518
      clear hx hcat hd hy sl s16 s17 s18 s1518 u1 u2 z1 z2 hb15 hz15 hless hb14 hz14
      -- minus(first, second) != ..
      refine ⟨_, rfl, _, rfl, u, z, b1, b2, rfl, hb18, hz18, by omega, by omega, o1.rows.rowB, o2.rows.rowB, o2.b60, fun x H16 s16 hx => ?_⟩
      obtain ⟨us, u1, u2⟩ := id (hb18.mono s16)
      obtain ⟨zs, z1, z2⟩ := id (hless18.mono s16)
      refine ⟨_, rfl, _, rfl, u, D, _, _, rfl, rfl, u1, z1, (cat_in u2 z2 (by omega) (by omega)).2.2, fun l hl2 => ?_⟩
      have hcat := bag_cat hl2 u2 z2
      have sl : Same H16 (upd H16 l (.lst (us.map V.ref ++ zs.map V.ref))) := same_new hl2
      refine ⟨l, _, rfl, hcat, by rw [List.length_append]; omega, fun d H17 s17 d0 hd => ?_⟩
      refine ⟨d, _, rfl, hd, by rw [List.length_append]; omega, (o1.rows.app hlessR).rowB, fun y H19 s19 hy => ?_⟩
      refine ne_bags (hx.mono ((sl.trans s17).trans s19)) hy (minus_law b1 b2) ⟨_, rfl, iteF ?_⟩
      have s1819 := ((s16.trans sl).trans s17).trans s19
      have hb19 := hb18.mono s1819
      have hz19 := hz18.mono s1819
      have ok19 := ok18.same s1819
      clear hx hcat hd hy sl s16 s17 s19 s1819 u1 u2 z1 z2 hb18 hz18 hless18
      -- factor
      refine ⟨_, rfl, _, rfl, (by show 5 ≤ sizeLine; decide), fun pf hpf => ?_⟩
      refine ⟨_, rfl, st, cl, 5, rfl, ok19.new hpf, by decide, by decide, fun v H20 d20 v0 v1 => ?_⟩
      have hpL := d20.refs
      have hpL : H20 pf = some (.lst [.int 0, .int 1, .int (-1), .int 3, .int (-1000)]) := by
        obtain ⟨c, zz, S⟩ := ok19
        obtain ⟨h1, h2⟩ := S.away hpf
        exact d20.but pf _ h1 h2 upd_same
      obtain ⟨m, hm, hmb⟩ : ∃ m : Int, atI [V.int 0, .int 1, .int (-1), .int 3, .int (-1000)] v = some (.int m) ∧ m.natAbs ≤ 1000 := by
        have h5 : v = 0 ∨ v = 1 ∨ v = 2 ∨ v = 3 ∨ v = 4 := by omega
        rcases h5 with rfl | rfl | rfl | rfl | rfl
        · exact ⟨_, atI_nat (j := 0) rfl, by decide⟩
        · exact ⟨_, atI_nat (j := 1) rfl, by decide⟩
        · exact ⟨_, atI_nat (j := 2) rfl, by decide⟩
        · exact ⟨_, atI_nat (j := 3) rfl, by decide⟩
        · exact ⟨_, atI_nat (j := 4) rfl, by decide⟩
      have spf : Same H19 (upd H19 pf (.lst [.int 0, .int 1, .int (-1), .int 3, .int (-1000)])) := same_new hpf
      have hb20 := BagAt.drawn d20 (ok19.same spf) (hb19.mono spf)
      have hz20 := BagAt.drawn d20 (ok19.same spf) (hz19.mono spf)
      have ok20 := d20.ok
      refine ⟨pf, _, v, .int m, rfl, rfl, sq_l hpL, hm, ?_⟩
      clear hpL hb19 hz19 ok19 spf d20
      -- scaled(first, factor) != ..
      refine ⟨_, rfl, _, rfl, u, b1, m, rfl, hb20, by omega, o1.b60, fun x H21 s21 hx => ?_⟩
      have hb21 := hb20.mono s21
      refine ⟨_, rfl, u, rfl, ?_, fun D2 hD2 => ?_⟩
      · obtain ⟨ts', t1', _⟩ := id hb21
        exact ⟨_, sq_l t1'⟩
      refine pair_map (K := K) (fun e => (e.1, m * e.2)) hb21 (by omega) hD2 (fun _ _ => rfl) (fun e qa H' he s' hq Q' hQ => ?_) fun H22 s22 hsc => ?_
      · exact ⟨_, rfl, _, rfl, _, rfl, _, _, rfl, rfl, .inl ⟨by omega, by omega⟩, (by show 2 ≤ sizeLine; decide), fun p' hp' => hQ p' _ (same_new hp') (pair_new hp' hq)⟩
      refine ⟨D2, _, rfl, hsc, by rw [List.length_map]; omega, fun d H23 s23 d0 hd => ?_⟩
      refine ⟨d, _, rfl, hd, by rw [List.length_map]; omega, (map_rows o1.rows _).rowB, fun y H24 s24 hy => ?_⟩
      refine ne_bags (hx.mono ((s22.trans s23).trans s24)) hy (scale_law o1.canon m) ⟨_, rfl, iteF ?_⟩
      have s2024 := ((s21.trans s22).trans s23).trans s24
      have hb24 := hb20.mono s2024
      have hz24 := hz20.mono s2024
      have ok24 := ok20.same s2024
      clear hx hsc hd hy s21 s22 s23 s24 s2024 hb21 hb20 hz20
      -- rows
      refine ⟨_, rfl, u, rfl, ?_, fun D3 hD3 => ?_⟩
      · obtain ⟨ts', t1', _⟩ := id hb24
        exact ⟨_, sq_l t1'⟩
      refine row_map (K := K) (fun e => decide (e.2 > 0)) hb24 (by omega) hD3 (fun _ _ => rfl) (fun e qa H' he Q' hQ => ⟨_, rfl, _, _, rfl, rfl, _, rfl, hQ⟩) (fun e qa H' Q' hQ => ⟨_, rfl, hQ⟩) fun H25 s25 hrows => ?_
      have hrows : RowsAt H25 D3 (posRows b1) := hrows
      have hb25 := hb24.mono s25
      have hz25 := hz24.mono s25
      have ok25 := ok24.same s25
      have lpos : (posRows b1).length ≤ 40 := by
        unfold posRows
        rw [List.length_map]
        exact Nat.le_trans (List.length_filter_le ..) o1.len
      -- rows_of(first) != rows
      refine ⟨_, rfl, u, b1, rfl, hb25, by omega, fun x H26 s26 hx => ?_⟩
      refine ⟨_, rfl, ne_rowss hx (hrows.mono s26) ⟨_, rfl, iteF ?_⟩⟩
      -- support(first) != ..
      refine ⟨_, rfl, u, b1, rfl, hb25.mono s26, by omega, fun y H27 s27 hy => ?_⟩
      have hrows27 := hrows.mono (s26.trans s27)
      refine ⟨_, rfl, D3, rfl, ?_, fun D4 hD4 => ?_⟩
      · obtain ⟨ts', t1', _⟩ := id hrows27
        exact ⟨_, sq_l t1'⟩
      refine row_pairs (K := K) (fun r => (r, 1)) hrows27 (by omega) hD4 (fun _ => rfl) (fun r qa H' s' hq Q' hQ => ⟨_, rfl, (by show 2 ≤ sizeLine; decide), fun p' hp' => hQ p' _ (same_new hp') (pair_new hp' hq)⟩) fun H28 s28 hones => ?_
      refine ne_bags (hy.mono s28) hones rfl ⟨_, rfl, iteF ?_⟩
      have s2528 := (s26.trans s27).trans s28
      have hb28 := hb25.mono s2528
      have hz28 := hz25.mono s2528
      have hrows28 := hrows.mono s2528
      have ok28 := ok25.same s2528
      clear hx hy hones s26 s27 s28 s2528 hrows27 hrows hb25 hz25 hb24 hz24 s25
      -- for row, count in first + [..]
      refine ⟨_, rfl, _, rfl, st, cl, rfl, ok28, fun tr r H29 d29 htr hrow rok => ?_⟩
      refine ⟨(by show 2 ≤ sizeLine; decide), fun pz hpz => ?_⟩
      have spz : Same H29 (upd H29 pz (.tup [.ref tr, .int 0])) := same_new hpz
      refine ⟨(by show 1 ≤ sizeLine; decide), fun lz hlz => ?_⟩
      have slz : Same (upd H29 pz (.tup [.ref tr, .int 0])) (upd (upd H29 pz (.tup [.ref tr, .int 0])) lz (.lst [.ref pz])) := same_new hlz
      obtain ⟨H30, eH30⟩ : ∃ H30, H30 = upd (upd H29 pz (.tup [.ref tr, .int 0])) lz (.lst [.ref pz]) := ⟨_, rfl⟩
      have hlz30 : H30 lz = some (.lst ([pz].map V.ref)) := by rw [eH30]; exact upd_same
      have hpz30 : PairAt H30 pz (r, 0) := by rw [eH30]; exact (pair_new hpz hrow).mono slz
      have s2930 : Same H29 H30 := by rw [eH30]; exact spz.trans slz
      rw [← eH30]
      have hb30 := (BagAt.drawn d29 ok28 hb28).mono s2930
      have hz30 := (BagAt.drawn d29 ok28 hz28).mono s2930
      have hrows30 := (RowsAt.drawn d29 ok28 hrows28).mono s2930
      have ok30 := d29.ok.same s2930
      clear eH30 slz spz s2930 hb28 hz28 hrows28
      obtain ⟨us, u1, u2⟩ := id hb30
      refine ⟨u, lz, _, _, rfl, rfl, u1, hlz30, (cat_in (us := [pz]) u2 (.cons hpz30 .nil) (by omega) (by simp)).2.2, fun l hl2 => ?_⟩
      have hcat : BagAt _ l (b1 ++ [(r, 0)]) := bag_cat (us := [pz]) hl2 u2 (.cons hpz30 .nil)
      have sl : Same H30 (upd H30 l (.lst (us.map V.ref ++ [pz].map V.ref))) := same_new hl2
      obtain ⟨H31, eH31⟩ : ∃ H31, H31 = upd H30 l (.lst (us.map V.ref ++ [pz].map V.ref)) := ⟨_, rfl⟩
      have hcat : BagAt H31 l (b1 ++ [(r, 0)]) := by rw [eH31]; exact hcat
      have sl : Same H30 H31 := by rw [eH31]; exact sl
      refine ⟨l, rfl, ⟨_, sq_l upd_same⟩, ?_⟩
      rw [← eH31]
      obtain ⟨ws, w1, w2⟩ := id hcat
      have hws : H31 l = some (.lst (us.map V.ref ++ [pz].map V.ref)) := by rw [eH31]; exact upd_same
      have ews : us.map V.ref ++ [pz].map V.ref = ws.map V.ref := by
        rw [hws] at w1
        injection (Option.some.inj w1)
      clear eH31
      have hb31 := hb30.mono sl
      have hz31 := hz30.mono sl
      have hrows31 := hrows30.mono sl
      have ok31 := ok30.same sl
      have lcat : (b1 ++ [(r, 0)]).length ≤ 100 := by rw [List.length_append]; simp; omega
      refine for_it (walk_list (xs := ws.map V.ref)) (fun i σ H' => (∃ x0 x2 x3 x7 x8 x9, σ = [x0, some (.ref st), x2, x3, some (.str (PyData.list [bagD b1, bagD b2]).shown), some (.ref u), some (.ref z), x7, x8, x9, some (.int m), some (.ref D3), none]) ∧ Same H31 H')
        ⟨⟨_, _, _, _, _, _, rfl⟩, Same.refl _⟩ (fun i σ H' _ zz => sq_l (zz.2 _ _ w1)) ?_ ?_
      · rintro i x σ H32 _ hi ⟨⟨x0, x2, x3, x7, x8, x9, rfl⟩, s32⟩ ⟨rfl, hx⟩
        obtain ⟨t, ht, rfl⟩ := ref_at hx
        obtain ⟨e, he, hpe⟩ := each_at w2 ht
        obtain ⟨qa, p1, p2⟩ := hpe.mono s32
        have hb32 := hb31.mono s32
        refine gp2 p1 ⟨_, rfl, _, rfl, u, qa, b1, e.1, rfl, hb32, p2, by omega, ?_⟩
        refine ⟨_, rfl, u, b1, rfl, hb32, by omega, fun d H33 s33 d0 hd => ?_⟩
        refine ⟨d, rfl, .inr ⟨_, .inl hd⟩, _, rfl, _, DGet.t hd (p2.mono s33), ?_⟩
        rw [vk_getD, tally_val, cntB_tot o1.canon]
        exact ne_int ⟨_, rfl, iteF ⟨⟨_, _, _, _, _, _, rfl⟩, s32.trans s33⟩⟩
      · rintro σ H32 ⟨⟨x0, x2, x3, x7, x8, x9, rfl⟩, s32⟩
        have hb32 := hb31.mono s32
        have hz32 := hz31.mono s32
        have hrows32 := hrows31.mono s32
        have ok32 := ok31.same s32
        clear hb31 hz31 hrows31 hb30 hz30 hrows30 hcat w1 w2 hws u1 u2 hlz30 hpz30
        -- given
        refine ⟨_, rfl, u, rfl, ?_, fun D5 hD5 => ?_⟩
        · obtain ⟨ts', t1', _⟩ := id hb32
          exact ⟨_, sq_l t1'⟩
        refine row_map (K := K) (fun _ => true) hb32 (by omega) hD5 (fun _ _ => rfl) (fun e qa H' he Q' hQ => hQ) (fun e qa H' Q' hQ => ⟨_, rfl, hQ⟩) fun H33 s33 hall => ?_
        rw [filter_true] at hall
        obtain ⟨as1, a1, a2⟩ := id hall
        obtain ⟨as2, c1, c2⟩ := id (hrows32.mono s33)
        refine ⟨_, rfl, D5, D3, _, _, rfl, rfl, a1, c1, ?_, fun l2 hl3 => ?_⟩
        · rw [List.length_map, List.length_map, a2.length, c2.length, List.length_map]
          exact Nat.le_trans (show _ ≤ 100 by omega) (by decide)
        have sg : Same H33 (upd H33 l2 (.lst (as1.map V.ref ++ as2.map V.ref))) := same_new hl3
        have hgiven : RowsAt (upd H33 l2 (.lst (as1.map V.ref ++ as2.map V.ref))) l2 (b1.map (·.1) ++ posRows b1) := rows_app upd_same (a2.mono fun _ _ y => y.mono sg) (c2.mono fun _ _ y => y.mono sg)
        have lg : (b1.map (·.1) ++ posRows b1).length ≤ 1000 := by rw [List.length_append, List.length_map]; omega
        have rg : ∀ r ∈ b1.map (·.1) ++ posRows b1, r.length ≤ 1000 := fun r hr => by
          rcases List.mem_append.mp hr with h1 | h1
          · obtain ⟨e, he, rfl⟩ := List.mem_map.mp h1
            exact o1.rows.rowB e he
          · unfold posRows at h1
            obtain ⟨e, he, rfl⟩ := List.mem_map.mp h1
            exact o1.rows.rowB e (List.mem_filter.mp he).1
        have s3g := s33.trans sg
        -- set_bag(given) != ..
        refine ⟨_, rfl, l2, _, rfl, hgiven, lg, rg, fun x H34 s34 hx => ?_⟩
        have hb34 := hb32.mono (s3g.trans s34)
        refine ⟨_, rfl, u, rfl, ?_, fun D6 hD6 => ?_⟩
        · obtain ⟨ts', t1', _⟩ := id hb34
          exact ⟨_, sq_l t1'⟩
        refine pair_map (K := K) (fun e => (e.1, 1)) hb34 (by omega) hD6 (fun _ _ => rfl) (fun e qa H' he s' hq Q' hQ => ⟨_, rfl, (by show 2 ≤ sizeLine; decide), fun p' hp' => hQ p' _ (same_new hp') (pair_new hp' hq)⟩) fun H35 s35 hset => ?_
        refine ne_bags (hx.mono s35) hset (set_law o1.canon) ⟨_, rfl, iteF ?_⟩
        have s3235 := (s3g.trans s34).trans s35
        have hb35 := hb32.mono s3235
        have hz35 := hz32.mono s3235
        have ok35 := ok32.same s3235
        -- repr([first, second]) != kept
        refine ⟨_, rfl, _, rfl, (by show 2 ≤ sizeLine; decide), fun t2 ht2 => ?_⟩
        have st2 : Same H35 (upd H35 t2 (.lst [.ref u, .ref z])) := same_new ht2
        refine ⟨t2, .list [bagD b1, bagD b2], rfl, .lst (sq_l upd_same) (.cons (dp_bag (hb35.mono st2)) (.cons (dp_bag (hz35.mono st2)) .nil)), prT, dpt, ?_⟩
        refine ⟨_, rfl, ne_str ⟨_, rfl, iteF ?_⟩⟩
        -- the last two
        refine ⟨_, rfl, _, rfl, _, rfl, u, z, b1, b2, m, rfl, hb35.mono st2, hz35.mono st2, o1, o2, fun H36 s36 => ?_⟩
        refine ⟨true, rfl, ?_⟩
        rw [if_pos rfl]
        exact ⟨_, rfl, st, cl, rfl, (ok35.same st2).same s36, fun H37 => q H37⟩
end
end KA
set_option Elab.async false
set_option linter.all false
set_option maxRecDepth 100000
set_option maxHeartbeats 4000000
/-! the law called by the claim's caller; the facts of the top -/
namespace KA
open PySem PySem.Spec PyProof.Rows L2
section
variable {P : Program} {w : World} {K : PySem.W.Frag} {mg : Str → Option Value} {base : Heap} {f : Addr} {fd : FuncData}
abbrev lawN : List Str := ["script", "state", "pairs", "k", "kept", "first", "second", "less", "row", "count", "factor", "rows", "given"]
/-- the law's def, entered by callerA -/
theorem law_enter (F : FnP K "law" s_law f fd) (cs : Cals P w K mg base) (gR : mg "range" = none) (gP : mg "repr" = none) {s : Shared} {H : Hp} {u : Value} {v : V} {Q : VK}
    (e0 : Env0 P w K mg base callerA [] s H) (bd : BindsTo s fd ⟨[u], []⟩ [("script", u)]) (rv : RelV v u) (h : spLaw K [v] H Q fun _ _ _ => False) :
    codeAny (model P w) callerA (.call (.ref f) ⟨[u], []⟩) (CR CX0 [] P w H s Q fun _ _ _ => False) s := by
  obtain ⟨oc, od, dV, kV, doc, pm, an, cdv, ct, osl, rfl, at_f, code_f, _, _⟩ := F.ex
  have R9 : Room 9 callerA := ⟨rfl, by decide, by decide⟩
  have inK : K.In s.heap := e0.mod.kin.keeps fun b o z => (e0.bs b o z).1
  have nolim : s.heap.NoLimit := e0.mod.nolimit.keeps fun b o z => (e0.bs b o z).1
  have vals1 : Vals [v] [u] := .cons rv .nil
  refine codeAny_call_function R9.depth (inK _ _ at_f) rfl sc_law.co sc_law.gen rfl (PySem.W.codeRec_of inK code_f) (bd _ _ _ _ ?_)
  refine wpAny_newFunctionEnv_cells sc_law.kind (fun y hy => ?_) fun env henv s1 born => ?_
  · obtain ⟨n, z⟩ := y
    have hm := (List.of_mem_zip (show (n, z) ∈ (["script"] : List Str).zip [u] from hy)).1
    rcases sc_law.par n hm with q | q
    · exact .inl q
    · exact .inr ⟨q, PySem.W.cellsFrom_some _ _ _ (.inl q)⟩
  · subst henv
    refine ⟨nolim.keeps born.toInCall.keep, codeAny_func ?_⟩
    obtain ⟨t, ht, hq⟩ := law_body (f := f) (cdv := cdv) (A := callerA) (outer := []) (s := s) rfl (R9.deeper _) cs gR gP h
    have I := inv_start (CX := CX0) (E := fun _ _ _ => False) (us := [u]) sc_law R9.hd e0 rfl vals1 born
    have out : ∀ {σ' : L2.St} {H' : Hp} {x : V} {z : Value} {s' : Shared}, Inv (cxOf CX0 P w K mg base lawN "law" (defScope s_law) f cdv callerA [] s H fun _ _ _ => False) [] σ' H' s' → RelV x z → Q x H' → CE [] P w H s Q z s' :=
      fun {σ' H' x z s'} J r q => ⟨x, H', J.os, J.bare, J.base, J.hok, r, q⟩
    refine wpAny_mono (ht.run [] s1 _ H _ I hq) (fun fl s' hs => ?_) fun e s' hs => hs
    match fl, hs with
    | .ret z, ⟨x, σ', H', J, r, q⟩ => exact out J r q
    | .next, ⟨σ', H', J, q⟩ => exact out (x := V.non) (z := Value.none) J rfl q
    | .brk, ⟨_, _, _, q⟩ => exact q.elim
    | .cont, ⟨_, _, _, q⟩ => exact q.elim
end
section
variable {P : Program} {w : World} {K : PySem.W.Frag} {mg mb : Str → Option Value} {f a : Addr} {fd : FuncData}
/-- the law's answer over a heap with a script in it -/
theorem law_says {s₁ : Shared} {vs : List Value} {ns : List Int} (inK : K.In s₁.heap) (gl : s₁.heap.Ns mainGlobals mg) (bl : s₁.heap.Ns builtinsNs mb) (bb : ∀ x : Str, x ≠ "__name__" → mb x = bootBuiltins x)
    (nolim : s₁.heap.NoLimit) (nogen : s₁.gens = #[]) (at_a : s₁.heap.get? a = some { cls := .type "list", data := .seq vs.toArray }) (isI : IntsAre vs ns) (few : ns.length ≤ 63)
    (F : FnP K "law" s_law f fd) (bd : ∀ (s : Shared) (u : Value), BindsTo s fd ⟨[u], []⟩ [("script", u)]) (cs : ∀ base : Heap, K.In base → base.Ns mainGlobals mg → Cals P w K mg base) (gR : mg "range" = none) (gP : mg "repr" = none) :
    codeAny (model P w) callerA (.call (.ref f) ⟨[.ref a], []⟩) (fun r s' => r = .ok (.ret (.bool true)) ∧ OldK s₁.heap s'.heap ∧ s'.os = s₁.os ∧ AllBare s'.gens) s₁ := by
  have rv := vals_ints isI
  have lenV := isI.length
  have few2 : ns.length ≤ sizeLine := Nat.le_trans few (by decide)
  -- for a heap H that tracks the script at most
  have go : ∀ H : Hp, (∀ b u, H b = some u → b = a ∧ ∃ o xs, u = .frz o (.lst xs)) → SqL K H a (ns.map V.int) → HOk P w H s₁.heap → (H a ≠ none → K.lookup a = none) →
      codeAny (model P w) callerA (.call (.ref f) ⟨[.ref a], []⟩) (fun r s' => r = .ok (.ret (.bool true)) ∧ OldK s₁.heap s'.heap ∧ s'.os = s₁.os ∧ AllBare s'.gens) s₁ := by
    intro H only hS hok notK
    have away : ∀ {b : Addr}, b ≠ a → H b = none := fun {b} nb => by
      cases q : H b with
      | none => rfl
      | some u => exact absurd (only b u q).1 nb
    have dic : ∀ {b : Addr} {o : Obj} {es : Array DictEntry} {ep : Nat}, s₁.heap.get? b = some o → o.data = .dict es ep → b ≠ a := fun {b o es ep} e d q => by
      subst q
      rw [at_a] at e
      cases e
      have d2 : Data.seq vs.toArray _ = Data.dict es ep := d
      cases d2
    have ns_of : ∀ {b : Addr} {m : Str → Option Value}, s₁.heap.Ns b m → (hidT s₁.heap H).Ns b m := fun {b m} ⟨o, es, ep, e, d, r⟩ => ⟨o, es, ep, hidT_get e (away (dic e d)), d, r⟩
    have K_of : K.In (hidT s₁.heap H) := fun b o e => hidT_get (inK b o e) (by
      by_cases nb : b = a
      · subst nb
        cases q : H b with
        | none => rfl
        | some u =>
          have z := notK (by rw [q]; simp)
          rw [z] at e
          cases e
      · exact away nb)
    obtain ⟨mc, lim1, lim2⟩ := nolim
    have M1 : Mod K mg (hidT s₁.heap H) := ⟨K_of, ns_of gl, ⟨mb, ns_of bl, bb⟩, mc, ns_of lim1, lim2⟩
    have noEx : ∀ b : Addr, b ∉ ([] : List Addr) := fun b z => by cases z
    have e0 : Env0 P w K mg (hidT s₁.heap H) callerA [] s₁ H := ⟨rfl, M1, fun b o e => of_hidT e, Nat.le_of_eq (hidT_size _ _), trivial, fun b z => absurd z (noEx b), hok, .of_eq nogen⟩
    refine codeAny_mono (law_enter (Q := fun v _ => v = .bl true) F (cs _ K_of (ns_of gl)) gR gP e0 (bd s₁ (.ref a)) (v := .ref a) rfl ⟨a, ns, rfl, hS, few, fun _ => rfl⟩) fun r s' h => ?_
    match r, h with
    | .error e, h => exact (h : False).elim
    | .ok .next, h => exact (h : False).elim
    | .ok .brk, h => exact (h : False).elim
    | .ok .cont, h => exact (h : False).elim
    | .ok (.ret u), ⟨v, H', os, bare, un, hok', r', q⟩ =>
      subst q
      have eu : u = Value.bool true := r'
      subst eu
      refine ⟨rfl, OldK.of_keep fun b o e => ?_, os, bare⟩
      cases q : H b with
      | none => exact un.keep b o e q (noEx b) (by simp)
      | some x =>
        obtain ⟨_, ob, xs, rfl⟩ := only b x q
        obtain ⟨e1, _⟩ := hok b _ q
        obtain ⟨e2, _⟩ := hok' b _ (un.frzs b ob _ q)
        rw [e] at e1
        cases e1
        exact e2
  cases hk : K.lookup a with
  | some o =>
    -- one of the module's own objects
    have e := inK a o hk
    rw [at_a] at e
    cases e
    exact go (fun _ => none) (fun b u z => by cases (show (none : Option HO) = some u from z)) (.inr ⟨_, vs.toArray, _, hk, rfl, rfl, rfl, by rw [List.size_toArray, lenV]; exact few2, by simpa using rv⟩)
      (fun b u z => by cases (show (none : Option HO) = some u from z)) fun z => absurd rfl z
  | none =>
    have one : ∀ b u, (if b = a then some (HO.frz { cls := .type "list", data := .seq vs.toArray } (.lst (ns.map V.int))) else none) = some u → b = a ∧ u = HO.frz { cls := .type "list", data := .seq vs.toArray } (.lst (ns.map V.int)) := fun b u z => by
      by_cases nb : b = a
      · rw [if_pos nb] at z
        cases z
        exact ⟨nb, rfl⟩
      · rw [if_neg nb] at z
        cases z
    refine go (fun b => if b = a then some (.frz { cls := .type "list", data := .seq vs.toArray } (.lst (ns.map V.int))) else none) (fun b u z => ?_) (.inl (.inr ⟨_, if_pos rfl⟩)) (fun b u z => ?_) fun _ => hk
    · obtain ⟨e1, e2⟩ := one b u z
      exact ⟨e1, _, _, e2⟩
    · obtain ⟨rfl, rfl⟩ := one b u z
      exact ⟨at_a, by rw [List.length_map]; exact few2, vs, _, rv, at_a⟩
end
section
variable {P : Program} {w : World} {K : PySem.W.Frag} {mg : Str → Option Value} {h : Heap}
/-- a def of the top, with its promise, by its name -/
theorem cal_of {x : Str} {st : Stmt} {f : Addr} {fd : FuncData} {base : Heap} {k : Nat} {ps : List Str} {sp : Sp} (F : FnP K x st f fd) (g : mg x = some (.ref f)) (b : Binds K fd ps []) (G : FnOk P w K mg base CX0 k f fd ps sp) : Cal P w K mg base x k ps sp := ⟨f, fd, g, F.kp, b, G⟩
theorem top_facts (X : K.In h) (G : h.Ns mainGlobals mg) {f : Addr} (gf : mg ("law" : Str) = some (.ref f)) (c : He.SaysD fa fn K) :
    ∃ fd : FuncData, FnP K "law" s_law f fd ∧ (∀ (s : Shared) (u : Value), BindsTo s fd ⟨[u], []⟩ [("script", u)]) ∧ (∀ base : Heap, K.In base → base.Ns mainGlobals mg → Cals P w K mg base) ∧ mg "range" = none ∧ mg "repr" = none := by
  obtain ⟨fd0, E0⟩ := c.def_ 0 (d := d_wrap) rfl
  have F0 : FnP K "wrap" s_wrap (He.ga K "wrap") fd0 := E0
  have g0 := He.glo_ok X G (c.fact 0 (f := .glo "wrap") rfl)
  have b0 : Binds K fd0 ["n"] [] := FunD.bindsN (ps := ["n"]) F0 fun _ _ _ _ _ _ us hl => match us, hl with | [_], _ => rfl
  obtain ⟨fd1, E1⟩ := c.def_ 1 (d := d_rank) rfl
  have F1 : FnP K "rank" s_rank (He.ga K "rank") fd1 := E1
  have g1 := He.glo_ok X G (c.fact 1 (f := .glo "rank") rfl)
  have b1 : Binds K fd1 ["value"] [] := FunD.bindsN (ps := ["value"]) F1 fun _ _ _ _ _ _ us hl => match us, hl with | [_], _ => rfl
  obtain ⟨fd2, E2⟩ := c.def_ 2 (d := d_row_rank) rfl
  have F2 : FnP K "row_rank" s_row_rank (He.ga K "row_rank") fd2 := E2
  have g2 := He.glo_ok X G (c.fact 2 (f := .glo "row_rank") rfl)
  have b2 : Binds K fd2 ["row"] [] := FunD.bindsN (ps := ["row"]) F2 fun _ _ _ _ _ _ us hl => match us, hl with | [_], _ => rfl
  obtain ⟨fd3, E3⟩ := c.def_ 3 (d := d_make_bag) rfl
  have F3 : FnP K "make_bag" s_make_bag (He.ga K "make_bag") fd3 := E3
  have g3 := He.glo_ok X G (c.fact 3 (f := .glo "make_bag") rfl)
  have b3 : Binds K fd3 ["pairs"] [] := FunD.bindsN (ps := ["pairs"]) F3 fun _ _ _ _ _ _ us hl => match us, hl with | [_], _ => rfl
  obtain ⟨fd4, E4⟩ := c.def_ 4 (d := d_plus) rfl
  have F4 : FnP K "plus" s_plus (He.ga K "plus") fd4 := E4
  have g4 := He.glo_ok X G (c.fact 4 (f := .glo "plus") rfl)
  have b4 : Binds K fd4 ["first", "second"] [] := FunD.bindsN (ps := ["first", "second"]) F4 fun _ _ _ _ _ _ us hl => match us, hl with | [_,_], _ => rfl
  obtain ⟨fd5, E5⟩ := c.def_ 5 (d := d_minus) rfl
  have F5 : FnP K "minus" s_minus (He.ga K "minus") fd5 := E5
  have g5 := He.glo_ok X G (c.fact 5 (f := .glo "minus") rfl)
  have b5 : Binds K fd5 ["first", "second"] [] := FunD.bindsN (ps := ["first", "second"]) F5 fun _ _ _ _ _ _ us hl => match us, hl with | [_,_], _ => rfl
  obtain ⟨fd6, E6⟩ := c.def_ 6 (d := d_scaled) rfl
  have F6 : FnP K "scaled" s_scaled (He.ga K "scaled") fd6 := E6
  have g6 := He.glo_ok X G (c.fact 6 (f := .glo "scaled") rfl)
  have b6 : Binds K fd6 ["bag", "factor"] [] := FunD.bindsN (ps := ["bag", "factor"]) F6 fun _ _ _ _ _ _ us hl => match us, hl with | [_,_], _ => rfl
  obtain ⟨fd7, E7⟩ := c.def_ 7 (d := d_count_of) rfl
  have F7 : FnP K "count_of" s_count_of (He.ga K "count_of") fd7 := E7
  have g7 := He.glo_ok X G (c.fact 7 (f := .glo "count_of") rfl)
  have b7 : Binds K fd7 ["bag", "row"] [] := FunD.bindsN (ps := ["bag", "row"]) F7 fun _ _ _ _ _ _ us hl => match us, hl with | [_,_], _ => rfl
  obtain ⟨fd8, E8⟩ := c.def_ 8 (d := d_rows_of) rfl
  have F8 : FnP K "rows_of" s_rows_of (He.ga K "rows_of") fd8 := E8
  have g8 := He.glo_ok X G (c.fact 8 (f := .glo "rows_of") rfl)
  have b8 : Binds K fd8 ["bag"] [] := FunD.bindsN (ps := ["bag"]) F8 fun _ _ _ _ _ _ us hl => match us, hl with | [_], _ => rfl
  obtain ⟨fd9, E9⟩ := c.def_ 9 (d := d_support) rfl
  have F9 : FnP K "support" s_support (He.ga K "support") fd9 := E9
  have g9 := He.glo_ok X G (c.fact 9 (f := .glo "support") rfl)
  have b9 : Binds K fd9 ["bag"] [] := FunD.bindsN (ps := ["bag"]) F9 fun _ _ _ _ _ _ us hl => match us, hl with | [_], _ => rfl
  obtain ⟨fd10, E10⟩ := c.def_ 10 (d := d_set_bag) rfl
  have F10 : FnP K "set_bag" s_set_bag (He.ga K "set_bag") fd10 := E10
  have g10 := He.glo_ok X G (c.fact 10 (f := .glo "set_bag") rfl)
  have b10 : Binds K fd10 ["rows"] [] := FunD.bindsN (ps := ["rows"]) F10 fun _ _ _ _ _ _ us hl => match us, hl with | [_], _ => rfl
  obtain ⟨fd11, E11⟩ := c.def_ 11 (d := d__law_state) rfl
  have F11 : FnP K "_law_state" s__law_state (He.ga K "_law_state") fd11 := E11
  have g11 := He.glo_ok X G (c.fact 11 (f := .glo "_law_state") rfl)
  have b11 : Binds K fd11 ["script"] [] := FunD.bindsN (ps := ["script"]) F11 fun _ _ _ _ _ _ us hl => match us, hl with | [_], _ => rfl
  obtain ⟨fd12, E12⟩ := c.def_ 12 (d := d__law_draw) rfl
  have F12 : FnP K "_law_draw" s__law_draw (He.ga K "_law_draw") fd12 := E12
  have g12 := He.glo_ok X G (c.fact 12 (f := .glo "_law_draw") rfl)
  have b12 : Binds K fd12 ["state", "many"] [] := FunD.bindsN (ps := ["state", "many"]) F12 fun _ _ _ _ _ _ us hl => match us, hl with | [_,_], _ => rfl
  obtain ⟨fd13, E13⟩ := c.def_ 13 (d := d__law_one) rfl
  have F13 : FnP K "_law_one" s__law_one (He.ga K "_law_one") fd13 := E13
  have g13 := He.glo_ok X G (c.fact 13 (f := .glo "_law_one") rfl)
  have b13 : Binds K fd13 ["state"] [] := FunD.bindsN (ps := ["state"]) F13 fun _ _ _ _ _ _ us hl => match us, hl with | [_], _ => rfl
  obtain ⟨fd14, E14⟩ := c.def_ 14 (d := d__law_row) rfl
  have F14 : FnP K "_law_row" s__law_row (He.ga K "_law_row") fd14 := E14
  have g14 := He.glo_ok X G (c.fact 14 (f := .glo "_law_row") rfl)
  have b14 : Binds K fd14 ["state", "most"] [] := FunD.bindsN (ps := ["state", "most"]) F14 fun _ _ _ _ _ _ us hl => match us, hl with | [_,_], _ => rfl
  obtain ⟨fd15, E15⟩ := c.def_ 15 (d := d__law_key) rfl
  have F15 : FnP K "_law_key" s__law_key (He.ga K "_law_key") fd15 := E15
  have g15 := He.glo_ok X G (c.fact 15 (f := .glo "_law_key") rfl)
  have b15 : Binds K fd15 ["row"] [] := FunD.bindsN (ps := ["row"]) F15 fun _ _ _ _ _ _ us hl => match us, hl with | [_], _ => rfl
  obtain ⟨fd16, E16⟩ := c.def_ 16 (d := d__law_canon) rfl
  have F16 : FnP K "_law_canon" s__law_canon (He.ga K "_law_canon") fd16 := E16
  have g16 := He.glo_ok X G (c.fact 16 (f := .glo "_law_canon") rfl)
  have b16 : Binds K fd16 ["counts"] [] := FunD.bindsN (ps := ["counts"]) F16 fun _ _ _ _ _ _ us hl => match us, hl with | [_], _ => rfl
  obtain ⟨fd17, E17⟩ := c.def_ 17 (d := d__law_bag) rfl
  have F17 : FnP K "_law_bag" s__law_bag (He.ga K "_law_bag") fd17 := E17
  have g17 := He.glo_ok X G (c.fact 17 (f := .glo "_law_bag") rfl)
  have b17 : Binds K fd17 ["state", "most"] [] := FunD.bindsN (ps := ["state", "most"]) F17 fun _ _ _ _ _ _ us hl => match us, hl with | [_,_], _ => rfl
  obtain ⟨fd18, E18⟩ := c.def_ 18 (d := d__law_counts) rfl
  have F18 : FnP K "_law_counts" s__law_counts (He.ga K "_law_counts") fd18 := E18
  have g18 := He.glo_ok X G (c.fact 18 (f := .glo "_law_counts") rfl)
  have b18 : Binds K fd18 ["pairs"] [] := FunD.bindsN (ps := ["pairs"]) F18 fun _ _ _ _ _ _ us hl => match us, hl with | [_], _ => rfl
  obtain ⟨fd19, E19⟩ := c.def_ 19 (d := d__law_ordered) rfl
  have F19 : FnP K "_law_ordered" s__law_ordered (He.ga K "_law_ordered") fd19 := E19
  have g19 := He.glo_ok X G (c.fact 19 (f := .glo "_law_ordered") rfl)
  have b19 : Binds K fd19 ["state"] [] := FunD.bindsN (ps := ["state"]) F19 fun _ _ _ _ _ _ us hl => match us, hl with | [_], _ => rfl
  obtain ⟨fd20, E20⟩ := c.def_ 20 (d := d__law_group) rfl
  have F20 : FnP K "_law_group" s__law_group (He.ga K "_law_group") fd20 := E20
  have g20 := He.glo_ok X G (c.fact 20 (f := .glo "_law_group") rfl)
  have b20 : Binds K fd20 ["first", "second", "factor"] [] := FunD.bindsN (ps := ["first", "second", "factor"]) F20 fun _ _ _ _ _ _ us hl => match us, hl with | [_,_,_], _ => rfl
  obtain ⟨fd, E21⟩ := c.def_ 21 (d := d_law) rfl
  have F : FnP K "law" s_law (He.ga K "law") fd := E21
  have e := gf.symm.trans (He.glo_ok X G (c.fact 21 (f := .glo "law") rfl))
  cases e
  have bd := FunD.bindsA (ps := ["script"]) F fun _ _ _ _ _ _ us hl => match us, hl with | [_], _ => rfl
  obtain ⟨tS, gSpan⟩ := He.int_ok X G (c.fact 22 (f := .int "SPAN" 4294967296) rfl)
  obtain ⟨tL, gLow⟩ := He.int_ok X G (c.fact 23 (f := .int "LOWEST" (-2147483648)) rfl)
  have n_len := He.free_ok X G (c.fact 24 (f := .free "len") rfl)
  have n_range := He.free_ok X G (c.fact 25 (f := .free "range") rfl)
  have n_int := He.free_ok X G (c.fact 26 (f := .free "int") rfl)
  have n_abs := He.free_ok X G (c.fact 27 (f := .free "abs") rfl)
  have n_isinstance := He.free_ok X G (c.fact 28 (f := .free "isinstance") rfl)
  have n_tuple := He.free_ok X G (c.fact 29 (f := .free "tuple") rfl)
  have n_sorted := He.free_ok X G (c.fact 30 (f := .free "sorted") rfl)
  have n_repr := He.free_ok X G (c.fact 31 (f := .free "repr") rfl)
  have n_str := He.free_ok X G (c.fact 32 (f := .free "str") rfl)
  refine ⟨fd, F, fun s u => bd s [u] rfl, fun base _ _ => ?_, n_range, n_repr⟩
  have c_wrap : Cal P w K mg base "wrap" 1 ["n"] spWrap := cal_of F0 g0 b0 (ok_wrap F0 gSpan gLow)
  have c_rank : Cal P w K mg base "rank" 1 ["value"] (spRank K) := cal_of F1 g1 b1 (ok_rank F1 n_isinstance n_str)
  have c_row_rank : Cal P w K mg base "row_rank" 2 ["row"] (spKey K rankRow) := cal_of F2 g2 b2 (ok_row_rank F2 n_tuple c_rank)
  have c_make_bag : Cal P w K mg base "make_bag" 5 ["pairs"] spMakeBag := cal_of F3 g3 b3 (ok_make_bag F3 n_sorted c_row_rank)
  have c_plus : Cal P w K mg base "plus" 6 ["first", "second"] spPlus := cal_of F4 g4 b4 (ok_plus F4 c_make_bag)
  have c_scaled : Cal P w K mg base "scaled" 1 ["bag", "factor"] spScaled := cal_of F6 g6 b6 (ok_scaled F6)
  have c_minus : Cal P w K mg base "minus" 7 ["first", "second"] spMinus := cal_of F5 g5 b5 (ok_minus F5 c_plus c_scaled)
  have c_count_of : Cal P w K mg base "count_of" 1 ["bag", "row"] spCountOf := cal_of F7 g7 b7 (ok_count_of F7)
  have c_rows_of : Cal P w K mg base "rows_of" 1 ["bag"] spRowsOf := cal_of F8 g8 b8 (ok_rows_of F8)
  have c_support : Cal P w K mg base "support" 2 ["bag"] spSupport := cal_of F9 g9 b9 (ok_support F9 c_rows_of)
  have c_set_bag : Cal P w K mg base "set_bag" 6 ["rows"] spSetBag := cal_of F10 g10 b10 (ok_set_bag F10 c_support c_make_bag)
  have c__law_state : Cal P w K mg base "_law_state" 1 ["script"] (spState K) := cal_of F11 g11 b11 (ok_state F11 n_int n_abs)
  have c__law_draw : Cal P w K mg base "_law_draw" 1 ["state", "many"] spDraw := cal_of F12 g12 b12 (ok_draw F12 n_int n_len n_range)
  have c__law_one : Cal P w K mg base "_law_one" 2 ["state"] spOne := cal_of F13 g13 b13 (ok_one F13 c__law_draw)
  have c__law_row : Cal P w K mg base "_law_row" 3 ["state", "most"] spRow := cal_of F14 g14 b14 (ok_row F14 n_tuple n_range c__law_draw c__law_one)
  have c__law_key : Cal P w K mg base "_law_key" 1 ["row"] (spLawKey K) := cal_of F15 g15 b15 (ok_law_key F15 n_isinstance n_int)
  have c__law_canon : Cal P w K mg base "_law_canon" 4 ["counts"] spCanon := cal_of F16 g16 b16 (ok_canon F16 n_sorted c__law_key)
  have c__law_bag : Cal P w K mg base "_law_bag" 5 ["state", "most"] spBag := cal_of F17 g17 b17 (ok_bag F17 n_range c__law_draw c__law_row c__law_canon)
  have c__law_counts : Cal P w K mg base "_law_counts" 1 ["pairs"] spCounts := cal_of F18 g18 b18 (ok_counts F18)
  have c__law_ordered : Cal P w K mg base "_law_ordered" 4 ["state"] spOrdered := cal_of F19 g19 b19 (ok_ordered F19 n_range n_int c__law_draw c__law_row c_wrap c__law_key c_rank c_row_rank)
  have c__law_group : Cal P w K mg base "_law_group" 8 ["first", "second", "factor"] spGroup := cal_of F20 g20 b20 (ok_group F20 c_plus c_minus c_scaled)
  exact ⟨c__law_state, c__law_draw, c__law_row, c_make_bag, c__law_canon, c__law_counts, c__law_bag, c_plus, c_minus, c_scaled, c_rows_of, c_support, c_count_of, c_set_bag, c__law_group, c__law_ordered⟩
end
end KA
set_option Elab.async false
set_option linter.all false
set_option maxRecDepth 100000
set_option maxHeartbeats 0
/-! the end -/
open PySem PySem.W PySem.Calls PyProof.Rows
theorem PySem.Challenge.cw_deltaloom_k01_values_and_bags_holds : PySem.Challenge.rw_deltaloom_k01_values_and_bags.Holds := by
  w_on; o_law
  refine HandSHeadRun.head_any (r := OpenLaw.row PySem.Challenge.rw_deltaloom_k01_values_and_bags) (q := view (OpenLaw.row PySem.Challenge.rw_deltaloom_k01_values_and_bags).prog [26]) (H := KA.hk) (ob := KA.ob) (M := 4000) (loose := ["SPAN", "LOWEST", "wrap", "rank", "row_rank", "make_bag", "plus", "minus", "scaled", "count_of", "rows_of", "support", "set_bag", "_law_state", "_law_draw", "_law_one", "_law_row", "_law_key", "_law_canon", "_law_bag", "_law_counts", "_law_ordered", "_law_group"]) (d := HandSHeadRun.topDef (OpenLaw.row PySem.Challenge.rw_deltaloom_k01_values_and_bags).prog 26) (kwd := []) KA.ob_eq
    (by kernel_rfl) (fun s => by kernel_rfl) KA.run (by kernel_rfl) (by kernel_rfl) (by kernel_rfl) (by rfl) (by first | assumption | decide +kernel) (by decide +kernel) ⟨rfl, rfl, rfl, rfl, rfl, by decide +kernel⟩ ?hw ?hc
  case hw => w_witness2
  case hc =>
    have nm : (HandSHeadRun.topDef (OpenLaw.row PySem.Challenge.rw_deltaloom_k01_values_and_bags).prog 26).name = ("law" : PySem.Str) := by kernel_rfl
    have df : (HandSHeadRun.topDef (OpenLaw.row PySem.Challenge.rw_deltaloom_k01_values_and_bags).prog 26).params.defaults = [] := by kernel_rfl
    refine Att.attach_call (l := PySem.Challenge.rw_deltaloom_k01_values_and_bags) (n := 63) rfl df fun w s₀ s₁ mg mb fa o pm cd doc a vs ns G Y ho hd hcd hmg hobj hints hlen hg => ?_
    obtain ⟨K, KX, c⟩ := Y
    have hlaw : mg ("law" : PySem.Str) = some (.ref fa) := by
      rw [← nm]
      exact hmg
    obtain ⟨fd, F, bd, cs, gR, gP⟩ := KA.top_facts (P := PySem.Challenge.rw_deltaloom_k01_values_and_bags.prog) (w := w) KX G.T.g hlaw c
    exact KA.law_says KX G.T.g G.T.b G.T.builtins G.T.nolimit hg hobj hints hlen F bd cs gR gP
