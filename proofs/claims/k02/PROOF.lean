import PyProof.Rows.All
import Wide.All
import OpenK.AllK
import Wide.FinOn
import HandS.Base
import HandS.Dict
import KE.SortData
import KE.LtData
import KE.SortCalls
import KE.DataEq
import KE.SortKeyHeap
import HandS.ForMost
import HandS.Defaults
import HandS.WordsExc
import HandS.SortKw
import HandS.ExcValue
import HandS.IsInst
import HandS.Wide
import HandS.Walk
import KE.KStateDown
import Lean
import HandS.More
import HandS.Head0
import HandS.Head1
import HandS.Head2
import HandS.HeadEnd
import HandS.HeadHook1
import HandS.HeadHook2
import PySem.Challenge.RW_deltaloom_k02_expressions_and_terms
import HandS.RaiseMore
import HandS.TupAny
import HandS.Lambda
import HandS.Nested
import HandS.FStr
import HandS.NoneIn
import HandS.HeadHook3
import HandS.DictComp
import HandS.Conv
import HandS.SetKeys
import PyProof.DictMoreH
import PyProof.ReprRoads
import PyProof.Rows.ReprItems
import PyProof.FitsInt
import HandS.HeadHook4
set_option Elab.async false
set_option linter.all false
set_option maxRecDepth 100000
set_option maxHeartbeats 4000000
/-! bags as lists of rows and counts: sums by row, the sorted form, and that it is the only one -/
namespace KA
open PySem PySem.W L2
abbrev Row := List Key
abbrev Bag := List (Row × Int)
/-! ### the order of values and rows -/
def sLt (a b : Str) : Bool := decide (a.cps.toList < b.cps.toList)
def oneLt : Key → Key → Bool
  | .inl i, .inl j => decide (i < j)
  | .inl _, .inr _ => true
  | .inr _, .inl _ => false
  | .inr x, .inr y => sLt x y
def rowLt : Row → Row → Bool
  | [], [] => false
  | [], _ :: _ => true
  | _ :: _, [] => false
  | a :: r, b :: t => if a = b then rowLt r t else oneLt a b
theorem str_ext {a b : Str} (h : a.cps.toList = b.cps.toList) : a = b := by
  cases a; cases b
  simp only [Str.mk.injEq]
  exact Array.toList_inj.mp h
theorem oneLt_irrefl (a : Key) : oneLt a a = false := by
  cases a with
  | inl i => simp [oneLt]
  | inr x => simp [oneLt, sLt, List.lt_irrefl]
theorem oneLt_total {a b : Key} (h : a ≠ b) (h1 : oneLt a b = false) : oneLt b a = true := by
  cases a with
  | inl i =>
    cases b with
    | inl j =>
      simp only [oneLt, decide_eq_false_iff_not, decide_eq_true_eq] at h1 ⊢
      have : i ≠ j := fun e => h (by rw [e])
      omega
    | inr y => simp [oneLt] at h1
  | inr x =>
    cases b with
    | inl j => rfl
    | inr y =>
      simp only [oneLt, sLt, decide_eq_false_iff_not, decide_eq_true_eq] at h1 ⊢
      have hne : x.cps.toList ≠ y.cps.toList := fun e => h (by rw [str_ext e])
      have h2 : y.cps.toList ≤ x.cps.toList := List.not_lt.mp h1
      by_cases z : y.cps.toList < x.cps.toList
      · exact z
      · exact absurd (List.le_antisymm (List.not_lt.mp z) h2) hne
theorem oneLt_asym {a b : Key} (h : oneLt a b = true) : oneLt b a = false := by
  cases a with
  | inl i =>
    cases b with
    | inl j => simp only [oneLt, decide_eq_false_iff_not, decide_eq_true_eq] at h ⊢; omega
    | inr y => rfl
  | inr x =>
    cases b with
    | inl j => simp [oneLt] at h
    | inr y =>
      simp only [oneLt, sLt, decide_eq_false_iff_not, decide_eq_true_eq] at h ⊢
      exact fun e => List.lt_irrefl _ (List.lt_trans h e)
theorem oneLt_trans {a b c : Key} (h1 : oneLt a b = true) (h2 : oneLt b c = true) : oneLt a c = true := by
  cases a with
  | inl i =>
    cases b with
    | inl j =>
      cases c with
      | inl k => simp only [oneLt, decide_eq_true_eq] at h1 h2 ⊢; omega
      | inr z => rfl
    | inr y =>
      cases c with
      | inl k => simp [oneLt] at h2
      | inr z => rfl
  | inr x =>
    cases b with
    | inl j => simp [oneLt] at h1
    | inr y =>
      cases c with
      | inl k => simp [oneLt] at h2
      | inr z =>
        simp only [oneLt, sLt, decide_eq_true_eq] at h1 h2 ⊢
        exact List.lt_trans h1 h2
theorem rowLt_irrefl : ∀ r : Row, rowLt r r = false
  | [] => rfl
  | a :: r => by
    rw [rowLt, if_pos rfl]
    exact rowLt_irrefl r
theorem rowLt_total : ∀ {a b : Row}, a ≠ b → rowLt a b = false → rowLt b a = true
  | [], [], h, _ => absurd rfl h
  | [], _ :: _, _, h => by simp [rowLt] at h
  | _ :: _, [], _, _ => rfl
  | x :: a, y :: b, h, h1 => by
    rw [rowLt] at h1 ⊢
    by_cases e : x = y
    · subst e
      rw [if_pos rfl] at h1 ⊢
      exact rowLt_total (fun q => h (by rw [q])) h1
    · rw [if_neg e] at h1
      rw [if_neg (fun q => e q.symm)]
      exact oneLt_total e h1
theorem rowLt_asym : ∀ {a b : Row}, rowLt a b = true → rowLt b a = false
  | [], [], h => by simp [rowLt] at h
  | [], _ :: _, _ => rfl
  | _ :: _, [], h => by simp [rowLt] at h
  | x :: a, y :: b, h => by
    rw [rowLt] at h ⊢
    by_cases e : x = y
    · subst e
      rw [if_pos rfl] at h ⊢
      exact rowLt_asym h
    · rw [if_neg e] at h
      rw [if_neg (fun q => e q.symm)]
      exact oneLt_asym h
theorem rowLt_trans : ∀ {a b c : Row}, rowLt a b = true → rowLt b c = true → rowLt a c = true
  | [], [], _, h, _ => by simp [rowLt] at h
  | [], _ :: _, [], _, h => by simp [rowLt] at h
  | [], _ :: _, _ :: _, _, _ => rfl
  | _ :: _, [], _, h, _ => by simp [rowLt] at h
  | _ :: _, _ :: _, [], _, h => by simp [rowLt] at h
  | x :: a, y :: b, z :: c, h1, h2 => by
    rw [rowLt] at h1 h2 ⊢
    by_cases e : x = y
    · subst e
      rw [if_pos rfl] at h1
      by_cases e2 : x = z
      · subst e2
        rw [if_pos rfl] at h2 ⊢
        exact rowLt_trans h1 h2
      · rw [if_neg e2] at h2 ⊢
        exact h2
    · rw [if_neg e] at h1
      by_cases e2 : y = z
      · subst e2
        rw [if_neg e]
        exact h1
      · rw [if_neg e2] at h2
        have h3 := oneLt_trans h1 h2
        have e3 : x ≠ z := fun q => by
          subst q
          rw [oneLt_irrefl] at h3
          cases h3
        rw [if_neg e3]
        exact h3
def rowLe (a b : Row) : Bool := !rowLt b a
/-! ### counts by row -/
/-- the sum of the counts that the pairs give to a row -/
def tot (ps : Bag) (r : Row) : Int := ((ps.filter fun e => decide (e.1 = r)).map (·.2)).sum
theorem tot_nil (r : Row) : tot [] r = 0 := rfl
theorem tot_cons (e : Row × Int) (ps : Bag) (r : Row) : tot (e :: ps) r = (if e.1 = r then e.2 else 0) + tot ps r := by
  unfold tot
  by_cases h : e.1 = r
  · rw [List.filter_cons_of_pos (by simpa using h), if_pos h, List.map_cons, List.sum_cons]
  · rw [List.filter_cons_of_neg (by simpa using h), if_neg h]
    omega
theorem tot_app (ps qs : Bag) (r : Row) : tot (ps ++ qs) r = tot ps r + tot qs r := by
  induction ps with
  | nil => rw [List.nil_append, tot_nil]; omega
  | cons e t ih => rw [List.cons_append, tot_cons, tot_cons, ih]; omega
theorem tot_map (ps : Bag) (f : Int → Int) (h : ∀ x y, f (x + y) = f x + f y) (h0 : f 0 = 0) (r : Row) : tot (ps.map fun e => (e.1, f e.2)) r = f (tot ps r) := by
  induction ps with
  | nil => rw [List.map_nil, tot_nil, h0]
  | cons e t ih =>
    rw [List.map_cons, tot_cons, tot_cons, ih, h]
    by_cases q : e.1 = r
    · rw [if_pos q, if_pos q]
    · rw [if_neg q, if_neg q, h0]
theorem tot_out {ps : Bag} {r : Row} (h : ∀ e ∈ ps, e.1 ≠ r) : tot ps r = 0 := by
  induction ps with
  | nil => rfl
  | cons e t ih =>
    rw [tot_cons, if_neg (h e List.mem_cons_self), ih fun x hx => h x (List.mem_cons_of_mem _ hx)]
    omega
theorem tot_in {ps : Bag} (hn : (ps.map (·.1)).Nodup) {e : Row × Int} (he : e ∈ ps) : tot ps e.1 = e.2 := by
  induction ps with
  | nil => cases he
  | cons x t ih =>
    rw [List.map_cons, List.nodup_cons] at hn
    rw [tot_cons]
    rcases List.mem_cons.mp he with q | q
    · subst q
      rw [if_pos rfl, tot_out fun y hy z => hn.1 (List.mem_map.mpr ⟨y, hy, z⟩)]
      omega
    · have hne : x.1 ≠ e.1 := fun z => hn.1 (List.mem_map.mpr ⟨e, q, z.symm⟩)
      rw [if_neg hne, ih hn.2 q]
      omega
/-! ### the dict that is filled pair by pair -/
def putI (m : Bag) (r : Row) (c : Int) : Bag :=
  if (m.any fun e => decide (e.1 = r)) = true then m.map (fun e => if e.1 = r then (e.1, c) else e) else m ++ [(r, c)]
def valI (m : Bag) (r : Row) : Option Int := (m.find? fun e => decide (e.1 = r)).map (·.2)
def tally (ps : Bag) : Bag := ps.foldl (fun m e => putI m e.1 ((valI m e.1).getD 0 + e.2)) []
abbrev vk (m : Bag) : List (Row × V) := m.map fun e => (e.1, V.int e.2)
theorem vk_val (m : Bag) (r : Row) : valV (vk m) r = (valI m r).map V.int := by
  induction m with
  | nil => rfl
  | cons e t ih =>
    by_cases h : e.1 = r
    · rw [show vk (e :: t) = (e.1, V.int e.2) :: vk t from rfl, valV_pos h]
      simp [valI, List.find?_cons, h]
    · rw [show vk (e :: t) = (e.1, V.int e.2) :: vk t from rfl, valV_neg h, ih]
      simp [valI, List.find?_cons, h]
theorem vk_put (m : Bag) (r : Row) (c : Int) : putK (vk m) r (.int c) = vk (putI m r c) := by
  unfold putK putI
  have e : ((vk m).any fun kv => decide (kv.1 = r)) = (m.any fun e => decide (e.1 = r)) := by
    rw [List.any_map]
    rfl
  rw [e]
  split
  · show (m.map fun e => (e.1, V.int e.2)).map (fun kv => if kv.1 = r then (kv.1, V.int c) else kv) = (m.map (fun e => if e.1 = r then (e.1, c) else e)).map fun e => (e.1, V.int e.2)
    rw [List.map_map, List.map_map]
    refine List.map_congr_left fun x _ => ?_
    show (if x.1 = r then (x.1, V.int c) else (x.1, V.int x.2)) = ((if x.1 = r then (x.1, c) else x).1, V.int (if x.1 = r then (x.1, c) else x).2)
    split <;> rfl
  · show (m.map fun e => (e.1, V.int e.2)) ++ [(r, V.int c)] = (m ++ [(r, c)]).map fun e => (e.1, V.int e.2)
    rw [List.map_append]
    rfl
theorem valI_tot {m : Bag} (hn : (m.map (·.1)).Nodup) (r : Row) : (valI m r).getD 0 = tot m r := by
  induction m with
  | nil => rfl
  | cons e t ih =>
    rw [List.map_cons, List.nodup_cons] at hn
    rw [tot_cons]
    by_cases h : e.1 = r
    · rw [if_pos h, tot_out fun x hx q => hn.1 (List.mem_map.mpr ⟨x, hx, q.trans h.symm⟩)]
      simp [valI, List.find?_cons, h]
    · rw [if_neg h, ← ih hn.2]
      simp [valI, List.find?_cons, h]
theorem valI_some {m : Bag} {e : Row × Int} (he : e ∈ m) : (valI m e.1).isSome = true := by
  unfold valI
  rw [Option.isSome_map, List.find?_isSome]
  exact ⟨e, he, by simp⟩
theorem putI_keys (m : Bag) (r : Row) (c : Int) : (r ∈ m.map (·.1) ∧ (putI m r c).map (·.1) = m.map (·.1)) ∨ (r ∉ m.map (·.1) ∧ (putI m r c).map (·.1) = m.map (·.1) ++ [r]) := by
  unfold putI
  by_cases h : r ∈ m.map (·.1)
  · refine .inl ⟨h, ?_⟩
    obtain ⟨e, he, q⟩ := List.mem_map.mp h
    rw [if_pos (List.any_eq_true.mpr ⟨e, he, by simpa using q⟩), List.map_map]
    refine List.map_congr_left fun x _ => ?_
    show (if x.1 = r then (x.1, c) else x).1 = x.1
    split <;> rfl
  · refine .inr ⟨h, ?_⟩
    rw [if_neg (fun q => by
      obtain ⟨e, he, z⟩ := List.any_eq_true.mp q
      exact h (List.mem_map.mpr ⟨e, he, by simpa using z⟩)), List.map_append]
    rfl
theorem putI_nodup {m : Bag} (hn : (m.map (·.1)).Nodup) (r : Row) (c : Int) : ((putI m r c).map (·.1)).Nodup := by
  rcases putI_keys m r c with ⟨_, e⟩ | ⟨h, e⟩
  · rw [e]; exact hn
  · rw [e]
    exact List.nodup_append.mpr ⟨hn, List.pairwise_singleton _ _, fun a ha b hb q => by
      rw [List.mem_singleton.mp hb] at q
      exact h (q ▸ ha)⟩
theorem putI_tot {m : Bag} (hn : (m.map (·.1)).Nodup) (r q : Row) (c : Int) : tot (putI m r c) q = if r = q then c else tot m q := by
  rw [← valI_tot (putI_nodup hn r c), ← valI_tot hn]
  unfold putI
  by_cases h : (m.any fun e => decide (e.1 = r)) = true
  · rw [if_pos h]
    clear hn
    induction m with
    | nil => simp at h
    | cons e t ih =>
      by_cases h1 : e.1 = r
      · by_cases h2 : r = q
        · simp [valI, List.find?_cons, h1, h2]
        · rw [if_neg h2]
          have h3 : ¬ e.1 = q := fun z => h2 (h1.symm.trans z)
          by_cases h4 : (t.any fun e => decide (e.1 = r)) = true
          · have ih' := ih h4
            rw [if_neg h2] at ih'
            simp only [valI, List.map_cons, h1, if_true, List.find?_cons] at ih' ⊢
            simp only [h2, decide_false] at ih' ⊢
            exact ih'
          · have e2 : t.map (fun e => if e.1 = r then (e.1, c) else e) = t := by
              conv => rhs; rw [← List.map_id t]
              refine List.map_congr_left fun x hx => ?_
              rw [if_neg fun z => h4 (List.any_eq_true.mpr ⟨x, hx, by simpa using z⟩)]
              rfl
            simp only [valI, List.map_cons, h1, if_true, List.find?_cons, h2, decide_false, e2]
      · have h4 : (t.any fun e => decide (e.1 = r)) = true := by simpa [h1] using h
        have ih' := ih h4
        by_cases h2 : e.1 = q
        · have h3 : ¬ r = q := fun z => h1 (h2.trans z.symm)
          rw [if_neg h3, List.map_cons, if_neg h1]
          simp [valI, List.find?_cons, h2]
        · simp only [valI, List.map_cons, h1, if_false, List.find?_cons, h2, decide_false] at ih' ⊢
          exact ih'
  · rw [if_neg h]
    by_cases h2 : r = q
    · subst h2
      have e : (m.find? fun e => decide (e.1 = r)) = none := by
        rw [List.find?_eq_none]
        intro x hx z
        exact h (List.any_eq_true.mpr ⟨x, hx, z⟩)
      simp [valI, List.find?_append, e]
    · cases z : (m.find? fun e => decide (e.1 = q)) with
      | none => simp [valI, List.find?_append, z, h2]
      | some x => simp [valI, List.find?_append, z, h2]
theorem tally_go : ∀ (ps m : Bag), (m.map (·.1)).Nodup → ((ps.foldl (fun m e => putI m e.1 ((valI m e.1).getD 0 + e.2)) m).map (·.1)).Nodup ∧
    (∀ r, tot (ps.foldl (fun m e => putI m e.1 ((valI m e.1).getD 0 + e.2)) m) r = tot m r + tot ps r) ∧ (ps.foldl (fun m e => putI m e.1 ((valI m e.1).getD 0 + e.2)) m).length ≤ m.length + ps.length
  | [], m, h => ⟨h, fun r => by rw [List.foldl_nil, tot_nil]; omega, by simp⟩
  | e :: ps, m, h => by
    obtain ⟨a, b, c⟩ := tally_go ps (putI m e.1 ((valI m e.1).getD 0 + e.2)) (putI_nodup h _ _)
    rw [List.foldl_cons]
    refine ⟨a, fun r => ?_, ?_⟩
    · rw [b, putI_tot h, tot_cons, valI_tot h]
      by_cases q : e.1 = r
      · rw [if_pos q, if_pos q, q]; omega
      · rw [if_neg q, if_neg q]; omega
    · have l : (putI m e.1 ((valI m e.1).getD 0 + e.2)).length ≤ m.length + 1 := by
        unfold putI
        split
        · rw [List.length_map]; omega
        · rw [List.length_append]; simp
      rw [List.length_cons]
      omega
theorem tally_nodup (ps : Bag) : ((tally ps).map (·.1)).Nodup := (tally_go ps [] List.nodup_nil).1
theorem tally_tot (ps : Bag) (r : Row) : tot (tally ps) r = tot ps r := by
  have h := (tally_go ps [] List.nodup_nil).2.1 r
  rw [tot_nil] at h
  unfold tally
  omega
theorem tally_len (ps : Bag) : (tally ps).length ≤ ps.length := by
  have h := (tally_go ps [] List.nodup_nil).2.2
  simpa [tally] using h
theorem tally_val (ps : Bag) (r : Row) : (valI (tally ps) r).getD 0 = tot ps r := by rw [valI_tot (tally_nodup ps), tally_tot]
/-! ### the bag of some pairs -/
def nzRows (ps : Bag) : List Row := ((tally ps).map (·.1)).filter fun r => decide (tot ps r ≠ 0)
def sortRows (l : List Row) : List Row := l.mergeSort rowLe
def mk (ps : Bag) : Bag := (sortRows (nzRows ps)).map fun r => (r, tot ps r)
structure Canon (b : Bag) : Prop where
  srt : b.Pairwise fun x y => rowLt x.1 y.1 = true
  nz : ∀ e ∈ b, e.2 ≠ 0
theorem rowLe_trans (a b c : Row) (h1 : rowLe a b = true) (h2 : rowLe b c = true) : rowLe a c = true := by
  unfold rowLe at *
  simp only [Bool.not_eq_true'] at *
  by_cases e : a = b
  · rw [e]; exact h2
  · by_cases e2 : b = c
    · rw [← e2]; exact h1
    · exact rowLt_asym (rowLt_trans (rowLt_total (fun z => e z.symm) h1) (rowLt_total (fun z => e2 z.symm) h2))
theorem rowLe_total (a b : Row) : (rowLe a b || rowLe b a) = true := by
  unfold rowLe
  cases h : rowLt b a with
  | false => rfl
  | true => rw [rowLt_asym h]; rfl
theorem sortRows_perm (l : List Row) : (sortRows l).Perm l := List.mergeSort_perm l rowLe
theorem sortRows_srt {l : List Row} (hn : l.Nodup) : (sortRows l).Pairwise fun a b => rowLt a b = true := by
  have h1 : (sortRows l).Pairwise fun a b => rowLe a b = true := List.pairwise_mergeSort rowLe_trans rowLe_total l
  have h2 : (sortRows l).Nodup := (sortRows_perm l).nodup_iff.mpr hn
  have h3 : (sortRows l).Pairwise fun a b => rowLe a b = true ∧ a ≠ b := h1.and h2
  refine h3.imp fun {a b} q => ?_
  have q1 : rowLt b a = false := by simpa [rowLe] using q.1
  exact rowLt_total (fun z => q.2 z.symm) q1
theorem nzRows_nodup (ps : Bag) : (nzRows ps).Nodup := List.Nodup.sublist List.filter_sublist (tally_nodup ps)
theorem mem_keys_of_tot {ps : Bag} {r : Row} (h : tot ps r ≠ 0) : r ∈ ps.map (·.1) := by
  by_cases q : r ∈ ps.map (·.1)
  · exact q
  · exact absurd (tot_out fun e he z => q (List.mem_map.mpr ⟨e, he, z⟩)) h
theorem mem_nz {ps : Bag} {r : Row} : r ∈ nzRows ps ↔ tot ps r ≠ 0 := by
  unfold nzRows
  rw [List.mem_filter]
  refine ⟨fun h => by simpa using h.2, fun h => ⟨?_, by simpa using h⟩⟩
  exact mem_keys_of_tot (by rw [tally_tot]; exact h)
theorem mk_canon (ps : Bag) : Canon (mk ps) := by
  refine ⟨?_, fun e he => ?_⟩
  · unfold mk
    rw [List.pairwise_map]
    exact sortRows_srt (nzRows_nodup ps)
  · obtain ⟨r, hr, rfl⟩ := List.mem_map.mp he
    exact mem_nz.mp ((sortRows_perm _).mem_iff.mp hr)
theorem Canon.nodup {b : Bag} (h : Canon b) : (b.map (·.1)).Nodup := by
  unfold List.Nodup
  rw [List.pairwise_map]
  refine h.srt.imp fun {x y} q z => ?_
  rw [z, rowLt_irrefl] at q
  cases q
theorem mk_tot (ps : Bag) (r : Row) : tot (mk ps) r = tot ps r := by
  by_cases h : tot ps r = 0
  · rw [h]
    refine tot_out fun e he z => ?_
    obtain ⟨q, hq, rfl⟩ := List.mem_map.mp he
    have h2 := mem_nz.mp ((sortRows_perm _).mem_iff.mp hq)
    exact h2 (by rw [show q = r from z]; exact h)
  · have hm : (r, tot ps r) ∈ mk ps := List.mem_map.mpr ⟨r, (sortRows_perm _).mem_iff.mpr (mem_nz.mpr h), rfl⟩
    exact tot_in (mk_canon ps).nodup hm
/-- a sorted bag is told by its counts -/
theorem Canon.ext : ∀ {a b : Bag}, Canon a → Canon b → (∀ r, tot a r = tot b r) → a = b
  | [], [], _, _, _ => rfl
  | [], y :: b, _, hb, h => by
    have h1 := h y.1
    rw [tot_nil, tot_in hb.nodup List.mem_cons_self] at h1
    exact absurd h1.symm (hb.nz y List.mem_cons_self)
  | x :: a, [], ha, _, h => by
    have h1 := h x.1
    rw [tot_nil, tot_in ha.nodup List.mem_cons_self] at h1
    exact absurd h1 (ha.nz x List.mem_cons_self)
  | x :: a, y :: b, ha, hb, h => by
    have key : ∀ {u v : Row × Int} {s t : Bag}, Canon (u :: s) → Canon (v :: t) → (∀ r, tot (u :: s) r = tot (v :: t) r) → rowLt u.1 v.1 = false := by
      intro u v s t hu hv e
      cases q : rowLt u.1 v.1 with
      | false => rfl
      | true =>
        exfalso
        have e1 := e u.1
        rw [tot_in hu.nodup List.mem_cons_self] at e1
        refine hu.nz u List.mem_cons_self (e1.trans (tot_out fun z hz w => ?_))
        rcases List.mem_cons.mp hz with k | k
        · rw [← w, k, rowLt_irrefl] at q; cases q
        · have k2 := (List.pairwise_cons.mp hv.srt).1 z k
          rw [w] at k2
          rw [rowLt_asym k2] at q; cases q
    have e1 : x.1 = y.1 := by
      by_cases z : x.1 = y.1
      · exact z
      · have q1 := key ha hb h
        have q2 := key hb ha fun r => (h r).symm
        rw [rowLt_total z q1] at q2; cases q2
    have e2 : x.2 = y.2 := by
      have q := h x.1
      rw [tot_in ha.nodup List.mem_cons_self, e1, tot_in hb.nodup List.mem_cons_self] at q
      exact q
    have exy : x = y := Prod.ext e1 e2
    subst exy
    rw [Canon.ext (a := a) (b := b) ⟨(List.pairwise_cons.mp ha.srt).2, fun e he => ha.nz e (List.mem_cons_of_mem _ he)⟩ ⟨(List.pairwise_cons.mp hb.srt).2, fun e he => hb.nz e (List.mem_cons_of_mem _ he)⟩ fun r => by
      have q := h r
      rw [tot_cons, tot_cons] at q
      omega]
theorem mk_of_canon {b : Bag} (h : Canon b) : mk b = b := Canon.ext (mk_canon b) h (mk_tot b)
theorem mk_ext {ps qs : Bag} (h : ∀ r, tot ps r = tot qs r) : mk ps = mk qs := Canon.ext (mk_canon ps) (mk_canon qs) fun r => by rw [mk_tot, mk_tot, h]
theorem mk_len (ps : Bag) : (mk ps).length ≤ ps.length := by
  unfold mk
  rw [List.length_map, (sortRows_perm _).length_eq]
  unfold nzRows
  exact Nat.le_trans (List.length_filter_le ..) (by rw [List.length_map]; exact tally_len ps)
/-! ### the other operations -/
def scaleB (b : Bag) (f : Int) : Bag := if f = 0 then [] else b.map fun e => (e.1, e.2 * f)
def posRows (b : Bag) : List Row := (b.filter fun e => decide (e.2 > 0)).map (·.1)
def onesB (l : List Row) : Bag := l.map fun r => (r, 1)
def cntB (b : Bag) (r : Row) : Int := ((b.find? fun e => decide (e.1 = r)).map (·.2)).getD 0
theorem cntB_tot {b : Bag} (h : Canon b) (r : Row) : cntB b r = tot b r := valI_tot h.nodup r
theorem scale_tot (b : Bag) (f : Int) (r : Row) : tot (scaleB b f) r = tot b r * f := by
  unfold scaleB
  by_cases h : f = 0
  · rw [if_pos h, h, tot_nil]; omega
  · rw [if_neg h, tot_map b (fun x => x * f) (fun x y => Int.add_mul x y f) (Int.zero_mul f)]
theorem scale_canon {b : Bag} (h : Canon b) (f : Int) : Canon (scaleB b f) := by
  unfold scaleB
  by_cases q : f = 0
  · rw [if_pos q]; exact ⟨List.Pairwise.nil, fun e he => by cases he⟩
  · rw [if_neg q]
    refine ⟨?_, fun e he => ?_⟩
    · rw [List.pairwise_map]; exact h.srt
    · obtain ⟨x, hx, rfl⟩ := List.mem_map.mp he
      exact Int.mul_ne_zero (h.nz x hx) q
/-- what the law asks of the scaled bag -/
theorem scale_law {b : Bag} (h : Canon b) (f : Int) : scaleB b f = mk (b.map fun e => (e.1, f * e.2)) :=
  Canon.ext (scale_canon h f) (mk_canon _) fun r => by
    rw [scale_tot, mk_tot, tot_map b (fun x => f * x) (fun x y => Int.mul_add f x y) (Int.mul_zero f), Int.mul_comm]
theorem minus_law (a b : Bag) : mk (a ++ scaleB b (-1)) = mk (a ++ b.map fun e => (e.1, 0 - e.2)) := mk_ext fun r => by
  rw [tot_app, tot_app, scale_tot, tot_map b (fun x => 0 - x) (fun x y => by omega) rfl]
  omega
theorem group1 {a b : Bag} (h : Canon a) : mk (mk (a ++ b) ++ scaleB b (-1)) = a := Canon.ext (mk_canon _) h fun r => by
  rw [mk_tot, tot_app, mk_tot, tot_app, scale_tot]; omega
theorem group2 (a b : Bag) : mk (b ++ a) = mk (a ++ b) := mk_ext fun r => by rw [tot_app, tot_app]; omega
theorem group3 (a : Bag) : mk (a ++ scaleB a (-1)) = [] := Canon.ext (mk_canon _) ⟨List.Pairwise.nil, fun e he => by cases he⟩ fun r => by
  rw [mk_tot, tot_app, scale_tot, tot_nil]; omega
theorem group4 (a b : Bag) (f : Int) : scaleB (mk (a ++ b)) f = mk (scaleB a f ++ scaleB b f) := Canon.ext (scale_canon (mk_canon _) f) (mk_canon _) fun r => by
  rw [scale_tot, mk_tot, mk_tot, tot_app, tot_app, scale_tot, scale_tot, Int.add_mul]
def cntR (l : List Row) (r : Row) : Nat := (l.filter fun x => decide (x = r)).length
theorem cntR_pos {l : List Row} {r : Row} : 0 < cntR l r ↔ r ∈ l := by
  unfold cntR
  rw [List.length_pos_iff_exists_mem]
  constructor
  · rintro ⟨x, hx⟩
    obtain ⟨h1, h2⟩ := List.mem_filter.mp hx
    have e : x = r := by simpa using h2
    rw [← e]; exact h1
  · exact fun h => ⟨r, List.mem_filter.mpr ⟨h, by simp⟩⟩
theorem tot_ones (l : List Row) (r : Row) : tot (onesB l) r = (cntR l r : Nat) := by
  induction l with
  | nil => rfl
  | cons x t ih =>
    rw [show onesB (x :: t) = (x, 1) :: onesB t from rfl, tot_cons, ih]
    unfold cntR
    by_cases h : x = r
    · rw [if_pos (show (x, (1 : Int)).1 = r from h), List.filter_cons_of_pos (by simpa using h), List.length_cons]; omega
    · rw [if_neg (show ¬ (x, (1 : Int)).1 = r from h), List.filter_cons_of_neg (by simpa using h)]; omega
theorem cntR_nodup {l : List Row} (h : l.Nodup) (r : Row) : (r ∈ l → cntR l r = 1) ∧ (r ∉ l → cntR l r = 0) := by
  induction l with
  | nil => exact ⟨fun q => (List.not_mem_nil q).elim, fun _ => rfl⟩
  | cons x t ih =>
    obtain ⟨h1, h2⟩ := List.nodup_cons.mp h
    obtain ⟨a, b⟩ := ih h2
    unfold cntR at *
    by_cases q : x = r
    · subst q
      rw [List.filter_cons_of_pos (by simp), List.length_cons, b h1]
      refine ⟨fun _ => rfl, fun z => ?_⟩
      exact absurd List.mem_cons_self z
    · rw [List.filter_cons_of_neg (by simpa using q)]
      exact ⟨fun z => a ((List.mem_cons.mp z).resolve_left fun w => q w.symm), fun z => b fun w => z (List.mem_cons_of_mem _ w)⟩
theorem set_law {b : Bag} (h : Canon b) : onesB (posRows (mk (onesB (b.map (·.1) ++ posRows b)))) = b.map fun e => (e.1, 1) := by
  have hc := mk_canon (onesB (b.map (·.1) ++ posRows b))
  have hpos : ∀ e ∈ mk (onesB (b.map (·.1) ++ posRows b)), e.2 > 0 := fun e he => by
    have e1 := tot_in hc.nodup he
    rw [mk_tot, tot_ones] at e1
    have e2 := hc.nz e he
    omega
  have hall : posRows (mk (onesB (b.map (·.1) ++ posRows b))) = (mk (onesB (b.map (·.1) ++ posRows b))).map (·.1) := by
    unfold posRows
    rw [List.filter_eq_self.mpr fun e he => by simpa using hpos e he]
  have hs1 : (onesB ((mk (onesB (b.map (·.1) ++ posRows b))).map (·.1))).Pairwise fun x y => rowLt x.1 y.1 = true := by
    unfold onesB
    rw [List.map_map, List.pairwise_map]
    exact hc.srt
  have hs2 : (b.map fun e => ((e.1, 1) : Row × Int)).Pairwise fun x y => rowLt x.1 y.1 = true := by
    rw [List.pairwise_map]
    exact h.srt
  have hn : ∀ l : List Row, ∀ e ∈ onesB l, e.2 ≠ 0 := fun l e he => by
    obtain ⟨x, _, rfl⟩ := List.mem_map.mp he
    exact (by decide : (1 : Int) ≠ 0)
  have e0 : (b.map fun e => ((e.1, 1) : Row × Int)) = onesB (b.map (·.1)) := by
    unfold onesB
    rw [List.map_map]
    rfl
  rw [hall, e0]
  rw [e0] at hs2
  refine Canon.ext ⟨hs1, hn _⟩ ⟨hs2, hn _⟩ fun r => ?_
  rw [tot_ones, tot_ones]
  have n1 := hc.nodup
  have n2 := h.nodup
  have mem : r ∈ (mk (onesB (b.map (·.1) ++ posRows b))).map (·.1) ↔ r ∈ b.map (·.1) := by
    constructor
    · intro q
      obtain ⟨e, he, rfl⟩ := List.mem_map.mp q
      have e1 := tot_in hc.nodup he
      rw [mk_tot, tot_ones] at e1
      have e2 := hpos e he
      have e3 : 0 < cntR (b.map (·.1) ++ posRows b) e.1 := by omega
      rcases List.mem_append.mp (cntR_pos.mp e3) with z | z
      · exact z
      · obtain ⟨x, hx, y⟩ := List.mem_map.mp z
        exact List.mem_map.mpr ⟨x, (List.mem_filter.mp hx).1, y⟩
    · intro q
      have e3 : 0 < cntR (b.map (·.1) ++ posRows b) r := cntR_pos.mpr (List.mem_append_left _ q)
      have e4 : tot (onesB (b.map (·.1) ++ posRows b)) r ≠ 0 := by rw [tot_ones]; omega
      exact mem_keys_of_tot (by rw [mk_tot]; exact e4)
  by_cases q : r ∈ b.map (·.1)
  · rw [(cntR_nodup n1 r).1 (mem.mpr q), (cntR_nodup n2 r).1 q]
  · rw [(cntR_nodup n1 r).2 (fun z => q (mem.mp z)), (cntR_nodup n2 r).2 q]
end KA
set_option Elab.async false
set_option linter.all false
set_option maxRecDepth 100000
set_option maxHeartbeats 8000000
/-! a < b of two tuples where only the first place that differs need be comparable -/
namespace KA
open PySem PySem.W L2 PySem.SeqAt
open AutoSeq1 (wpAny_loadPart')
open MeetsSeq MeetsSeq2 MeetsSeq3 SeqRoads2
/-- all places ahead of j are equal -/
def Ahead (e : Nat → Bool) (j : Nat) : Prop := ∀ i, i < j → e i = true
section
variable (l b : Addr) (xs ys : Array Value) (n m : Nat) (dx dy : Option Addr) (sx sy : Array (Option Value)) (e r : Nat → Bool)
/-- what the two tuples are, and what is known of their places -/
structure Two (A : Around) (s : Shared) : Prop where
  hl : s.heap.get? l = some { cls := .type "tuple", dict := dx, data := .seq xs n, slots := sx }
  hb : s.heap.get? b = some { cls := .type "tuple", dict := dy, data := .seq ys m, slots := sy }
  he : ∀ j (h1 : j < xs.size) (h2 : j < ys.size), EqAt A.in1 s xs[j] ys[j] (e j)
  hr : ∀ j (h1 : j < xs.size) (h2 : j < ys.size), Ahead e j → e j = false → RcLt A.in1 s xs[j] ys[j] (r j)
def outLt : Bool := firstLt e r (decide (xs.size < ys.size)) (List.range (min xs.size ys.size))
theorem tup_first :
    Meets (Builtin.«tuple.__lt__» ⟨[.ref l, .ref b], []⟩) (fun A R s => Two l b xs ys n m dx dy sx sy e r A s ∧ R (.ok (.ret (.bool (outLt xs ys e r)))) s) :=
  .of_wp fun prog w A R s h => by
    obtain ⟨T, h⟩ := h
    obtain ⟨hl, hb, he, hr⟩ := T
    obtain ⟨hp, g, d, tk, os⟩ := s
    have sub := AutoSeq1.sub_tuple_tuple
    have zl : (xs.toList.zip ys.toList).length = min xs.size ys.size := by simp
    wp_walk using wpAny_loadPart' hl, wpAny_loadPart' hb, wpAny_forIn_list _ (fun rest v s' => v.1 = none ∧ s' = ⟨hp, g, d, tk, os⟩ ∧ ∃ i,
        rest = (xs.toList.zip ys.toList).drop i ∧ Ahead e (min i (min xs.size ys.size)) ∧
        R (.ok (.ret (.bool (firstLt e r (decide (xs.size < ys.size)) ((List.range (min xs.size ys.size)).drop i))))) ⟨hp, g, d, tk, os⟩) _
    case turn =>
      rintro ⟨y, x⟩ rest v s' ⟨hv, rfl, i, hz, ha, hR⟩
      have hlt : i < (xs.toList.zip ys.toList).length := by
        refine Nat.lt_of_not_le fun q => ?_
        rw [List.drop_of_length_le q] at hz
        cases hz
      have hm : i < min xs.size ys.size := by rw [← zl]; exact hlt
      have i1 : i < xs.size := by omega
      have i2 : i < ys.size := by omega
      rw [List.drop_eq_getElem_cons hlt] at hz
      injection hz with hyx hrest
      obtain rfl : y = xs[i] := by simpa using congrArg Prod.fst hyx
      obtain rfl : x = ys[i] := by simpa using congrArg Prod.snd hyx
      have hd : (List.range (min xs.size ys.size)).drop i = i :: (List.range (min xs.size ys.size)).drop (i + 1) := by simp [List.drop_eq_getElem_cons, hm]
      have ha' : Ahead e i := fun k hk => ha k (by omega)
      rw [hd] at hR
      refine wpAny_bind (he i i1 i2 prog w _ _ ?_)
      cases q : e i with
      | true =>
        rw [firstLt_yes q] at hR
        wp_walk
        refine ⟨rfl, rfl, i + 1, hrest, fun k hk => ?_, hR⟩
        by_cases z : k = i
        · rw [z]; exact q
        · exact ha' k (by omega)
      | false =>
        rw [firstLt_no q] at hR
        rw [if_pos (by rfl)]
        refine wpAny_bind (wpAny_rule (wpAny_bind (hr i i1 i2 ha' q prog w _ _ ?_)))
        wp_walk
        exact ⟨_, rfl, hR⟩
    case fin =>
      rintro ⟨b1, b2⟩ s' ⟨hb', rfl, i, hz, ha, hR⟩
      simp only at hb'
      subst hb'
      have hge : min xs.size ys.size ≤ i := by
        refine Nat.le_of_not_lt fun q => ?_
        rw [← zl] at q
        rw [List.drop_eq_getElem_cons q] at hz
        cases hz
      rw [List.drop_of_length_le (by simpa using hge)] at hR
      wp_walk
      exact ⟨_, rfl, by simpa [Builtin.Tuple.tupleCompareSizes, firstLt] using hR⟩
    case h =>
      exact ⟨rfl, rfl, 0, rfl, fun k hk => absurd hk (by omega), by simpa [outLt] using h⟩
end
section
variable {A : Around} {s : Shared} {l b : Addr} {xs ys : Array Value} {e r : Nat → Bool}
/-- t < u, decided at the first place that differs -/
theorem rcLt_first (hl : s.heap.IsTuple l xs) (hb : s.heap.IsTuple b ys) (hu : A.units < cLine) (he : ∀ j (h1 : j < xs.size) (h2 : j < ys.size), EqAt A.in1 s xs[j] ys[j] (e j))
    (hr : ∀ j (h1 : j < xs.size) (h2 : j < ys.size), Ahead e j → e j = false → RcLt A.in1 s xs[j] ys[j] (r j)) : RcLt A s (.ref l) (.ref b) (outLt xs ys e r) := by
  intro prog w E Q h
  obtain ⟨⟨c1, d1, t1, s1⟩, o1, q1, n1, e1⟩ := id hl
  obtain ⟨⟨c2, d2, t2, s2⟩, o2, q2, n2, e2⟩ := id hb
  simp only at q1 e1 q2 e2
  subst q1 e1 q2 e2
  exact richCompare_meets_room (op := .Lt) ⟨_, o1, rfl⟩ ⟨_, o2, rfl⟩ F.slot_tuple_lt F.entry_tuple_lt (F.args_tuple_lt_2 _ _) (tup_first l b xs ys n1 n2 d1 d2 s1 s2 e r)
    ⟨⟨o1, o2, he, hr⟩, show Value.bool (outLt xs ys e r) ≠ Value.notImplemented ∧ Q (.bool (outLt xs ys e r)) s from ⟨(fun z => nomatch z), h⟩⟩ hu
/-- tuple's own test, as sorting calls it -/
theorem call_tup_lt {prog : Program} {w : World} {E Q : Value → Shared → Prop} (hl : s.heap.IsTuple l xs) (hb : s.heap.IsTuple b ys) (he : ∀ j (h1 : j < xs.size) (h2 : j < ys.size), EqAt A.in1 s xs[j] ys[j] (e j))
    (hr : ∀ j (h1 : j < xs.size) (h2 : j < ys.size), Ahead e j → e j = false → RcLt A.in1 s xs[j] ys[j] (r j)) (h : Q (.bool (outLt xs ys e r)) s) :
    wpAny (model prog w) A (call (.builtin "tuple.__lt__") [.ref l, .ref b]) Q E s := by
  obtain ⟨⟨c1, d1, t1, s1⟩, o1, q1, n1, e1⟩ := id hl
  obtain ⟨⟨c2, d2, t2, s2⟩, o2, q2, n2, e2⟩ := id hb
  simp only at q1 e1 q2 e2
  subst q1 e1 q2 e2
  exact call_meets F.slot_tuple_lt ⟨_, o1, rfl⟩ F.entry_tuple_lt (F.args_tuple_lt_2 _ _) (tup_first l b xs ys n1 n2 d1 d2 s1 s2 e r) ⟨⟨o1, o2, he, hr⟩, h⟩
end
end KA
set_option Elab.async false
set_option linter.all false
set_option maxRecDepth 100000
set_option maxHeartbeats 8000000
/-! the keys by which the program and the law sort rows: how they compare -/
namespace KA
open PySem PySem.W L2 PySem.SeqAt
def keyD : Key → PyData
  | .inl i => .int i
  | .inr x => .str x
def rowD (r : Row) : PyData := .tuple (r.map keyD)
/-- what rank gives; the law's own key of a value -/
def rankD : Key → PyData
  | .inl i => .tuple [.int 0, .int i]
  | .inr x => .tuple [.int 1, .str x]
def lawD : Key → PyData
  | .inl i => .tuple [.int 0, .int i, .str ""]
  | .inr x => .tuple [.int 1, .int 0, .str x]
def rankRow (r : Row) : PyData := .tuple (r.map rankD)
def lawRow (r : Row) : PyData := .list (r.map lawD)
theorem sLt_irrefl (x : Str) : sLt x x = false := by simp [sLt, List.lt_irrefl]
theorem eqv_str (x y : Str) : PyData.eqv (.str x) (.str y) = decide (x = y) := by
  simp only [PyData.eqv]
  by_cases h : x = y
  · subst h; simp
  · rw [decide_eq_false h]
    exact beq_eq_false_iff_ne.mpr h
theorem eqv_int (i j : Int) : PyData.eqv (.int i) (.int j) = decide (i = j) := by
  simp only [PyData.eqv]
  by_cases h : i = j
  · subst h; simp
  · rw [decide_eq_false h]
    exact beq_eq_false_iff_ne.mpr h
theorem eqv_key (x y : Key) : PyData.eqv (keyD x) (keyD y) = decide (x = y) := by
  cases x with
  | inl i =>
    cases y with
    | inl j => rw [show keyD (.inl i) = .int i from rfl, show keyD (.inl j) = .int j from rfl, eqv_int]; simp
    | inr y => simp [keyD, PyData.eqv]
  | inr x =>
    cases y with
    | inl j => simp [keyD, PyData.eqv]
    | inr y => rw [show keyD (.inr x) = .str x from rfl, show keyD (.inr y) = .str y from rfl, eqv_str]; simp
theorem eqv_rank (x y : Key) : PyData.eqv (rankD x) (rankD y) = decide (x = y) := by
  cases x with
  | inl i =>
    cases y with
    | inl j =>
      simp only [rankD, PyData.eqv, PyData.eqvAll]
      rw [show ((i == j) : Bool) = decide (i = j) by by_cases h : i = j <;> simp [h]]
      simp
    | inr y => simp [rankD, PyData.eqv, PyData.eqvAll]
  | inr x =>
    cases y with
    | inl j => simp [rankD, PyData.eqv, PyData.eqvAll]
    | inr y =>
      have h := eqv_str x y
      simp only [rankD, PyData.eqv, PyData.eqvAll] at h ⊢
      rw [h]
      simp
theorem eqv_law (x y : Key) : PyData.eqv (lawD x) (lawD y) = decide (x = y) := by
  cases x with
  | inl i =>
    cases y with
    | inl j =>
      have h := eqv_int i j
      simp only [lawD, PyData.eqv, PyData.eqvAll] at h ⊢
      rw [h]
      simp
    | inr y => simp [lawD, PyData.eqv, PyData.eqvAll]
  | inr x =>
    cases y with
    | inl j => simp [lawD, PyData.eqv, PyData.eqvAll]
    | inr y =>
      have h := eqv_str x y
      simp only [lawD, PyData.eqv, PyData.eqvAll] at h ⊢
      rw [h]
      simp
section
variable {A : Around} {s : Shared}
theorem rc_int {i j : Int} {t u : Tok} : RcLt A s (.int i t) (.int j u) (decide (i < j)) := fun prog w E Q h => P.lt_int h
theorem rc_str {x y : Str} {t u : Tok} : RcLt A s (.str x t) (.str y u) (sLt x y) := fun prog w E Q h => P.lt_str h
/-- the items of a tuple that reads as data -/
theorem tup_items {h : Heap} {v : Value} {ds : List PyData} {as : List Addr} (r : Reads h v (.tuple ds) as) : ∃ (l : Addr) (xs : Array Value), v = .ref l ∧ h.IsTuple l xs ∧ ReadsAll h xs.toList ds as := by
  cases r with
  | @tuple a o xs n _ _ h1 h2 h3 h4 => exact ⟨a, xs, rfl, ⟨_, h1, h2, _, h3⟩, h4⟩
theorem lst_items {h : Heap} {v : Value} {ds : List PyData} {as : List Addr} (r : Reads h v (.list ds) as) : ∃ (l : Addr) (xs : Array Value) (bs : List Addr), v = .ref l ∧ h.IsList l xs ∧ ReadsAll h xs.toList ds bs := by
  cases r with
  | @list a o xs n _ _ h1 h2 h3 h4 => exact ⟨a, xs, _, rfl, ⟨_, h1, h2, _, h3⟩, h4⟩
theorem int_back {h : Heap} {v : Value} {i : Int} {as : List Addr} (r : Reads h v (.int i) as) : ∃ t, v = .int i t := by
  cases r with
  | int _ t => exact ⟨t, rfl⟩
theorem str_back {h : Heap} {v : Value} {x : Str} {as : List Addr} (r : Reads h v (.str x) as) : ∃ t, v = .str x t := by
  cases r with
  | str _ t => exact ⟨t, rfl⟩
theorem all1 {h : Heap} {xs : Array Value} {d : PyData} {ds : List PyData} {as : List Addr} {i : Nat} (r : ReadsAll h (xs.toList.drop i) (d :: ds) as) : ∃ (hi : i < xs.size) (bs cs : List Addr), Reads h xs[i] d bs ∧ ReadsAll h (xs.toList.drop (i + 1)) ds cs := by
  have hl := SeqAt.ReadsAll.length _ _ _ r
  rw [List.length_drop] at hl
  have hi : i < xs.toList.length := by
    simp only [List.length_cons] at hl
    omega
  rw [List.drop_eq_getElem_cons hi] at r
  cases r with
  | cons r1 r2 => exact ⟨by simpa using hi, _, _, by simpa using r1, r2⟩
theorem key_back {h : Heap} {v : Value} {x : Key} {as : List Addr} (r : Reads h v (keyD x) as) : (∃ i t, x = .inl i ∧ v = .int i t) ∨ ∃ z t, x = .inr z ∧ v = .str z t := by
  cases x with
  | inl i =>
    obtain ⟨t, rfl⟩ := int_back r
    exact .inl ⟨i, t, rfl, rfl⟩
  | inr z =>
    obtain ⟨t, rfl⟩ := str_back r
    exact .inr ⟨z, t, rfl, rfl⟩
def tag : Key → Int
  | .inl _ => 0
  | .inr _ => 1
/-- rank(one) < rank(other) -/
theorem rc_rank {x y : Key} {v u : Value} {as bs : List Addr} (rx : Reads s.heap v (rankD x) as) (ry : Reads s.heap u (rankD y) bs) (hu : A.units + 8 < cLine) : RcLt A s v u (oneLt x y) := by
  have cx : rankD x = .tuple [.int (tag x), keyD x] := by cases x <;> rfl
  have cy : rankD y = .tuple [.int (tag y), keyD y] := by cases y <;> rfl
  rw [cx] at rx
  rw [cy] at ry
  obtain ⟨l, xs, rfl, hl, ra⟩ := tup_items rx
  obtain ⟨b, ys, rfl, hb, rb⟩ := tup_items ry
  obtain ⟨x0, _, _, a0, ra1⟩ := all1 (i := 0) (by simpa using ra)
  obtain ⟨x1, _, _, a1, ra2⟩ := all1 (i := 1) ra1
  obtain ⟨y0, _, _, b0, rb1⟩ := all1 (i := 0) (by simpa using rb)
  obtain ⟨y1, _, _, b1, rb2⟩ := all1 (i := 1) rb1
  have nx : xs.size = 2 := by
    have q := SeqAt.ReadsAll.length _ _ _ ra
    simpa using q
  have ny : ys.size = 2 := by
    have q := SeqAt.ReadsAll.length _ _ _ rb
    simpa using q
  have can : ∀ z : Key, (keyD z).plain = true := fun z => by cases z <;> rfl
  have hdep : ∀ z : Key, (keyD z).depth = 0 := fun z => by cases z <;> simp [keyD, PyData.depth]
  have key := rcLt_first (A := A) (s := s) (e := pairEq [.int (tag x), keyD x] [.int (tag y), keyD y]) (r := fun j => if j = 0 then decide (tag x < tag y) else oneLt x y) hl hb (by omega)
    (fun j j1 j2 => by
      have q := eqAt_plainAll _ _ A.in1 s _ _ _ _ ra rb (by simp [PyData.plainAll, PyData.plain, can]) (by simp [PyData.plainAll, PyData.plain, can])
        (by show A.units + 1 + _ < _; simp [PyData.depthAll, PyData.depth, hdep]; omega) j (by simpa using j1) (by simpa using j2)
      simpa using q)
    (fun j j1 j2 ha hj => by
      match j, j1, j2, ha, hj with
      | 0, j1, j2, ha, hj =>
        obtain ⟨t, e1⟩ := int_back a0
        obtain ⟨t', e2⟩ := int_back b0
        rw [e1, e2]
        exact rc_int
      | 1, j1, j2, ha, hj =>
        have h0 : tag x = tag y := by
          have q := ha 0 (by omega)
          simpa [pairEq, PyData.eqv] using q
        show RcLt A.in1 s xs[1] ys[1] (oneLt x y)
        rcases key_back a1 with ⟨i, t, rfl, e1⟩ | ⟨z, t, rfl, e1⟩
        · rcases key_back b1 with ⟨j, t', rfl, e2⟩ | ⟨z', t', rfl, e2⟩
          · rw [e1, e2]; exact rc_int
          · exact absurd (show (0 : Int) = 1 from h0) (by decide)
        · rcases key_back b1 with ⟨j, t', rfl, e2⟩ | ⟨z', t', rfl, e2⟩
          · exact absurd (show (1 : Int) = 0 from h0) (by decide)
          · rw [e1, e2]; exact rc_str
      | j + 2, j1, _, _, _ => exact absurd j1 (by omega))
  have e : outLt xs ys (pairEq [.int (tag x), keyD x] [.int (tag y), keyD y]) (fun j => if j = 0 then decide (tag x < tag y) else oneLt x y) = oneLt x y := by
    unfold outLt
    rw [nx, ny, show List.range (min 2 2) = [0, 1] from rfl]
    have e0 : pairEq [.int (tag x), keyD x] [.int (tag y), keyD y] 0 = decide (tag x = tag y) := by
      show PyData.eqv (.int (tag x)) (.int (tag y)) = _
      exact eqv_int _ _
    have e1 : pairEq [.int (tag x), keyD x] [.int (tag y), keyD y] 1 = decide (x = y) := by
      show PyData.eqv (keyD x) (keyD y) = _
      exact eqv_key _ _
    simp only [firstLt, e0, e1]
    by_cases h : tag x = tag y
    · rw [if_pos (by simpa using h)]
      by_cases h2 : x = y
      · subst h2; simp [oneLt_irrefl]
      · rw [if_neg (by simpa using h2)]; simp
    · rw [if_neg (by simpa using h)]
      cases x <;> cases y <;> simp_all [tag, oneLt]
  rw [e] at key
  exact key
/-- the law's own key of one value -/
theorem rc_law {x y : Key} {v u : Value} {as bs : List Addr} (rx : Reads s.heap v (lawD x) as) (ry : Reads s.heap u (lawD y) bs) (hu : A.units + 8 < cLine) : RcLt A s v u (oneLt x y) := by
  have hal : alike (lawD x) (lawD y) = true := by cases x <;> cases y <;> simp [lawD, alike, alikeAll]
  have hdep : ∀ z : Key, (lawD z).depth ≤ 2 := fun z => by cases z <;> simp [lawD, PyData.depth, PyData.depthAll]
  have h := rcLt_alike (lawD x) (lawD y) A s v u as bs rx ry hal (by cases x <;> exact fun z => nomatch z) (by have := hdep x; omega)
  have e : dataLt (lawD x) (lawD y) = oneLt x y := by
    cases x with
    | inl i =>
      cases y with
      | inl j =>
        simp only [lawD]
        rw [dataLt_tuple, dataLt_all_yes (by simp [alike]) (by simp [PyData.eqv])]
        by_cases q : i = j
        · subst q
          simp [oneLt, PyProof.Rows.lex_irrefl]
        · rw [dataLt_all_no (by simp [alike]) (by rw [eqv_int]; simpa using q), dataLt_int]
          rfl
      | inr y =>
        simp only [lawD]
        rw [dataLt_tuple, dataLt_all_no (by simp [alike]) (by simp [PyData.eqv]), dataLt_int]
        rfl
    | inr x =>
      cases y with
      | inl j =>
        simp only [lawD]
        rw [dataLt_tuple, dataLt_all_no (by simp [alike]) (by simp [PyData.eqv]), dataLt_int]
        rfl
      | inr y =>
        simp only [lawD]
        rw [dataLt_tuple, dataLt_all_yes (by simp [alike]) (by simp [PyData.eqv]), dataLt_all_yes (by simp [alike]) (by simp [PyData.eqv])]
        by_cases q : x = y
        · subst q
          simp [oneLt, sLt_irrefl, PyProof.Rows.lex_irrefl]
        · rw [dataLt_all_no (by simp [alike]) (by rw [eqv_str]; simpa using q), dataLt_str]
          rfl
  rw [e] at h
  exact h
/-- the first place that differs, for items that compare as values do -/
theorem first_row (enc : Key → PyData) (hq : ∀ x y, PyData.eqv (enc x) (enc y) = decide (x = y)) : ∀ (a b : Row),
    firstLt (pairEq (a.map enc) (b.map enc)) (fun j => oneLt (a.getD j (.inl 0)) (b.getD j (.inl 0))) (decide (a.length < b.length)) (List.range (min a.length b.length)) = rowLt a b
  | [], [] => rfl
  | [], _ :: _ => by simp [firstLt, rowLt]
  | _ :: _, [] => by simp [firstLt, rowLt]
  | x :: a, y :: b => by
    have ih := first_row enc hq a b
    have em : min (x :: a).length (y :: b).length = min a.length b.length + 1 := by simp only [List.length_cons]; omega
    have ed : decide ((x :: a).length < (y :: b).length) = decide (a.length < b.length) := by
      simp only [List.length_cons]
      exact decide_eq_decide.mpr (by omega)
    rw [em, ed, List.range_succ_eq_map, rowLt]
    have e0 : pairEq ((x :: a).map enc) ((y :: b).map enc) 0 = decide (x = y) := hq x y
    by_cases h : x = y
    · rw [firstLt_yes (by rw [e0]; simpa using h), if_pos h, firstLt_map, ← ih]
      rfl
    · rw [firstLt_no (by rw [e0]; simpa using h), if_neg h]
      rfl
/-- a place of a row that is read item by item -/
theorem at_row {h : Heap} {enc : Key → PyData} : ∀ {r : Row} {vs : List Value} {as : List Addr}, ReadsAll h vs (r.map enc) as → ∀ j (hj : j < vs.length), ∃ bs, Reads h vs[j] (enc (r.getD j (.inl 0))) bs
  | [], vs, as, q, j, hj => by
    have e := SeqAt.ReadsAll.length _ _ _ q
    simp only [List.map_nil, List.length_nil] at e
    omega
  | x :: r, vs, as, q, j, hj => by
    have q' : ReadsAll h vs (enc x :: r.map enc) as := q
    cases q' with
    | cons q1 q2 =>
      cases j with
      | zero => exact ⟨_, q1⟩
      | succ j => exact at_row q2 j (by simpa using hj)
theorem plain_map {enc : Key → PyData} (hp : ∀ x, (enc x).plain = true) : ∀ r : Row, PyData.plainAll (r.map enc) = true
  | [] => rfl
  | x :: r => by simp [PyData.plainAll, hp x, plain_map hp r]
theorem depth_map {enc : Key → PyData} (hd : ∀ x, (enc x).depth ≤ 2) : ∀ r : Row, PyData.depthAll (r.map enc) ≤ 2
  | [] => by simp [PyData.depthAll]
  | x :: r => by
    have a := hd x
    have b := depth_map hd r
    simp only [List.map_cons, PyData.depthAll]
    omega
theorem rank_plain (x : Key) : (rankD x).plain = true := by cases x <;> rfl
theorem law_plain (x : Key) : (lawD x).plain = true := by cases x <;> rfl
theorem rank_depth (x : Key) : (rankD x).depth ≤ 2 := by cases x <;> simp [rankD, PyData.depth, PyData.depthAll]
theorem law_depth (x : Key) : (lawD x).depth ≤ 2 := by cases x <;> simp [lawD, PyData.depth, PyData.depthAll]
/-- what the two tests of places are, for two rows of keys -/
theorem row_parts {enc : Key → PyData} (hq : ∀ x y, PyData.eqv (enc x) (enc y) = decide (x = y)) (hp : ∀ x, (enc x).plain = true) (hd : ∀ x, (enc x).depth ≤ 2) {a b : Row} {xs ys : Array Value} {as bs : List Addr}
    (rc : ∀ (B : Around) (x y : Key) (v u : Value) (cs ds : List Addr), Reads s.heap v (enc x) cs → Reads s.heap u (enc y) ds → B.units + 8 < cLine → RcLt B s v u (oneLt x y))
    (ra : ReadsAll s.heap xs.toList (a.map enc) as) (rb : ReadsAll s.heap ys.toList (b.map enc) bs) (hu : A.units + 12 < cLine) :
    (∀ j (h1 : j < xs.size) (h2 : j < ys.size), EqAt A.in1 s xs[j] ys[j] (pairEq (a.map enc) (b.map enc) j)) ∧ (∀ j (h1 : j < xs.size) (h2 : j < ys.size), RcLt A.in1 s xs[j] ys[j] (oneLt (a.getD j (.inl 0)) (b.getD j (.inl 0)))) ∧
    outLt xs ys (pairEq (a.map enc) (b.map enc)) (fun j => oneLt (a.getD j (.inl 0)) (b.getD j (.inl 0))) = rowLt a b := by
  have na : xs.size = a.length := by
    have q := SeqAt.ReadsAll.length _ _ _ ra
    simpa using q
  have nb : ys.size = b.length := by
    have q := SeqAt.ReadsAll.length _ _ _ rb
    simpa using q
  refine ⟨fun j j1 j2 => ?_, fun j j1 j2 => ?_, ?_⟩
  · have q := eqAt_plainAll _ _ A.in1 s _ _ _ _ ra rb (plain_map hp a) (plain_map hp b) (by show A.units + 1 + _ < _; have := depth_map hd a; omega) j (by simpa using j1) (by simpa using j2)
    simpa using q
  · obtain ⟨cs, q1⟩ := at_row ra j (by simpa using j1)
    obtain ⟨ds, q2⟩ := at_row rb j (by simpa using j2)
    exact rc A.in1 _ _ _ _ cs ds (by simpa using q1) (by simpa using q2) (by show A.units + 1 + 8 < _; omega)
  · unfold outLt
    rw [na, nb]
    exact first_row enc hq a b
/-- row_rank(a) < row_rank(b) -/
theorem rc_rankRow {a b : Row} {v u : Value} {as bs : List Addr} (rx : Reads s.heap v (rankRow a) as) (ry : Reads s.heap u (rankRow b) bs) (hu : A.units + 12 < cLine) : RcLt A s v u (rowLt a b) := by
  obtain ⟨l, xs, rfl, hl, ra⟩ := tup_items rx
  obtain ⟨m, ys, rfl, hm, rb⟩ := tup_items ry
  obtain ⟨h1, h2, h3⟩ := row_parts (A := A) eqv_rank rank_plain rank_depth (fun B x y v u cs ds r1 r2 q => rc_rank r1 r2 q) ra rb hu
  have h := rcLt_first hl hm (by omega) h1 fun j j1 j2 _ _ => h2 j j1 j2
  rw [h3] at h
  exact h
/-- _law_key(a) < _law_key(b) -/
theorem rc_lawRow {a b : Row} {v u : Value} {as bs : List Addr} (rx : Reads s.heap v (lawRow a) as) (ry : Reads s.heap u (lawRow b) bs) (hu : A.units + 12 < cLine) : RcLt A s v u (rowLt a b) := by
  obtain ⟨l, xs, cs, rfl, hl, ra⟩ := lst_items rx
  obtain ⟨m, ys, ds, rfl, hm, rb⟩ := lst_items ry
  obtain ⟨h1, h2, h3⟩ := row_parts (A := A) eqv_law law_plain law_depth (fun B x y v u cs ds r1 r2 q => rc_law r1 r2 q) ra rb hu
  have h := RcLt.lists hl hm (by omega) h1 fun j j1 j2 _ => h2 j j1 j2
  rw [show firstLt (pairEq (a.map lawD) (b.map lawD)) (fun j => oneLt (a.getD j (.inl 0)) (b.getD j (.inl 0))) (decide (xs.size < ys.size)) (List.range (min xs.size ys.size)) = rowLt a b from h3] at h
  exact h
end
end KA
set_option Elab.async false
set_option linter.all false
set_option maxRecDepth 100000
set_option maxHeartbeats 8000000
/-! keys of rows can be sorted, whatever the kind that the list's sort picks -/
namespace KA
open PySem PySem.W PySem.Calls PyProof.Rows L2
open PySem.SeqAt (RcLt)
def KeyIs1 (h : Heap) (E : Row → PyData) (v : Value) (r : Row) : Prop := ∃ as, Reads h v (E r) as
/-- a key that says which row it is the key of -/
structure Tells (E : Row → PyData) : Prop where
  inj : ∀ a b, E a = E b → a = b
  plain : ∀ a, (E a).plain = true
/-- rows as a kind of keys -/
noncomputable def rowKind (h : Heap) (E : Row → PyData) : PyProof.Rows.KeyKind where
  α := Row
  blt := rowLt
  irrefl := rowLt_irrefl
  trans := fun _ _ _ => rowLt_trans
  negTrans := fun a b c h1 => by
    by_cases e : a = b
    · subst e; exact .inr h1
    · cases q : rowLt a b with
      | true => exact .inl rfl
      | false => exact .inr (rowLt_trans (rowLt_total e q) h1)
  total := fun a b h1 h2 => by
    by_cases e : a = b
    · exact e
    · rw [rowLt_total e h1] at h2; cases h2
  keyOf := fun v => open Classical in if q : ∃ r, KeyIs1 h E v r then some q.choose else none
  dflt := []
theorem rowKind_some {h : Heap} {E : Row → PyData} (T : Tells E) {v : Value} {r : Row} (k : KeyIs1 h E v r) : (rowKind h E).keyOf v = some r := by
  have q : ∃ r, KeyIs1 h E v r := ⟨r, k⟩
  have e : (rowKind h E).keyOf v = some q.choose := by
    show (open Classical in if q : ∃ r, KeyIs1 h E v r then some q.choose else none) = _
    rw [dif_pos q]
  obtain ⟨as, r1⟩ := q.choose_spec
  obtain ⟨bs, r2⟩ := k
  rw [e, T.inj _ _ (SeqAt.plain_unique _ _ _ _ _ (T.plain _) r1 r2)]
theorem rowKind_inv {h : Heap} {E : Row → PyData} {v : Value} {r : Row} (e : (rowKind h E).keyOf v = some r) : KeyIs1 h E v r := by
  by_cases q : ∃ r, KeyIs1 h E v r
  · have e' : (rowKind h E).keyOf v = some q.choose := by
      show (open Classical in if q : ∃ r, KeyIs1 h E v r then some q.choose else none) = _
      rw [dif_pos q]
    rw [e'] at e
    rw [← Option.some.inj e]
    exact q.choose_spec
  · have e' : (rowKind h E).keyOf v = none := by
      show (open Classical in if q : ∃ r, KeyIs1 h E v r then some q.choose else none) = _
      rw [dif_neg q]
      rfl
    rw [e'] at e
    cases e
theorem map_inj {enc : Key → PyData} (hi : ∀ x y, enc x = enc y → x = y) : ∀ {a b : Row}, a.map enc = b.map enc → a = b
  | [], [], _ => rfl
  | [], _ :: _, h => by simp at h
  | _ :: _, [], h => by simp at h
  | x :: a, y :: b, h => by
    have h' : enc x :: a.map enc = enc y :: b.map enc := h
    injection h' with h1 h2
    rw [hi _ _ h1, map_inj hi h2]
theorem rank_inj (x y : Key) (h : rankD x = rankD y) : x = y := by
  cases x <;> cases y <;> simp [rankD] at h <;> simp [h]
theorem law_inj (x y : Key) (h : lawD x = lawD y) : x = y := by
  cases x <;> cases y <;> simp [lawD] at h <;> simp [h]
theorem tells_rank : Tells rankRow := ⟨fun a b h => map_inj rank_inj (by injection h), fun a => by show PyData.plainAll (a.map rankD) = true; exact plain_map rank_plain a⟩
theorem tells_law : Tells lawRow := ⟨fun a b h => map_inj law_inj (by injection h), fun a => by show PyData.plainAll (a.map lawD) = true; exact plain_map law_plain a⟩
section
variable {prog : Program} {w : World} {A : Around} {E : Value → Shared → Prop} {s : Shared} {Q : Bool → Shared → Prop}
/-- the test where one type is known: the type's own -/
theorem one_lists {a b : Row} {v u : Value} {as bs : List Addr} (rx : Reads s.heap v (lawRow a) as) (ry : Reads s.heap u (lawRow b) bs) (hu : A.units + 12 < cLine) (hq : Q (rowLt a b) s) : wpAny (model prog w) A (oneLt' true v u) Q E s := by
  obtain ⟨l, xs, cs, rfl, hl, ra⟩ := lst_items rx
  obtain ⟨m, ys, ds, rfl, hm, rb⟩ := lst_items ry
  obtain ⟨h1, h2, h3⟩ := row_parts (A := A) eqv_law law_plain law_depth (fun B x y v u cs ds r1 r2 q => rc_law r1 r2 q) ra rb hu
  obtain ⟨o, o1, o2, _⟩ := id hl
  rw [oneLt'_eq]
  simp only [if_true]
  refine wpAny_bind (wpAny_cRoomFor (by omega) ?_)
  refine wpAny_bind (wpAny_callSpecialIfBound?_slot (T := "list") ⟨o, o1, o2⟩ F.slot_list_lt (SeqAt.call_list_lt (e := SeqAt.pairEq (a.map lawD) (b.map lawD)) (r := fun j => oneLt (a.getD j (.inl 0)) (b.getD j (.inl 0))) hl hm h1 (fun j j1 j2 _ => h2 j j1 j2) ?_))
  rw [show SeqAt.firstLt (SeqAt.pairEq (a.map lawD) (b.map lawD)) (fun j => oneLt (a.getD j (.inl 0)) (b.getD j (.inl 0))) (decide (xs.size < ys.size)) (List.range (min xs.size ys.size)) = rowLt a b from h3]
  exact wpAny_truthy_bool hq
theorem one_tups {a b : Row} {v u : Value} {as bs : List Addr} (rx : Reads s.heap v (rankRow a) as) (ry : Reads s.heap u (rankRow b) bs) (hu : A.units + 12 < cLine) (hq : Q (rowLt a b) s) : wpAny (model prog w) A (oneLt' true v u) Q E s := by
  obtain ⟨l, xs, rfl, hl, ra⟩ := tup_items rx
  obtain ⟨m, ys, rfl, hm, rb⟩ := tup_items ry
  obtain ⟨h1, h2, h3⟩ := row_parts (A := A) eqv_rank rank_plain rank_depth (fun B x y v u cs ds r1 r2 q => rc_rank r1 r2 q) ra rb hu
  obtain ⟨o, o1, o2, _⟩ := id hl
  rw [oneLt'_eq]
  simp only [if_true]
  refine wpAny_bind (wpAny_cRoomFor (by omega) ?_)
  refine wpAny_bind (wpAny_callSpecialIfBound?_slot (T := "tuple") ⟨o, o1, o2⟩ F.slot_tuple_lt (call_tup_lt hl hm h1 (fun j j1 j2 _ _ => h2 j j1 j2) ?_))
  rw [h3]
  exact wpAny_truthy_bool hq
/-- the test of no known type -/
theorem one_gen {k : Bool} {v u : Value} (h : RcLt A s v u k) (hq : Q k s) : wpAny (model prog w) A (oneLt' false v u) Q E s := by
  rw [oneLt'_eq]
  simp only [Bool.false_eq_true, if_false]
  exact wpAny_bind (h prog w E _ (wpAny_truthy_bool hq))
/-- the test place by place, as tuples that are not empty are compared -/
theorem kat_rows : ∀ (a b : Row) (i : Nat) (vs ws : List Value) (as bs : List Addr) (fin : Bool), ReadsAll s.heap vs (a.map rankD) as → ReadsAll s.heap ws (b.map rankD) bs → A.units + 12 < cLine → fin = decide (a.length < b.length) → Q (rowLt a b) s →
    KatLex prog w A false fin Q (vs.zip ws) i s
  | [], [], i, vs, ws, as, bs, fin, ra, rb, _, hf, hq => by
    cases ra; cases rb
    subst hf
    exact kat_nil (by simpa [rowLt] using hq)
  | [], y :: b, i, vs, ws, as, bs, fin, ra, rb, _, hf, hq => by
    cases ra
    subst hf
    rw [List.zip_nil_left]
    exact kat_nil (by simpa [rowLt] using hq)
  | x :: a, [], i, vs, ws, as, bs, fin, ra, rb, _, hf, hq => by
    cases rb
    subst hf
    rw [List.zip_nil_right]
    exact kat_nil (by simpa [rowLt] using hq)
  | x :: a, y :: b, i, vs, ws, as, bs, fin, ra, rb, hu, hf, hq => by
    have ra' : ReadsAll s.heap vs (rankD x :: a.map rankD) as := ra
    have rb' : ReadsAll s.heap ws (rankD y :: b.map rankD) bs := rb
    cases ra' with
    | cons r1 r2 =>
      cases rb' with
      | cons q1 q2 =>
        rw [List.zip_cons_cons]
        refine kat_cons (SeqAt.eqAt_plain (rankD x) (rankD y) A s _ _ _ _ r1 q1 (rank_plain x) (rank_plain y) (by have := rank_depth x; omega) prog w _ _ ?_)
        rw [eqv_rank]
        rw [rowLt] at hq
        by_cases h : x = y
        · rw [if_pos h] at hq
          rw [decide_eq_true h]
          exact kat_yes (kat_rows a b (i + 1) _ _ _ _ fin r2 q2 hu (by simpa using hf) hq)
        · rw [if_neg h] at hq
          rw [decide_eq_false h]
          exact kat_no (one_gen (rc_rank r1 q1 (by omega)) hq)
end
section
variable {M : Model} {A : Around} {E : Value → Shared → Prop} {s : Shared}
/-- the first items, where there are any -/
theorem firsts_rank : ∀ (vs : List Value) (rows : List Row), EachIs (KeyIs1 s.heap rankRow) vs rows → ∃ fs : List (Option Value), fs.map (·.isSome) = rows.map (fun r => !r.isEmpty) ∧
    (∀ v, some v ∈ fs → ∃ x as, Reads s.heap v (rankD x) as) ∧ ∀ Q : List (Option Value) → Shared → Prop, Q fs s → wpAny M A (vs.mapM firstOfTuple') Q E s
  | [], [], _ => by
    refine ⟨[], rfl, fun v hv => ?_, fun Q hq => ?_⟩
    · exact (List.not_mem_nil hv).elim
    · rw [List.mapM_nil]
      exact wpAny_pure hq
  | [], _ :: _, h => by cases h
  | _ :: _, [], h => by cases h
  | v :: vs, r :: rows, h => by
    cases h with
    | cons h1 h2 =>
      obtain ⟨fs, f1, f2, f3⟩ := firsts_rank vs rows h2
      obtain ⟨as, k⟩ := h1
      obtain ⟨l, xs, rfl, hl, ra⟩ := tup_items k
      obtain ⟨o, o1, o2, n, o3⟩ := id hl
      refine ⟨xs[0]? :: fs, ?_, fun u hu => ?_, fun Q hq => ?_⟩
      · rw [List.map_cons, List.map_cons, f1]
        congr 1
        have n1 := SeqAt.ReadsAll.length _ _ _ ra
        cases r with
        | nil =>
          have z : xs.size = 0 := by simpa using n1
          rw [Array.getElem?_eq_none (by omega)]
          rfl
        | cons x t =>
          have z : 0 < xs.size := by
            have : xs.size = t.length + 1 := by simpa using n1
            omega
          rw [Array.getElem?_eq_getElem z]
          rfl
      · rcases List.mem_cons.mp hu with q | q
        · cases r with
          | nil =>
            have n1 := SeqAt.ReadsAll.length _ _ _ ra
            have z : xs.size = 0 := by simpa using n1
            rw [Array.getElem?_eq_none (by omega)] at q
            cases q
          | cons x t =>
            obtain ⟨z, bs, cs, r1, _⟩ := all1 (i := 0) (show ReadsAll s.heap (xs.toList.drop 0) (rankD x :: t.map rankD) as from ra)
            rw [Array.getElem?_eq_getElem z] at q
            rw [Option.some.inj q]
            exact ⟨x, bs, r1⟩
        · exact f2 u q
      · rw [List.mapM_cons]
        refine wpAny_bind ?_
        rw [kas_first_eq]
        refine wpAny_bind (Looks.here (show Looks M s.heap (typeOf (.ref l)) o.cls from (Looks.ld o1).andThen .now) ?_)
        rw [o2, if_neg (by first | decide | simp)]
        refine wpAny_bind (listItems_at o1 o3 (wpAny_pure ?_))
        exact wpAny_bind (f3 (fun bs s' => wpAny M A (pure (xs[0]? :: bs)) Q E s') (wpAny_pure hq))
theorem one_type {vs : List Value} {T : Value} {Q : Option Value → Shared → Prop} (h1 : 0 < vs.length) (hT : ∀ v ∈ vs, Looks M s.heap (typeOf v) T) (hT2 : (T == T) = true) (hq : Q (some T) s) : wpAny M A (oneTypeOnly' vs.toArray) Q E s := by
  rw [oneTypeOnly'_eq, List.mapM_toArray, map_eq_pure_bind]
  refine wpAny_bind (wpAny_bind (kas_mapM (r := T) _ (fun v hv Q' q => (hT v hv).here q) (wpAny_pure ?_)))
  obtain ⟨v, vs', rfl⟩ : ∃ v vs', vs = v :: vs' := by
    match vs, h1 with
    | v :: vs', _ => exact ⟨v, vs', rfl⟩
  have hall : ((List.map (fun _ => T) (v :: vs')).toArray.all fun x => x == T) = true := by
    simp only [List.all_toArray, List.all_map, List.all_eq_true]
    intro _ _
    exact hT2
  rw [show (List.map (fun _ => T) (v :: vs')).toArray[0]? = some T by simp]
  simp only [hall, if_true]
  exact wpAny_pure hq
end
section
variable {prog : Program} {w : World} {A : Around} {s : Shared}
theorem looks_rank {v : Value} {r : Row} (k : KeyIs1 s.heap rankRow v r) {M : Model} : Looks M s.heap (typeOf v) (.type "tuple") := by
  obtain ⟨as, k⟩ := k
  exact looks_reads k
theorem each_left {α β : Type} {R : α → β → Prop} {as : List α} {bs : List β} (h : EachIs R as bs) {a : α} (ha : a ∈ as) : ∃ b, R a b := by
  obtain ⟨b, _, r⟩ := h.left a ha
  exact ⟨b, r⟩
theorem sorts_rank {ks : List Value} {rows : List Row} (e : EachIs (KeyIs1 s.heap rankRow) ks rows) (hu : A.units + 12 < cLine) : SortsAt prog w A s (rowKind s.heap rankRow) ks := by
  refine ⟨fun v hv => ?_, ?_⟩
  · obtain ⟨r, k⟩ := each_left e hv
    exact ⟨r, rowKind_some tells_rank k⟩
  · have gen : H.LtAt prog w A s (rowKind s.heap rankRow) general' := fun E x y (a b : Row) Q ha hb hq => by
      obtain ⟨as, ra⟩ := rowKind_inv ha
      obtain ⟨bs, rb⟩ := rowKind_inv hb
      exact one_gen (rc_rankRow ra rb hu) hq
    have one : H.LtAt prog w A s (rowKind s.heap rankRow) oneType' := fun E x y (a b : Row) Q ha hb hq => by
      obtain ⟨as, ra⟩ := rowKind_inv ha
      obtain ⟨bs, rb⟩ := rowKind_inv hb
      rw [keyLt'_oneType]
      exact one_tups ra rb hu hq
    have tup : H.LtAt prog w A s (rowKind s.heap rankRow) (tuples' false) := fun E x y (a b : Row) Q ha hb hq => by
      obtain ⟨as, ra⟩ := rowKind_inv ha
      obtain ⟨bs, rb⟩ := rowKind_inv hb
      obtain ⟨l, xs, rfl, ⟨o, o1, o2, n, o3⟩, r1⟩ := tup_items ra
      obtain ⟨m, ys, rfl, ⟨p, p1, p2, k, p3⟩, r2⟩ := tup_items rb
      have n1 := SeqAt.ReadsAll.length _ _ _ r1
      have n2 := SeqAt.ReadsAll.length _ _ _ r2
      refine kat_lt o1 o3 p1 p3 (kat_rows a b 0 _ _ _ _ _ r1 r2 hu ?_ hq)
      simp only [Array.length_toList, List.length_map] at n1 n2
      rw [n1, n2]
    obtain ⟨fs, f1, f2, f3⟩ := firsts_rank (M := model prog w) (A := A) (E := fun _ _ => True) ks rows e
    by_cases hall : (fs.toArray.all fun x => x.isSome) = true
    · refine ⟨tuples' false, tup, fun h2 E Q hq => ?_⟩
      obtain ⟨fs', g1, g2, g3⟩ := firsts_rank (M := model prog w) (A := A) (E := E) ks rows e
      have hl : fs'.map (·.isSome) = fs.map (·.isSome) := by rw [g1, f1]
      have hall' : (fs'.toArray.all fun x => x.isSome) = true := by
        have q : (fs.map (·.isSome)).all id = true := by rw [List.all_map]; simpa using hall
        rw [← hl, List.all_map] at q
        simpa using q
      rw [keyKind'_eq, List.mapM_toArray, map_eq_pure_bind]
      refine wpAny_bind (wpAny_bind (g3 _ (wpAny_pure ?_)))
      rw [if_pos hall']
      refine wpAny_bind (wpAny_rule ?_)
      have hlen : fs'.length = ks.length := by
        have q := congrArg List.length g1
        simp only [List.length_map] at q
        rw [q, e.length]
      obtain ⟨gs, hgs⟩ : ∃ gs : List Value, fs' = gs.map some := ⟨fs'.filterMap id, by
        have : ∀ l : List (Option Value), (∀ o ∈ l, o.isSome = true) → l = (l.filterMap id).map some := by
          intro l
          induction l with
          | nil => intro _; rfl
          | cons o t ih =>
            intro h
            cases o with
            | none => exact absurd (h none List.mem_cons_self) (by simp)
            | some v =>
              show some v :: t = some v :: (t.filterMap id).map some
              rw [← ih fun o ho => h o (List.mem_cons_of_mem _ ho)]
        refine this fs' fun o ho => ?_
        have q := hall'
        simp only [List.all_toArray, List.all_eq_true] at q
        exact q o ho⟩
      have hfm : fs'.toArray.filterMap id = gs.toArray := by rw [hgs]; simp
      rw [hfm]
      refine wpAny_bind (one_type (T := .type "tuple") (by rw [hgs, List.length_map] at hlen; omega) (fun v hv => ?_) (by simp) (wpAny_pure ?_))
      · obtain ⟨x, as, k⟩ := g2 v (by rw [hgs]; exact List.mem_map.mpr ⟨v, hv, rfl⟩)
        have q := looks_reads (M := model prog w) k
        cases x <;> exact q
      · simpa using hq
    · by_cases hfst : rows.head?.any (fun r => !r.isEmpty) = true
      · refine ⟨general', gen, fun h2 E Q hq => ?_⟩
        obtain ⟨fs', g1, g2, g3⟩ := firsts_rank (M := model prog w) (A := A) (E := E) ks rows e
        have hl : fs'.map (·.isSome) = fs.map (·.isSome) := by rw [g1, f1]
        have hall' : ¬ (fs'.toArray.all fun x => x.isSome) = true := fun z => hall (by
          have q : (fs'.map (·.isSome)).all id = true := by rw [List.all_map]; simpa using z
          rw [hl, List.all_map] at q
          simpa using q)
        have h0 : (fs'.toArray[0]?.bind id).isSome = true := by
          cases rows with
          | nil => simp at hfst
          | cons r rows =>
            cases fs' with
            | nil => simp at g1
            | cons o fs' =>
              have q : o.isSome = !r.isEmpty := by
                have z : o.isSome :: fs'.map (·.isSome) = (!r.isEmpty) :: rows.map (fun r => !r.isEmpty) := g1
                injection z
              have z : (!r.isEmpty) = true := by simpa using hfst
              rw [z] at q
              simpa using q
        rw [keyKind'_eq, List.mapM_toArray, map_eq_pure_bind]
        refine wpAny_bind (wpAny_bind (g3 _ (wpAny_pure ?_)))
        rw [if_neg hall', if_pos h0]
        exact wpAny_pure hq
      · refine ⟨oneType', one, fun h2 E Q hq => ?_⟩
        obtain ⟨fs', g1, g2, g3⟩ := firsts_rank (M := model prog w) (A := A) (E := E) ks rows e
        have hl : fs'.map (·.isSome) = fs.map (·.isSome) := by rw [g1, f1]
        have hall' : ¬ (fs'.toArray.all fun x => x.isSome) = true := fun z => hall (by
          have q : (fs'.map (·.isSome)).all id = true := by rw [List.all_map]; simpa using z
          rw [hl, List.all_map] at q
          simpa using q)
        have h0 : ¬ (fs'.toArray[0]?.bind id).isSome = true := by
          cases rows with
          | nil =>
            cases fs' with
            | nil => simp
            | cons o fs' => simp at g1
          | cons r rows =>
            cases fs' with
            | nil => simp at g1
            | cons o fs' =>
              have q : o.isSome = !r.isEmpty := by
                have z : o.isSome :: fs'.map (·.isSome) = (!r.isEmpty) :: rows.map (fun r => !r.isEmpty) := g1
                injection z
              have z : (!r.isEmpty) = false := by simpa using hfst
              rw [z] at q
              cases o with
              | none => simp
              | some v => simp at q
        rw [keyKind'_eq, List.mapM_toArray, map_eq_pure_bind]
        refine wpAny_bind (wpAny_bind (g3 _ (wpAny_pure ?_)))
        rw [if_neg hall', if_neg h0]
        refine wpAny_bind (one_type (T := .type "tuple") (by omega) (fun v hv => ?_) (by simp) (wpAny_pure ?_))
        · obtain ⟨r, k⟩ := each_left e hv
          exact looks_rank k
        · simpa using hq
theorem sorts_law {ks : List Value} {rows : List Row} (e : EachIs (KeyIs1 s.heap lawRow) ks rows) (hu : A.units + 12 < cLine) : SortsAt prog w A s (rowKind s.heap lawRow) ks := by
  refine ⟨fun v hv => ?_, oneType', fun E x y (a b : Row) Q ha hb hq => ?_, fun h2 E Q hq => ?_⟩
  · obtain ⟨r, k⟩ := each_left e hv
    exact ⟨r, rowKind_some tells_law k⟩
  · obtain ⟨as, ra⟩ := rowKind_inv ha
    obtain ⟨bs, rb⟩ := rowKind_inv hb
    rw [keyLt'_oneType]
    exact one_lists ra rb hu hq
  · refine kas_kind (T := .type "list") h2 (fun v hv => ?_) (by decide) (by simp) hq
    obtain ⟨r, as, k⟩ := each_left e hv
    exact looks_reads k
end
end KA
set_option Elab.async false
set_option linter.all false
set_option maxRecDepth 100000
set_option maxHeartbeats 4000000
/-! how rows, pairs and bags stand in the abstract heap; calls of defs by name -/
namespace KA
open PySem PySem.Spec PyProof.Rows L2
open PySem.W (EachIs)
def RowAt (H : Hp) (q : Addr) (r : Row) : Prop := H q = some (.tup (r.map kV))
def PairAt (H : Hp) (t : Addr) (e : Row × Int) : Prop := ∃ q, H t = some (.tup [.ref q, .int e.2]) ∧ RowAt H q e.1
def RowsAt (H : Hp) (p : Addr) (rs : List Row) : Prop := ∃ as : List Addr, H p = some (.lst (as.map V.ref)) ∧ EachIs (RowAt H) as rs
def BagAt (H : Hp) (p : Addr) (b : Bag) : Prop := ∃ ts : List Addr, H p = some (.lst (ts.map V.ref)) ∧ EachIs (PairAt H) ts b
theorem same_new {H : Hp} {p : Addr} {o : HO} (h : H p = none) : Same H (upd H p o) := fun b x e => by
  rw [upd_ne (ne_of_none e h)]
  exact e
/-- an object that was not there at the start may change -/
theorem same_mut {H H' : Hp} {p : Addr} {o : HO} (e : Same H H') (h : H p = none) : Same H (upd H' p o) := fun b x q => by
  rw [upd_ne (ne_of_none q h)]
  exact e b x q
theorem RowAt.mono {H H' : Hp} (s : Same H H') {q : Addr} {r : Row} (h : RowAt H q r) : RowAt H' q r := s _ _ h
theorem PairAt.mono {H H' : Hp} (s : Same H H') {t : Addr} {e : Row × Int} (h : PairAt H t e) : PairAt H' t e := by
  obtain ⟨q, h1, h2⟩ := h
  exact ⟨q, s _ _ h1, h2.mono s⟩
theorem RowsAt.mono {H H' : Hp} (s : Same H H') {p : Addr} {rs : List Row} (h : RowsAt H p rs) : RowsAt H' p rs := by
  obtain ⟨as, h1, h2⟩ := h
  exact ⟨as, s _ _ h1, h2.mono fun _ _ q => q.mono s⟩
theorem BagAt.mono {H H' : Hp} (s : Same H H') {p : Addr} {b : Bag} (h : BagAt H p b) : BagAt H' p b := by
  obtain ⟨ts, h1, h2⟩ := h
  exact ⟨ts, s _ _ h1, h2.mono fun _ _ q => q.mono s⟩
theorem sq_l {K : PySem.W.Frag} {H : Hp} {a : Addr} {xs : List V} (h : H a = some (.lst xs)) : SqL K H a xs := .inl (.inl h)
theorem sq_t {K : PySem.W.Frag} {H : Hp} {a : Addr} {xs : List V} (h : H a = some (.tup xs)) : SqT K H a xs := .inl (.inl h)
theorem RowAt.sq {K : PySem.W.Frag} {H : Hp} {q : Addr} {r : Row} (h : RowAt H q r) : SqT K H q (r.map kV) := sq_t h
/-! ### data -/
theorem dp_key {K : PySem.W.Frag} {H : Hp} (x : Key) : Dp K H (kV x) (keyD x) := by
  cases x with
  | inl i => exact .int i
  | inr x => exact .str x
theorem dp_keys {K : PySem.W.Frag} {H : Hp} : ∀ r : Row, DpAll K H (r.map kV) (r.map keyD)
  | [] => .nil
  | x :: r => .cons (dp_key x) (dp_keys r)
theorem dp_row {K : PySem.W.Frag} {H : Hp} {q : Addr} {r : Row} (h : RowAt H q r) : Dp K H (.ref q) (rowD r) := .tup h.sq (dp_keys r)
def pairD (e : Row × Int) : PyData := .tuple [rowD e.1, .int e.2]
def bagD (b : Bag) : PyData := .list (b.map pairD)
theorem dp_pair {K : PySem.W.Frag} {H : Hp} {t : Addr} {e : Row × Int} (h : PairAt H t e) : Dp K H (.ref t) (pairD e) := by
  obtain ⟨q, h1, h2⟩ := h
  exact .tup (sq_t h1) (.cons (dp_row h2) (.cons (.int _) .nil))
theorem dp_each {K : PySem.W.Frag} {H : Hp} {α : Type} {R : Addr → α → Prop} {D : α → PyData} (f : ∀ a x, R a x → Dp K H (.ref a) (D x)) : ∀ {as : List Addr} {xs : List α}, EachIs R as xs → DpAll K H (as.map V.ref) (xs.map D)
  | _, _, .nil => .nil
  | _, _, .cons h t => .cons (f _ _ h) (dp_each f t)
theorem dp_bag {K : PySem.W.Frag} {H : Hp} {p : Addr} {b : Bag} (h : BagAt H p b) : Dp K H (.ref p) (bagD b) := by
  obtain ⟨ts, h1, h2⟩ := h
  exact .lst (sq_l h1) (dp_each (D := pairD) (fun _ _ q => dp_pair q) h2)
theorem dp_rows {K : PySem.W.Frag} {H : Hp} {p : Addr} {rs : List Row} (h : RowsAt H p rs) : Dp K H (.ref p) (.list (rs.map rowD)) := by
  obtain ⟨ts, h1, h2⟩ := h
  exact .lst (sq_l h1) (dp_each (D := rowD) (fun _ _ q => dp_row q) h2)
/-- all but what stands as something else than data is kept -/
def SameD (H H' : Hp) : Prop := ∀ b o, H b = some o → (∀ φ, o ≠ .ext φ) → H' b = some o
theorem Same.d {H H' : Hp} (s : Same H H') : SameD H H' := fun b o h _ => s b o h
theorem SameD.rd {H H' : Hp} (s : SameD H H') {a : Addr} {u : HO} (hu : ∀ φ, u ≠ .ext φ) (h : Rd H a u) : Rd H' a u := by
  rcases h with h | ⟨o, h⟩
  · exact .inl (s _ _ h hu)
  · exact .inr ⟨o, s _ _ h fun φ z => nomatch z⟩
mutual
theorem Dp.monoD {K : PySem.W.Frag} {H H' : Hp} (s : SameD H H') : ∀ (d : PyData) (v : V), Dp K H v d → Dp K H' v d
  | .none, _, h => by cases h; exact .non
  | .bool b, _, h => by cases h; exact .bl b
  | .int i, _, h => by cases h; exact .int i
  | .str x, _, h => by cases h; exact .str x
  | .list ds, _, h => by
    cases h with
    | lst hs ha =>
      refine .lst ?_ (DpAll.monoD s ds _ ha)
      rcases hs with q | q
      · exact .inl (s.rd (fun φ z => nomatch z) q)
      · exact .inr q
  | .tuple ds, _, h => by
    cases h with
    | tup hs ha =>
      refine .tup ?_ (DpAll.monoD s ds _ ha)
      rcases hs with q | q
      · exact .inl (s.rd (fun φ z => nomatch z) q)
      · exact .inr q
  | .dict _, _, h => by cases h
theorem DpAll.monoD {K : PySem.W.Frag} {H H' : Hp} (s : SameD H H') : ∀ (ds : List PyData) (vs : List V), DpAll K H vs ds → DpAll K H' vs ds
  | [], _, h => by cases h; exact .nil
  | d :: ds, _, h => by
    cases h with
    | cons h1 h2 => exact .cons (Dp.monoD s d _ h1) (DpAll.monoD s ds _ h2)
end
theorem Dp.mono {K : PySem.W.Frag} {H H' : Hp} (s : Same H H') {d : PyData} {v : V} (h : Dp K H v d) : Dp K H' v d := Dp.monoD (Same.d s) d v h
/-! ### == and != of data without a bound on their texts -/
section
variable {X : Cx}
def rEqP (K : PySem.W.Frag) : R2 := fun x y H Q => ∃ d e, Dp K H x d ∧ Dp K H y e ∧ d.plain = true ∧ e.plain = true ∧ d.depth ≤ 60 ∧ Q (.bl (PyData.eqv d e)) H
def rNeP (K : PySem.W.Frag) : R2 := fun x y H Q => ∃ d e, Dp K H x d ∧ Dp K H y e ∧ d.plain = true ∧ e.plain = true ∧ d.depth ≤ 60 ∧ Q (.bl (!PyData.eqv d e)) H
theorem op_eqP (hu : X.A.units + 64 < cLine) : OpR X (compareOp .Eq) (rEqP X.K) := by
  intro pins s σ H x y v u Q I rx ry h
  obtain ⟨d, e, hd, he, pd, pe, dd, q⟩ := h
  obtain ⟨as, r1⟩ := Dp.reads I d x v hd rx
  obtain ⟨bs, r2⟩ := Dp.reads I e y u he ry
  exact SeqAt.eq_plain r1 r2 pd pe (by omega) ⟨.bl _, H, I, rfl, q⟩
theorem op_neP (hu : X.A.units + 64 < cLine) : OpR X (compareOp .NotEq) (rNeP X.K) := by
  intro pins s σ H x y v u Q I rx ry h
  obtain ⟨d, e, hd, he, pd, pe, dd, q⟩ := h
  obtain ⟨as, r1⟩ := Dp.reads I d x v hd rx
  obtain ⟨bs, r2⟩ := Dp.reads I e y u he ry
  exact SeqAt.ne_plain r1 r2 pd pe (by omega) ⟨.bl _, H, I, rfl, q⟩
/-- t < u of two keys of rows, or of one value -/
def rLtK (K : PySem.W.Frag) : R2 := fun x y H Q => (∃ a b, Dp K H x (rankRow a) ∧ Dp K H y (rankRow b) ∧ Q (.bl (rowLt a b)) H) ∨ (∃ a b, Dp K H x (lawRow a) ∧ Dp K H y (lawRow b) ∧ Q (.bl (rowLt a b)) H) ∨
  (∃ a b, Dp K H x (rankD a) ∧ Dp K H y (rankD b) ∧ Q (.bl (oneLt a b)) H)
theorem op_ltK (hu : X.A.units + 64 < cLine) : OpR X (compareOp .Lt) (rLtK X.K) := by
  intro pins s σ H x y v u Q I rx ry h
  rcases h with ⟨a, b, hd, he, q⟩ | ⟨a, b, hd, he, q⟩ | ⟨a, b, hd, he, q⟩
  · obtain ⟨as, r1⟩ := Dp.reads I _ x v hd rx
    obtain ⟨bs, r2⟩ := Dp.reads I _ y u he ry
    exact rc_rankRow r1 r2 (by omega) X.prog X.w _ _ ⟨.bl _, H, I, rfl, q⟩
  · obtain ⟨as, r1⟩ := Dp.reads I _ x v hd rx
    obtain ⟨bs, r2⟩ := Dp.reads I _ y u he ry
    exact rc_lawRow r1 r2 (by omega) X.prog X.w _ _ ⟨.bl _, H, I, rfl, q⟩
  · obtain ⟨as, r1⟩ := Dp.reads I _ x v hd rx
    obtain ⟨bs, r2⟩ := Dp.reads I _ y u he ry
    exact rc_rank r1 r2 (by omega) X.prog X.w _ _ ⟨.bl _, H, I, rfl, q⟩
end
/-! ### defs called by their names -/
/-- the module's name x stands for a def that keeps the promise sp -/
def Cal (P : Program) (w : World) (K : PySem.W.Frag) (mg : Str → Option Value) (base : Heap) (x : Str) (k : Nat) (ps : List Str) (sp : Sp) : Prop :=
  ∃ f fd, mg x = some (.ref f) ∧ PySem.W.keepIn K (.ref f) = true ∧ Binds K fd ps [] ∧ FnOk P w K mg base CX0 k f fd ps sp
section
variable {X : Cx} {x : Str} {k : Nat} {ps : List Str} {sp : Sp} {E : XK} {p pos : Pos} {e : Expr} {es : List Expr} {t : TA}
theorem pe_cal (c : Cal X.prog X.w X.K X.mg X.base x k ps sp) (hr : Room k X.A) (ha : PA X (e :: es) t) (hg : Gl X x := by rfl) (hx : Passes CX0 X E0 := by exact pass0) (hdb : (x == ("__debug__" : Str)) = false := by decide)
    (he : starEach (e :: es) X.env = (false, eval e X.env) :: starEach es X.env := by rfl) (hpl : (backTo pos (starEach es X.env)).any (·.1) = false := by rfl) : PE X (.Call (.Name x p) (e :: es) [] pos) (tCall sp [] E0 t) := by
  obtain ⟨f, fd, g, kp, b, G⟩ := c
  exact pe_call G hr hg g kp b .nil hx ha hdb he hpl
end
/-- room for a call below -/
theorem _root_.L2.Room.lt {j k : Nat} {A : Around} (r : Room k A) (h : j ≤ k := by decide) : Room j A := r.mono h
theorem _root_.L2.Room.u64 {k : Nat} {A : Around} (r : Room k A) : A.units + 64 < cLine := by
  have := r.un
  omega
theorem _root_.L2.Room.u1 {k : Nat} {A : Around} (r : Room k A) : A.units + 1 < cLine := by
  have := r.un
  omega
end KA
set_option Elab.async false
set_option linter.all false
set_option maxRecDepth 100000
set_option maxHeartbeats 8000000
/-! sorted(rows, key=f), f a def that gives the key of a row -/
namespace KA
open PySem PySem.Spec PyProof.Rows L2
open PySem.W (EachIs SortsAt KeepsBut sorted_of_sort copyHeap copyHeap_at copyHeap_old keyH_end sortVals)
open PySem.Calls
section
variable {X : Cx}
/-- what a call f(row) does, wherever it is made -/
def KeyCall (X : Cx) (E : Row → PyData) (f : Addr) : Prop :=
  ∀ (pins : List (Addr × Obj)) (s : Shared) (σ : L2.St) (H : Hp) (q : Addr) (r : Row), Inv X pins σ H s → RowAt H q r → r.length ≤ 1000 →
    wpAny (model X.prog X.w) X.A.in1.in1 (call (.ref f) [.ref q]) (fun u s' => ∃ v H', Inv X pins σ H' s' ∧ Same H H' ∧ RelV v u ∧ Dp X.K H' v (E r)) (fun _ _ => False) s
/-- the promise of a def that gives keys -/
def spKey (K : PySem.W.Frag) (E : Row → PyData) : Sp := fun vs H Q _ => ∃ (q : Addr) (r : Row), vs = [.ref q] ∧ RowAt H q r ∧ r.length ≤ 1000 ∧ ∀ v H', Same H H' → Dp K H' v (E r) → Q v H'
theorem keyCall_of {E : Row → PyData} {f : Addr} {fd : FuncData} {k : Nat} {x : Str} (G : FnOk X.prog X.w X.K X.mg X.base CX0 k f fd [x] (spKey X.K E)) (hb : Binds X.K fd [x] []) (hr : Room (k + 2) X.A) : KeyCall X E f := by
  intro pins s σ H q r I hq hl
  have e0 := (I.env0.in1).in1
  refine wpAny_call (codeAny_mono (G.run X.A.in1.in1 X.stack s H ⟨[.ref q], []⟩ [.ref q] [.ref q] (fun v H' => Same H H' ∧ Dp X.K H' v (E r)) E0 (hr.in1).in1 e0 (hb s [.ref q] I.kIn rfl) (.cons rfl .nil)
    ⟨q, r, rfl, hq, hl, fun v H' s1 d => ⟨s1, d⟩⟩) fun z s' hz => ?_)
  cases z with
  | error e => exact False.elim hz
  | ok fl =>
    cases fl with
    | ret u =>
      obtain ⟨v, H', I', rv, s1, d⟩ := I.after hz
      exact ⟨v, H', I', s1, rv, d⟩
    | next => exact False.elim hz
    | brk => exact False.elim hz
    | cont => exact False.elim hz
def rSortRows (X : Cx) (f : Addr) : List V → List V → Hp → VK → Prop := fun vs zs H Q => ∃ (l : Addr) (as : List Addr) (rows : List Row), vs = [.ref l] ∧ zs = [.ref f] ∧ SqL X.K H l (as.map V.ref) ∧ EachIs (RowAt H) as rows ∧
  (∀ r ∈ rows, r.length ≤ 1000) ∧ (∀ p, H p = none → X.H_0 p = none) ∧ ∀ (p : Addr) (H' : Hp), Same H H' → H p = none → RowsAt H' p (sortRows rows) → Q (.ref p) H'
/-- the list of the keys so far -/
def keysO (kS : Addr) (kvs : List V) : HO := .ext fun h => ∃ (arr : Array Value) (e : Nat), Vals kvs arr.toList ∧ h.get? kS = some (seqObj "list" arr e)
/-- the list that is sorted, empty meanwhile -/
def nilO (a : Addr) (e : Nat) : HO := .ext fun h => h.get? a = some (seqObj "list" #[] e)
theorem keysO_ok {P : Program} {w : World} {H : Hp} {h : Heap} {kS : Addr} {kvs : List V} {arr : Array Value} {e : Nat} (v : Vals kvs arr.toList) (q : h.get? kS = some (seqObj "list" arr e)) : ObjOk P w H h kS (keysO kS kvs) :=
  ⟨⟨arr, e, v, q⟩, ⟨_, q⟩, fun h1 h2 ⟨a1, e1, v1, q1⟩ k => ⟨a1, e1, v1, k _ q1⟩⟩
theorem nilO_ok {P : Program} {w : World} {H : Hp} {h : Heap} {a : Addr} {e : Nat} (q : h.get? a = some (seqObj "list" #[] e)) : ObjOk P w H h a (nilO a e) :=
  ⟨q, ⟨_, q⟩, fun h1 h2 q1 k => k _ q1⟩
theorem upd_ext {H : Hp} {a : Addr} {o : HO} {φ : Heap → Prop} (h : H a = some (.ext φ)) : SameD H (upd H a o) := fun b u q n => by
  by_cases e : b = a
  · rw [e, h] at q
    exact absurd (Option.some.inj q).symm (n φ)
  · rw [upd_ne e]
    exact q
theorem del_ext {H : Hp} {a : Addr} {φ : Heap → Prop} (h : H a = some (.ext φ)) : SameD H (delH H a) := fun b u q n => by
  by_cases e : b = a
  · rw [e, h] at q
    exact absurd (Option.some.inj q).symm (n φ)
  · rw [delH_ne e]
    exact q
theorem refs_vals : ∀ {as : List Addr} {its : List Value}, Vals (as.map V.ref) its → its = as.map Value.ref
  | [], _, h => by cases h; rfl
  | a :: as, _, h => by
    have h' : Vals (V.ref a :: as.map V.ref) _ := h
    cases h' with
    | cons r t =>
      rw [refs_vals t]
      have e : _ = Value.ref a := r
      rw [e]
      rfl
theorem vals_refs : ∀ as : List Addr, Vals (as.map V.ref) (as.map Value.ref)
  | [] => .nil
  | a :: as => .cons rfl (vals_refs as)
theorem dps_reads {pins : List (Addr × Obj)} {s : Shared} {σ : L2.St} {H : Hp} {E : Row → PyData} (I : Inv X pins σ H s) : ∀ {kvs : List V} {rows : List Row} {ks : List Value}, EachIs (fun v r => Dp X.K H v (E r)) kvs rows → Vals kvs ks → EachIs (KeyIs1 s.heap E) ks rows
  | _, _, _, .nil, h => by cases h; exact .nil
  | _, _, _, .cons h t, q => by
    cases q with
    | cons q1 q2 =>
      obtain ⟨as, r⟩ := Dp.reads I _ _ _ h q1
      exact .cons ⟨as, r⟩ (dps_reads I t q2)
theorem each_snoc1 {α β : Type} {R : α → β → Prop} {x : α} {y : β} (h : R x y) : ∀ {as : List α} {bs : List β}, EachIs R as bs → EachIs R (as ++ [x]) (bs ++ [y])
  | _, _, .nil => .cons h .nil
  | _, _, .cons q t => .cons q (each_snoc1 h t)
theorem each_at {α β : Type} {R : α → β → Prop} : ∀ {as : List α} {bs : List β} {i : Nat} {x : α}, EachIs R as bs → as[i]? = some x → ∃ y, bs[i]? = some y ∧ R x y
  | _, _, _, _, .nil, h => by simp at h
  | _, _, 0, _, .cons q t, h => by
    simp at h
    subst h
    exact ⟨_, rfl, q⟩
  | _, _, i + 1, x, .cons q t, h => each_at (i := i) t (by simpa using h)
theorem vals_snoc {x : V} {u : Value} (r : RelV x u) {xs : List V} {us : List Value} (h : Vals xs us) : Vals (xs ++ [x]) (us ++ [u]) := h.append (.cons r .nil)
theorem each_refs {α : Type} {R : Addr → α → Prop} : ∀ {vs : List Value} {bs : List α}, EachIs (fun v b => ∃ a, v = Value.ref a ∧ R a b) vs bs → ∃ as : List Addr, vs = as.map Value.ref ∧ EachIs R as bs
  | _, _, .nil => ⟨[], rfl, .nil⟩
  | _, _, .cons ⟨a, e, r⟩ t => by
    obtain ⟨as, e2, r2⟩ := each_refs t
    exact ⟨a :: as, by rw [e, e2]; rfl, .cons r r2⟩
theorem each_map_l {α β γ : Type} {R : β → γ → Prop} (f : α → β) : ∀ {as : List α} {cs : List γ}, EachIs (fun a c => R (f a) c) as cs → EachIs R (as.map f) cs
  | _, _, .nil => .nil
  | _, _, .cons h t => .cons h (each_map_l f t)
theorem cr_sortKey {E : Row → PyData} {f : Addr} (T : Tells E)
    (hS : ∀ (prog : Program) (w : World) (A : Around) (s : Shared) (ks : List Value) (rows : List Row), EachIs (KeyIs1 s.heap E) ks rows → A.units + 12 < cLine → SortsAt prog w A s (rowKind s.heap E) ks)
    (hc : KeyCall X E f) (hu : X.A.units + 64 < cLine) (hx : X.ex = []) : CallRK X (.builtin "sorted") [Str.ofString "key"] (rSortRows X f) := by
  intro pins s σ H vs zs us ws Q I r rz h
  obtain ⟨l, as, rows, rfl, rfl, hs, hrow, hrl, h0, q⟩ := h
  obtain rfl := Vals.ref1 r
  obtain ⟨w1, rfl, e1⟩ := vals1 rz
  obtain rfl : w1 = Value.ref f := e1
  obtain ⟨its, rv, hl, hz⟩ := I.list hs
  obtain rfl := refs_vals rv
  rw [List.length_map] at hz
  have hzi : (as.map Value.ref).length ≤ sizeLine := by rw [List.length_map]; exact hz
  show wpAny (model X.prog X.w) X.A (call (.builtin "sorted") [.ref l] [(Str.ofString "key", .ref f)]) (EP X pins σ Q) X.xe s
  refine sorted_of_sort (vs := as.map Value.ref) hl.isList hzi (ksk_s1 _ _) (fun x => ksk_l1 _ _) fun E' => ?_
  rw [ksk_t1]
  obtain ⟨a, ea⟩ : ∃ a, a = s.heap.objs.size + 1 := ⟨_, rfl⟩
  rw [← ea]
  have ho := copyHeap_at s.heap (as.map Value.ref)
  rw [← ea] at ho
  have hHa : H a = none := I.hok.fresh (by rw [ea]; exact Nat.le_succ _)
  obtain ⟨e1, ho1⟩ : ∃ e1, ((copyHeap s.heap (as.map Value.ref)).update a (Obj.mapSeq fun _ => (#[] : Array Value))).get? a = some (seqObj "list" #[] e1) := ⟨_, get?_update_seq ho fun _ => #[]⟩
  have s1 := Heap.SameBut.update (copyHeap s.heap (as.map Value.ref)) a (Obj.mapSeq fun _ => (#[] : Array Value))
  have k1 : ∀ b u, s.heap.get? b = some u → ((copyHeap s.heap (as.map Value.ref)).update a (Obj.mapSeq fun _ => (#[] : Array Value))).get? b = some u := fun b u z =>
    (s1.2 b (by rw [ea]; exact Nat.ne_of_lt (Nat.lt_succ_of_lt (Heap.lt_size z)))).trans (copyHeap_old z)
  unfold ksk_tree
  refine wpAny_bind (listItems_at ho rfl ?_)
  refine wpAny_bind (listUpdate_at ho rfl ?_ (by rw [List.size_toArray]; exact hzi) (Nat.zero_le _))
  refine wpAny_bind (seqEpoch_at ho1 rfl ?_)
  refine wpAny_bind (wpAny_newTuple ?_ (by show (as.map Value.ref).toArray.toList.length ≤ _; simpa using hz))
  refine wpAny_bind (wpAny_newList ?_ (Nat.zero_le _))
  refine wpAny_holding ?_
  have I1 : Inv X pins σ (upd H a (nilO a e1)) { s with heap := (copyHeap s.heap (as.map Value.ref)).update a (Obj.mapSeq fun _ => (#[] : Array Value)) } :=
    I.laid (t' := s.toks) k1 (by rw [ea]; exact Nat.le_succ _) (nilO_ok ho1)
  obtain ⟨hT, ehT⟩ : ∃ hT, hT = ((copyHeap s.heap (as.map Value.ref)).update a (Obj.mapSeq fun _ => (#[] : Array Value))).push (seqObj "tuple" (as.map Value.ref).toArray 0) := ⟨_, rfl⟩
  have I2 : Inv X pins σ (upd H a (nilO a e1)) { s with heap := hT } := I1.kept (t' := s.toks) fun b u z => by rw [ehT]; exact Heap.get?_push_of_some _ z
  obtain ⟨kS, ekS⟩ : ∃ kS, kS = hT.objs.size := ⟨_, rfl⟩
  have hk0 : (upd H a (nilO a e1)) kS = none := I2.hok.fresh (by rw [ekS]; exact Nat.le_refl _)
  have hka : kS ≠ a := fun z => by
    rw [z, upd_same] at hk0
    cases hk0
  have hHk : H kS = none := by
    rw [upd_ne hka] at hk0
    exact hk0
  have nk0 : (hT.push (seqObj "list" #[] 0)).get? kS = some (seqObj "list" #[] 0) := by
    rw [ekS]
    exact Heap.get?_push_size _ rfl
  have I3 : Inv X pins σ (upd (upd H a (nilO a e1)) kS (keysO kS [])) { s with heap := hT.push (seqObj "list" #[] 0) } :=
    I2.laid (t' := s.toks) (fun b u z => Heap.get?_push_of_some _ z) (by rw [ekS]; exact Nat.le_refl _) (keysO_ok (arr := #[]) .nil nk0)
  rw [← ehT]
  show wpAny _ X.A.in1.in1 (ksk_rest a (.ref f) false (as.map Value.ref).toArray e1 (.ref hT.objs.size)) _ _ { s with heap := hT.push (seqObj "list" #[] 0) }
  rw [← ekS]
  unfold ksk_rest
  refine wpAny_bind (wpAny_rule ?_)
  rw [List.forIn_toArray]
  refine wpAny_bind (ksk_fold (fun i s' => ∃ H' kvs, Inv X pins σ H' s' ∧ Same H H' ∧ H' a = some (nilO a e1) ∧ H' kS = some (keysO kS kvs) ∧ EachIs (fun v r => Dp X.K H' v (E r)) kvs (rows.take i)) (as.map Value.ref) 0 _
    ⟨_, [], I3, same_mut (same_mut (Same.refl H) hHa) hHk, by rw [upd_ne hka.symm, upd_same], upd_same, by rw [List.take_zero]; exact .nil⟩ ?step ?done)
  case step =>
    rintro j x s' hxj ⟨H', kvs, I', sm, na, nk, hd⟩
    simp only [Nat.zero_add] at hd ⊢
    rw [List.getElem?_map] at hxj
    cases haj : as[j]? with
    | none => rw [haj] at hxj; cases hxj
    | some p =>
      rw [haj] at hxj
      obtain rfl : Value.ref p = x := Option.some.inj hxj
      obtain ⟨r, hrj, hrp⟩ := each_at hrow haj
      have hj : j < rows.length := (List.getElem?_eq_some_iff.mp hrj).1
      refine wpAny_bind (wpAny_attempt (wpAny_mono (hc pins s' σ H' p r I' (hrp.mono sm) (hrl r (List.mem_of_getElem? hrj))) (fun v s'' he => ?_) fun _ _ hF => hF.elim))
      obtain ⟨kv, H2, I4, sm2, rkv, hdp⟩ := he
      try dsimp only
      obtain ⟨⟨arr, e, va, gk⟩, _, _⟩ := I4.hok kS _ (sm2 _ _ nk)
      have la : arr.size ≤ as.length := by
        have q1 := va.length
        have q2 := hd.length
        rw [List.length_take] at q2
        have q3 := hrow.length
        have q4 : arr.toList.length = arr.size := Array.length_toList
        omega
      obtain ⟨c2, hc2⟩ : ∃ c2, (s''.heap.update kS (Obj.mapSeq (·.push v))).get? kS = some (seqObj "list" (arr.push v) c2) := ⟨_, get?_update_seq gk (·.push v)⟩
      have s3 := Heap.SameBut.update s''.heap kS (Obj.mapSeq (·.push v))
      refine wpAny_bind (listUpdate_at gk rfl ?_ (Nat.le_trans la hz) (Nat.le_trans (Nat.le_of_eq (Array.size_push ..)) (Nat.succ_le_succ (Nat.le_trans la hz))))
      have nk2 : H2 kS = some (keysO kS kvs) := sm2 _ _ nk
      have I5 : Inv X pins σ (upd H2 kS (keysO kS (kvs ++ [kv]))) { s'' with heap := s''.heap.update kS (Obj.mapSeq (·.push v)) } :=
        I4.write (t' := s''.toks) (by rw [nk2]; trivial) (.inl rfl) (fun b u hb z => (s3.2 b hb).trans z) ⟨_, hc2⟩ (keysO_ok (arr := arr.push v) (by rw [Array.toList_push]; exact vals_snoc rkv va) hc2)
      have sd : SameD H2 (upd H2 kS (keysO kS (kvs ++ [kv]))) := upd_ext nk2
      refine wpAny_pure ⟨rfl, _, kvs ++ [kv], I5, same_mut (sm.trans sm2) hHk, by rw [upd_ne hka.symm]; exact sm2 _ _ na, upd_same, ?_⟩
      rw [List.take_add_one, hrj]
      exact each_snoc1 (R := fun v r => Dp X.K (upd H2 kS (keysO kS (kvs ++ [kv]))) v (E r)) (Dp.monoD sd _ _ hdp) (hd.mono fun v r z => Dp.monoD sd _ _ (Dp.mono sm2 z))
  case done =>
    rintro s' ⟨H', kvs, I', sm, na, nk, hd⟩
    have et : rows.take (0 + (as.map Value.ref).length) = rows := List.take_of_length_le (by rw [List.length_map, hrow.length]; omega)
    rw [et] at hd
    obtain ⟨⟨arr, e, va, gk⟩, _, _⟩ := I'.hok kS _ nk
    have ga : s'.heap.get? a = some (seqObj "list" #[] e1) := (I'.hok a _ na).1
    try dsimp only
    refine wpAny_bind (listItems_at gk rfl ?_)
    have hks : EachIs (KeyIs1 s'.heap E) arr.toList rows := dps_reads I' hd va
    have hsz : arr.size = (as.map Value.ref).length := by
      have q1 := hks.length
      rw [Array.length_toList] at q1
      rw [q1, List.length_map, hrow.length]
    obtain ⟨G, gs, gn, J⟩ := I'.untrack nk (fr0_none (h0 kS hHk)) hx
    refine keyH_end (κ := rowKind s'.heap E) (h₁ := G) (fun b o _ z => gs b o z) gn gk ga hka (hS _ _ _ _ _ _ hks (by show X.A.units + 1 + 1 + 12 < _; omega)) hsz hzi fun h3 tk c k3 n3 => ⟨rfl, ?_⟩
    have hout : EachIs (fun v r => ∃ b, v = Value.ref b ∧ RowAt H b r) (sortVals (rowKind s'.heap E) false arr.toList (as.map Value.ref)) (sortRows rows) :=
      PySem.W.sortVals_each (κ := rowKind s'.heap E) (rev := false) (fun r => r) (each_map_l (R := fun v r => ∃ b, v = Value.ref b ∧ RowAt H b r) Value.ref (hrow.mono fun a r z => ⟨a, rfl, z⟩)) (hks.mono fun v r z => rowKind_some T z)
    obtain ⟨bs, eb, hb⟩ := each_refs hout
    rw [eb] at n3
    have nka : (delH H' kS) a = some (nilO a e1) := by
      rw [delH_ne hka.symm]
      exact na
    have J2 : Inv X pins σ (upd (delH H' kS) a (.lst (bs.map V.ref))) { s' with heap := h3, toks := tk } :=
      J.write (t' := tk) (by rw [nka]; trivial) (.inl rfl) (fun b u hbn z => k3 b u hbn z) ⟨_, n3⟩ ⟨by rw [List.length_map, hb.length, (sortRows_perm rows).length_eq, ← hrow.length]; exact hz, bs.map Value.ref, c, vals_refs bs, by simpa using n3⟩
    have sf : Same H (upd (delH H' kS) a (.lst (bs.map V.ref))) := by
      refine same_mut (fun b o z => ?_) hHa
      rw [delH_ne (ne_of_none z hHk)]
      exact sm b o z
    exact ⟨.ref a, _, J2, rfl, q a _ sf hHa ⟨bs, upd_same, hb.mono fun b r z => z.mono sf⟩⟩
end
end KA
set_option Elab.async false
set_option linter.all false
set_option maxRecDepth 100000
set_option maxHeartbeats 4000000
/-! comprehensions and loops: what is made, item by item -/
namespace KA
open PySem PySem.Spec PyProof.Rows L2
open PySem.W (EachIs)
/-- the tuples alone -/
def tups (H : Hp) : Hp := fun a => match H a with
  | some (.tup xs) => some (.tup xs)
  | _ => none
theorem tups_at {H : Hp} {a : Addr} {xs : List V} (h : H a = some (.tup xs)) : tups H a = some (.tup xs) := by
  unfold tups
  rw [h]
theorem tups_is {H : Hp} {a : Addr} {o : HO} (h : tups H a = some o) : ∃ xs, o = .tup xs ∧ H a = some (.tup xs) := by
  unfold tups at h
  split at h
  · rename_i xs e
    exact ⟨xs, (Option.some.inj h).symm, e⟩
  · cases h
theorem tups_sub (H : Hp) : Same (tups H) H := fun a o h => by
  obtain ⟨xs, rfl, e⟩ := tups_is h
  exact e
def TupKeep (H H' : Hp) : Prop := Same (tups H) (tups H')
theorem TupKeep.refl (H : Hp) : TupKeep H H := Same.refl _
theorem TupKeep.trans {H H1 H2 : Hp} (a : TupKeep H H1) (b : TupKeep H1 H2) : TupKeep H H2 := Same.trans a b
theorem TupKeep.of {H H' : Hp} (h : ∀ a xs, H a = some (.tup xs) → H' a = some (.tup xs)) : TupKeep H H' := fun a o q => by
  obtain ⟨xs, rfl, e⟩ := tups_is q
  exact tups_at (h a xs e)
theorem TupKeep.at {H H' : Hp} (k : TupKeep H H') {a : Addr} {xs : List V} (h : H a = some (.tup xs)) : H' a = some (.tup xs) := tups_sub H' _ _ (k _ _ (tups_at h))
theorem _root_.L2.Same.tk {H H' : Hp} (s : Same H H') : TupKeep H H' := .of fun _ _ h => s _ _ h
theorem tk_upd {H : Hp} {D : Addr} {o : HO} (h : ∀ xs, H D ≠ some (.tup xs)) : TupKeep H (upd H D o) := .of fun a xs q => by
  rw [upd_ne (fun e => h xs (by rw [← e]; exact q))]
  exact q
theorem tk_lst {H : Hp} {D : Addr} {o : HO} {xs : List V} (h : H D = some (.lst xs)) : TupKeep H (upd H D o) := tk_upd fun ys q => by
  rw [h] at q
  cases q
theorem RowAt.tk {H H' : Hp} (k : TupKeep H H') {q : Addr} {r : Row} (h : RowAt H q r) : RowAt H' q r := k.at h
theorem PairAt.tk {H H' : Hp} (k : TupKeep H H') {t : Addr} {e : Row × Int} (h : PairAt H t e) : PairAt H' t e := by
  obtain ⟨q, h1, h2⟩ := h
  exact ⟨q, k.at h1, h2.tk k⟩
section
variable {J : It} {n : Nat} {G : Hp → Prop} {Y : Nat → Hp → V → Hp → Prop} {β : Type}
/-- a comprehension over anything that is walked -/
theorem lc_go (w : Walk J n G Y) (bs : List β) (hn : bs.length = n) (keep : β → Bool) (R : Hp → V → β → Prop) (hR : ∀ H H' v b, TupKeep H H' → R H v b → R H' v b) (Rel : Hp → Prop)
    {g : TG} {tt : TT} {te : TE} {vs : List Nat} {σ : L2.St} {H1 : Hp} {D : Addr} {Qd : Hp → Prop} (h0 : Rel (upd H1 D (.lst []))) (hG : ∀ H, Rel H → G H) (hD : ∀ H acc, Rel H → Rel (upd H D (.lst acc))) (hz : n ≤ 100000)
    (turn : ∀ i x b H H', i < n → bs[i]? = some b → Rel H → (∃ acc, H D = some (.lst acc)) → Y i H x H' → ∀ (Q : VK) (Qn : Hp → Prop), (keep b = true → ∀ v H'', Rel H'' → H'' D = H D → TupKeep H H'' → R H'' v b → Q v H'') →
      (keep b = false → ∀ H'', Rel H'' → H'' D = H D → TupKeep H H'' → Qn H'') → g x (wipe σ vs) H' fun σ2 H2 => wipe σ2 vs = wipe σ vs ∧ tt σ2 H2 fun c H3 => if c = true then te σ2 H3 Q else Qn H3)
    (done : ∀ H acc, Rel H → H D = some (.lst acc) → EachIs (R H) acc (bs.filter keep) → Qd H) :
    ∃ W : Nat → Nat → Hp → Prop, (∃ m, W 0 m (upd H1 D (.lst []))) ∧ ∀ i m H, W i m H →
      (J.stop i H ∧ Qd H) ∨ (J.go i H ∧ ∃ Nx : Hp → Prop, (∀ H', Nx H' → ∃ m', m' < m ∧ W (i + 1) m' H') ∧ ∀ x H', J.yld i H x H' → g x (wipe σ vs) H' fun σ2 H2 => wipe σ2 vs = wipe σ vs ∧ tt σ2 H2 fun b H3 =>
        if b = true then te σ2 H3 fun y H4 => ∃ acc, H4 D = some (.lst acc) ∧ acc.length < sizeLine ∧ Nx (upd H4 D (.lst (acc ++ [y]))) else Nx H3) := by
  refine lc_it w (fun i H => Rel H ∧ ∃ acc, H D = some (.lst acc) ∧ EachIs (R H) acc ((bs.take i).filter keep)) ⟨h0, [], upd_same, by rw [List.take_zero]; exact .nil⟩ (fun i H _ p => hG H p.1) ?_ ?_
  · rintro i x H H' hi ⟨hr, acc, ha, he⟩ y
    obtain ⟨b, hb⟩ : ∃ b, bs[i]? = some b := ⟨_, List.getElem?_eq_getElem (by omega)⟩
    have et : bs.take (i + 1) = bs.take i ++ [b] := by rw [List.take_add_one, hb]; rfl
    refine turn i x b H H' hi hb hr ⟨acc, ha⟩ y _ _ (fun hk v H2 r2 d2 tk rv => ?_) fun hk H2 r2 d2 tk => ?_
    · have hlen : acc.length ≤ i := by
        rw [he.length]
        exact Nat.le_trans (List.length_filter_le ..) (by rw [List.length_take]; exact Nat.min_le_left _ _)
      have hd : H2 D = some (.lst acc) := d2.trans ha
      refine ⟨acc, hd, Nat.lt_of_lt_of_le (show acc.length < 100001 by omega) (by decide), hD _ _ r2, acc ++ [v], upd_same, ?_⟩
      rw [et, List.filter_append, List.filter_cons_of_pos hk]
      have k2 : TupKeep H2 (upd H2 D (.lst (acc ++ [v]))) := tk_lst hd
      exact each_snoc1 (hR _ _ _ _ k2 rv) (he.mono fun v b z => hR _ _ _ _ (tk.trans k2) z)
    · refine ⟨r2, acc, d2.trans ha, ?_⟩
      rw [et, List.filter_append, List.filter_cons_of_neg (by rw [hk]; exact Bool.false_ne_true), List.filter_nil, List.append_nil]
      exact he.mono fun v b z => hR _ _ _ _ tk z
  · rintro H ⟨hr, acc, ha, he⟩
    rw [List.take_of_length_le (by omega)] at he
    exact done H acc hr ha he
/-- the same where all objects of the start are kept -/
theorem lc_same (w : Walk J n G Y) (bs : List β) (hn : bs.length = n) (keep : β → Bool) (R : Hp → V → β → Prop) (hR : ∀ H H' v b, TupKeep H H' → R H v b → R H' v b)
    {g : TG} {tt : TT} {te : TE} {vs : List Nat} {σ : L2.St} {H1 : Hp} {D : Addr} {Qd : Hp → Prop} (hD : H1 D = none) (hG : ∀ H, Same H1 H → G H) (hz : n ≤ 100000)
    (turn : ∀ i x b H H', i < n → bs[i]? = some b → Same H1 H → Y i H x H' → ∀ (Q : VK) (Qn : Hp → Prop), (keep b = true → ∀ v H'', Same H H'' → R H'' v b → Q v H'') → (keep b = false → ∀ H'', Same H H'' → Qn H'') →
      g x (wipe σ vs) H' fun σ2 H2 => wipe σ2 vs = wipe σ vs ∧ tt σ2 H2 fun c H3 => if c = true then te σ2 H3 Q else Qn H3)
    (done : ∀ H acc, Same H1 H → H D = some (.lst acc) → EachIs (R H) acc (bs.filter keep) → Qd H) :
    ∃ W : Nat → Nat → Hp → Prop, (∃ m, W 0 m (upd H1 D (.lst []))) ∧ ∀ i m H, W i m H →
      (J.stop i H ∧ Qd H) ∨ (J.go i H ∧ ∃ Nx : Hp → Prop, (∀ H', Nx H' → ∃ m', m' < m ∧ W (i + 1) m' H') ∧ ∀ x H', J.yld i H x H' → g x (wipe σ vs) H' fun σ2 H2 => wipe σ2 vs = wipe σ vs ∧ tt σ2 H2 fun b H3 =>
        if b = true then te σ2 H3 fun y H4 => ∃ acc, H4 D = some (.lst acc) ∧ acc.length < sizeLine ∧ Nx (upd H4 D (.lst (acc ++ [y]))) else Nx H3) :=
  lc_go w bs hn keep R hR (Same H1) (same_new hD) hG (fun H acc s => same_mut s hD) hz (fun i x b H H' hi hb hr ⟨acc, ha⟩ y Q Qn h1 h2 => turn i x b H H' hi hb hr y Q Qn
    (fun hk v H2 s2 rv => h1 hk v H2 (hr.trans s2) (by rw [ha]; exact s2 _ _ ha) s2.tk rv) fun hk H2 s2 => h2 hk H2 (hr.trans s2) (by rw [ha]; exact s2 _ _ ha) s2.tk) done
end
theorem yes_in {te : TE} {σ : L2.St} {H : Hp} {Q : VK} {Qn : Hp → Prop} (h : te σ H Q) : tYes σ H fun c H3 => if c = true then te σ H3 Q else Qn H3 := by
  show if true = true then te σ H Q else Qn H
  rw [if_pos rfl]
  exact h
theorem filter_true {α : Type} (l : List α) : l.filter (fun _ => true) = l := List.filter_eq_self.mpr fun _ _ => rfl
theorem each_list {α : Type} {R : V → α → Prop} {P : Addr → α → Prop} (h : ∀ v x, R v x → ∃ a, v = V.ref a ∧ P a x) : ∀ {vs : List V} {xs : List α}, EachIs R vs xs → ∃ as : List Addr, vs = as.map V.ref ∧ EachIs P as xs
  | _, _, .nil => ⟨[], rfl, .nil⟩
  | _, _, .cons q t => by
    obtain ⟨a, rfl, p⟩ := h _ _ q
    obtain ⟨as, rfl, ps⟩ := each_list h t
    exact ⟨a :: as, rfl, .cons p ps⟩
theorem each_dps {K : PySem.W.Frag} {H : Hp} {α : Type} {E : α → PyData} : ∀ {vs : List V} {r : List α}, EachIs (fun v x => Dp K H v (E x)) vs r → DpAll K H vs (r.map E)
  | _, _, .nil => .nil
  | _, _, .cons h t => .cons h (each_dps t)
theorem map_at {α : Type} {f : α → V} {r : List α} {i : Nat} {v : V} (h : (r.map f)[i]? = some v) : ∃ x, r[i]? = some x ∧ v = f x := by
  rw [List.getElem?_map] at h
  cases e : r[i]? with
  | none => rw [e] at h; cases h
  | some x => rw [e] at h; exact ⟨x, rfl, (Option.some.inj h).symm⟩
/-- a datum of tuples alone -/
def Tp (K : PySem.W.Frag) (H : Hp) (v : V) (d : PyData) : Prop := Dp K (tups H) v d
theorem Tp.tk {K : PySem.W.Frag} {H H' : Hp} (k : TupKeep H H') {v : V} {d : PyData} (h : Tp K H v d) : Tp K H' v d := Dp.mono k h
theorem Tp.dp {K : PySem.W.Frag} {H : Hp} {v : V} {d : PyData} (h : Tp K H v d) : Dp K H v d := Dp.mono (tups_sub H) h
theorem sq_tups {K : PySem.W.Frag} {H : Hp} {a : Addr} {xs : List V} (h : H a = some (.tup xs)) : SqT K (tups H) a xs := .inl (.inl (tups_at h))
end KA
set_option Elab.async false
set_option linter.all false
set_option maxRecDepth 100000
set_option maxHeartbeats 0
namespace KA
open PySem PySem.Spec PyProof.Rows L2
def top (i : Nat) : Stmt := PySem.Challenge.pw_deltaloom_k02_expressions_and_terms.main.body.getD i (.Pass ⟨0, 0, 0, 0⟩)
abbrev s_wrap : Stmt := top 4
abbrev s_rank : Stmt := top 5
abbrev s_row_rank : Stmt := top 6
abbrev s_make_bag : Stmt := top 8
abbrev s_plus : Stmt := top 9
abbrev s_scaled : Stmt := top 10
abbrev s_rows_of : Stmt := top 11
abbrev s_support : Stmt := top 12
abbrev s_in_postorder : Stmt := top 14
abbrev s_worked_out : Stmt := top 15
abbrev s_evaluate : Stmt := top 17
abbrev s_mapped : Stmt := top 18
abbrev s_number : Stmt := top 19
abbrev s_operands : Stmt := top 20
abbrev s_result : Stmt := top 21
abbrev s_calculated : Stmt := top 22
abbrev s_arithmetic : Stmt := top 23
abbrev s_parts_of : Stmt := top 26
abbrev s_with_parts : Stmt := top 27
abbrev s_names_in : Stmt := top 28
abbrev s_new_form : Stmt := top 29
abbrev s_renewed : Stmt := top 30
abbrev s_value : Stmt := top 31
abbrev s_denoted : Stmt := top 32
abbrev s_altered : Stmt := top 33
abbrev s_grouped : Stmt := top 34
abbrev s_joined : Stmt := top 35
abbrev s_folded : Stmt := top 36
abbrev s_group_result : Stmt := top 37
abbrev s__law_state : Stmt := top 39
abbrev s__law_draw : Stmt := top 40
abbrev s__law_one : Stmt := top 41
abbrev s__law_row : Stmt := top 42
abbrev s__law_key : Stmt := top 43
abbrev s__law_canon : Stmt := top 44
abbrev s__law_bag : Stmt := top 45
abbrev s__law_expr : Stmt := top 46
abbrev s__law_exprs : Stmt := top 47
abbrev s__law_leaf : Stmt := top 48
abbrev s__law_grown : Stmt := top 49
abbrev s__law_term : Stmt := top 50
abbrev s__law_wrapped : Stmt := top 51
abbrev s__law_number : Stmt := top 52
abbrev s__law_of : Stmt := top 53
abbrev s__law_rowed : Stmt := top 54
abbrev s__law_added : Stmt := top 55
abbrev s__law_folded : Stmt := top 56
abbrev s__law_below : Stmt := top 57
abbrev s__law_named : Stmt := top 58
abbrev s__law_value : Stmt := top 59
abbrev s__law_names : Stmt := top 60
abbrev s__law_new : Stmt := top 61
abbrev s_law : Stmt := top 62
theorem sc_wrap : FnScope ["n"] ["n"] (defScope s_wrap) := ⟨rfl, rfl, rfl, by decide +kernel, rfl, by decide +kernel, by decide +kernel⟩
theorem sc_rank : FnScope ["value"] ["value"] (defScope s_rank) := ⟨rfl, rfl, rfl, by decide +kernel, rfl, by decide +kernel, by decide +kernel⟩
theorem sc_row_rank : FnScope ["row", "value"] ["row"] (defScope s_row_rank) := ⟨rfl, rfl, rfl, by decide +kernel, rfl, by decide +kernel, by decide +kernel⟩
theorem sc_make_bag : FnScope ["pairs", "counts", "row", "count", "rows"] ["pairs"] (defScope s_make_bag) := ⟨rfl, rfl, rfl, by decide +kernel, rfl, by decide +kernel, by decide +kernel⟩
theorem sc_plus : FnScope ["first", "second"] ["first", "second"] (defScope s_plus) := ⟨rfl, rfl, rfl, by decide +kernel, rfl, by decide +kernel, by decide +kernel⟩
theorem sc_scaled : FnScope ["bag", "factor", "row", "count"] ["bag", "factor"] (defScope s_scaled) := ⟨rfl, rfl, rfl, by decide +kernel, rfl, by decide +kernel, by decide +kernel⟩
theorem sc_rows_of : FnScope ["bag", "row", "count"] ["bag"] (defScope s_rows_of) := ⟨rfl, rfl, rfl, by decide +kernel, rfl, by decide +kernel, by decide +kernel⟩
theorem sc_support : FnScope ["bag", "row"] ["bag"] (defScope s_support) := ⟨rfl, rfl, rfl, by decide +kernel, rfl, by decide +kernel, by decide +kernel⟩
theorem sc_in_postorder : FnScope ["tree", "parts_of", "found", "waiting", "part"] ["tree", "parts_of"] (defScope s_in_postorder) := ⟨rfl, rfl, rfl, by decide +kernel, rfl, by decide +kernel, by decide +kernel⟩
theorem sc_worked_out : FnScope ["tree", "parts_of", "result_of", "results", "part", "first"] ["tree", "parts_of", "result_of"] (defScope s_worked_out) := ⟨rfl, rfl, rfl, by decide +kernel, rfl, by decide +kernel, by decide +kernel⟩
theorem sc_evaluate : FnScope ["e", "row"] ["e", "row"] (defScope s_evaluate) := ⟨rfl, rfl, rfl, by decide +kernel, rfl, by decide +kernel, by decide +kernel⟩
theorem sc_mapped : FnScope ["exprs", "row", "e"] ["exprs", "row"] (defScope s_mapped) := ⟨rfl, rfl, rfl, by decide +kernel, rfl, by decide +kernel, by decide +kernel⟩
theorem sc_number : FnScope ["value"] ["value"] (defScope s_number) := ⟨rfl, rfl, rfl, by decide +kernel, rfl, by decide +kernel, by decide +kernel⟩
theorem sc_operands : FnScope ["e"] ["e"] (defScope s_operands) := ⟨rfl, rfl, rfl, by decide +kernel, rfl, by decide +kernel, by decide +kernel⟩
theorem sc_result : FnScope ["e", "values", "row"] ["e", "values", "row"] (defScope s_result) := ⟨rfl, rfl, rfl, by decide +kernel, rfl, by decide +kernel, by decide +kernel⟩
theorem sc_calculated : FnScope ["sign", "values", "condition", "first", "second"] ["sign", "values"] (defScope s_calculated) := ⟨rfl, rfl, rfl, by decide +kernel, rfl, by decide +kernel, by decide +kernel⟩
theorem sc_arithmetic : FnScope ["sign", "first", "second"] ["sign", "first", "second"] (defScope s_arithmetic) := ⟨rfl, rfl, rfl, by decide +kernel, rfl, by decide +kernel, by decide +kernel⟩
theorem sc_parts_of : FnScope ["term"] ["term"] (defScope s_parts_of) := ⟨rfl, rfl, rfl, by decide +kernel, rfl, by decide +kernel, by decide +kernel⟩
theorem sc_with_parts : FnScope ["term", "parts", "before", "item"] ["term", "parts"] (defScope s_with_parts) := ⟨rfl, rfl, rfl, by decide +kernel, rfl, by decide +kernel, by decide +kernel⟩
theorem sc_names_in : FnScope ["term", "parts", "part"] ["term"] (defScope s_names_in) := ⟨rfl, rfl, rfl, by decide +kernel, rfl, by decide +kernel, by decide +kernel⟩
theorem sc_new_form : FnScope ["term"] ["term"] (defScope s_new_form) := ⟨rfl, rfl, rfl, by decide +kernel, rfl, by decide +kernel, by decide +kernel⟩
theorem sc_renewed : FnScope ["term", "parts"] ["term", "parts"] (defScope s_renewed) := ⟨rfl, rfl, rfl, by decide +kernel, rfl, by decide +kernel, by decide +kernel⟩
theorem sc_value : FnScope ["term", "olds", "changes"] ["term", "olds", "changes"] (defScope s_value) := ⟨rfl, rfl, rfl, by decide +kernel, rfl, by decide +kernel, by decide +kernel⟩
theorem sc_denoted : FnScope ["term", "bags", "olds", "changes", "kind"] ["term", "bags", "olds", "changes"] (defScope s_denoted) := ⟨rfl, rfl, rfl, by decide +kernel, rfl, by decide +kernel, by decide +kernel⟩
theorem sc_altered : FnScope ["term", "bag", "kind", "row", "count"] ["term", "bag"] (defScope s_altered) := ⟨rfl, rfl, rfl, by decide +kernel, rfl, by decide +kernel, by decide +kernel⟩
theorem sc_grouped : FnScope ["keys", "bag", "groups", "row", "count"] ["keys", "bag"] (defScope s_grouped) := ⟨rfl, rfl, rfl, by decide +kernel, rfl, by decide +kernel, by decide +kernel⟩
theorem sc_joined : FnScope ["lists", "first", "second", "left", "right", "exprs", "partners", "pairs", "row", "count", "other", "times"] ["lists", "first", "second"] (defScope s_joined) := ⟨rfl, rfl, rfl, by decide +kernel, rfl, by decide +kernel, by decide +kernel⟩
theorem sc_folded : FnScope ["keys", "kind", "e", "bag", "groups", "results", "key", "found"] ["keys", "kind", "e", "bag"] (defScope s_folded) := ⟨rfl, rfl, rfl, by decide +kernel, rfl, by decide +kernel, by decide +kernel⟩
theorem sc_group_result : FnScope ["kind", "e", "group", "_", "count", "row", "found"] ["kind", "e", "group"] (defScope s_group_result) := ⟨rfl, rfl, rfl, by decide +kernel, rfl, by decide +kernel, by decide +kernel⟩
theorem sc__law_state : FnScope ["script", "seed", "cell"] ["script"] (defScope s__law_state) := ⟨rfl, rfl, rfl, by decide +kernel, rfl, by decide +kernel, by decide +kernel⟩
theorem sc__law_draw : FnScope ["state", "many", "cells", "k", "amount", "mixed"] ["state", "many"] (defScope s__law_draw) := ⟨rfl, rfl, rfl, by decide +kernel, rfl, by decide +kernel, by decide +kernel⟩
theorem sc__law_one : FnScope ["state", "kind"] ["state"] (defScope s__law_one) := ⟨rfl, rfl, rfl, by decide +kernel, rfl, by decide +kernel, by decide +kernel⟩
theorem sc__law_row : FnScope ["state", "most", "k"] ["state", "most"] (defScope s__law_row) := ⟨rfl, rfl, rfl, by decide +kernel, rfl, by decide +kernel, by decide +kernel⟩
theorem sc__law_key : FnScope ["row", "one"] ["row"] (defScope s__law_key) := ⟨rfl, rfl, rfl, by decide +kernel, rfl, by decide +kernel, by decide +kernel⟩
theorem sc__law_canon : FnScope ["counts", "rows", "row"] ["counts"] (defScope s__law_canon) := ⟨rfl, rfl, rfl, by decide +kernel, rfl, by decide +kernel, by decide +kernel⟩
theorem sc__law_bag : FnScope ["state", "most", "counts", "k", "row"] ["state", "most"] (defScope s__law_bag) := ⟨rfl, rfl, rfl, by decide +kernel, rfl, by decide +kernel, by decide +kernel⟩
theorem sc__law_expr : FnScope ["state", "deep", "kind", "test", "first", "left"] ["state", "deep"] (defScope s__law_expr) := ⟨rfl, rfl, rfl, by decide +kernel, rfl, by decide +kernel, by decide +kernel⟩
theorem sc__law_exprs : FnScope ["state", "k"] ["state"] (defScope s__law_exprs) := ⟨rfl, rfl, rfl, by decide +kernel, rfl, by decide +kernel, by decide +kernel⟩
theorem sc__law_leaf : FnScope ["state", "kinds", "kind"] ["state", "kinds"] (defScope s__law_leaf) := ⟨rfl, rfl, rfl, by decide +kernel, rfl, by decide +kernel, by decide +kernel⟩
theorem sc__law_grown : FnScope ["state", "deep", "kinds", "joins", "kind", "first", "keys", "size", "left", "k", "right"] ["state", "deep", "kinds", "joins"] (defScope s__law_grown) := ⟨rfl, rfl, rfl, by decide +kernel, rfl, by decide +kernel, by decide +kernel⟩
theorem sc__law_term : FnScope ["state", "deep", "kinds"] ["state", "deep", "kinds"] (defScope s__law_term) := ⟨rfl, rfl, rfl, by decide +kernel, rfl, by decide +kernel, by decide +kernel⟩
theorem sc__law_wrapped : FnScope ["n"] ["n"] (defScope s__law_wrapped) := ⟨rfl, rfl, rfl, by decide +kernel, rfl, by decide +kernel, by decide +kernel⟩
theorem sc__law_number : FnScope ["one"] ["one"] (defScope s__law_number) := ⟨rfl, rfl, rfl, by decide +kernel, rfl, by decide +kernel, by decide +kernel⟩
theorem sc__law_of : FnScope ["e", "row", "first", "second"] ["e", "row"] (defScope s__law_of) := ⟨rfl, rfl, rfl, by decide +kernel, rfl, by decide +kernel, by decide +kernel⟩
theorem sc__law_rowed : FnScope ["exprs", "row", "e"] ["exprs", "row"] (defScope s__law_rowed) := ⟨rfl, rfl, rfl, by decide +kernel, rfl, by decide +kernel, by decide +kernel⟩
theorem sc__law_added : FnScope ["counts", "row", "count"] ["counts", "row", "count"] (defScope s__law_added) := ⟨rfl, rfl, rfl, by decide +kernel, rfl, by decide +kernel, by decide +kernel⟩
theorem sc__law_folded : FnScope ["term", "bag", "groups", "row", "count", "counts", "key", "pairs", "had", "total"] ["term", "bag"] (defScope s__law_folded) := ⟨rfl, rfl, rfl, by decide +kernel, rfl, by decide +kernel, by decide +kernel⟩
theorem sc__law_below : FnScope ["term"] ["term"] (defScope s__law_below) := ⟨rfl, rfl, rfl, by decide +kernel, rfl, by decide +kernel, by decide +kernel⟩
theorem sc__law_named : FnScope ["term", "olds", "changes", "counts", "row", "count"] ["term", "olds", "changes"] (defScope s__law_named) := ⟨rfl, rfl, rfl, by decide +kernel, rfl, by decide +kernel, by decide +kernel⟩
theorem sc__law_value : FnScope ["term", "olds", "changes", "bags", "part", "counts", "row", "count", "other", "times"] ["term", "olds", "changes"] (defScope s__law_value) := ⟨rfl, rfl, rfl, by decide +kernel, rfl, by decide +kernel, by decide +kernel⟩
theorem sc__law_names : FnScope ["term", "rows", "part", "name"] ["term"] (defScope s__law_names) := ⟨rfl, rfl, rfl, by decide +kernel, rfl, by decide +kernel, by decide +kernel⟩
theorem sc__law_new : FnScope ["term", "parts", "part"] ["term"] (defScope s__law_new) := ⟨rfl, rfl, rfl, by decide +kernel, rfl, by decide +kernel, by decide +kernel⟩
theorem sc_law : FnScope ["script", "state", "row", "e", "exprs", "olds", "changes", "other", "count", "term", "kept", "simple"] ["script"] (defScope s_law) := ⟨rfl, rfl, rfl, by decide +kernel, rfl, by decide +kernel, by decide +kernel⟩
abbrev FnP (K : PySem.W.Frag) (x : Str) (st : Stmt) (f : Addr) (fd : FuncData) : Prop := FunD K x x (defArgs st) (defBody st) (defScope st) [] [] f fd
def d_wrap : He.DefD := ⟨("wrap", none), "wrap", "wrap", defArgs s_wrap, defBody s_wrap, defScope s_wrap, [], []⟩
def d_rank : He.DefD := ⟨("rank", none), "rank", "rank", defArgs s_rank, defBody s_rank, defScope s_rank, [], []⟩
def d_row_rank : He.DefD := ⟨("row_rank", none), "row_rank", "row_rank", defArgs s_row_rank, defBody s_row_rank, defScope s_row_rank, [], []⟩
def d_make_bag : He.DefD := ⟨("make_bag", none), "make_bag", "make_bag", defArgs s_make_bag, defBody s_make_bag, defScope s_make_bag, [], []⟩
def d_plus : He.DefD := ⟨("plus", none), "plus", "plus", defArgs s_plus, defBody s_plus, defScope s_plus, [], []⟩
def d_scaled : He.DefD := ⟨("scaled", none), "scaled", "scaled", defArgs s_scaled, defBody s_scaled, defScope s_scaled, [], []⟩
def d_rows_of : He.DefD := ⟨("rows_of", none), "rows_of", "rows_of", defArgs s_rows_of, defBody s_rows_of, defScope s_rows_of, [], []⟩
def d_support : He.DefD := ⟨("support", none), "support", "support", defArgs s_support, defBody s_support, defScope s_support, [], []⟩
def d_in_postorder : He.DefD := ⟨("in_postorder", none), "in_postorder", "in_postorder", defArgs s_in_postorder, defBody s_in_postorder, defScope s_in_postorder, [], []⟩
def d_worked_out : He.DefD := ⟨("worked_out", none), "worked_out", "worked_out", defArgs s_worked_out, defBody s_worked_out, defScope s_worked_out, [], []⟩
def d_evaluate : He.DefD := ⟨("evaluate", none), "evaluate", "evaluate", defArgs s_evaluate, defBody s_evaluate, defScope s_evaluate, [], []⟩
def d_mapped : He.DefD := ⟨("mapped", none), "mapped", "mapped", defArgs s_mapped, defBody s_mapped, defScope s_mapped, [], []⟩
def d_number : He.DefD := ⟨("number", none), "number", "number", defArgs s_number, defBody s_number, defScope s_number, [], []⟩
def d_operands : He.DefD := ⟨("operands", none), "operands", "operands", defArgs s_operands, defBody s_operands, defScope s_operands, [], []⟩
def d_result : He.DefD := ⟨("result", none), "result", "result", defArgs s_result, defBody s_result, defScope s_result, [], []⟩
def d_calculated : He.DefD := ⟨("calculated", none), "calculated", "calculated", defArgs s_calculated, defBody s_calculated, defScope s_calculated, [], []⟩
def d_arithmetic : He.DefD := ⟨("arithmetic", none), "arithmetic", "arithmetic", defArgs s_arithmetic, defBody s_arithmetic, defScope s_arithmetic, [], []⟩
def d_parts_of : He.DefD := ⟨("parts_of", none), "parts_of", "parts_of", defArgs s_parts_of, defBody s_parts_of, defScope s_parts_of, [], []⟩
def d_with_parts : He.DefD := ⟨("with_parts", none), "with_parts", "with_parts", defArgs s_with_parts, defBody s_with_parts, defScope s_with_parts, [], []⟩
def d_names_in : He.DefD := ⟨("names_in", none), "names_in", "names_in", defArgs s_names_in, defBody s_names_in, defScope s_names_in, [], []⟩
def d_new_form : He.DefD := ⟨("new_form", none), "new_form", "new_form", defArgs s_new_form, defBody s_new_form, defScope s_new_form, [], []⟩
def d_renewed : He.DefD := ⟨("renewed", none), "renewed", "renewed", defArgs s_renewed, defBody s_renewed, defScope s_renewed, [], []⟩
def d_value : He.DefD := ⟨("value", none), "value", "value", defArgs s_value, defBody s_value, defScope s_value, [], []⟩
def d_denoted : He.DefD := ⟨("denoted", none), "denoted", "denoted", defArgs s_denoted, defBody s_denoted, defScope s_denoted, [], []⟩
def d_altered : He.DefD := ⟨("altered", none), "altered", "altered", defArgs s_altered, defBody s_altered, defScope s_altered, [], []⟩
def d_grouped : He.DefD := ⟨("grouped", none), "grouped", "grouped", defArgs s_grouped, defBody s_grouped, defScope s_grouped, [], []⟩
def d_joined : He.DefD := ⟨("joined", none), "joined", "joined", defArgs s_joined, defBody s_joined, defScope s_joined, [], []⟩
def d_folded : He.DefD := ⟨("folded", none), "folded", "folded", defArgs s_folded, defBody s_folded, defScope s_folded, [], []⟩
def d_group_result : He.DefD := ⟨("group_result", none), "group_result", "group_result", defArgs s_group_result, defBody s_group_result, defScope s_group_result, [], []⟩
def d__law_state : He.DefD := ⟨("_law_state", none), "_law_state", "_law_state", defArgs s__law_state, defBody s__law_state, defScope s__law_state, [], []⟩
def d__law_draw : He.DefD := ⟨("_law_draw", none), "_law_draw", "_law_draw", defArgs s__law_draw, defBody s__law_draw, defScope s__law_draw, [], []⟩
def d__law_one : He.DefD := ⟨("_law_one", none), "_law_one", "_law_one", defArgs s__law_one, defBody s__law_one, defScope s__law_one, [], []⟩
def d__law_row : He.DefD := ⟨("_law_row", none), "_law_row", "_law_row", defArgs s__law_row, defBody s__law_row, defScope s__law_row, [], []⟩
def d__law_key : He.DefD := ⟨("_law_key", none), "_law_key", "_law_key", defArgs s__law_key, defBody s__law_key, defScope s__law_key, [], []⟩
def d__law_canon : He.DefD := ⟨("_law_canon", none), "_law_canon", "_law_canon", defArgs s__law_canon, defBody s__law_canon, defScope s__law_canon, [], []⟩
def d__law_bag : He.DefD := ⟨("_law_bag", none), "_law_bag", "_law_bag", defArgs s__law_bag, defBody s__law_bag, defScope s__law_bag, [], []⟩
def d__law_expr : He.DefD := ⟨("_law_expr", none), "_law_expr", "_law_expr", defArgs s__law_expr, defBody s__law_expr, defScope s__law_expr, [], []⟩
def d__law_exprs : He.DefD := ⟨("_law_exprs", none), "_law_exprs", "_law_exprs", defArgs s__law_exprs, defBody s__law_exprs, defScope s__law_exprs, [], []⟩
def d__law_leaf : He.DefD := ⟨("_law_leaf", none), "_law_leaf", "_law_leaf", defArgs s__law_leaf, defBody s__law_leaf, defScope s__law_leaf, [], []⟩
def d__law_grown : He.DefD := ⟨("_law_grown", none), "_law_grown", "_law_grown", defArgs s__law_grown, defBody s__law_grown, defScope s__law_grown, [], []⟩
def d__law_term : He.DefD := ⟨("_law_term", none), "_law_term", "_law_term", defArgs s__law_term, defBody s__law_term, defScope s__law_term, [], []⟩
def d__law_wrapped : He.DefD := ⟨("_law_wrapped", none), "_law_wrapped", "_law_wrapped", defArgs s__law_wrapped, defBody s__law_wrapped, defScope s__law_wrapped, [], []⟩
def d__law_number : He.DefD := ⟨("_law_number", none), "_law_number", "_law_number", defArgs s__law_number, defBody s__law_number, defScope s__law_number, [], []⟩
def d__law_of : He.DefD := ⟨("_law_of", none), "_law_of", "_law_of", defArgs s__law_of, defBody s__law_of, defScope s__law_of, [], []⟩
def d__law_rowed : He.DefD := ⟨("_law_rowed", none), "_law_rowed", "_law_rowed", defArgs s__law_rowed, defBody s__law_rowed, defScope s__law_rowed, [], []⟩
def d__law_added : He.DefD := ⟨("_law_added", none), "_law_added", "_law_added", defArgs s__law_added, defBody s__law_added, defScope s__law_added, [], []⟩
def d__law_folded : He.DefD := ⟨("_law_folded", none), "_law_folded", "_law_folded", defArgs s__law_folded, defBody s__law_folded, defScope s__law_folded, [], []⟩
def d__law_below : He.DefD := ⟨("_law_below", none), "_law_below", "_law_below", defArgs s__law_below, defBody s__law_below, defScope s__law_below, [], []⟩
def d__law_named : He.DefD := ⟨("_law_named", none), "_law_named", "_law_named", defArgs s__law_named, defBody s__law_named, defScope s__law_named, [], []⟩
def d__law_value : He.DefD := ⟨("_law_value", none), "_law_value", "_law_value", defArgs s__law_value, defBody s__law_value, defScope s__law_value, [], []⟩
def d__law_names : He.DefD := ⟨("_law_names", none), "_law_names", "_law_names", defArgs s__law_names, defBody s__law_names, defScope s__law_names, [], []⟩
def d__law_new : He.DefD := ⟨("_law_new", none), "_law_new", "_law_new", defArgs s__law_new, defBody s__law_new, defScope s__law_new, [], []⟩
def d_law : He.DefD := ⟨("law", none), "law", "law", defArgs s_law, defBody s_law, defScope s_law, [], []⟩
def fn : List He.DefD := ([d_wrap, d_rank, d_row_rank, d_make_bag, d_plus, d_scaled, d_rows_of, d_support, d_in_postorder, d_worked_out, d_evaluate, d_mapped, d_number, d_operands, d_result, d_calculated, d_arithmetic, d_parts_of, d_with_parts, d_names_in, d_new_form, d_renewed, d_value, d_denoted, d_altered] : List He.DefD) ++ ([d_grouped, d_joined, d_folded, d_group_result, d__law_state, d__law_draw, d__law_one, d__law_row, d__law_key, d__law_canon, d__law_bag, d__law_expr, d__law_exprs, d__law_leaf, d__law_grown, d__law_term, d__law_wrapped, d__law_number, d__law_of, d__law_rowed, d__law_added, d__law_folded, d__law_below, d__law_named, d__law_value] : List He.DefD) ++ ([d__law_names, d__law_new, d_law] : List He.DefD)
def fa : List He.Fa := ([.glo "wrap", .glo "rank", .glo "row_rank", .glo "make_bag", .glo "plus", .glo "scaled", .glo "rows_of", .glo "support", .glo "in_postorder", .glo "worked_out", .glo "evaluate", .glo "mapped", .glo "number", .glo "operands", .glo "result", .glo "calculated", .glo "arithmetic", .glo "parts_of", .glo "with_parts", .glo "names_in", .glo "new_form", .glo "renewed", .glo "value", .glo "denoted", .glo "altered"] : List He.Fa) ++ ([.glo "grouped", .glo "joined", .glo "folded", .glo "group_result", .glo "_law_state", .glo "_law_draw", .glo "_law_one", .glo "_law_row", .glo "_law_key", .glo "_law_canon", .glo "_law_bag", .glo "_law_expr", .glo "_law_exprs", .glo "_law_leaf", .glo "_law_grown", .glo "_law_term", .glo "_law_wrapped", .glo "_law_number", .glo "_law_of", .glo "_law_rowed", .glo "_law_added", .glo "_law_folded", .glo "_law_below", .glo "_law_named", .glo "_law_value"] : List He.Fa) ++ ([.glo "_law_names", .glo "_law_new", .glo "law", .int "SPAN" (4294967296), .int "LOWEST" (-2147483648), .int "LONGEST_TEXT" (40), .free "len", .free "range", .free "int", .free "abs", .free "isinstance", .free "tuple", .free "sorted", .free "repr", .free "list", .free "str", .free "sum", .free "bool"] : List He.Fa)
end KA
set_option Elab.async false
set_option linter.all false
set_option maxRecDepth 100000
set_option maxHeartbeats 4000000
/-! wrap, rank, row_rank, _law_key -/
namespace KA
open PySem PySem.Spec PyProof.Rows L2
open PySem.W (EachIs)
section
variable {P : Program} {w : World} {K : PySem.W.Frag} {mg : Str → Option Value} {base : Heap} {f : Addr} {fd : FuncData}
def wrapZ (n : Int) : Int := (n - (-2147483648)) % 4294967296 + (-2147483648)
def spWrap : Sp := fun vs H Q _ => ∃ n : Int, vs = [.int n] ∧ Q (.int (wrapZ n)) H
theorem ok_wrap (F : FnP K "wrap" s_wrap f fd) {tS tL : Tok} (gS : mg "SPAN" = some (.int 4294967296 tS)) (gL : mg "LOWEST" = some (.int (-2147483648) tL)) : FnOk P w K mg base CX0 1 f fd ["n"] spWrap := by
  refine F.ok sc_wrap (fun vs H Q E h => ?_) (fun cdv A outer s H vs Q E hr h => ?_)
  · obtain ⟨n, rfl, _⟩ := h
    rfl
  · obtain ⟨n, rfl, q⟩ := h
    refine ⟨_, PSs.nox (pss_one (ps_ret (pe_op op_add (pe_op op_mod (pe_op op_sub (pv 0) (pe_glob (v := .int (-2147483648)) rfl gL ⟨_, rfl⟩)) (pe_glob (v := .int 4294967296) rfl gS ⟨_, rfl⟩)) (pe_glob (v := .int (-2147483648)) rfl gL ⟨_, rfl⟩)))), ?_⟩
    exact ⟨_, rfl, _, _, rfl, rfl, _, _, rfl, rfl, by show (0 : Int) < 4294967296; decide, _, _, rfl, rfl, q⟩
def spRank (K : PySem.W.Frag) : Sp := fun vs H Q _ => ∃ x : Key, vs = [kV x] ∧ ∀ v H', Same H H' → Tp K H' v (rankD x) → Q v H'
theorem ok_rank (F : FnP K "rank" s_rank f fd) (gI : mg "isinstance" = none) (gS : mg "str" = none) : FnOk P w K mg base CX0 1 f fd ["value"] (spRank K) := by
  refine F.ok sc_rank (fun vs H Q E h => ?_) (fun cdv A outer s H vs Q E hr h => ?_)
  · obtain ⟨n, rfl, _⟩ := h
    rfl
  · obtain ⟨x, rfl, q⟩ := h
    refine ⟨_, PSs.nox (pss_cons (ps_if (pt_val (pe_callB call_isi (by rfl) gI (by decide +kernel) (pa_cons (pv 0) (pa_cons (pe_bltn (v := .ty "str") (by rfl) gS (by decide +kernel) rfl) pa_nil)))) (pss_one (ps_ret (pe_tup (pa_cons pe_int (pa_cons (pv 0) pa_nil))))) pss_nil)
      (pss_one (ps_ret (pe_tup (pa_cons pe_int (pa_cons (pv 0) pa_nil)))))), ?_⟩
    cases x with
    | inl i =>
      refine ⟨_, rfl, _, _, .type "int", .type "str", false, rfl, .ty "str", .base (.int i), kit_ty (by decide +kernel), _, rfl, iteF ?_⟩
      exact ⟨_, rfl, (by show 2 ≤ sizeLine; decide), fun p hp => q _ _ (same_new hp) (.tup (sq_tups upd_same) (.cons (.int _) (.cons (.int _) .nil)))⟩
    | inr z =>
      refine ⟨_, rfl, _, _, .type "str", .type "str", true, rfl, .ty "str", .base (.str z), kit_ty (by decide +kernel), _, rfl, iteT ?_⟩
      exact ⟨_, rfl, (by show 2 ≤ sizeLine; decide), fun p hp => q _ _ (same_new hp) (.tup (sq_tups upd_same) (.cons (.int _) (.cons (.str _) .nil)))⟩
theorem ok_row_rank (F : FnP K "row_rank" s_row_rank f fd) (gT : mg "tuple" = none) (C : Cal P w K mg base "rank" 1 ["value"] (spRank K)) : FnOk P w K mg base CX0 2 f fd ["row"] (spKey K rankRow) := by
  refine F.ok sc_row_rank (fun vs H Q E h => ?_) (fun cdv A outer s H vs Q E hr h => ?_)
  · obtain ⟨n, r, rfl, _⟩ := h
    rfl
  · obtain ⟨a, r, rfl, hq, hl, q⟩ := h
    refine ⟨_, PSs.nox (pss_one (ps_ret (pe_callTy call_tuple_of (by rfl) gT (by decide +kernel) (pa_cons (pe_lc (own := [("value", 1)]) (g := gName 1) (tt := tYes) (by rfl) sc_row_rank.nd (pi_tup (pv 0))
      (blkOk_by (own := [("value", 1)]) (N := ["row", "value"]) (sc := defScope s_row_rank) (by decide +kernel)) (fun _ _ _ _ _ => pg_name (i := 1) sc_row_rank.nd rfl (Or.inl rfl)) (fun _ _ _ _ _ => pts_nil)
      (fun _ _ _ _ _ => pe_cal C hr (pa_cons (pv 1) pa_nil))) pa_nil)))), ?_⟩
    refine ⟨_, rfl, a, rfl, ⟨_, hq.sq⟩, fun D hD => ?_⟩
    refine lc_same (walk_tup (xs := r.map kV)) r (by rw [List.length_map]) (fun _ => true) (fun H v x => Tp K H v (rankD x)) (fun _ _ _ _ k z => Tp.tk k z) hD (fun H' s' => (hq.mono s').sq) (by rw [List.length_map]; omega) ?_ ?_
    · rintro i x b H1 _ hi hb s1 ⟨rfl, hx⟩ Q' Qn h1 _
      obtain ⟨b', hb', rfl⟩ := map_at hx
      obtain rfl : b = b' := Option.some.inj (hb.symm.trans hb')
      exact ⟨rfl, yes_in ⟨_, rfl, b, rfl, fun v H2 s2 d => h1 rfl v H2 s2 d⟩⟩
    · intro H1 acc s1 ha he
      rw [filter_true] at he
      refine ⟨D, acc, rfl, .inl ⟨sq_l ha, fun p hp => ?_⟩⟩
      have s2 : Same H1 (upd H1 p (.tup acc)) := same_new hp
      exact q _ _ (s1.trans s2) (.tup (sq_t upd_same) (each_dps (he.mono fun v x z => (Tp.tk s2.tk z).dp)))
/-- a row as a tuple, or its items in a list -/
def spLawKey (K : PySem.W.Frag) : Sp := fun vs H Q _ => ∃ (q : Addr) (r : Row), vs = [.ref q] ∧ (RowAt H q r ∨ H q = some (.lst (r.map kV))) ∧ r.length ≤ 1000 ∧ ∀ v H', Same H H' → Dp K H' v (lawRow r) → Q v H'
theorem law_item (x : Key) {H : Hp} {K : PySem.W.Frag} {σ : L2.St} {i : Nat} (hs : σ[i]? = some (some (kV x))) {Q : VK} (h : ∀ v H', Same H H' → Tp K H' v (lawD x) → Q v H') :
    tIf (tB (tCB (rIsi K) (tCons (tVar i) (tCons (tC (V.ty "int")) tNil)))) (tTup (tCons (tC (.int 0)) (tCons (tVar i) (tCons (tC (.str "")) tNil)))) (tTup (tCons (tC (.int 1)) (tCons (tC (.int 0)) (tCons (tVar i) tNil)))) σ H Q := by
  cases x with
  | inl n =>
    refine ⟨_, hs, _, _, .type "int", .type "int", true, rfl, .ty "int", .base (.int n), kit_ty (by decide +kernel), _, rfl, iteT ?_⟩
    exact ⟨_, hs, (by show 3 ≤ sizeLine; decide), fun p hp => h _ _ (same_new hp) (.tup (sq_tups upd_same) (.cons (.int _) (.cons (.int _) (.cons (.str _) .nil))))⟩
  | inr z =>
    refine ⟨_, hs, _, _, .type "str", .type "int", false, rfl, .ty "int", .base (.str z), kit_ty (by decide +kernel), _, rfl, iteF ?_⟩
    exact ⟨_, hs, (by show 3 ≤ sizeLine; decide), fun p hp => h _ _ (same_new hp) (.tup (sq_tups upd_same) (.cons (.int _) (.cons (.int _) (.cons (.str _) .nil))))⟩
theorem ok_law_key (F : FnP K "_law_key" s__law_key f fd) (gI : mg "isinstance" = none) (gN : mg "int" = none) : FnOk P w K mg base CX0 1 f fd ["row"] (spLawKey K) := by
  refine F.ok sc__law_key (fun vs H Q E h => ?_) (fun cdv A outer s H vs Q E hr h => ?_)
  · obtain ⟨n, r, rfl, _⟩ := h
    rfl
  · obtain ⟨a, r, rfl, hq, hl, q⟩ := h
    have fin : ∀ H1 D acc, Same H H1 → H1 D = some (.lst acc) → EachIs (fun v x => Tp K H1 v (lawD x)) acc (r.filter fun _ => true) → Q (.ref D) H1 := fun H1 D acc s1 ha he => by
      rw [filter_true] at he
      exact q _ _ s1 (.lst (sq_l ha) (each_dps (he.mono fun v x z => z.dp)))
    rcases hq with hq | hq
    · refine ⟨_, PSs.nox (pss_one (ps_ret (pe_lc (own := [("one", 1)]) (g := gName 1) (tt := tYes) (by rfl) sc__law_key.nd (pi_tup (pv 0))
        (blkOk_by (own := [("one", 1)]) (N := ["row", "one"]) (sc := defScope s__law_key) (by decide +kernel)) (fun _ _ _ _ _ => pg_name (i := 1) sc__law_key.nd rfl (Or.inl rfl)) (fun _ _ _ _ _ => pts_nil)
        (fun _ _ _ _ _ => pe_ifExp (pt_val (pe_callB (id := "isinstance") (r := rIsi K) call_isi (by rfl) gI (by decide +kernel) (pa_cons (pv 1) (pa_cons (pe_bltn (v := .ty "int") (by rfl) gN (by decide +kernel) rfl) pa_nil))))
          (pe_tup (pa_cons pe_int (pa_cons (pv 1) (pa_cons pe_str pa_nil)))) (pe_tup (pa_cons pe_int (pa_cons pe_int (pa_cons (pv 1) pa_nil)))))))), ?_⟩
      refine ⟨_, rfl, a, rfl, ⟨_, hq.sq⟩, fun D hD => ?_⟩
      refine lc_same (walk_tup (xs := r.map kV)) r (by rw [List.length_map]) (fun _ => true) (fun H v x => Tp K H v (lawD x)) (fun _ _ _ _ k z => Tp.tk k z) hD (fun H' s' => (hq.mono s').sq) (by rw [List.length_map]; omega) ?_ (fun H1 acc s1 ha he => fin H1 D acc s1 ha he)
      rintro i x b H1 _ hi hb s1 ⟨rfl, hx⟩ Q' Qn h1 _
      obtain ⟨b', hb', rfl⟩ := map_at hx
      obtain rfl : b = b' := Option.some.inj (hb.symm.trans hb')
      exact ⟨rfl, yes_in (law_item b rfl fun v H2 s2 d => h1 rfl v H2 s2 d)⟩
    · refine ⟨_, PSs.nox (pss_one (ps_ret (pe_lc (own := [("one", 1)]) (g := gName 1) (tt := tYes) (by rfl) sc__law_key.nd (pi_list (pv 0))
        (blkOk_by (own := [("one", 1)]) (N := ["row", "one"]) (sc := defScope s__law_key) (by decide +kernel)) (fun _ _ _ _ _ => pg_name (i := 1) sc__law_key.nd rfl (Or.inl rfl)) (fun _ _ _ _ _ => pts_nil)
        (fun _ _ _ _ _ => pe_ifExp (pt_val (pe_callB (id := "isinstance") (r := rIsi K) call_isi (by rfl) gI (by decide +kernel) (pa_cons (pv 1) (pa_cons (pe_bltn (v := .ty "int") (by rfl) gN (by decide +kernel) rfl) pa_nil))))
          (pe_tup (pa_cons pe_int (pa_cons (pv 1) (pa_cons pe_str pa_nil)))) (pe_tup (pa_cons pe_int (pa_cons pe_int (pa_cons (pv 1) pa_nil)))))))), ?_⟩
      refine ⟨_, rfl, a, rfl, ⟨_, sq_l hq⟩, fun D hD => ?_⟩
      refine lc_same (walk_list (xs := r.map kV)) r (by rw [List.length_map]) (fun _ => true) (fun H v x => Tp K H v (lawD x)) (fun _ _ _ _ k z => Tp.tk k z) hD (fun H' s' => sq_l (s' _ _ hq)) (by rw [List.length_map]; omega) ?_ (fun H1 acc s1 ha he => fin H1 D acc s1 ha he)
      rintro i x b H1 _ hi hb s1 ⟨rfl, hx⟩ Q' Qn h1 _
      obtain ⟨b', hb', rfl⟩ := map_at hx
      obtain rfl : b = b' := Option.some.inj (hb.symm.trans hb')
      exact ⟨rfl, yes_in (law_item b rfl fun v H2 s2 d => h1 rfl v H2 s2 d)⟩
end
end KA
set_option Elab.async false
set_option linter.all false
set_option maxRecDepth 100000
set_option maxHeartbeats 4000000
/-! scaled, rows_of, support, count_of -/
namespace KA
open PySem PySem.Spec PyProof.Rows L2
open PySem.W (EachIs)
/-- the pairs of a bag, as a comprehension or a loop meets them -/
theorem each_get {α β : Type} {R : α → β → Prop} : ∀ {as : List α} {bs : List β} {i : Nat} {x : α} {y : β}, EachIs R as bs → as[i]? = some x → bs[i]? = some y → R x y
  | _, _, _, _, _, .nil, h, _ => by simp at h
  | _, _, 0, _, _, .cons q t, h, g => by
    simp at h g
    subst h g
    exact q
  | _, _, i + 1, x, y, .cons q t, h, g => each_get (i := i) t (by simpa using h) (by simpa using g)
theorem ref_at {as : List Addr} {i : Nat} {v : V} (h : (as.map V.ref)[i]? = some v) : ∃ a, as[i]? = some a ∧ v = .ref a := map_at h
theorem each_map_r {α β γ : Type} {R : α → γ → Prop} (f : β → γ) : ∀ {as : List α} {bs : List β}, EachIs (fun a b => R a (f b)) as bs → EachIs R as (bs.map f)
  | _, _, .nil => .nil
  | _, _, .cons h t => .cons h (each_map_r f t)
abbrev gP2 (K : PySem.W.Frag) (i j : Nat) : TG := gTup K 2 (gCons (gName i) (gCons (gName j) gNil))
theorem gp2 {K : PySem.W.Frag} {i j : Nat} {t : Addr} {x y : V} {σ : L2.St} {H : Hp} {Q : L2.St → Hp → Prop} (hp : H t = some (.tup [x, y])) (h : Q ((σ.set i (some x)).set j (some y)) H) : gP2 K i j (.ref t) σ H Q :=
  ⟨t, _, rfl, sq_t hp, rfl, _, _, rfl, _, _, rfl, rfl, h⟩
theorem if_in {te : TE} {tt : TT} {c : Bool} {σ : L2.St} {H : Hp} {Q : VK} {Qn : Hp → Prop} (ht : ∀ Q : Bool → Hp → Prop, Q c H → tt σ H Q) (h1 : c = true → te σ H Q) (h2 : c = false → Qn H) : tt σ H fun c H3 => if c = true then te σ H3 Q else Qn H3 := by
  refine ht _ ?_
  cases c with
  | true => rw [if_pos rfl]; exact h1 rfl
  | false => rw [if_neg Bool.false_ne_true]; exact h2 rfl
section
variable {P : Program} {w : World} {K : PySem.W.Frag} {mg : Str → Option Value} {base : Heap} {f : Addr} {fd : FuncData}
def BdB (n : Nat) (b : Bag) : Prop := ∀ e ∈ b, e.2.natAbs ≤ n
theorem BdB.mono {n m : Nat} {b : Bag} (h : BdB n b) (hn : n ≤ m) : BdB m b := fun e he => Nat.le_trans (h e he) hn
/-- a pair made on the spot stands for an entry -/
theorem pair_new {H : Hp} {p q : Addr} {r : Row} {c : Int} (hp : H p = none) (hq : RowAt H q r) : PairAt (upd H p (.tup [.ref q, .int c])) p (r, c) := ⟨q, upd_same, hq.mono (same_new hp)⟩
def spScaled : Sp := fun vs H Q _ => ∃ (p : Addr) (b : Bag) (m : Int), vs = [.ref p, .int m] ∧ BagAt H p b ∧ b.length ≤ 1000 ∧ BdB (2 ^ 60) b ∧ ∀ q H', Same H H' → BagAt H' q (scaleB b m) → Q (.ref q) H'
def spRowsOf : Sp := fun vs H Q _ => ∃ (p : Addr) (b : Bag), vs = [.ref p] ∧ BagAt H p b ∧ b.length ≤ 1000 ∧ ∀ q H', Same H H' → RowsAt H' q (posRows b) → Q (.ref q) H'
/-- a list of rows gives the list of pairs of each row and 1 -/
def spSupport : Sp := fun vs H Q _ => ∃ (p : Addr) (b : Bag), vs = [.ref p] ∧ BagAt H p b ∧ b.length ≤ 1000 ∧ ∀ q H', Same H H' → BagAt H' q (onesB (posRows b)) → Q (.ref q) H'
def spCountOf : Sp := fun vs H Q _ => ∃ (p t : Addr) (b : Bag) (r : Row), vs = [.ref p, .ref t] ∧ BagAt H p b ∧ RowAt H t r ∧ b.length ≤ 1000 ∧ Q (.int (cntB b r)) H
theorem row_plain (r : Row) : (rowD r).plain = true := by
  show PyData.plainAll (r.map keyD) = true
  exact plain_map (fun x => by cases x <;> rfl) r
theorem row_depth (r : Row) : (rowD r).depth ≤ 3 := by
  have h := depth_map (enc := keyD) (fun x => by cases x <;> simp [keyD, PyData.depth]) r
  simp only [rowD, PyData.depth]
  omega
theorem eqv_rows : ∀ a b : Row, PyData.eqvAll (a.map keyD) (b.map keyD) = decide (a = b)
  | [], [] => by simp [PyData.eqvAll]
  | [], _ :: _ => by simp [PyData.eqvAll]
  | _ :: _, [] => by simp [PyData.eqvAll]
  | x :: a, y :: b => by
    rw [List.map_cons, List.map_cons, PySem.W.eqv_all_cons, eqv_key, eqv_rows a b]
    by_cases h : x = y
    · by_cases h2 : a = b <;> simp [h, h2]
    · simp [h]
theorem eqv_row (a b : Row) : PyData.eqv (rowD a) (rowD b) = decide (a = b) := by
  simp only [rowD, PyData.eqv]
  exact eqv_rows a b
theorem cntB_cons (e : Row × Int) (b : Bag) (r : Row) : cntB (e :: b) r = if e.1 = r then e.2 else cntB b r := by
  unfold cntB
  by_cases h : e.1 = r <;> simp [List.find?_cons, h]
theorem cnt_drop {b : Bag} {i : Nat} {e : Row × Int} (h : b[i]? = some e) (r : Row) : cntB (b.drop i) r = if e.1 = r then e.2 else cntB (b.drop (i + 1)) r := by
  obtain ⟨hi, he⟩ := List.getElem?_eq_some_iff.mp h
  rw [List.drop_eq_getElem_cons hi, he, cntB_cons]
end
end KA
set_option Elab.async false
set_option linter.all false
set_option maxRecDepth 100000
set_option maxHeartbeats 4000000
/-! _law_counts, make_bag, _law_canon, plus, minus, set_bag -/
namespace KA
open PySem PySem.Spec PyProof.Rows L2
open PySem.W (EachIs)
theorem tally_snoc (ps : Bag) (e : Row × Int) : tally (ps ++ [e]) = putI (tally ps) e.1 ((valI (tally ps) e.1).getD 0 + e.2) := by
  unfold tally
  rw [List.foldl_append]
  rfl
theorem bag_take {b : Bag} {i : Nat} {e : Row × Int} (h : b[i]? = some e) : b.take (i + 1) = b.take i ++ [e] := by
  rw [List.take_add_one, h]
  rfl
theorem vk_getD (m : Bag) (r : Row) : (valV (vk m) r).getD (.int 0) = .int ((valI m r).getD 0) := by
  rw [vk_val]
  cases valI m r <;> rfl
def tCount : TS := sDPut (tVar 1) (tVar 2) (tOp (rI0 fun i j => .int (i + j)) (tDGet2 (tVar 1) (tVar 2) (tC (.int 0))) (tVar 3))
/-- the loop that fills the dict of counts -/
theorem count_loop {K : PySem.W.Frag} {a d : Addr} {ps : Bag} {H H1 : Hp} (hb : BagAt H a ps) (hl : ps.length ≤ 20000) (s1 : Same H H1) (h0 : H d = none) (h1 : H1 d = some (.dT [])) (rest : L2.St) (u0 v0 : Option V) (D : Ends)
    (done : ∀ u v H', Same H H' → H' d = some (.dT (vk (tally ps))) → D.nx ([some (.ref a), some (.ref d), u, v] ++ rest) H') :
    ∃ W : Nat → Nat → L2.St → Hp → Prop, (∃ m, W 0 m ([some (.ref a), some (.ref d), u0, v0] ++ rest) H1) ∧ ∀ i m σ H, W i m σ H →
      ((Itl K a).stop i H ∧ D.nx σ H) ∨ ((Itl K a).go i H ∧ ∃ N : L2.St → Hp → Prop, (∀ σ' H', N σ' H' → ∃ m', m' < m ∧ W (i + 1) m' σ' H') ∧ ∀ x H', (Itl K a).yld i H x H' → gP2 K 2 3 x σ H' fun σ2 H2 => tCount { D with nx := N, ct := N, bk := D.nx } σ2 H2) := by
  obtain ⟨ts, b1, b2⟩ := id hb
  have hn : ps.length = ts.length := b2.length.symm
  refine for_it (walk_list (xs := ts.map V.ref)) (fun i σ H' => (∃ u v, σ = [some (.ref a), some (.ref d), u, v] ++ rest) ∧ Same H H' ∧ H' d = some (.dT (vk (tally (ps.take i))))) ⟨⟨_, _, rfl⟩, s1, h1⟩ (fun i σ H' _ z => sq_l (z.2.1 _ _ b1)) ?_ ?_
  · rintro i x σ H' _ hi ⟨⟨u, v, rfl⟩, s2, hd⟩ ⟨rfl, hx⟩
    obtain ⟨z, hz, rfl⟩ := ref_at hx
    have hib : i < ps.length := by rw [List.length_map] at hi; omega
    have he : ps[i]? = some ps[i] := List.getElem?_eq_getElem hib
    obtain ⟨qa, p1, p2⟩ := (each_get b2 hz he).mono s2
    refine gp2 p1 ⟨_, rfl, d, rfl, .inr ⟨_, .inl hd⟩, _, rfl, _, DGet.t hd p2, _, rfl, _, _, vk_getD _ _, rfl, ?_⟩
    have hlt : (vk (tally (ps.take i))).length < sizeLine := by
      rw [List.length_map]
      have q := tally_len (ps.take i)
      rw [List.length_take] at q
      exact Nat.lt_of_lt_of_le (show _ < 30000 by omega) (by decide)
    refine ⟨_, rfl, _, rfl, d, _, rfl, DPut.t hd p2 hlt, ⟨_, _, rfl⟩, same_mut s2 h0, ?_⟩
    rw [upd_same, vk_put, bag_take he, tally_snoc]
  · rintro σ H' ⟨⟨u, v, rfl⟩, s2, hd⟩
    rw [List.length_map, List.take_of_length_le (by omega)] at hd
    exact done u v H' s2 hd
section
variable {P : Program} {w : World} {K : PySem.W.Frag} {mg : Str → Option Value} {base : Heap} {f : Addr} {fd : FuncData}
def spCounts : Sp := fun vs H Q _ => ∃ (p : Addr) (b : Bag), vs = [.ref p] ∧ BagAt H p b ∧ b.length ≤ 20000 ∧ ∀ d H', Same H H' → H d = none → H' d = some (.dT (vk (tally b))) → Q (.ref d) H'
/-- the rows whose count is not 0, in a comprehension over the locked dict -/
theorem nz_filter (b : Bag) : ((tally b).filter fun e => decide (e.2 ≠ 0)).map (·.1) = nzRows b := by
  have key : ∀ m : Bag, (∀ e ∈ m, tot b e.1 = e.2) → (m.filter fun e => decide (e.2 ≠ 0)).map (·.1) = (m.map (·.1)).filter fun r => decide (tot b r ≠ 0) := by
    intro m
    induction m with
    | nil => intro _; rfl
    | cons e t ih =>
      intro h
      have he := h e List.mem_cons_self
      rw [List.map_cons]
      by_cases z : e.2 = 0
      · rw [List.filter_cons_of_neg (by simpa using z), List.filter_cons_of_neg (by rw [he]; simpa using z), ih fun x hx => h x (List.mem_cons_of_mem _ hx)]
      · rw [List.filter_cons_of_pos (by simpa using z), List.filter_cons_of_pos (by rw [he]; simpa using z), List.map_cons, ih fun x hx => h x (List.mem_cons_of_mem _ hx)]
  unfold nzRows
  exact key _ fun e he => by rw [← tally_tot, tot_in (tally_nodup b) he]
theorem vk_at {m : Bag} {i : Nat} {k : Row} {v : V} (h : (vk m)[i]? = some (k, v)) : ∃ e, m[i]? = some e ∧ k = e.1 ∧ v = .int e.2 := by
  rw [List.getElem?_map] at h
  cases q : m[i]? with
  | none => rw [q] at h; cases h
  | some e =>
    rw [q] at h
    have h' := Option.some.inj h
    injection h' with h1 h2
    exact ⟨e, rfl, h1.symm, h2.symm⟩
theorem val_in {m : Bag} (hn : (m.map (·.1)).Nodup) {e : Row × Int} (he : e ∈ m) : valV (vk m) e.1 = some (.int e.2) := by
  rw [vk_val]
  have h1 := valI_some he
  have h2 := valI_tot hn e.1
  rw [tot_in hn he] at h2
  cases q : valI m e.1 with
  | none => rw [q] at h1; cases h1
  | some c =>
    rw [q] at h2
    rw [show c = e.2 from h2]
    rfl
/-- what the comprehension over the locked dict makes; si, sr: the slots of the dict and of the row -/
theorem nz_comp {K : PySem.W.Frag} {si sr : Nat} {σ : L2.St} {d : Addr} {od : Obj} {b : Bag} {H : Hp} (hl : b.length ≤ 20000) (hd : H d = some (.frz od (.dT (vk (tally b))))) (hsr : sr < σ.length) (hne : si ≠ sr) (hσ : σ[si]? = some (some (.ref d))) {D : Addr} (hD : H D = none) {Qd : Hp → Prop}
    (done : ∀ H', Same H H' → RowsAt H' D (nzRows b) → Qd H') :
    ∃ W : Nat → Nat → Hp → Prop, (∃ m, W 0 m (upd H D (.lst []))) ∧ ∀ i m H, W i m H →
      ((Itkt d od (vk (tally b))).stop i H ∧ Qd H) ∨ ((Itkt d od (vk (tally b))).go i H ∧ ∃ Nx : Hp → Prop, (∀ H', Nx H' → ∃ m', m' < m ∧ W (i + 1) m' H') ∧ ∀ x H', (Itkt d od (vk (tally b))).yld i H x H' → gName sr x (wipe σ [sr]) H' fun σ2 H2 => wipe σ2 [sr] = wipe σ [sr] ∧
        tTest (tOp rNe (tDGet (tVar si) (tVar sr)) (tC (.int 0))) σ2 H2 fun b H3 => if b = true then tVar sr σ2 H3 fun y H4 => ∃ acc, H4 D = some (.lst acc) ∧ acc.length < sizeLine ∧ Nx (upd H4 D (.lst (acc ++ [y]))) else Nx H3) := by
  have hlen : (tally b).length ≤ 20000 := Nat.le_trans (tally_len b) hl
  refine lc_same walk_keysT (tally b) (by rw [List.length_map]) (fun e => decide (e.2 ≠ 0)) (fun H v e => ∃ t, v = .ref t ∧ RowAt H t e.1) (fun _ _ _ _ k ⟨t, e, z⟩ => ⟨t, e, z.tk k⟩) hD (fun H' s' => s' _ _ hd) (by rw [List.length_map]; omega) ?_ ?_
  · rintro i x e H1 _ hi he s1 ⟨rfl, k, v, t, hk, rfl, ht⟩ Q' Qn k1 k2
    obtain ⟨e', he', rfl, rfl⟩ := vk_at hk
    obtain rfl : e = e' := Option.some.inj (he.symm.trans he')
    have hd1 := s1 _ _ hd
    have w1 : wipe ((wipe σ [sr]).set sr (some (.ref t))) [sr] = wipe σ [sr] := by
      show (((σ.set sr none).set sr (some (.ref t))).set sr none) = σ.set sr none
      rw [List.set_set, List.set_set]
    have g1 : ((wipe σ [sr]).set sr (some (.ref t)))[si]? = some (some (.ref d)) := by
      show ((σ.set sr none).set sr (some (.ref t)))[si]? = _
      rw [List.getElem?_set_ne (fun z => hne z.symm), List.getElem?_set_ne (fun z => hne z.symm)]
      exact hσ
    have g2 : ((wipe σ [sr]).set sr (some (.ref t)))[sr]? = some (some (.ref t)) := by
      show ((σ.set sr none).set sr (some (.ref t)))[sr]? = _
      rw [List.getElem?_set_self (by rw [List.length_set]; exact hsr)]
    have hv := val_in (tally_nodup b) (List.mem_of_getElem? he)
    refine ⟨w1, if_in (c := decide (e.2 ≠ 0)) (fun Q z => ⟨_, g1, _, g2, d, .int e.2, rfl, .inr ⟨_, e.1, t, .inr ⟨_, hd1⟩, rfl, ht, hv.symm⟩, rfl, _, rfl, ?_⟩) (fun hc => ⟨_, g2, k1 hc _ _ (Same.refl _) ⟨t, rfl, ht⟩⟩) fun hc => k2 hc _ (Same.refl _)⟩
    have e2 : (!decide (V.int e.2 = V.int 0)) = decide (e.2 ≠ 0) := by
      by_cases z : e.2 = 0 <;> simp [z]
    rw [e2]
    exact z
  · intro H1 acc s1 ha he
    obtain ⟨as, rfl, hp⟩ := each_list (P := fun t (e : Row × Int) => RowAt H1 t e.1) (fun v e z => z) he
    refine done H1 s1 ⟨as, ha, ?_⟩
    rw [← nz_filter]
    exact each_map_r (R := RowAt H1) (fun e : Row × Int => e.1) hp
end
end KA
set_option Elab.async false
set_option linter.all false
set_option maxRecDepth 100000
set_option maxHeartbeats 4000000
/-! make_bag, _law_canon, plus, minus, set_bag -/
namespace KA
open PySem PySem.Spec PyProof.Rows L2
open PySem.W (EachIs)
theorem mem_sorted {l : List Row} {r : Row} (h : r ∈ sortRows l) : r ∈ l := (sortRows_perm l).mem_iff.mp h
theorem nz_in {b : Bag} {r : Row} (h : r ∈ nzRows b) : ∃ e ∈ tally b, e.1 = r ∧ e.2 = tot b r := by
  unfold nzRows at h
  obtain ⟨h1, h2⟩ := List.mem_filter.mp h
  obtain ⟨e, he, rfl⟩ := List.mem_map.mp h1
  exact ⟨e, he, rfl, by rw [← tot_in (tally_nodup b) he, tally_tot]⟩
theorem tally_rows {b : Bag} {e : Row × Int} (h : e ∈ tally b) : ∃ e' ∈ b, e'.1 = e.1 := by
  have key : ∀ (ps m : Bag) (r : Row), r ∈ (ps.foldl (fun m e => putI m e.1 ((valI m e.1).getD 0 + e.2)) m).map (·.1) → r ∈ m.map (·.1) ∨ r ∈ ps.map (·.1) := by
    intro ps
    induction ps with
    | nil => exact fun m r h => .inl h
    | cons x t ih =>
      intro m r h
      rw [List.foldl_cons] at h
      rcases ih _ _ h with q | q
      · rcases putI_keys m x.1 ((valI m x.1).getD 0 + x.2) with ⟨_, e⟩ | ⟨_, e⟩
        · rw [e] at q; exact .inl q
        · rw [e] at q
          rcases List.mem_append.mp q with q | q
          · exact .inl q
          · exact .inr (by rw [List.mem_singleton.mp q]; exact List.mem_map.mpr ⟨x, List.mem_cons_self, rfl⟩)
      · exact .inr (by
          obtain ⟨y, hy, e⟩ := List.mem_map.mp q
          exact List.mem_map.mpr ⟨y, List.mem_cons_of_mem _ hy, e⟩)
  rcases key b [] e.1 (List.mem_map.mpr ⟨e, h, rfl⟩) with q | q
  · cases q
  · obtain ⟨y, hy, z⟩ := List.mem_map.mp q
    exact ⟨y, hy, z⟩
def RowB (n : Nat) (b : Bag) : Prop := ∀ e ∈ b, e.1.length ≤ n
theorem nz_len {n : Nat} {b : Bag} (h : RowB n b) : ∀ r ∈ nzRows b, r.length ≤ n := fun r hr => by
  obtain ⟨e, he, rfl, _⟩ := nz_in hr
  obtain ⟨e', he', z⟩ := tally_rows he
  rw [← z]
  exact h e' he'
theorem each_sorted {R : Addr → Row → Prop} {l : List Row} {as : List Addr} (h : EachIs R as (sortRows l)) : as.length = l.length := by rw [h.length, (sortRows_perm l).length_eq]
/-- the comprehension that makes the pairs of the sorted rows -/
theorem pair_comp {K : PySem.W.Frag} {sd sr : Nat} {σ : L2.St} {p d : Addr} {b : Bag} {H : Hp} (hl : b.length ≤ 20000) (hp : RowsAt H p (sortRows (nzRows b))) (hd : H d = some (.dT (vk (tally b)))) (hsr : sr < σ.length) (hne : sd ≠ sr) (hσ : σ[sd]? = some (some (.ref d)))
    {D : Addr} (hD : H D = none) {Qd : Hp → Prop} (done : ∀ H', Same H H' → BagAt H' D (mk b) → Qd H') :
    ∃ W : Nat → Nat → Hp → Prop, (∃ m, W 0 m (upd H D (.lst []))) ∧ ∀ i m H, W i m H →
      ((Itl K p).stop i H ∧ Qd H) ∨ ((Itl K p).go i H ∧ ∃ Nx : Hp → Prop, (∀ H', Nx H' → ∃ m', m' < m ∧ W (i + 1) m' H') ∧ ∀ x H', (Itl K p).yld i H x H' → gName sr x (wipe σ [sr]) H' fun σ2 H2 => wipe σ2 [sr] = wipe σ [sr] ∧
        tYes σ2 H2 fun b H3 => if b = true then tTup (tCons (tVar sr) (tCons (tDGet (tVar sd) (tVar sr)) tNil)) σ2 H3 fun y H4 => ∃ acc, H4 D = some (.lst acc) ∧ acc.length < sizeLine ∧ Nx (upd H4 D (.lst (acc ++ [y]))) else Nx H3) := by
  obtain ⟨as, h1, h2⟩ := id hp
  have hlen : as.length ≤ 20000 := by
    rw [each_sorted h2]
    unfold nzRows
    refine Nat.le_trans (List.length_filter_le ..) ?_
    rw [List.length_map]
    exact Nat.le_trans (tally_len b) hl
  refine lc_same (walk_list (xs := as.map V.ref)) (sortRows (nzRows b)) (by rw [List.length_map, h2.length]) (fun _ => true) (fun H v r => ∃ t, v = .ref t ∧ PairAt H t (r, tot b r)) (fun _ _ _ _ k ⟨t, e, z⟩ => ⟨t, e, z.tk k⟩) hD (fun H' s' => sq_l (s' _ _ h1)) (by rw [List.length_map]; omega) ?_ ?_
  · rintro i x r H1 _ hi he s1 ⟨rfl, hx⟩ Q' Qn k1 _
    obtain ⟨t, ht, rfl⟩ := ref_at hx
    have p2 := (each_get h2 ht he).mono s1
    have hd1 := s1 _ _ hd
    have w1 : wipe ((wipe σ [sr]).set sr (some (.ref t))) [sr] = wipe σ [sr] := by
      show (((σ.set sr none).set sr (some (.ref t))).set sr none) = σ.set sr none
      rw [List.set_set, List.set_set]
    have g1 : ((wipe σ [sr]).set sr (some (.ref t)))[sd]? = some (some (.ref d)) := by
      show ((σ.set sr none).set sr (some (.ref t)))[sd]? = _
      rw [List.getElem?_set_ne (fun z => hne z.symm), List.getElem?_set_ne (fun z => hne z.symm)]
      exact hσ
    have g2 : ((wipe σ [sr]).set sr (some (.ref t)))[sr]? = some (some (.ref t)) := by
      show ((σ.set sr none).set sr (some (.ref t)))[sr]? = _
      rw [List.getElem?_set_self (by rw [List.length_set]; exact hsr)]
    obtain ⟨e, hm, rfl, hc⟩ := nz_in (mem_sorted (List.mem_of_getElem? he))
    have hv := val_in (tally_nodup b) hm
    refine ⟨w1, yes_in ⟨_, g2, _, g1, _, g2, d, .int e.2, rfl, .inr ⟨_, e.1, t, .inl hd1, rfl, p2, hv.symm⟩, (by show 2 ≤ sizeLine; decide), fun q hq => ?_⟩⟩
    rw [hc]
    exact k1 rfl _ _ (same_new hq) ⟨q, rfl, pair_new hq p2⟩
  · intro H1 acc s1 ha he
    rw [filter_true] at he
    obtain ⟨cs, rfl, hc⟩ := each_list (P := fun t (r : Row) => PairAt H1 t (r, tot b r)) (fun v e z => z) he
    exact done H1 s1 ⟨cs, ha, each_map_r (R := PairAt H1) (fun r : Row => (r, tot b r)) hc⟩
section
variable {P : Program} {w : World} {K : PySem.W.Frag} {mg : Str → Option Value} {base : Heap} {f : Addr} {fd : FuncData}
def spMakeBag : Sp := fun vs H Q _ => ∃ (p : Addr) (b : Bag), vs = [.ref p] ∧ BagAt H p b ∧ b.length ≤ 20000 ∧ RowB 1000 b ∧ ∀ q H', Same H H' → BagAt H' q (mk b) → Q (.ref q) H'
theorem ok_make_bag (F : FnP K "make_bag" s_make_bag f fd) (gS : mg "sorted" = none) (C : Cal P w K mg base "row_rank" 2 ["row"] (spKey K rankRow)) : FnOk P w K mg base CX0 5 f fd ["pairs"] spMakeBag := by
  obtain ⟨fR, fdR, gR, kR, bR, GR⟩ := C
  refine F.ok sc_make_bag (fun vs H Q E h => ?_) (fun cdv A outer s H vs Q E hr h => ?_)
  · obtain ⟨n, r, rfl, _⟩ := h
    rfl
  · obtain ⟨a, b, rfl, hb, hl, hrb, q⟩ := h
    have hcall : ∀ E0 : XK, KeyCall (cxOf CX0 P w K mg base ["pairs", "counts", "row", "count", "rows"] "make_bag" (defScope s_make_bag) f cdv A outer s H E0).nox rankRow fR := fun _ => keyCall_of GR bR hr
    refine ⟨_, PSs.nox (pss_cons (ps_set (i := 1) sc_make_bag.nd rfl (Or.inr rfl) pe_dnewT)
      (pss_cons (ps_for PassesOwn.never rfl (pi_list (pv 0)) (pg_tup rfl (pgs_cons (pg_name (i := 2) sc_make_bag.nd rfl (Or.inl rfl)) (pgs_cons (pg_name (i := 3) sc_make_bag.nd rfl (Or.inl rfl)) pgs_nil)))
        (pss_one (ps_dput hr.u1 (pv 1) (pv 2) (pe_op op_add (pe_dget2 hr.u1 (pv 1) (pv 2) pe_int ⟨rfl, rfl, rfl, rfl⟩) (pv 3)) rfl)))
      (pss_cons (ps_lock (ps_setLc (i := 4) (own := [("row", 2)]) (g := gName 2) (tt := tTest (tOp rNe (tDGet (tVar 1) (tVar 2)) (tC (.int 0)))) (by rfl) sc_make_bag.nd rfl rfl (sw_true rfl rfl rfl (by decide +kernel)) (pi_keys (pv 1))
        (blkOk_by (own := [("row", 2)]) (N := ["pairs", "counts", "row", "count", "rows"]) (sc := defScope s_make_bag) (by decide +kernel)) (fun _ _ _ _ _ => pg_name (i := 2) sc_make_bag.nd rfl (Or.inl rfl))
        (fun _ _ _ _ _ => pts_one (pt_cmpR op_ne (pe_dget hr.u1 (pv 1) (pv 2) (fun _ _ => rfl)) pe_int (nomark _))) (fun _ _ _ _ _ => pv 2)))
      (pss_one (ps_ret (pe_lc (own := [("row", 2)]) (g := gName 2) (tt := tYes) (by rfl) sc_make_bag.nd
        (pi_list (pe_callBK (cr_sortKey tells_rank (fun _ _ _ _ _ _ e u => sorts_rank e u) (hcall _) hr.u64 rfl) (by rfl) gS (by decide +kernel) (pa_cons (pv 4) pa_nil) (pk_cons (pe_glob (v := .ref fR) rfl gR rfl) pk_nil)))
        (blkOk_by (own := [("row", 2)]) (N := ["pairs", "counts", "row", "count", "rows"]) (sc := defScope s_make_bag) (by decide +kernel)) (fun _ _ _ _ _ => pg_name (i := 2) sc_make_bag.nd rfl (Or.inl rfl)) (fun _ _ _ _ _ => pts_nil)
        (fun _ _ _ _ _ => pe_tup (pa_cons (pv 2) (pa_cons (pe_dget hr.u1 (pv 1) (pv 2) (fun _ _ => rfl)) pa_nil))))))))), ?_⟩
    refine fun d hd => ?_
    obtain ⟨ts, b1, b2⟩ := id hb
    refine ⟨_, rfl, a, rfl, ⟨_, sq_l (same_new hd _ _ b1)⟩, count_loop hb hl (same_new hd) hd upd_same [none] none none _ fun u v H1 s1 h1 => ?_⟩
    refine ⟨d, _, h1, trivial, fun od => ?_⟩
    refine ⟨_, rfl, d, od, rfl, .inr ⟨_, upd_same, fun D hD => ?_⟩⟩
    have nD : D ≠ d := fun z => by
      rw [z, upd_same] at hD
      cases hD
    refine nz_comp (K := K) (si := 1) (sr := 2) (b := b) hl upd_same (by show 2 < 5; decide) (by decide) rfl hD fun H2 s2 hrw => ?_
    refine ⟨s2 _ _ upd_same, ?_⟩
    have s3 : Same H (upd H2 d (.dT (vk (tally b)))) := fun c o hc => by
      have nc : c ≠ d := ne_of_none hc hd
      rw [upd_ne nc]
      refine s2 _ _ ?_
      rw [upd_ne nc]
      exact s1 _ _ hc
    have hrw2 : RowsAt (upd H2 d (.dT (vk (tally b)))) D (nzRows b) := by
      obtain ⟨as, r1, r2⟩ := hrw
      have hdf := s2 _ _ (upd_same (H := H1) (a := d) (o := .frz od (.dT (vk (tally b)))))
      have tk : TupKeep H2 (upd H2 d (.dT (vk (tally b)))) := tk_upd fun xs z => by
        rw [hdf] at z
        cases z
      exact ⟨as, by rw [upd_ne nD]; exact r1, r2.mono fun t r z => z.tk tk⟩
    obtain ⟨as, r1, r2⟩ := id hrw2
    refine ⟨_, rfl, D, as, nzRows b, rfl, rfl, sq_l r1, r2, nz_len hrb, fun c hc => s3.free hc, fun p H4 s4 hp4 hso => ?_⟩
    refine ⟨p, rfl, ?_, fun D2 hD2 => ?_⟩
    · obtain ⟨cs, c1, _⟩ := id hso
      exact ⟨_, sq_l c1⟩
    · exact pair_comp (K := K) (sd := 1) (sr := 2) hl hso (s4 _ _ upd_same) (by show 2 < 5; decide) (by decide) rfl hD2 fun H5 s5 hbag => q _ _ ((s3.trans s4).trans s5) hbag
def spCanon : Sp := fun vs H Q _ => ∃ (d : Addr) (b : Bag), vs = [.ref d] ∧ H d = some (.dT (vk (tally b))) ∧ b.length ≤ 20000 ∧ RowB 1000 b ∧ ∀ q H', Same H H' → H q = none → BagAt H' q (mk b) → Q (.ref q) H'
theorem ok_canon (F : FnP K "_law_canon" s__law_canon f fd) (gS : mg "sorted" = none) (C : Cal P w K mg base "_law_key" 1 ["row"] (spLawKey K)) : FnOk P w K mg base CX0 4 f fd ["counts"] spCanon := by
  obtain ⟨fR, fdR, gR, kR, bR, GR0⟩ := C
  have GR : FnOk P w K mg base CX0 1 fR fdR ["row"] (spKey K lawRow) := GR0.imp fun vs H Q E ⟨q, r, e, h1, h2, h3⟩ => ⟨q, r, e, .inl h1, h2, h3⟩
  refine F.ok sc__law_canon (fun vs H Q E h => ?_) (fun cdv A outer s H vs Q E hr h => ?_)
  · obtain ⟨n, r, rfl, _⟩ := h
    rfl
  · obtain ⟨d, b, rfl, hd, hl, hrb, q⟩ := h
    have hcall : ∀ E0 : XK, KeyCall (cxOf CX0 P w K mg base ["counts", "rows", "row"] "_law_canon" (defScope s__law_canon) f cdv A outer s H E0).nox lawRow fR := fun _ => keyCall_of GR bR hr
    refine ⟨_, PSs.nox (pss_cons (ps_set (i := 1) sc__law_canon.nd rfl (Or.inl rfl)
      (pe_callBK (cr_sortKey tells_law (fun _ _ _ _ _ _ e u => sorts_law e u) (hcall _) hr.u64 rfl) (by rfl) gS (by decide +kernel)
        (pa_cons (pe_lock (pe_lc (own := [("row", 2)]) (g := gName 2) (tt := tTest (tOp rNe (tDGet (tVar 0) (tVar 2)) (tC (.int 0)))) (by rfl) sc__law_canon.nd (pi_keys (pv 0))
          (blkOk_by (own := [("row", 2)]) (N := ["counts", "rows", "row"]) (sc := defScope s__law_canon) (by decide +kernel)) (fun _ _ _ _ _ => pg_name (i := 2) sc__law_canon.nd rfl (Or.inl rfl))
          (fun _ _ _ _ _ => pts_one (pt_cmpR op_ne (pe_dget hr.u1 (pv 0) (pv 2) (fun _ _ => rfl)) pe_int (nomark _))) (fun _ _ _ _ _ => pv 2))) pa_nil)
        (pk_cons (pe_glob (v := .ref fR) rfl gR rfl) pk_nil)))
      (pss_one (ps_ret (pe_lc (own := [("row", 2)]) (g := gName 2) (tt := tYes) (by rfl) sc__law_canon.nd (pi_list (pv 1))
        (blkOk_by (own := [("row", 2)]) (N := ["counts", "rows", "row"]) (sc := defScope s__law_canon) (by decide +kernel)) (fun _ _ _ _ _ => pg_name (i := 2) sc__law_canon.nd rfl (Or.inl rfl)) (fun _ _ _ _ _ => pts_nil)
        (fun _ _ _ _ _ => pe_tup (pa_cons (pv 2) (pa_cons (pe_dget hr.u1 (pv 0) (pv 2) (fun _ _ => rfl)) pa_nil))))))), ?_⟩
    refine ⟨d, _, hd, trivial, fun od => ?_⟩
    refine ⟨_, rfl, d, od, rfl, .inr ⟨_, upd_same, fun D hD => ?_⟩⟩
    have nD : D ≠ d := fun z => by
      rw [z, upd_same] at hD
      cases hD
    refine nz_comp (K := K) (si := 0) (sr := 2) (b := b) hl upd_same (by show 2 < 3; decide) (by decide) rfl hD fun H2 s2 hrw => ?_
    refine ⟨s2 _ _ upd_same, ?_⟩
    have s3 : Same H (upd H2 d (.dT (vk (tally b)))) := fun c o hc => by
      by_cases nc : c = d
      · rw [nc, hd] at hc
        rw [nc, upd_same]
        exact hc
      · rw [upd_ne nc]
        refine s2 _ _ ?_
        rw [upd_ne nc]
        exact hc
    have hrw2 : RowsAt (upd H2 d (.dT (vk (tally b)))) D (nzRows b) := by
      obtain ⟨as, r1, r2⟩ := hrw
      have hdf := s2 _ _ (upd_same (H := H) (a := d) (o := .frz od (.dT (vk (tally b)))))
      have tk : TupKeep H2 (upd H2 d (.dT (vk (tally b)))) := tk_upd fun xs z => by
        rw [hdf] at z
        cases z
      exact ⟨as, by rw [upd_ne nD]; exact r1, r2.mono fun t r z => z.tk tk⟩
    obtain ⟨as, r1, r2⟩ := id hrw2
    refine ⟨D, as, nzRows b, rfl, rfl, sq_l r1, r2, nz_len hrb, fun c hc => s3.free hc, fun p H4 s4 hp4 hso => ?_⟩
    obtain ⟨cs, c1, c2⟩ := id hso
    refine ⟨_, rfl, p, rfl, ⟨_, sq_l c1⟩, fun D2 hD2 => ?_⟩
    exact pair_comp (K := K) (sd := 0) (sr := 2) hl hso (s4 _ _ upd_same) (by show 2 < 3; decide) (by decide) rfl hD2 fun H5 s5 hbag => q _ _ ((s3.trans s4).trans s5) ((s3.trans s4).free hD2) hbag
theorem bag_app {H : Hp} {p : Addr} {ts us : List Addr} {a b : Bag} (hp : H p = some (.lst (ts.map V.ref ++ us.map V.ref))) (h1 : EachIs (PairAt H) ts a) (h2 : EachIs (PairAt H) us b) : BagAt H p (a ++ b) := by
  refine ⟨ts ++ us, by rw [List.map_append]; exact hp, ?_⟩
  clear hp
  induction h1 with
  | nil => exact h2
  | cons h t ih => exact .cons h ih
theorem RowB.app {n : Nat} {a b : Bag} (h1 : RowB n a) (h2 : RowB n b) : RowB n (a ++ b) := fun e he => (List.mem_append.mp he).elim (h1 e) (h2 e)
theorem BdB.app {n : Nat} {a b : Bag} (h1 : BdB n a) (h2 : BdB n b) : BdB n (a ++ b) := fun e he => (List.mem_append.mp he).elim (h1 e) (h2 e)
theorem rowB_scale {n : Nat} {b : Bag} (h : RowB n b) (m : Int) : RowB n (scaleB b m) := fun e he => by
  unfold scaleB at he
  split at he
  · cases he
  · obtain ⟨x, hx, rfl⟩ := List.mem_map.mp he
    exact h x hx
theorem len_scale (b : Bag) (m : Int) : (scaleB b m).length ≤ b.length := by
  unfold scaleB
  split
  · exact Nat.zero_le _
  · rw [List.length_map]; exact Nat.le_refl _
def spPlus : Sp := fun vs H Q _ => ∃ (p t : Addr) (a b : Bag), vs = [.ref p, .ref t] ∧ BagAt H p a ∧ BagAt H t b ∧ a.length ≤ 400 ∧ b.length ≤ 400 ∧ RowB 1000 a ∧ RowB 1000 b ∧ ∀ q H', Same H H' → BagAt H' q (mk (a ++ b)) → Q (.ref q) H'
theorem cat_in {ts us : List Addr} {a b : Bag} {H : Hp} (h1 : EachIs (PairAt H) ts a) (h2 : EachIs (PairAt H) us b) (la : a.length ≤ 400) (lb : b.length ≤ 400) : (ts.map V.ref).length ≤ sizeLine ∧ (us.map V.ref).length ≤ sizeLine ∧ (ts.map V.ref).length + (us.map V.ref).length ≤ sizeLine := by
  rw [List.length_map, List.length_map, h1.length, h2.length]
  refine ⟨?_, ?_, ?_⟩ <;> exact Nat.le_trans (show _ ≤ 800 by omega) (by decide)
def spMinus : Sp := fun vs H Q _ => ∃ (p t : Addr) (a b : Bag), vs = [.ref p, .ref t] ∧ BagAt H p a ∧ BagAt H t b ∧ a.length ≤ 400 ∧ b.length ≤ 400 ∧ RowB 1000 a ∧ RowB 1000 b ∧ BdB (2 ^ 60) b ∧ ∀ q H', Same H H' → BagAt H' q (mk (a ++ scaleB b (-1))) → Q (.ref q) H'
def spSetBag : Sp := fun vs H Q _ => ∃ (p : Addr) (rs : List Row), vs = [.ref p] ∧ RowsAt H p rs ∧ rs.length ≤ 1000 ∧ (∀ r ∈ rs, r.length ≤ 1000) ∧ ∀ q H', Same H H' → BagAt H' q (onesB (posRows (mk (onesB rs)))) → Q (.ref q) H'
end
end KA
set_option Elab.async false
set_option linter.all false
set_option maxRecDepth 100000
set_option maxHeartbeats 4000000
/-! the law's own draws: a state of two lists that each draw changes -/
namespace KA
open PySem PySem.Spec PyProof.Rows L2
open PySem.W (EachIs)
/-- the state at st: its cells at cl, its seed -/
structure StateAt (H : Hp) (st cl : Addr) (cells : List Int) (seed : Int) : Prop where
  hs : H st = some (.lst [.ref cl, .int seed])
  hc : H cl = some (.lst (cells.map V.int))
  lo : 0 ≤ seed
  hi : seed < 2147483648
  len : cells.length ≤ 63
  nn : ∀ c ∈ cells, 0 ≤ c
def StOk (H : Hp) (st cl : Addr) : Prop := ∃ cells seed, StateAt H st cl cells seed
theorem StateAt.ne {H : Hp} {st cl : Addr} {cells : List Int} {seed : Int} (S : StateAt H st cl cells seed) : st ≠ cl := fun e => by
  have h1 := S.hs
  have h2 := S.hc
  rw [e, h2] at h1
  have h3 : cells.map V.int = [V.ref cl, V.int seed] := by injection (Option.some.inj h1)
  cases cells with
  | nil => cases h3
  | cons c t => injection h3 with h4 _; cases h4
/-- what a draw leaves: all objects but the state's two, a state, no cells if there were none -/
structure Drawn (st cl : Addr) (H H' : Hp) : Prop where
  but : ∀ a o, a ≠ st → a ≠ cl → H a = some o → H' a = some o
  ok : StOk H' st cl
  nil : H cl = some (.lst []) → H' cl = some (.lst [])
theorem Drawn.trans {st cl : Addr} {H H1 H2 : Hp} (a : Drawn st cl H H1) (b : Drawn st cl H1 H2) : Drawn st cl H H2 := ⟨fun x o h1 h2 h => b.but x o h1 h2 (a.but x o h1 h2 h), b.ok, fun h => b.nil (a.nil h)⟩
theorem Drawn.refl {st cl : Addr} {H : Hp} (h : StOk H st cl) : Drawn st cl H H := ⟨fun _ _ _ _ h => h, h, fun h => h⟩
theorem StOk.same {H H' : Hp} {st cl : Addr} (s : Same H H') (h : StOk H st cl) : StOk H' st cl := by
  obtain ⟨c, z, S⟩ := h
  exact ⟨c, z, s _ _ S.hs, s _ _ S.hc, S.lo, S.hi, S.len, S.nn⟩
theorem Drawn.of_same {H H' : Hp} {st cl : Addr} (s : Same H H') (h : StOk H st cl) : Drawn st cl H H' := ⟨fun _ _ _ _ q => s _ _ q, h.same s, fun q => s _ _ q⟩
theorem Drawn.tk {st cl : Addr} {H H' : Hp} (d : Drawn st cl H H') (h : StOk H st cl) : TupKeep H H' := .of fun a xs q => by
  obtain ⟨c, z, S⟩ := h
  refine d.but a _ (fun e => ?_) (fun e => ?_) q
  · rw [e, S.hs] at q; cases q
  · rw [e, S.hc] at q; cases q
/-- a list of objects is not one of the state's two, or it is empty as those cells are -/
theorem Drawn.refs {st cl : Addr} {H H' : Hp} (d : Drawn st cl H H') (h : StOk H st cl) {p : Addr} {ts : List Addr} (q : H p = some (.lst (ts.map V.ref))) : H' p = some (.lst (ts.map V.ref)) := by
  obtain ⟨c, z, S⟩ := h
  by_cases e1 : p = st
  · rw [e1, S.hs] at q
    have q' : [V.ref cl, V.int z] = ts.map V.ref := by injection (Option.some.inj q)
    match ts, q' with
    | [], q' => cases q'
    | [_], q' => injection q' with _ q2; cases q2
    | _ :: _ :: _, q' =>
      injection q' with _ q2
      injection q2 with q3 _
      cases q3
  · by_cases e2 : p = cl
    · rw [e2, S.hc] at q
      have q' : c.map V.int = ts.map V.ref := by injection (Option.some.inj q)
      cases c with
      | nil =>
        cases ts with
        | nil => rw [e2]; exact d.nil S.hc
        | cons _ _ => cases q'
      | cons c t =>
        cases ts with
        | nil => cases q'
        | cons _ _ => injection q' with q3 _; cases q3
    · exact d.but p _ e1 e2 q
theorem BagAt.drawn {st cl : Addr} {H H' : Hp} (d : Drawn st cl H H') (h : StOk H st cl) {p : Addr} {b : Bag} (q : BagAt H p b) : BagAt H' p b := by
  obtain ⟨ts, h1, h2⟩ := q
  exact ⟨ts, d.refs h h1, h2.mono fun _ _ z => z.tk (d.tk h)⟩
theorem RowsAt.drawn {st cl : Addr} {H H' : Hp} (d : Drawn st cl H H') (h : StOk H st cl) {p : Addr} {b : List Row} (q : RowsAt H p b) : RowsAt H' p b := by
  obtain ⟨ts, h1, h2⟩ := q
  exact ⟨ts, d.refs h h1, h2.mono fun _ _ z => z.tk (d.tk h)⟩
section
variable {P : Program} {w : World} {K : PySem.W.Frag} {mg : Str → Option Value} {base : Heap} {f : Addr} {fd : FuncData}
def spState (K : PySem.W.Frag) : Sp := fun vs H Q _ => ∃ (a : Addr) (ns : List Int), vs = [.ref a] ∧ SqL K H a (ns.map V.int) ∧ ns.length ≤ 63 ∧ ∀ st cl H', Same H H' → StOk H' st cl → Q (.ref st) H'
theorem int_at {ns : List Int} {i : Nat} {v : V} (h : (ns.map V.int)[i]? = some v) : ∃ n, ns[i]? = some n ∧ v = .int n := map_at h
theorem ok_state (F : FnP K "_law_state" s__law_state f fd) (gI : mg "int" = none) (gA : mg "abs" = none) : FnOk P w K mg base CX0 1 f fd ["script"] (spState K) := by
  refine F.ok sc__law_state (fun vs H Q E h => ?_) (fun cdv A outer s H vs Q E hr h => ?_)
  · obtain ⟨n, r, rfl, _⟩ := h
    rfl
  · obtain ⟨a, ns, rfl, hS, hl, q⟩ := h
    refine ⟨_, PSs.nox (pss_cons (ps_set (i := 1) sc__law_state.nd rfl (Or.inl rfl) pe_int)
      (pss_cons (ps_for PassesOwn.never rfl (pi_list (pv 0)) (pg_name (i := 2) sc__law_state.nd rfl (Or.inl rfl))
        (pss_one (ps_set (i := 1) sc__law_state.nd rfl (Or.inl rfl) (pe_op op_mod (pe_callTy call_int1 (by rfl) gI (by decide +kernel) (pa_cons (pe_op op_add (pe_op op_mul (pv 1) pe_int) (pv 2)) pa_nil)) pe_int))))
      (pss_one (ps_ret (pe_lst (pa_cons (pe_lc (own := [("cell", 2)]) (g := gName 2) (tt := tYes) (by rfl) sc__law_state.nd (pi_list (pv 0))
        (blkOk_by (own := [("cell", 2)]) (N := ["script", "seed", "cell"]) (sc := defScope s__law_state) (by decide +kernel)) (fun _ _ _ _ _ => pg_name (i := 2) sc__law_state.nd rfl (Or.inl rfl)) (fun _ _ _ _ _ => pts_nil)
        (fun _ _ _ _ _ => pe_callB (id := "abs") (r := fun xs H Q => ∃ i, xs = [.int i] ∧ Q (.int (if i < 0 then -i else i)) H) call_abs (by rfl) gA (by decide +kernel) (pa_cons (pv 2) pa_nil))) (pa_cons (pe_op op_add (pv 1) pe_int) pa_nil))))))), ?_⟩
    refine ⟨_, rfl, a, rfl, ⟨_, hS⟩, for_it (walk_list (xs := ns.map V.int)) (fun i σ H' => H' = H ∧ ∃ z v, σ = [some (.ref a), some (.int z), v] ∧ 0 ≤ z ∧ z < 1000003) ⟨rfl, 11, none, rfl, by decide, by decide⟩ (fun i σ H' _ z => by rw [z.1]; exact hS) ?_ ?_⟩
    · rintro i x σ H' _ hi ⟨rfl, z, v, rfl, z0, z1⟩ ⟨rfl, hx⟩
      obtain ⟨n, hn, rfl⟩ := int_at hx
      refine ⟨_, rfl, _, _, rfl, rfl, .inl ⟨by omega, by omega⟩, _, rfl, _, _, rfl, rfl, .inl ⟨_, rfl, _, _, rfl, rfl, (by show (0 : Int) < 1000003; decide), ?_⟩⟩
      exact ⟨rfl, _, _, rfl, Int.emod_nonneg _ (by decide), Int.emod_lt_of_pos _ (by decide)⟩
    · rintro σ H' ⟨rfl, z, v, rfl, z0, z1⟩
      refine ⟨_, rfl, a, rfl, ⟨_, hS⟩, fun D hD => ?_⟩
      refine lc_same (walk_list (xs := ns.map V.int)) ns (by rw [List.length_map]) (fun _ => true) (fun _ v n => ∃ m : Int, v = .int m ∧ 0 ≤ m) (fun _ _ _ _ _ z => z) hD (fun H' s' => s'.seq hS) (by rw [List.length_map]; omega) ?_ ?_
      · rintro i x n H1 _ hi hn s1 ⟨rfl, hx⟩ Q' Qn k1 _
        obtain ⟨n', hn', rfl⟩ := int_at hx
        refine ⟨rfl, yes_in ⟨_, rfl, _, rfl, k1 rfl _ _ (Same.refl _) ⟨_, rfl, ?_⟩⟩⟩
        split <;> omega
      · intro H1 acc s1 ha he
        rw [filter_true] at he
        obtain ⟨ms, rfl, hms, hml⟩ : ∃ ms : List Int, acc = ms.map V.int ∧ (∀ c ∈ ms, 0 ≤ c) ∧ ms.length = ns.length := by
          clear ha hl hS
          induction he with
          | nil => exact ⟨[], rfl, fun c hc => (List.not_mem_nil hc).elim, rfl⟩
          | cons h t ih =>
            obtain ⟨m, rfl, hm⟩ := h
            obtain ⟨ms, rfl, h1, h2⟩ := ih
            exact ⟨m :: ms, rfl, fun c hc => (List.mem_cons.mp hc).elim (fun e => by rw [e]; exact hm) (h1 c), by simp [h2]⟩
        refine ⟨_, rfl, _, _, rfl, rfl, (by show 2 ≤ sizeLine; decide), fun p hp => ?_⟩
        have nDp : D ≠ p := ne_of_none ha hp
        exact q p D _ (s1.trans (same_new hp)) ⟨ms, z + 1, upd_same, by rw [upd_ne nDp]; exact ha, by omega, by omega, by omega, hms⟩
def spDraw : Sp := fun vs H Q _ => ∃ (st cl : Addr) (m : Int), vs = [.ref st, .int m] ∧ StOk H st cl ∧ 0 < m ∧ m < 2 ^ 40 ∧ ∀ v H', Drawn st cl H H' → 0 ≤ v → v < m → Q (.int v) H'
theorem at0 {c : Int} {t : List Int} : atI ((c :: t).map V.int) 0 = some (.int c) := atI_nat (j := 0) rfl
theorem ixN0 {n : Nat} (h : 0 < n) : ixN n 0 = some 0 := by
  unfold ixN
  rw [if_pos (by decide), if_pos (by omega)]
  rfl
theorem seqIx0 {n : Nat} (h : 0 < n) : seqIndex? 0 n = some 0 := (ixN_seq (ixN0 h)).1
theorem ok_draw (F : FnP K "_law_draw" s__law_draw f fd) (gI : mg "int" = none) (gL : mg "len" = none) (gR : mg "range" = none) : FnOk P w K mg base CX0 1 f fd ["state", "many"] spDraw := by
  refine F.ok sc__law_draw (fun vs H Q E h => ?_) (fun cdv A outer s H vs Q E hr h => ?_)
  · obtain ⟨n, r, m, rfl, _⟩ := h
    rfl
  · obtain ⟨st, cl, m, rfl, hS, m0, m1, q⟩ := h
    refine ⟨_, PSs.nox (pss_cons (ps_set (i := 2) sc__law_draw.nd rfl (Or.inl rfl) (pe_ix ix_list (pv 0) pe_int (fun _ _ => rfl)))
      (pss_cons (ps_for PassesOwn.never rfl (pi_range1 rfl gR (pa_cons (pe_callB call_len_seq (by rfl) gL PySem.boot_len (pa_cons (pv 2) pa_nil)) pa_nil)) (pg_name (i := 3) sc__law_draw.nd rfl (Or.inl rfl))
        (pss_one (ps_if (PW.pt (pw_and (pt_cmpR op_eq (pe_ix ix_list (pv 2) pe_int (fun _ _ => rfl)) pe_int (nomark _)) (pw_and1 (pt_cmpR op_gt (pe_callB call_len_seq (by rfl) gL PySem.boot_len (pa_cons (pv 2) pa_nil)) pe_int (nomark _)))))
          (pss_one (ps_expr (pe_bm PySem.F.plainAttrs_list PySem.F.slot_list_pop PySem.F.type_list_pop mt_popAt (pv 2) (pa_cons pe_int pa_nil)))) pss_nil)))
      (pss_cons (ps_if (PW.pt (pw_and (pt_cmpR op_gt (pe_callB call_len_seq (by rfl) gL PySem.boot_len (pa_cons (pv 2) pa_nil)) pe_int (nomark _)) (pw_and1 (pt_cmpR op_gt (pe_ix ix_list (pv 2) pe_int (fun _ _ => rfl)) pe_int (nomark _)))))
          (pss_cons (ps_set (i := 4) sc__law_draw.nd rfl (Or.inl rfl) (pe_ix ix_list (pv 2) pe_int (fun _ _ => rfl)))
            (pss_cons (ps_asg (pe_op op_fdivW (pv 4) (pv 1)) (pg_sub (pv 2) pe_int set_list (fun _ => rfl)))
            (pss_one (ps_ret (pe_op op_mod (pe_callTy call_int1 (by rfl) gI (by decide +kernel) (pa_cons (pv 4) pa_nil)) (pv 1)))))) pss_nil)
      (pss_cons (ps_set (i := 5) sc__law_draw.nd rfl (Or.inl rfl) (pe_op op_mod (pe_callTy call_int1 (by rfl) gI (by decide +kernel) (pa_cons (pe_op op_add (pe_op op_mul (pe_ix ix_list (pv 0) pe_int (fun _ _ => rfl)) pe_int) pe_int) pa_nil)) pe_int))
      (pss_cons (ps_asg (pv 5) (pg_sub (pv 0) pe_int set_list (fun _ => rfl)))
      (pss_one (ps_ret (pe_op op_mod (pe_callTy call_int1 (by rfl) gI (by decide +kernel) (pa_cons (pe_op op_fdiv (pv 5) pe_int) pa_nil)) (pv 1))))))))), ?_⟩
    obtain ⟨cells, seed, S⟩ := id hS
    have ne := S.ne
    refine ⟨_, rfl, st, _, 0, .ref cl, rfl, rfl, sq_l S.hs, atI_nat (j := 0) rfl, ?_⟩
    refine ⟨_, rfl, cl, _, rfl, .inl (sq_l S.hc), _, rfl, by omega, by rw [List.length_map]; have := S.len; omega, ?_⟩
    rw [List.length_map, Int.toNat_natCast]
    -- behind the loop, whatever was popped
    refine for_it walk_range (fun i σ H' => ∃ k cs, σ = [some (.ref st), some (.int m), some (.ref cl), k, none, none] ∧ StateAt H' st cl cs seed ∧ (∀ a, a ≠ cl → H' a = H a) ∧ (cells = [] ↔ cs = [])) ⟨none, cells, rfl, S, fun _ _ => rfl, Iff.rfl⟩ (fun _ _ _ _ _ => trivial) ?_ ?_
    · rintro i x σ H' _ hi ⟨k, cs, rfl, S1, ot, nl⟩ ⟨rfl, rfl⟩
      have hne : cells ≠ [] := fun z => by rw [z] at hi; exact absurd hi (by simp)
      obtain ⟨c, t, rfl⟩ : ∃ c t, cs = c :: t := by
        cases cs with
        | nil => exact absurd (nl.mpr rfl) hne
        | cons c t => exact ⟨c, t, rfl⟩
      refine ⟨_, rfl, cl, _, 0, .int c, rfl, rfl, sq_l S1.hc, at0, rfl, _, rfl, ?_⟩
      by_cases hc : c = 0
      · rw [decide_eq_true (by rw [hc])]
        refine iteT ⟨_, rfl, cl, _, rfl, .inl (sq_l S1.hc), _, _, rfl, rfl, _, rfl, ?_⟩
        rw [List.length_map]
        by_cases hl : ((1 : Int) < ((c :: t).length : Nat))
        · rw [decide_eq_true hl]
          refine iteT ⟨_, rfl, .inl ⟨rfl, _, .inl (.inl S1.hc)⟩, cl, _, 0, 0, .int c, rfl, rfl, S1.hc, by decide, by decide, seqIx0 (by rw [List.length_map]; simp), rfl, ?_⟩
          have h2 : 0 < t.length := by
            simp only [List.length_cons] at hl
            omega
          refine ⟨_, t, rfl, ⟨by rw [upd_ne ne]; exact S1.hs, upd_same, S1.lo, S1.hi, ?_, fun z hz => S1.nn z (List.mem_cons_of_mem _ hz)⟩, fun a ha => by rw [upd_ne ha]; exact ot a ha, ?_⟩
          · have h3 := S1.len
            simp only [List.length_cons] at h3
            omega
          · exact ⟨fun z => absurd z hne, fun z => by rw [z] at h2; exact absurd h2 (by simp)⟩
        · rw [decide_eq_false hl]
          exact iteF ⟨_, _, rfl, S1, ot, nl⟩
      · rw [decide_eq_false fun z => hc (by injection z)]
        exact iteF (iteF ⟨_, _, rfl, S1, ot, nl⟩)
    · rintro σ H' ⟨k, cs, rfl, S1, ot, nl⟩
      have but : ∀ H2 : Hp, (∀ a, a ≠ cl → a ≠ st → H2 a = H' a) → ∀ a o, a ≠ st → a ≠ cl → H a = some o → H2 a = some o := fun H2 h a o h1 h2 h3 => by rw [h a h2 h1, ot a h2]; exact h3
      refine ⟨_, rfl, cl, _, rfl, .inl (sq_l S1.hc), _, _, rfl, rfl, _, rfl, ?_⟩
      rw [List.length_map]
      by_cases hl : (0 : Int) < (cs.length : Nat)
      · rw [decide_eq_true hl]
        obtain ⟨c, t, rfl⟩ : ∃ c t, cs = c :: t := by
          cases cs with
          | nil => exact absurd hl (by simp)
          | cons c t => exact ⟨c, t, rfl⟩
        refine iteT ⟨_, rfl, cl, _, 0, .int c, rfl, rfl, sq_l S1.hc, at0, _, _, rfl, rfl, _, rfl, ?_⟩
        have c0 : 0 ≤ c := S1.nn c List.mem_cons_self
        by_cases hc : (0 : Int) < c
        · rw [decide_eq_true hc]
          refine iteT ⟨_, rfl, cl, _, 0, .int c, rfl, rfl, sq_l S1.hc, at0, ?_⟩
          refine ⟨_, rfl, _, rfl, _, _, rfl, rfl, wide_div m0 (b := 40) (by omega) (by decide) (by decide), ?_⟩
          refine ⟨_, rfl, cl, _, 0, 0, rfl, rfl, S1.hc, ixN0 (by rw [List.length_map]; simp), ?_⟩
          refine ⟨_, rfl, .inl ⟨_, rfl, _, rfl, _, _, rfl, rfl, m0, ?_⟩⟩
          refine q _ _ ⟨but _ fun a h1 h2 => upd_ne h1, ⟨c / m :: t, seed, by rw [upd_ne ne]; exact S1.hs, upd_same, S1.lo, S1.hi, S1.len, fun z hz => ?_⟩, fun z => ?_⟩ (Int.emod_nonneg _ (by omega)) (Int.emod_lt_of_pos _ m0)
          · rcases List.mem_cons.mp hz with e | e
            · rw [e]; exact Int.ediv_nonneg c0 (by omega)
            · exact S1.nn z (List.mem_cons_of_mem _ e)
          · rw [S.hc] at z
            have z' : cells.map V.int = [] := by injection (Option.some.inj z)
            exact absurd (nl.mp (List.map_eq_nil_iff.mp z')) (by simp)
        · rw [decide_eq_false hc]
          refine iteF ?_
          have lo0 := S1.lo
          have hi0 := S1.hi
          refine ⟨_, rfl, st, _, 1, .int seed, rfl, rfl, sq_l S1.hs, atI_nat (j := 1) rfl, _, _, rfl, rfl, .inl ⟨by omega, by omega⟩, _, _, rfl, rfl, .inl ⟨_, rfl, _, _, rfl, rfl, (by show (0 : Int) < 2147483647; decide), ?_⟩⟩
          refine ⟨_, rfl, _, rfl, st, _, 1, 1, rfl, rfl, S1.hs, rfl, ?_⟩
          refine ⟨_, rfl, _, _, rfl, rfl, ⟨by decide, by decide⟩, .inl ⟨_, rfl, _, rfl, _, _, rfl, rfl, m0, ?_⟩⟩
          have lo := S1.lo
          have hi := S1.hi
          refine q _ _ ⟨but _ fun a h1 h2 => upd_ne h2, ⟨c :: t, _, upd_same, by rw [upd_ne ne.symm]; exact S1.hc, Int.emod_nonneg _ (by decide), Int.lt_trans (Int.emod_lt_of_pos _ (by decide)) (by decide), S1.len, S1.nn⟩, fun z => ?_⟩ (Int.emod_nonneg _ (by omega)) (Int.emod_lt_of_pos _ m0)
          rw [upd_ne ne.symm]
          rw [S.hc] at z
          have z' : cells.map V.int = [] := by injection (Option.some.inj z)
          rw [S1.hc, nl.mp (List.map_eq_nil_iff.mp z')]
          rfl
      · rw [decide_eq_false hl]
        refine iteF (iteF ?_)
        have lo0 := S1.lo
        have hi0 := S1.hi
        refine ⟨_, rfl, st, _, 1, .int seed, rfl, rfl, sq_l S1.hs, atI_nat (j := 1) rfl, _, _, rfl, rfl, .inl ⟨by omega, by omega⟩, _, _, rfl, rfl, .inl ⟨_, rfl, _, _, rfl, rfl, (by show (0 : Int) < 2147483647; decide), ?_⟩⟩
        refine ⟨_, rfl, _, rfl, st, _, 1, 1, rfl, rfl, S1.hs, rfl, ?_⟩
        refine ⟨_, rfl, _, _, rfl, rfl, ⟨by decide, by decide⟩, .inl ⟨_, rfl, _, rfl, _, _, rfl, rfl, m0, ?_⟩⟩
        have lo := S1.lo
        have hi := S1.hi
        refine q _ _ ⟨but _ fun a h1 h2 => upd_ne h2, ⟨cs, _, upd_same, by rw [upd_ne ne.symm]; exact S1.hc, Int.emod_nonneg _ (by decide), Int.lt_trans (Int.emod_lt_of_pos _ (by decide)) (by decide), S1.len, S1.nn⟩, fun z => ?_⟩ (Int.emod_nonneg _ (by omega)) (Int.emod_lt_of_pos _ m0)
        rw [upd_ne ne.symm]
        rw [S.hc] at z
        have z' : cells.map V.int = [] := by injection (Option.some.inj z)
        rw [S1.hc, nl.mp (List.map_eq_nil_iff.mp z')]
        rfl
end
end KA
set_option Elab.async false
set_option linter.all false
set_option maxRecDepth 100000
set_option maxHeartbeats 4000000
/-! _law_one, _law_row, _law_bag -/
namespace KA
open PySem PySem.Spec PyProof.Rows L2
open PySem.W (EachIs)
/-- what the law draws as a value -/
def KeyOk : Key → Prop
  | .inl i => i.natAbs ≤ 2 ^ 33
  | .inr x => x = "a" ∨ x = "b" ∨ x = "ab" ∨ x = ""
def RowOk (r : Row) : Prop := r.length ≤ 8 ∧ ∀ x ∈ r, KeyOk x
theorem four {v : Int} (h0 : 0 ≤ v) (h1 : v < 4) : v = 0 ∨ v = 1 ∨ v = 2 ∨ v = 3 := by omega
theorem six {v : Int} (h0 : 0 ≤ v) (h1 : v < 6) : v = 0 ∨ v = 1 ∨ v = 2 ∨ v = 3 ∨ v = 4 ∨ v = 5 := by omega
theorem Drawn.new {st cl : Addr} {H H' : Hp} (d : Drawn st cl H H') (h : StOk H st cl) {p : Addr} {o : HO} (q : H p = some o) (h0 : ∀ c z, StateAt H st cl c z → p ≠ st ∧ p ≠ cl) : H' p = some o := by
  obtain ⟨c, z, S⟩ := h
  obtain ⟨h1, h2⟩ := h0 c z S
  exact d.but p o h1 h2 q
theorem StateAt.away {H : Hp} {st cl : Addr} {c : List Int} {z : Int} (S : StateAt H st cl c z) {p : Addr} (h : H p = none) : p ≠ st ∧ p ≠ cl := ⟨fun e => (by rw [e, S.hs] at h; cases h), fun e => (by rw [e, S.hc] at h; cases h)⟩
theorem StOk.new {H : Hp} {st cl p : Addr} {o : HO} (h : StOk H st cl) (hp : H p = none) : StOk (upd H p o) st cl := h.same (same_new hp)
section
variable {P : Program} {w : World} {K : PySem.W.Frag} {mg : Str → Option Value} {base : Heap} {f : Addr} {fd : FuncData}
abbrev DrawC (P : Program) (w : World) (K : PySem.W.Frag) (mg : Str → Option Value) (base : Heap) : Prop := Cal P w K mg base "_law_draw" 1 ["state", "many"] spDraw
def spOne : Sp := fun vs H Q _ => ∃ (st cl : Addr), vs = [.ref st] ∧ StOk H st cl ∧ ∀ x H', Drawn st cl H H' → KeyOk x → Q (kV x) H'
theorem ok_one (F : FnP K "_law_one" s__law_one f fd) (C : DrawC P w K mg base) : FnOk P w K mg base CX0 2 f fd ["state"] spOne := by
  refine F.ok sc__law_one (fun vs H Q E h => ?_) (fun cdv A outer s H vs Q E hr h => ?_)
  · obtain ⟨n, r, rfl, _⟩ := h
    rfl
  · obtain ⟨st, cl, rfl, hS, q⟩ := h
    refine ⟨_, PSs.nox (pss_cons (ps_set (i := 1) sc__law_one.nd rfl (Or.inl rfl) (pe_cal C hr (pa_cons (pv 0) (pa_cons pe_int pa_nil))))
      (pss_cons (ps_if (pt_cmpR op_lt (pv 1) pe_int (nomark _)) (pss_one (ps_ret (pe_cal C hr (pa_cons (pv 0) (pa_cons pe_int pa_nil))))) pss_nil)
      (pss_cons (ps_if (pt_cmpR op_lt (pv 1) pe_int (nomark _)) (pss_one (ps_ret (pe_ix ix_list (pe_lst (pa_cons pe_str (pa_cons pe_str (pa_cons pe_str (pa_cons pe_str pa_nil))))) (pe_cal C hr (pa_cons (pv 0) (pa_cons pe_int pa_nil))) (fun _ _ => rfl)))) pss_nil)
      (pss_cons (ps_if (pt_cmpR op_eq (pv 1) pe_int (nomark _)) (pss_one (ps_ret (pe_ix ix_list (pe_lst (pa_cons (pe_un un_neg pe_int) (pa_cons (pe_un un_neg pe_int) (pa_cons pe_int (pa_cons pe_int (pa_cons pe_int (pa_cons (pe_un un_neg pe_int) pa_nil)))))))
        (pe_cal C hr (pa_cons (pv 0) (pa_cons pe_int pa_nil))) (fun _ _ => rfl)))) pss_nil)
      (pss_one (ps_ret (pe_op op_sub (pe_cal C hr (pa_cons (pv 0) (pa_cons pe_int pa_nil))) pe_int))))))), ?_⟩
    refine ⟨_, rfl, st, cl, 8, rfl, hS, by decide, by decide, fun k H1 d1 k0 k1 => ?_⟩
    refine ⟨_, rfl, _, _, rfl, rfl, _, rfl, ite2 (fun _ => ?_) fun _ => ?_⟩
    · exact ⟨_, rfl, st, cl, 4, rfl, d1.ok, by decide, by decide, fun v H2 d2 v0 v1 => q (.inl v) _ (d1.trans d2) (by show v.natAbs ≤ 2 ^ 33; omega)⟩
    refine ⟨_, rfl, _, _, rfl, rfl, _, rfl, ite2 (fun _ => ?_) fun _ => ?_⟩
    · refine ⟨(by show 4 ≤ sizeLine; decide), fun p hp => ?_⟩
      refine ⟨_, rfl, st, cl, 4, rfl, d1.ok.new hp, by decide, by decide, fun v H2 d2 v0 v1 => ?_⟩
      have hp2 : H2 p = some (.lst [.str "a", .str "b", .str "ab", .str ""]) := by
        obtain ⟨c, z, S⟩ := d1.ok
        obtain ⟨h1, h2⟩ := S.away hp
        exact d2.but p _ h1 h2 upd_same
      have d3 := (d1.trans (Drawn.of_same (same_new (o := .lst [.str "a", .str "b", .str "ab", .str ""]) hp) d1.ok)).trans d2
      rcases four v0 v1 with rfl | rfl | rfl | rfl
      · exact ⟨p, _, 0, .str "a", rfl, rfl, sq_l hp2, atI_nat (j := 0) rfl, q (.inr "a") _ d3 (.inl rfl)⟩
      · exact ⟨p, _, 1, .str "b", rfl, rfl, sq_l hp2, atI_nat (j := 1) rfl, q (.inr "b") _ d3 (.inr (.inl rfl))⟩
      · exact ⟨p, _, 2, .str "ab", rfl, rfl, sq_l hp2, atI_nat (j := 2) rfl, q (.inr "ab") _ d3 (.inr (.inr (.inl rfl)))⟩
      · exact ⟨p, _, 3, .str "", rfl, rfl, sq_l hp2, atI_nat (j := 3) rfl, q (.inr "") _ d3 (.inr (.inr (.inr rfl)))⟩
    refine ⟨_, rfl, rfl, _, rfl, ?_⟩
    by_cases h6 : k = 6
    · rw [decide_eq_true (by rw [h6])]
      refine iteT ⟨_, rfl, _, rfl, _, rfl, (by show 6 ≤ sizeLine; decide), fun p hp => ?_⟩
      refine ⟨_, rfl, st, cl, 6, rfl, d1.ok.new hp, by decide, by decide, fun v H2 d2 v0 v1 => ?_⟩
      have hp2 : H2 p = some (.lst [.int (-1), .int (-2147483648), .int 2147483647, .int 46341, .int 65536, .int (-7)]) := by
        obtain ⟨c, z, S⟩ := d1.ok
        obtain ⟨h1, h2⟩ := S.away hp
        exact d2.but p _ h1 h2 upd_same
      have d3 := (d1.trans (Drawn.of_same (same_new (o := .lst [.int (-1), .int (-2147483648), .int 2147483647, .int 46341, .int 65536, .int (-7)]) hp) d1.ok)).trans d2
      rcases six v0 v1 with rfl | rfl | rfl | rfl | rfl | rfl
      · exact ⟨p, _, 0, .int (-1), rfl, rfl, sq_l hp2, atI_nat (j := 0) rfl, q (.inl (-1)) _ d3 (by show (1 : Nat) ≤ 2 ^ 33; decide)⟩
      · exact ⟨p, _, 1, .int (-2147483648), rfl, rfl, sq_l hp2, atI_nat (j := 1) rfl, q (.inl (-2147483648)) _ d3 (by show (2147483648 : Nat) ≤ 2 ^ 33; decide)⟩
      · exact ⟨p, _, 2, .int 2147483647, rfl, rfl, sq_l hp2, atI_nat (j := 2) rfl, q (.inl 2147483647) _ d3 (by show (2147483647 : Nat) ≤ 2 ^ 33; decide)⟩
      · exact ⟨p, _, 3, .int 46341, rfl, rfl, sq_l hp2, atI_nat (j := 3) rfl, q (.inl 46341) _ d3 (by show (46341 : Nat) ≤ 2 ^ 33; decide)⟩
      · exact ⟨p, _, 4, .int 65536, rfl, rfl, sq_l hp2, atI_nat (j := 4) rfl, q (.inl 65536) _ d3 (by show (65536 : Nat) ≤ 2 ^ 33; decide)⟩
      · exact ⟨p, _, 5, .int (-7), rfl, rfl, sq_l hp2, atI_nat (j := 5) rfl, q (.inl (-7)) _ d3 (by show (7 : Nat) ≤ 2 ^ 33; decide)⟩
    · rw [decide_eq_false fun z => h6 (by injection z)]
      refine iteF ⟨_, rfl, st, cl, 4000000000, rfl, d1.ok, by decide, by decide, fun v H2 d2 v0 v1 => ?_⟩
      exact ⟨_, _, rfl, rfl, q (.inl (v - 2000000000)) _ (d1.trans d2) (by show (v - 2000000000).natAbs ≤ 2 ^ 33; omega)⟩
def spRow : Sp := fun vs H Q _ => ∃ (st cl : Addr) (m : Int), vs = [.ref st, .int m] ∧ 0 ≤ m ∧ m ≤ 8 ∧ StOk H st cl ∧ ∀ p r H', Drawn st cl H H' → H p = none → RowAt H' p r → RowOk r → (r.length : Int) ≤ m → Q (.ref p) H'
theorem ok_row (F : FnP K "_law_row" s__law_row f fd) (gT : mg "tuple" = none) (gR : mg "range" = none) (C : DrawC P w K mg base) (CO : Cal P w K mg base "_law_one" 2 ["state"] spOne) : FnOk P w K mg base CX0 3 f fd ["state", "most"] spRow := by
  refine F.ok sc__law_row (fun vs H Q E h => ?_) (fun cdv A outer s H vs Q E hr h => ?_)
  · obtain ⟨n, r, m, rfl, _⟩ := h
    rfl
  · obtain ⟨st, cl, m, rfl, m0, m8, hS, q⟩ := h
    refine ⟨_, PSs.nox (pss_one (ps_ret (pe_callTy call_tuple_of (by rfl) gT (by decide +kernel) (pa_cons (pe_lc (own := [("k", 2)]) (g := gName 2) (tt := tYes) (by rfl) sc__law_row.nd
      (pi_range1 rfl gR (pa_cons (pe_cal C hr.lt (pa_cons (pv 0) (pa_cons (pe_op op_add (pv 1) pe_int) pa_nil))) pa_nil))
      (blkOk_by (own := [("k", 2)]) (N := ["state", "most", "k"]) (sc := defScope s__law_row) (by decide +kernel)) (fun _ _ _ _ _ => pg_name (i := 2) sc__law_row.nd rfl (Or.inl rfl)) (fun _ _ _ _ _ => pts_nil)
      (fun _ _ _ _ _ => pe_cal CO hr (pa_cons (pv 0) pa_nil))) pa_nil)))), ?_⟩
    refine ⟨_, rfl, _, rfl, _, _, rfl, rfl, st, cl, m + 1, rfl, hS, by omega, by omega, fun n H1 d1 n0 n1 => ?_⟩
    refine ⟨n, rfl, by omega, by omega, fun D hD => ?_⟩
    obtain ⟨c0, z0, S0⟩ := d1.ok
    obtain ⟨Dst, Dcl⟩ := S0.away hD
    refine lc_go walk_range (List.range n.toNat) (by rw [List.length_range]) (fun _ => true) (fun _ v _ => ∃ x, v = kV x ∧ KeyOk x) (fun _ _ _ _ _ z => z) (fun H' => Drawn st cl H1 H') (Drawn.of_same (same_new hD) d1.ok) (fun _ _ => trivial) ?_ (by omega) ?_ ?_
    · intro H' acc d
      refine ⟨fun a o h1 h2 h3 => ?_, ?_, fun z => ?_⟩
      · rw [upd_ne (ne_of_none h3 hD)]
        exact d.but a o h1 h2 h3
      · obtain ⟨c, z, S⟩ := d.ok
        exact ⟨c, z, by rw [upd_ne Dst.symm]; exact S.hs, by rw [upd_ne Dcl.symm]; exact S.hc, S.lo, S.hi, S.len, S.nn⟩
      · rw [upd_ne Dcl.symm]
        exact d.nil z
    · rintro i x b H2 _ hi hb d2 ⟨acc, ha⟩ ⟨rfl, rfl⟩ Q' Qn k1 _
      refine ⟨rfl, yes_in ⟨_, rfl, st, cl, rfl, d2.ok, fun x H3 d3 hx => k1 rfl _ _ (d2.trans d3) ?_ (d3.tk d2.ok) ⟨x, rfl, hx⟩⟩⟩
      rw [ha]
      exact d3.but D _ Dst Dcl ha
    · intro H2 acc d2 ha he
      rw [filter_true] at he
      obtain ⟨r, rfl, hr1, hr2⟩ : ∃ r : Row, acc = r.map kV ∧ (∀ x ∈ r, KeyOk x) ∧ r.length = n.toNat := by
        have hl := he.length
        rw [List.length_range] at hl
        clear ha
        revert hl
        generalize n.toNat = m
        intro hl
        have : ∀ {vs : List V} {ns : List Nat}, EachIs (fun v (_ : Nat) => ∃ x, v = kV x ∧ KeyOk x) vs ns → ∃ r : Row, vs = r.map kV ∧ (∀ x ∈ r, KeyOk x) ∧ r.length = vs.length := by
          intro vs ns h
          induction h with
          | nil => exact ⟨[], rfl, fun x hx => (List.not_mem_nil hx).elim, rfl⟩
          | cons h t ih =>
            obtain ⟨x, rfl, hx⟩ := h
            obtain ⟨r, rfl, h1, h2⟩ := ih
            exact ⟨x :: r, rfl, fun y hy => (List.mem_cons.mp hy).elim (fun e => by rw [e]; exact hx) (h1 y), by simp⟩
        obtain ⟨r, e, h1, h2⟩ := this he
        exact ⟨r, e, h1, h2.trans hl⟩
      refine ⟨D, _, rfl, .inl ⟨sq_l ha, fun p hp => ?_⟩⟩
      have hp0 : H p = none := by
        cases e : H p with
        | none => rfl
        | some o =>
          exfalso
          obtain ⟨c, z, S⟩ := d2.ok
          have h1 : p ≠ st := fun e => by rw [e, S.hs] at hp; cases hp
          have h2 : p ≠ cl := fun e => by rw [e, S.hc] at hp; cases hp
          rw [(d1.trans d2).but p o h1 h2 e] at hp
          cases hp
      exact q p r _ ((d1.trans d2).trans (Drawn.of_same (same_new hp) d2.ok)) hp0 upd_same ⟨by omega, hr1⟩ (by omega)
end
end KA
set_option Elab.async false
set_option linter.all false
set_option maxRecDepth 100000
set_option maxHeartbeats 4000000
/-! _law_bag -/
namespace KA
open PySem PySem.Spec PyProof.Rows L2
open PySem.W (EachIs)
theorem tot_bd {n : Nat} {ps : Bag} (h : BdB n ps) (r : Row) : (tot ps r).natAbs ≤ ps.length * n := by
  induction ps with
  | nil => rw [tot_nil]; simp
  | cons e t ih =>
    have h1 := h e List.mem_cons_self
    have h2 := ih fun x hx => h x (List.mem_cons_of_mem _ hx)
    rw [tot_cons, List.length_cons, Nat.succ_mul]
    by_cases q : e.1 = r
    · rw [if_pos q]; omega
    · rw [if_neg q]; omega
theorem mk_rows {ps : Bag} {e : Row × Int} (h : e ∈ mk ps) : ∃ e' ∈ ps, e'.1 = e.1 := by
  obtain ⟨r, hr, rfl⟩ := List.mem_map.mp h
  obtain ⟨x, hx, e, _⟩ := nz_in (mem_sorted hr)
  obtain ⟨y, hy, z⟩ := tally_rows hx
  exact ⟨y, hy, z.trans e⟩
theorem mk_bd {n : Nat} {ps : Bag} (h : BdB n ps) : BdB (ps.length * n) (mk ps) := fun e he => by
  obtain ⟨r, hr, rfl⟩ := List.mem_map.mp he
  exact tot_bd h r
def RowsOk (b : Bag) : Prop := ∀ e ∈ b, RowOk e.1
theorem mk_rowsOk {ps : Bag} (h : RowsOk ps) : RowsOk (mk ps) := fun e he => by
  obtain ⟨e', h1, h2⟩ := mk_rows he
  rw [← h2]
  exact h e' h1
theorem RowsOk.rowB {b : Bag} (h : RowsOk b) : RowB 1000 b := fun e he => Nat.le_trans (h e he).1 (by decide)
theorem RowsOk.app {a b : Bag} (h1 : RowsOk a) (h2 : RowsOk b) : RowsOk (a ++ b) := fun e he => (List.mem_append.mp he).elim (h1 e) (h2 e)
structure GoodBag (b : Bag) : Prop where
  canon : Canon b
  len : b.length ≤ 10
  bd : BdB 10000000 b
  rows : RowsOk b
theorem good_mk {ps : Bag} (hl : ps.length ≤ 10) (hb : BdB 1000000 ps) (hr : RowsOk ps) : GoodBag (mk ps) :=
  ⟨mk_canon ps, Nat.le_trans (mk_len ps) hl, (mk_bd hb).mono (by omega), mk_rowsOk hr⟩
section
variable {P : Program} {w : World} {K : PySem.W.Frag} {mg : Str → Option Value} {base : Heap} {f : Addr} {fd : FuncData}
abbrev RowC (P : Program) (w : World) (K : PySem.W.Frag) (mg : Str → Option Value) (base : Heap) : Prop := Cal P w K mg base "_law_row" 3 ["state", "most"] spRow
def spBag : Sp := fun vs H Q _ => ∃ (st cl : Addr) (m : Int), vs = [.ref st, .int m] ∧ 0 ≤ m ∧ m ≤ 8 ∧ StOk H st cl ∧ ∀ p b H', Drawn st cl H H' → BagAt H' p b → GoodBag b → Q (.ref p) H'
theorem ok_bag (F : FnP K "_law_bag" s__law_bag f fd) (gR : mg "range" = none) (C : DrawC P w K mg base) (CR : RowC P w K mg base) (CC : Cal P w K mg base "_law_canon" 4 ["counts"] spCanon) : FnOk P w K mg base CX0 5 f fd ["state", "most"] spBag := by
  refine F.ok sc__law_bag (fun vs H Q E h => ?_) (fun cdv A outer s H vs Q E hr h => ?_)
  · obtain ⟨n, r, m, rfl, _⟩ := h
    rfl
  · obtain ⟨st, cl, m, rfl, m0, m1, hS, q⟩ := h
    refine ⟨_, PSs.nox (pss_cons (ps_set (i := 2) sc__law_bag.nd rfl (Or.inl rfl) pe_dnewT)
      (pss_cons (ps_for PassesOwn.never rfl (pi_range1 rfl gR (pa_cons (pe_cal C hr.lt (pa_cons (pv 0) (pa_cons (pe_op op_add (pv 1) pe_int) pa_nil))) pa_nil)) (pg_name (i := 3) sc__law_bag.nd rfl (Or.inl rfl))
        (pss_cons (ps_set (i := 4) sc__law_bag.nd rfl (Or.inl rfl) (pe_cal CR hr.lt (pa_cons (pv 0) (pa_cons pe_int pa_nil))))
        (pss_one (ps_dput hr.u1 (pv 2) (pv 4) (pe_op op_add (pe_dget2 hr.u1 (pv 2) (pv 4) pe_int ⟨rfl, rfl, rfl, rfl⟩)
          (pe_ix ix_list (pe_lst (pa_cons pe_int (pa_cons pe_int (pa_cons pe_int (pa_cons (pe_un un_neg pe_int) (pa_cons (pe_un un_neg pe_int) (pa_cons pe_int pa_nil))))))) (pe_cal C hr.lt (pa_cons (pv 0) (pa_cons pe_int pa_nil))) (fun _ _ => rfl))) rfl))))
      (pss_one (ps_ret (pe_cal CC hr (pa_cons (pv 2) pa_nil)))))), ?_⟩
    refine fun d hd => ?_
    obtain ⟨c0, z0, S0⟩ := id hS
    obtain ⟨dst, dcl⟩ := S0.away hd
    refine ⟨_, rfl, _, rfl, _, _, rfl, rfl, st, cl, m + 1, rfl, hS.new hd, by omega, by omega, fun n H1 d1 n0 n1 => ?_⟩
    have upd_d : ∀ (H' : Hp) (o : HO), Drawn st cl H H' → Drawn st cl H (upd H' d o) := fun H' o D => by
      refine ⟨fun a x h1 h2 h3 => ?_, ?_, fun z => ?_⟩
      · rw [upd_ne (ne_of_none h3 hd)]
        exact D.but a x h1 h2 h3
      · obtain ⟨c, z, S⟩ := D.ok
        exact ⟨c, z, by rw [upd_ne dst.symm]; exact S.hs, by rw [upd_ne dcl.symm]; exact S.hc, S.lo, S.hi, S.len, S.nn⟩
      · rw [upd_ne dcl.symm]
        exact D.nil z
    refine ⟨n, rfl, by omega, by omega, ?_⟩
    refine for_it walk_range (fun i σ H' => (∃ k r, σ = [some (.ref st), some (.int m), some (.ref d), k, r]) ∧ Drawn st cl H H' ∧ ∃ ps, H' d = some (.dT (vk (tally ps))) ∧ ps.length ≤ i ∧ BdB 1000000 ps ∧ RowsOk ps)
      ⟨⟨_, _, rfl⟩, (Drawn.of_same (same_new hd) hS).trans d1, [], d1.but d _ dst dcl upd_same, Nat.le_refl _, (fun e he => (List.not_mem_nil he).elim), fun e he => (List.not_mem_nil he).elim⟩ (fun _ _ _ _ _ => trivial) ?_ ?_
    · rintro i x σ H2 _ hi ⟨⟨k, r, rfl⟩, D2, ps, hp, pl, pb, pr⟩ ⟨rfl, rfl⟩
      refine ⟨_, rfl, st, cl, 3, rfl, by decide, by decide, D2.ok, fun t r H3 d3 ht hrow rok _ => ?_⟩
      have hp3 : H3 d = some (.dT (vk (tally ps))) := d3.but d _ dst dcl hp
      refine ⟨_, rfl, d, rfl, .inr ⟨_, .inl hp3⟩, _, rfl, _, DGet.t hp3 hrow, ?_⟩
      refine ⟨_, rfl, _, rfl, (by show 6 ≤ sizeLine; decide), fun p hpn => ?_⟩
      refine ⟨_, rfl, st, cl, 6, rfl, d3.ok.new hpn, by decide, by decide, fun v H4 d4 v0 v1 => ?_⟩
      have hpL : H4 p = some (.lst [.int 1, .int 1, .int 2, .int (-1), .int (-3), .int 1000000]) := by
        obtain ⟨c, z, S⟩ := d3.ok
        obtain ⟨h1, h2⟩ := S.away hpn
        exact d4.but p _ h1 h2 upd_same
      have s3 : Same H3 (upd H3 p (.lst [.int 1, .int 1, .int 2, .int (-1), .int (-3), .int 1000000])) := same_new hpn
      have D4 : Drawn st cl H H4 := ((D2.trans d3).trans (Drawn.of_same s3 d3.ok)).trans d4
      have hp4 : H4 d = some (.dT (vk (tally ps))) := d4.but d _ dst dcl (s3 _ _ hp3)
      have hrow4 : RowAt H4 t r := RowAt.tk (d4.tk (d3.ok.same s3)) (hrow.mono s3)
      have hlt : (vk (tally ps)).length < sizeLine := by
        rw [List.length_map]
        have := tally_len ps
        exact Nat.lt_of_lt_of_le (show _ < 2000 by omega) (by decide)
      obtain ⟨c, hc, hcb⟩ : ∃ c : Int, atI [V.int 1, .int 1, .int 2, .int (-1), .int (-3), .int 1000000] v = some (.int c) ∧ c.natAbs ≤ 1000000 := by
        rcases six v0 v1 with rfl | rfl | rfl | rfl | rfl | rfl
        · exact ⟨1, atI_nat (j := 0) rfl, by decide⟩
        · exact ⟨1, atI_nat (j := 1) rfl, by decide⟩
        · exact ⟨2, atI_nat (j := 2) rfl, by decide⟩
        · exact ⟨-1, atI_nat (j := 3) rfl, by decide⟩
        · exact ⟨-3, atI_nat (j := 4) rfl, by decide⟩
        · exact ⟨1000000, atI_nat (j := 5) rfl, by decide⟩
      refine ⟨p, _, v, .int c, rfl, rfl, sq_l hpL, hc, _, _, vk_getD _ _, rfl, ?_⟩
      refine ⟨_, rfl, _, rfl, d, _, rfl, DPut.t hp4 hrow4 hlt, ⟨_, _, rfl⟩, upd_d _ _ D4, ps ++ [(r, c)], ?_, by rw [List.length_append]; simp; omega, pb.app fun e he => ?_, pr.app fun e he => ?_⟩
      · rw [upd_same, vk_put, tally_snoc]
      · rw [List.mem_singleton.mp he]; exact hcb
      · rw [List.mem_singleton.mp he]; exact rok
    · rintro σ H2 ⟨⟨k, r, rfl⟩, D2, ps, hp, pl, pb, pr⟩
      refine ⟨_, rfl, d, ps, rfl, hp, by omega, pr.rowB, fun p H3 s3 _ hb => ?_⟩
      exact q p _ _ (D2.trans (Drawn.of_same s3 D2.ok)) hb (good_mk (by omega) pb pr)
end
end KA
set_option Elab.async false
set_option linter.all false
set_option maxRecDepth 100000
set_option maxHeartbeats 4000000
/-! expressions: what they are, their values, how they stand in the heap -/
namespace KA
open PySem PySem.Spec PyProof.Rows L2
open PySem.W (EachIs)
inductive Bop | add | sub | mul | eq | lt | cat
def Bop.sign : Bop → Str
  | .add => "+" | .sub => "-" | .mul => "*" | .eq => "=" | .lt => "<" | .cat => "cat"
inductive Ex
  | at_ (k : Int)
  | const (x : Key)
  | ite (c a b : Ex)
  | bin (o : Bop) (a b : Ex)
namespace Ex
def d : Ex → PyData
  | .at_ k => .tuple [.str "at", .int k]
  | .const x => .tuple [.str "const", keyD x]
  | .ite c a b => .tuple [.str "if", c.d, a.d, b.d]
  | .bin o a b => .tuple [.str o.sign, a.d, b.d]
def depth : Ex → Nat
  | .at_ _ => 0
  | .const _ => 0
  | .ite c a b => max c.depth (max a.depth b.depth) + 1
  | .bin _ a b => max a.depth b.depth + 1
def Ok : Ex → Prop
  | .at_ k => 0 ≤ k ∧ k ≤ 8
  | .const x => KeyOk x
  | .ite c a b => c.Ok ∧ a.Ok ∧ b.Ok
  | .bin _ a b => a.Ok ∧ b.Ok
end Ex
/-- values that stand in rows -/
def VOk : Key → Prop
  | .inl i => i.natAbs ≤ 2 ^ 33
  | .inr x => x.length ≤ 40
theorem KeyOk.v {x : Key} (h : KeyOk x) : VOk x := by
  cases x with
  | inl i => exact h
  | inr s =>
    rcases h with rfl | rfl | rfl | rfl
    · show (1 : Nat) ≤ 40; decide
    · show (1 : Nat) ≤ 40; decide
    · show (2 : Nat) ≤ 40; decide
    · show (0 : Nat) ≤ 40; decide
def RowV (r : Row) : Prop := r.length ≤ 1000 ∧ ∀ x ∈ r, VOk x
theorem RowOk.v {r : Row} (h : RowOk r) : RowV r := ⟨Nat.le_trans h.1 (by decide), fun x hx => (h.2 x hx).v⟩
def numZ : Key → Int
  | .inl i => i
  | .inr _ => 0
def textZ : Key → Str
  | .inl i => Str.ofString (toString i)
  | .inr x => x
def b2z (b : Bool) : Int := if b = true then 1 else 0
def binZ : Bop → Key → Key → Key
  | .add, x, y => .inl (wrapZ (numZ x + numZ y))
  | .sub, x, y => .inl (wrapZ (numZ x - numZ y))
  | .mul, x, y => .inl (wrapZ (numZ x * numZ y))
  | .eq, x, y => .inl (b2z (decide (x = y)))
  | .lt, x, y => .inl (b2z (oneLt x y))
  | .cat, x, y => .inr (cutS (textZ x ++ textZ y) none (some 40))
def Ex.val : Ex → Row → Key
  | .at_ k, r => (r[k.toNat]?).getD (.inl 0)
  | .const x, _ => x
  | .ite c a b, r => if c.val r = .inl 0 then b.val r else a.val r
  | .bin o a b, r => binZ o (a.val r) (b.val r)
theorem wrapZ_bd (n : Int) : (wrapZ n).natAbs ≤ 2 ^ 33 := by
  unfold wrapZ
  have h1 := Int.emod_nonneg (n - -2147483648) (show (4294967296 : Int) ≠ 0 by decide)
  have h2 := Int.emod_lt_of_pos (n - -2147483648) (show (0 : Int) < 4294967296 by decide)
  omega
theorem num_bd {x : Key} (h : VOk x) : (numZ x).natAbs ≤ 2 ^ 33 := by
  cases x with
  | inl i => exact h
  | inr s => show (0 : Nat) ≤ 2 ^ 33; decide
theorem text_bd {x : Key} (h : VOk x) : (textZ x).length ≤ 50 := by
  cases x with
  | inl i =>
    have h' : i.natAbs ≤ 2 ^ 33 := h
    have hl : i.natAbs.log2 < 34 := by
      by_cases e : i.natAbs = 0
      · rw [e]; decide
      · exact (Nat.log2_lt e).mpr (Nat.lt_of_le_of_lt h' (by decide))
    have e := int_text_length_le (k := 34) (by decide) hl
    show (Str.ofString (toString i)).length ≤ 50
    rw [PySem.ofString_length]
    omega
  | inr s => exact Nat.le_trans (show s.length ≤ 40 from h) (by decide)
theorem cut40 (z : Str) : (cutS z none (some 40)).length ≤ 40 := by
  unfold cutS
  rw [HT.sIx_none, show (40 : Int) = ((40 : Nat) : Int) from rfl, HT.sIx_nat]
  show (Array.size (List.toArray _)) ≤ 40
  rw [List.size_toArray]
  refine Nat.le_trans (List.length_take_le _ _) ?_
  have := Nat.min_le_left 40 z.length
  omega
theorem bin_ok (o : Bop) (x y : Key) : VOk (binZ o x y) := by
  cases o with
  | add => exact wrapZ_bd _
  | sub => exact wrapZ_bd _
  | mul => exact wrapZ_bd _
  | eq => show (b2z (decide (x = y))).natAbs ≤ 2 ^ 33; unfold b2z; split <;> decide
  | lt => show (b2z (oneLt x y)).natAbs ≤ 2 ^ 33; unfold b2z; split <;> decide
  | cat => exact cut40 _
theorem val_ok : ∀ {e : Ex} {r : Row}, e.Ok → RowV r → VOk (e.val r)
  | .at_ k, r, _, hr => by
    show VOk ((r[k.toNat]?).getD (.inl 0))
    cases q : r[k.toNat]? with
    | none => show (0 : Nat) ≤ 2 ^ 33; decide
    | some x => exact hr.2 x (List.mem_of_getElem? q)
  | .const x, r, h, _ => KeyOk.v h
  | .ite c a b, r, ⟨h1, h2, h3⟩, hr => by
    show VOk (if c.val r = .inl 0 then b.val r else a.val r)
    split
    · exact val_ok h3 hr
    · exact val_ok h2 hr
  | .bin o a b, r, _, _ => bin_ok o _ _
end KA
set_option Elab.async false
set_option linter.all false
set_option maxRecDepth 100000
set_option maxHeartbeats 4000000
/-! the law's expressions: how they are drawn -/
namespace KA
open PySem PySem.Spec PyProof.Rows L2
open PySem.W (EachIs)
theorem tp_at {K : PySem.W.Frag} {H : Hp} {p : Addr} {k : Int} (h : H p = some (.tup [.str "at", .int k])) : Tp K H (.ref p) (Ex.at_ k).d := .tup (sq_tups h) (.cons (.str _) (.cons (.int _) .nil))
theorem tp_key {K : PySem.W.Frag} {H : Hp} (x : Key) : Tp K H (kV x) (keyD x) := dp_key x
theorem tp_const {K : PySem.W.Frag} {H : Hp} {p : Addr} {x : Key} (h : H p = some (.tup [.str "const", kV x])) : Tp K H (.ref p) (Ex.const x).d := .tup (sq_tups h) (.cons (.str _) (.cons (dp_key x) .nil))
theorem tp_ite {K : PySem.W.Frag} {H : Hp} {p : Addr} {u v w : V} {c a b : Ex} (h : H p = some (.tup [.str "if", u, v, w])) (h1 : Tp K H u c.d) (h2 : Tp K H v a.d) (h3 : Tp K H w b.d) : Tp K H (.ref p) (Ex.ite c a b).d :=
  .tup (sq_tups h) (.cons (.str _) (.cons h1 (.cons h2 (.cons h3 .nil))))
theorem tp_bin {K : PySem.W.Frag} {H : Hp} {p : Addr} {v w : V} {o : Bop} {a b : Ex} (h : H p = some (.tup [.str o.sign, v, w])) (h2 : Tp K H v a.d) (h3 : Tp K H w b.d) : Tp K H (.ref p) (Ex.bin o a b).d :=
  .tup (sq_tups h) (.cons (.str _) (.cons h2 (.cons h3 .nil)))
theorem op_of {v : Int} (h0 : 0 ≤ v) (h1 : v < 6) : ∃ o : Bop, atI [V.str "+", .str "-", .str "*", .str "=", .str "<", .str "cat"] v = some (.str o.sign) := by
  rcases six h0 h1 with rfl | rfl | rfl | rfl | rfl | rfl
  · exact ⟨.add, atI_nat (j := 0) rfl⟩
  · exact ⟨.sub, atI_nat (j := 1) rfl⟩
  · exact ⟨.mul, atI_nat (j := 2) rfl⟩
  · exact ⟨.eq, atI_nat (j := 3) rfl⟩
  · exact ⟨.lt, atI_nat (j := 4) rfl⟩
  · exact ⟨.cat, atI_nat (j := 5) rfl⟩
theorem or_leaf {c : Bool} {A B : Prop} (h : A) (h2 : c = false → A → B) : if c = true then A else B := by
  cases c with
  | true => exact iteT h
  | false => exact iteF (h2 rfl h)
section
variable {P : Program} {w : World} {K L : PySem.W.Frag} {mg : Str → Option Value} {base : Heap} {f : Addr} {fd : FuncData}
theorem ok_wrapped (F : FnP K "_law_wrapped" s__law_wrapped f fd) (gI : mg "int" = none) : FnOk P w K mg base CX0 1 f fd ["n"] spWrap := by
  refine F.ok sc__law_wrapped (fun vs H Q E h => ?_) (fun cdv A outer s H vs Q E hr h => ?_)
  · obtain ⟨n, rfl, _⟩ := h
    rfl
  · obtain ⟨n, rfl, q⟩ := h
    refine ⟨_, PSs.nox (pss_one (ps_ret (pe_op op_sub (pe_op op_mod (pe_callTy call_int1 (by rfl) gI (by decide +kernel) (pa_cons (pe_op op_add (pv 0) pe_int) pa_nil)) pe_int) pe_int))), ?_⟩
    refine ⟨_, rfl, _, _, rfl, rfl, .inl ⟨_, rfl, _, _, rfl, rfl, (by show (0 : Int) < 4294967296; decide), _, _, rfl, rfl, ?_⟩⟩
    have e : wrapZ n = (n + 2147483648) % 4294967296 - 2147483648 := by
      unfold wrapZ
      omega
    rw [e] at q
    exact q
def spNumber : Sp := fun vs H Q _ => ∃ x : Key, vs = [kV x] ∧ Q (.int (numZ x)) H
theorem ok_number (F : FnP K "_law_number" s__law_number f fd) (gI : mg "int" = none) (gS : mg "isinstance" = none) : FnOk P w K mg base CX0 1 f fd ["one"] spNumber := by
  refine F.ok sc__law_number (fun vs H Q E h => ?_) (fun cdv A outer s H vs Q E hr h => ?_)
  · obtain ⟨n, rfl, _⟩ := h
    rfl
  · obtain ⟨x, rfl, q⟩ := h
    refine ⟨_, PSs.nox (pss_one (ps_ret (pe_ifExp (pt_val (pe_callB call_isi (by rfl) gS (by decide +kernel) (pa_cons (pv 0) (pa_cons (pe_bltn (v := .ty "int") (by rfl) gI (by decide +kernel) rfl) pa_nil)))) (pv 0) pe_int))), ?_⟩
    cases x with
    | inl i => exact ⟨_, rfl, _, _, .type "int", .type "int", true, rfl, .ty "int", .base (.int i), kit_ty (by decide +kernel), _, rfl, iteT ⟨_, rfl, q⟩⟩
    | inr z => exact ⟨_, rfl, _, _, .type "str", .type "int", false, rfl, .ty "int", .base (.str z), kit_ty (by decide +kernel), _, rfl, iteF q⟩
def spExpr (K : PySem.W.Frag) (n : Nat) : Sp := fun vs H Q _ => ∃ (st cl : Addr) (d : Int), vs = [.ref st, .int d] ∧ 0 ≤ d ∧ d < n ∧ StOk H st cl ∧ ∀ e v H', Drawn st cl H H' → Tp K H' v (Ex.d e) → e.Ok → (e.depth : Int) ≤ d → Q v H'
theorem ok_expr0 (F : FnP K "_law_expr" s__law_expr f fd) : FnOk P w K mg base CX0 1 f fd ["state", "deep"] (spExpr L 0) := by
  refine F.ok sc__law_expr (fun vs H Q E h => ?_) (fun cdv A outer s H vs Q E hr h => ?_)
  · obtain ⟨st, cl, d, rfl, _⟩ := h
    rfl
  · obtain ⟨st, cl, d, rfl, h0, h1, _⟩ := h
    omega
theorem ok_exprS {k n : Nat} (h2 : 2 ≤ k) (F : FnP K "_law_expr" s__law_expr f fd) (C : DrawC P w K mg base) (CO : Cal P w K mg base "_law_one" 2 ["state"] spOne) (CE : Cal P w K mg base "_law_expr" k ["state", "deep"] (spExpr L n)) :
    FnOk P w K mg base CX0 (k + 1) f fd ["state", "deep"] (spExpr L (n + 1)) := by
  refine F.ok sc__law_expr (fun vs H Q E h => ?_) (fun cdv A outer s H vs Q E hr h => ?_)
  · obtain ⟨st, cl, d, rfl, _⟩ := h
    rfl
  · obtain ⟨st, cl, d, rfl, d0, d1, hS, q⟩ := h
    have r1 := hr.mono (show 1 ≤ k by omega)
    have r2 := hr.mono h2
    refine ⟨_, PSs.nox (pss_cons (ps_set (i := 2) sc__law_expr.nd rfl (Or.inl rfl) (pe_cal C r1 (pa_cons (pv 0) (pa_cons pe_int pa_nil))))
      (pss_cons (ps_if (PW.pt (pw_or (pt_cmpR op_eq (pv 1) pe_int (nomark _)) (pw_or1 (pt_cmpR op_lt (pv 2) pe_int (nomark _)))))
        (pss_cons (ps_if (pt_cmpR op_eq (pe_cal C r1 (pa_cons (pv 0) (pa_cons pe_int pa_nil))) pe_int (nomark _))
          (pss_one (ps_ret (pe_tup (pa_cons pe_str (pa_cons (pe_cal CO r2 (pa_cons (pv 0) pa_nil)) pa_nil))))) pss_nil)
        (pss_one (ps_ret (pe_tup (pa_cons pe_str (pa_cons (pe_cal C r1 (pa_cons (pv 0) (pa_cons pe_int pa_nil))) pa_nil)))))) pss_nil)
      (pss_cons (ps_if (pt_cmpR op_eq (pv 2) pe_int (nomark _))
        (pss_cons (ps_set (i := 3) sc__law_expr.nd rfl (Or.inl rfl) (pe_cal CE hr (pa_cons (pv 0) (pa_cons (pe_op op_sub (pv 1) pe_int) pa_nil))))
        (pss_cons (ps_set (i := 4) sc__law_expr.nd rfl (Or.inl rfl) (pe_cal CE hr (pa_cons (pv 0) (pa_cons (pe_op op_sub (pv 1) pe_int) pa_nil))))
        (pss_one (ps_ret (pe_tup (pa_cons pe_str (pa_cons (pv 3) (pa_cons (pv 4) (pa_cons (pe_cal CE hr (pa_cons (pv 0) (pa_cons (pe_op op_sub (pv 1) pe_int) pa_nil))) pa_nil))))))))) pss_nil)
      (pss_cons (ps_set (i := 5) sc__law_expr.nd rfl (Or.inl rfl) (pe_cal CE hr (pa_cons (pv 0) (pa_cons (pe_op op_sub (pv 1) pe_int) pa_nil))))
      (pss_one (ps_ret (pe_tup (pa_cons (pe_ix ix_list (pe_lst (pa_cons pe_str (pa_cons pe_str (pa_cons pe_str (pa_cons pe_str (pa_cons pe_str (pa_cons pe_str pa_nil))))))) (pe_cal C r1 (pa_cons (pv 0) (pa_cons pe_int pa_nil))) (fun _ _ => rfl)) (pa_cons (pv 5) (pa_cons (pe_cal CE hr (pa_cons (pv 0) (pa_cons (pe_op op_sub (pv 1) pe_int) pa_nil))) pa_nil)))))))))), ?_⟩
    refine ⟨_, rfl, st, cl, 10, rfl, hS, by decide, by decide, fun kd H1 e1 k0 k1 => ?_⟩
    refine ⟨_, rfl, rfl, _, rfl, ?_⟩
    refine or_leaf ?_ fun hd lf => ?_
    · refine ⟨_, rfl, st, cl, 3, rfl, e1.ok, by decide, by decide, fun v H2 e2 v0 v1 => ?_⟩
      refine ⟨rfl, _, rfl, ?_⟩
      refine ite2 (fun _ => ?_) fun _ => ?_
      · refine ⟨_, rfl, st, cl, rfl, e2.ok, fun x H3 e3 hx => ⟨(by show 2 ≤ sizeLine; decide), fun p hp => ?_⟩⟩
        exact q (.const x) _ _ (((e1.trans e2).trans e3).trans (Drawn.of_same (same_new hp) e3.ok)) (tp_const upd_same) hx d0
      · refine ⟨_, rfl, st, cl, 4, rfl, e2.ok, by decide, by decide, fun x H3 e3 x0 x1 => ⟨(by show 2 ≤ sizeLine; decide), fun p hp => ?_⟩⟩
        exact q (.at_ x) _ _ (((e1.trans e2).trans e3).trans (Drawn.of_same (same_new hp) e3.ok)) (tp_at upd_same) ⟨x0, by omega⟩ d0
    have hd' : d ≠ 0 := fun z => by rw [z] at hd; simp at hd
    refine ⟨_, rfl, _, _, rfl, rfl, _, rfl, ite2 (fun _ => lf) fun _ => ?_⟩
    refine ⟨_, rfl, rfl, _, rfl, ite2 (fun _ => ?_) fun _ => ?_⟩
    · refine ⟨_, rfl, _, rfl, _, _, rfl, rfl, st, cl, d - 1, rfl, by omega, by omega, e1.ok, fun c u H2 e2 t2 o2 p2 => ?_⟩
      refine ⟨_, rfl, _, rfl, _, _, rfl, rfl, st, cl, d - 1, rfl, by omega, by omega, e2.ok, fun a v H3 e3 t3 o3 p3 => ?_⟩
      refine ⟨_, rfl, _, rfl, _, rfl, _, rfl, _, _, rfl, rfl, st, cl, d - 1, rfl, by omega, by omega, e3.ok, fun b x H4 e4 t4 o4 p4 => ?_⟩
      refine ⟨(by show 4 ≤ sizeLine; decide), fun p hp => ?_⟩
      have sp := same_new (o := .tup [.str "if", u, v, x]) hp
      exact q (.ite c a b) _ _ ((((e1.trans e2).trans e3).trans e4).trans (Drawn.of_same sp e4.ok)) (tp_ite upd_same (((t2.tk (e3.tk e2.ok)).tk (e4.tk e3.ok)).tk sp.tk) ((t3.tk (e4.tk e3.ok)).tk sp.tk) (t4.tk sp.tk)) ⟨o2, o3, o4⟩
        (by show ((max c.depth (max a.depth b.depth) + 1 : Nat) : Int) ≤ d; omega)
    · refine ⟨_, rfl, _, rfl, _, _, rfl, rfl, st, cl, d - 1, rfl, by omega, by omega, e1.ok, fun a u H2 e2 t2 o2 p2 => ?_⟩
      refine ⟨(by show 6 ≤ sizeLine; decide), fun p hp => ?_⟩
      have sp := same_new (o := .lst [V.str "+", .str "-", .str "*", .str "=", .str "<", .str "cat"]) hp
      refine ⟨_, rfl, st, cl, 6, rfl, e2.ok.new hp, by decide, by decide, fun v H3 e3 v0 v1 => ?_⟩
      have hp3 : H3 p = some (.lst [V.str "+", .str "-", .str "*", .str "=", .str "<", .str "cat"]) := by
        obtain ⟨c, z, S⟩ := e2.ok
        obtain ⟨h1, h2⟩ := S.away hp
        exact e3.but p _ h1 h2 upd_same
      obtain ⟨o, ho⟩ := op_of v0 v1
      refine ⟨p, _, v, _, rfl, rfl, sq_l hp3, ho, ?_⟩
      refine ⟨_, rfl, _, rfl, _, rfl, _, _, rfl, rfl, st, cl, d - 1, rfl, by omega, by omega, e3.ok, fun b x H4 e4 t4 o4 p4 => ?_⟩
      refine ⟨(by show 3 ≤ sizeLine; decide), fun p2 hp2 => ?_⟩
      have sp2 := same_new (o := .tup [.str o.sign, u, x]) hp2
      have e12 := ((e1.trans e2).trans (Drawn.of_same sp e2.ok)).trans e3
      exact q (.bin o a b) _ _ ((e12.trans e4).trans (Drawn.of_same sp2 e4.ok)) (tp_bin upd_same ((((t2.tk sp.tk).tk (e3.tk (e2.ok.new hp))).tk (e4.tk e3.ok)).tk sp2.tk) (t4.tk sp2.tk)) ⟨o2, o4⟩
        (by show ((max a.depth b.depth + 1 : Nat) : Int) ≤ d; omega)
end
end KA
set_option Elab.async false
set_option linter.all false
set_option maxRecDepth 100000
set_option maxHeartbeats 4000000
/-! lists of the law's expressions; their values -/
namespace KA
open PySem PySem.Spec PyProof.Rows L2
open PySem.W (EachIs)
def ExsAt (K : PySem.W.Frag) (H : Hp) (p : Addr) (es : List Ex) : Prop := ∃ ts : List Addr, H p = some (.lst (ts.map V.ref)) ∧ EachIs (fun t e => Tp K H (.ref t) (Ex.d e)) ts es
theorem ExsAt.mono {K : PySem.W.Frag} {H H' : Hp} (s : Same H H') {p : Addr} {es : List Ex} (h : ExsAt K H p es) : ExsAt K H' p es := by
  obtain ⟨ts, h1, h2⟩ := h
  exact ⟨ts, s _ _ h1, h2.mono fun _ _ q => q.tk s.tk⟩
theorem ExsAt.drawn {K : PySem.W.Frag} {st cl : Addr} {H H' : Hp} (d : Drawn st cl H H') (h : StOk H st cl) {p : Addr} {es : List Ex} (q : ExsAt K H p es) : ExsAt K H' p es := by
  obtain ⟨ts, h1, h2⟩ := q
  exact ⟨ts, d.refs h h1, h2.mono fun _ _ z => z.tk (d.tk h)⟩
theorem tp_ref {K : PySem.W.Frag} {H : Hp} {v : V} : ∀ {e : Ex}, Tp K H v (Ex.d e) → ∃ t, v = .ref t
  | .at_ _, h => by cases h; exact ⟨_, rfl⟩
  | .const _, h => by cases h; exact ⟨_, rfl⟩
  | .ite _ _ _, h => by cases h; exact ⟨_, rfl⟩
  | .bin _ _ _, h => by cases h; exact ⟨_, rfl⟩
def ExsOk (n : Nat) (es : List Ex) : Prop := es.length ≤ 3 ∧ ∀ e ∈ es, e.Ok ∧ e.depth ≤ n
theorem Drawn.upd_fresh {st cl : Addr} {H1 H' : Hp} {D : Addr} (hD : H1 D = none) (Dst : D ≠ st) (Dcl : D ≠ cl) (d : Drawn st cl H1 H') (o : HO) : Drawn st cl H1 (upd H' D o) := by
  refine ⟨fun a x h1 h2 h3 => ?_, ?_, fun z => ?_⟩
  · rw [upd_ne (ne_of_none h3 hD)]
    exact d.but a x h1 h2 h3
  · obtain ⟨c, z, S⟩ := d.ok
    exact ⟨c, z, by rw [upd_ne Dst.symm]; exact S.hs, by rw [upd_ne Dcl.symm]; exact S.hc, S.lo, S.hi, S.len, S.nn⟩
  · rw [upd_ne Dcl.symm]
    exact d.nil z
/-- what was new before a draw is new before all -/
theorem Drawn.free {st cl : Addr} {H H' : Hp} (d : Drawn st cl H H') {p : Addr} (h : H' p = none) : H p = none := by
  cases e : H p with
  | none => rfl
  | some o =>
    exfalso
    obtain ⟨c, z, S⟩ := d.ok
    have h1 : p ≠ st := fun e => by rw [e, S.hs] at h; cases h
    have h2 : p ≠ cl := fun e => by rw [e, S.hc] at h; cases h
    rw [d.but p o h1 h2 e] at h
    cases h
section
variable {P : Program} {w : World} {K L : PySem.W.Frag} {mg : Str → Option Value} {base : Heap} {f : Addr} {fd : FuncData}
/-- the items of a list that is drawn, expression by expression -/
theorem each_ex {H : Hp} {m : Nat} : ∀ {vs : List V} {ns : List Nat}, EachIs (fun v (_ : Nat) => ∃ e, Tp K H v (Ex.d e) ∧ e.Ok ∧ e.depth ≤ m) vs ns → ∃ (ts : List Addr) (es : List Ex), vs = ts.map V.ref ∧ EachIs (fun t e => Tp K H (.ref t) (Ex.d e)) ts es ∧ (∀ e ∈ es, e.Ok ∧ e.depth ≤ m) ∧ es.length = ns.length := by
  intro vs ns h
  induction h with
  | nil => exact ⟨[], [], rfl, .nil, fun e he => (List.not_mem_nil he).elim, rfl⟩
  | cons h tl ih =>
    obtain ⟨e, h1, h2, h3⟩ := h
    obtain ⟨t, rfl⟩ := tp_ref h1
    obtain ⟨ts, es, rfl, i1, i2, i3⟩ := ih
    exact ⟨t :: ts, e :: es, rfl, .cons h1 i1, fun x hx => (List.mem_cons.mp hx).elim (fun z => by rw [z]; exact ⟨h2, h3⟩) (i2 x), by simp [i3]⟩
/-- a comprehension of drawn expressions -/
theorem ex_comp {st cl : Addr} {σ : L2.St} {vs : List Nat} {si : Nat} {H1 : Hp} {D : Addr} {Qd : Hp → Prop} {te : TE} {n : Int} (m : Nat) (ok : StOk H1 st cl) (n0 : 0 ≤ n) (n1 : n ≤ 100) (hD : H1 D = none) (hw : ∀ x, wipe ((wipe σ vs).set si x) vs = wipe σ vs)
    (turn : ∀ (x : V) (H' : Hp), Drawn st cl H1 H' → ∀ Q : VK, (∀ e v H'', Drawn st cl H' H'' → Tp K H'' v (Ex.d e) → e.Ok → e.depth ≤ m → Q v H'') → te ((wipe σ vs).set si (some x)) H' Q)
    (done : ∀ H' es, Drawn st cl H1 H' → ExsAt K H' D es → (∀ e ∈ es, e.Ok ∧ e.depth ≤ m) → (es.length : Int) = n → Qd H') :
    ∃ W : Nat → Nat → Hp → Prop, (∃ m, W 0 m (upd H1 D (.lst []))) ∧ ∀ i m H, W i m H →
      ((Itr 0 n.toNat).stop i H ∧ Qd H) ∨ ((Itr 0 n.toNat).go i H ∧ ∃ Nx : Hp → Prop, (∀ H', Nx H' → ∃ m', m' < m ∧ W (i + 1) m' H') ∧ ∀ x H', (Itr 0 n.toNat).yld i H x H' → gName si x (wipe σ vs) H' fun σ2 H2 => wipe σ2 vs = wipe σ vs ∧
        tYes σ2 H2 fun b H3 => if b = true then te σ2 H3 fun y H4 => ∃ acc, H4 D = some (.lst acc) ∧ acc.length < sizeLine ∧ Nx (upd H4 D (.lst (acc ++ [y]))) else Nx H3) := by
  obtain ⟨c0, z0, S0⟩ := id ok
  obtain ⟨Dst, Dcl⟩ := S0.away hD
  refine lc_go walk_range (List.range n.toNat) (by rw [List.length_range]) (fun _ => true) (fun H v _ => ∃ e, Tp K H v (Ex.d e) ∧ e.Ok ∧ e.depth ≤ m) (fun _ _ _ _ k ⟨e, h1, h2⟩ => ⟨e, h1.tk k, h2⟩) (fun H' => Drawn st cl H1 H') (Drawn.of_same (same_new hD) ok) (fun _ _ => trivial) ?_ (by omega) ?_ ?_
  · exact fun H' acc d => d.upd_fresh hD Dst Dcl _
  · rintro i x b H2 _ hi hb d2 ⟨acc, ha⟩ ⟨rfl, rfl⟩ Q' Qn k1 _
    refine ⟨hw _, yes_in (turn _ _ d2 _ fun e v H3 d3 h1 h2 h3 => k1 rfl _ _ (d2.trans d3) ?_ (d3.tk d2.ok) ⟨e, h1, h2, h3⟩)⟩
    rw [ha]
    exact d3.but D _ Dst Dcl ha
  · intro H2 acc d2 ha he
    rw [filter_true] at he
    obtain ⟨ts, es, rfl, i1, i2, i3⟩ := each_ex he
    refine done H2 es d2 ⟨ts, ha, i1⟩ i2 ?_
    rw [i3, List.length_range]
    omega
def spExprs (K : PySem.W.Frag) : Sp := fun vs H Q _ => ∃ (st cl : Addr), vs = [.ref st] ∧ StOk H st cl ∧ ∀ p es H', Drawn st cl H H' → H p = none → ExsAt K H' p es → ExsOk 1 es → Q (.ref p) H'
theorem ok_exprs {k : Nat} (hk1 : 1 ≤ k) (F : FnP K "_law_exprs" s__law_exprs f fd) (gR : mg "range" = none) (C : DrawC P w K mg base) (CE : Cal P w K mg base "_law_expr" k ["state", "deep"] (spExpr L 2)) : FnOk P w K mg base CX0 (k + 1) f fd ["state"] (spExprs L) := by
  refine F.ok sc__law_exprs (fun vs H Q E h => ?_) (fun cdv A outer s H vs Q E hr h => ?_)
  · obtain ⟨st, cl, rfl, _⟩ := h
    rfl
  · obtain ⟨st, cl, rfl, hS, q⟩ := h
    have r1 := hr.mono hk1
    refine ⟨_, PSs.nox (pss_one (ps_ret (pe_lc (own := [("k", 1)]) (g := (gName 1)) (tt := tYes) (by rfl) sc__law_exprs.nd (pi_range1 rfl gR (pa_cons (pe_cal C r1 (pa_cons (pv 0) (pa_cons pe_int pa_nil))) pa_nil)) (blkOk_by (own := [("k", 1)]) (N := ["state", "k"]) (sc := defScope s__law_exprs) (by decide +kernel)) (fun _ _ _ _ _ => (pg_name (i := 1) sc__law_exprs.nd rfl (Or.inl rfl))) (fun _ _ _ _ _ => pts_nil) (fun _ _ _ _ _ => (pe_cal CE hr (pa_cons (pv 0) (pa_cons pe_int pa_nil))))))), ?_⟩
    refine ⟨_, rfl, st, cl, 4, rfl, hS, by decide, by decide, fun n H1 d1 n0 n1 => ?_⟩
    refine ⟨n, rfl, by omega, by omega, fun D hD => ?_⟩
    refine ex_comp (K := L) (si := 1) 1 d1.ok n0 (by omega) hD (fun _ => rfl) (fun x H' d2 Q' hQ => ?_) fun H' es d2 he ho hl => q D es H' (d1.trans d2) (d1.free hD) he ⟨by omega, ho⟩
    exact ⟨_, rfl, st, cl, 1, rfl, by decide, by decide, d2.ok, fun e v H'' d3 t3 o3 p3 => hQ e v H'' d3 t3 o3 (by omega)⟩
end
end KA
set_option Elab.async false
set_option linter.all false
set_option maxRecDepth 100000
set_option maxHeartbeats 4000000
/-! _law_of: the value of an expression -/
namespace KA
open PySem PySem.Spec PyProof.Rows L2
open PySem.W (EachIs)
section
variable {K : PySem.W.Frag} {σ : L2.St} {i : Nat} {a : Addr} {xs : List V} {t x : Str} {H : Hp} {Qt : Bool → Hp → Prop}
/-- e[0] == x -/
theorem tag_yes (hv : σ[i]? = some (some (.ref a))) (hs : SqT K H a (.str x :: xs)) (h : Qt true H) : tTest (tOp rEq (tOp (rIxT K) (tVar i) (tC (.int 0))) (tC (.str x))) σ H Qt := by
  refine ⟨_, hv, a, _, 0, _, rfl, rfl, hs, atI_nat (j := 0) rfl, rfl, _, rfl, ?_⟩
  rw [decide_eq_true rfl]
  exact h
theorem tag_no (hv : σ[i]? = some (some (.ref a))) (hs : SqT K H a (.str t :: xs)) (h : Qt false H) (hn : t ≠ x := by decide +kernel) : tTest (tOp rEq (tOp (rIxT K) (tVar i) (tC (.int 0))) (tC (.str x))) σ H Qt := by
  refine ⟨_, hv, a, _, 0, _, rfl, rfl, hs, atI_nat (j := 0) rfl, rfl, _, rfl, ?_⟩
  rw [decide_eq_false fun z => hn (by injection z)]
  exact h
end
theorem call_str_key {X : Cx} : CallR X (.type "str") (fun xs H Q => ∃ x : Key, xs = [kV x] ∧ VOk x ∧ Q (.str (textZ x)) H) := by
  intro pins s σ H xs us Q I r h
  obtain ⟨x, rfl, hx, q⟩ := h
  cases x with
  | inl i =>
    have h' : i.natAbs ≤ 2 ^ 33 := hx
    refine call_str_int pins s σ H _ us Q I r ⟨i, rfl, ?_, q⟩
    by_cases e : i.natAbs = 0
    · rw [e]; decide
    · exact Nat.lt_of_lt_of_le ((Nat.log2_lt e).mpr (Nat.lt_of_le_of_lt h' (show 2 ^ 33 < 2 ^ 34 by decide))) (by decide)
  | inr z => exact SkE.call_str_str pins s σ H _ us Q I r ⟨z, rfl, q⟩
theorem sqT_mono {K : PySem.W.Frag} {H H' : Hp} (s : Same H H') {a : Addr} {xs : List V} (h : SqT K H a xs) : SqT K H' a xs := by
  rcases h with (h | ⟨o, h⟩) | h
  · exact .inl (.inl (s _ _ h))
  · exact .inl (.inr ⟨o, s _ _ h⟩)
  · exact .inr h
theorem dp_keyV {K : PySem.W.Frag} {H : Hp} {v : V} : ∀ {x : Key}, Dp K H v (keyD x) → v = kV x
  | .inl i, h => by cases h; rfl
  | .inr z, h => by cases h; rfl
theorem rowLt1 (x y : Key) : rowLt [x] [y] = oneLt x y := by
  rw [rowLt]
  by_cases e : x = y
  · subst e
    rw [if_pos rfl, oneLt_irrefl]
    rfl
  · rw [if_neg e]
theorem key_plain (x : Key) : (keyD x).plain = true ∧ (keyD x).depth ≤ 60 := by
  cases x with
  | inl i => exact ⟨rfl, by simp [keyD, PyData.depth]⟩
  | inr z => exact ⟨rfl, by simp [keyD, PyData.depth]⟩
theorem sign_dict {u v w : V} : valV (mergeK [] [((.inr "+" : Key), u), (.inr "-", v), (.inr "*", w)]) (.inr Bop.add.sign) = some u ∧ valV (mergeK [] [((.inr "+" : Key), u), (.inr "-", v), (.inr "*", w)]) (.inr Bop.sub.sign) = some v ∧
    valV (mergeK [] [((.inr "+" : Key), u), (.inr "-", v), (.inr "*", w)]) (.inr Bop.mul.sign) = some w := ⟨rfl, rfl, rfl⟩
section
variable {P : Program} {w : World} {K : PySem.W.Frag} {mg : Str → Option Value} {base : Heap} {f : Addr} {fd : FuncData}
def spOf (K : PySem.W.Frag) (n : Nat) : Sp := fun vs H Q _ => ∃ (v : V) (e : Ex) (q : Addr) (r : Row), vs = [v, .ref q] ∧ Dp K H v (Ex.d e) ∧ e.Ok ∧ e.depth < n ∧ RowAt H q r ∧ RowV r ∧ ∀ H', Same H H' → Q (kV (e.val r)) H'
theorem ok_of0 (F : FnP K "_law_of" s__law_of f fd) : FnOk P w K mg base CX0 1 f fd ["e", "row"] (spOf K 0) := by
  refine F.ok sc__law_of (fun vs H Q E h => ?_) (fun cdv A outer s H vs Q E hr h => ?_)
  · obtain ⟨v, e, q, r, rfl, _⟩ := h
    rfl
  · obtain ⟨v, e, q, r, rfl, _, _, h, _⟩ := h
    omega
theorem ok_ofS {k n : Nat} (hk1 : 1 ≤ k) (F : FnP K "_law_of" s__law_of f fd) (gI : mg "int" = none) (gL : mg "len" = none) (gT : mg "str" = none) (CN : Cal P w K mg base "_law_number" 1 ["one"] spNumber) (CW : Cal P w K mg base "_law_wrapped" 1 ["n"] spWrap)
    (CK : Cal P w K mg base "_law_key" 1 ["row"] (spLawKey K)) (CF : Cal P w K mg base "_law_of" k ["e", "row"] (spOf K n)) : FnOk P w K mg base CX0 (k + 1) f fd ["e", "row"] (spOf K (n + 1)) := by
  refine F.ok sc__law_of (fun vs H Q E h => ?_) (fun cdv A outer s H vs Q E hr h => ?_)
  · obtain ⟨v, e, q, r, rfl, _⟩ := h
    rfl
  · obtain ⟨v, e, qa, r, rfl, hd, ho, hn, hq, hv, q⟩ := h
    have r1 := hr.mono hk1
    refine ⟨_, PSs.nox (pss_cons (ps_if (pt_cmpR op_eq (pe_ix ix_tup (pv 0) pe_int (fun _ _ => rfl)) pe_str (nomark _))
        (pss_one (ps_ret (pe_ifExp (pt_cmpR op_lt (pe_ix ix_tup (pv 0) pe_int (fun _ _ => rfl)) (pe_callB call_len_seq (by rfl) gL (by decide +kernel) (pa_cons (pv 1) pa_nil)) (nomark _)) (pe_ix ix_tup (pv 1) (pe_ix ix_tup (pv 0) pe_int (fun _ _ => rfl)) (fun _ _ => rfl)) pe_int))) pss_nil)
      (pss_cons (ps_if (pt_cmpR op_eq (pe_ix ix_tup (pv 0) pe_int (fun _ _ => rfl)) pe_str (nomark _))
        (pss_one (ps_ret (pe_ix ix_tup (pv 0) pe_int (fun _ _ => rfl)))) pss_nil)
      (pss_cons (ps_if (pt_cmpR op_eq (pe_ix ix_tup (pv 0) pe_int (fun _ _ => rfl)) pe_str (nomark _))
        (pss_one (ps_ret (pe_ifExp (pt_cmpR (op_neP hr.u64) (pe_cal CF hr (pa_cons (pe_ix ix_tup (pv 0) pe_int (fun _ _ => rfl)) (pa_cons (pv 1) pa_nil))) pe_int (nomark _)) (pe_cal CF hr (pa_cons (pe_ix ix_tup (pv 0) pe_int (fun _ _ => rfl)) (pa_cons (pv 1) pa_nil))) (pe_cal CF hr (pa_cons (pe_ix ix_tup (pv 0) pe_int (fun _ _ => rfl)) (pa_cons (pv 1) pa_nil)))))) pss_nil)
      (pss_cons (ps_set (i := 2) sc__law_of.nd rfl (Or.inl rfl) (pe_cal CF hr (pa_cons (pe_ix ix_tup (pv 0) pe_int (fun _ _ => rfl)) (pa_cons (pv 1) pa_nil))))
      (pss_cons (ps_set (i := 3) sc__law_of.nd rfl (Or.inl rfl) (pe_cal CF hr (pa_cons (pe_ix ix_tup (pv 0) pe_int (fun _ _ => rfl)) (pa_cons (pv 1) pa_nil))))
      (pss_cons (ps_if (pt_cmpR op_eq (pe_ix ix_tup (pv 0) pe_int (fun _ _ => rfl)) pe_str (nomark _))
        (pss_one (ps_ret (pe_callTy call_int1 (by rfl) gI (by decide +kernel) (pa_cons (pe_cmpR (op_eqP hr.u64) (pv 2) (pv 3) (nomark _)) pa_nil)))) pss_nil)
      (pss_cons (ps_if (pt_cmpR op_eq (pe_ix ix_tup (pv 0) pe_int (fun _ _ => rfl)) pe_str (nomark _))
        (pss_one (ps_ret (pe_callTy call_int1 (by rfl) gI (by decide +kernel) (pa_cons (pe_cmpR (op_ltK hr.u64) (pe_cal CK r1 (pa_cons (pe_lst (pa_cons (pv 2) pa_nil)) pa_nil)) (pe_cal CK r1 (pa_cons (pe_lst (pa_cons (pv 3) pa_nil)) pa_nil)) (nomark _)) pa_nil)))) pss_nil)
      (pss_cons (ps_if (pt_cmpR op_eq (pe_ix ix_tup (pv 0) pe_int (fun _ _ => rfl)) pe_str (nomark _))
        (pss_one (ps_ret (pe_slice sl_str (pe_op op_add_str (pe_callTy call_str_key (by rfl) gT (by decide +kernel) (pa_cons (pv 2) pa_nil)) (pe_callTy call_str_key (by rfl) gT (by decide +kernel) (pa_cons (pv 3) pa_nil))) po_none (po_some pe_int)))) pss_nil)
      (pss_cons (ps_set (i := 2) sc__law_of.nd rfl (Or.inl rfl) (pe_cal CN r1 (pa_cons (pv 2) pa_nil)))
      (pss_cons (ps_set (i := 3) sc__law_of.nd rfl (Or.inl rfl) (pe_cal CN r1 (pa_cons (pv 3) pa_nil)))
      (pss_one (ps_ret (pe_cal CW r1 (pa_cons (pe_dget hr.u1 (pe_disp (pps_cons pe_str (pe_op op_add (pv 2) (pv 3)) (pps_cons pe_str (pe_op op_sub (pv 2) (pv 3)) (pps_cons pe_str (pe_op op_mul (pv 2) (pv 3)) pps_nil))) rfl rfl (fun z => nomatch z) (by decide)) (pe_ix ix_tup (pv 0) pe_int (fun _ _ => rfl)) (fun _ _ => rfl)) pa_nil)))))))))))))), ?_⟩
    cases e with
    | at_ j =>
      obtain ⟨j0, j1⟩ := ho
      obtain ⟨a, rfl, hs⟩ : ∃ a, v = .ref a ∧ SqT K H a [.str "at", .int j] := by
        cases hd with
        | tup hs ha =>
          cases ha with
          | cons h1 ha =>
            cases h1
            cases ha with
            | cons h2 ha =>
              cases h2
              cases ha
              exact ⟨_, rfl, hs⟩
      obtain ⟨m, rfl⟩ : ∃ m : Nat, j = m := ⟨j.toNat, by omega⟩
      refine tag_yes rfl hs (iteT ?_)
      refine ⟨_, rfl, a, _, 1, _, rfl, rfl, hs, atI_nat (j := 1) rfl, ?_⟩
      refine ⟨_, rfl, qa, _, rfl, .inr hq.sq, _, _, rfl, rfl, _, rfl, ?_⟩
      have e1 : (Ex.at_ (m : Int)).val r = (r[m]?).getD (.inl 0) := by
        show (r[(m : Int).toNat]?).getD (.inl 0) = _
        rw [Int.toNat_natCast]
      refine ite2 (fun hlt => ?_) fun hlt => ?_
      · have hlt := of_decide_eq_true hlt
        rw [List.length_map] at hlt
        obtain ⟨x, hx⟩ : ∃ x, r[m]? = some x := ⟨_, List.getElem?_eq_getElem (by omega)⟩
        refine ⟨_, rfl, _, rfl, a, _, 1, _, rfl, rfl, hs, atI_nat (j := 1) rfl, qa, _, m, kV x, rfl, rfl, hq.sq, atI_nat (j := m) (by rw [List.getElem?_map, hx]; rfl), ?_⟩
        have := q _ (Same.refl _)
        rw [e1, hx] at this
        exact this
      · have hlt : ¬ ((m : Int) < ((r.map kV).length : Nat)) := fun z => hlt (decide_eq_true z)
        rw [List.length_map] at hlt
        have := q _ (Same.refl _)
        rw [e1, List.getElem?_eq_none (by omega)] at this
        exact this
    | const x =>
      obtain ⟨a, rfl, hs⟩ : ∃ a, v = .ref a ∧ SqT K H a [.str "const", kV x] := by
        cases hd with
        | tup hs ha =>
          cases ha with
          | cons h1 ha =>
            cases h1
            cases ha with
            | cons h2 ha =>
              cases ha
              obtain rfl := dp_keyV h2
              exact ⟨_, rfl, hs⟩
      exact tag_no rfl hs (iteF (tag_yes rfl hs (iteT ⟨_, rfl, a, _, 1, _, rfl, rfl, hs, atI_nat (j := 1) rfl, q _ (Same.refl _)⟩)))
    | ite c x y =>
      obtain ⟨o1, o2, o3⟩ := ho
      have hn' : max c.depth (max x.depth y.depth) + 1 < n + 1 := hn
      obtain ⟨a, u1, u2, u3, rfl, hs, t1, t2, t3⟩ : ∃ a u1 u2 u3, v = .ref a ∧ SqT K H a [.str "if", u1, u2, u3] ∧ Dp K H u1 c.d ∧ Dp K H u2 x.d ∧ Dp K H u3 y.d := by
        cases hd with
        | tup hs ha =>
          cases ha with
          | cons h1 ha =>
            cases h1
            cases ha with
            | cons h2 ha =>
              cases ha with
              | cons h3 ha =>
                cases ha with
                | cons h4 ha =>
                  cases ha
                  exact ⟨_, _, _, _, rfl, hs, h2, h3, h4⟩
      refine tag_no rfl hs (iteF (tag_no rfl hs (iteF (tag_yes rfl hs (iteT ?_)))))
      refine ⟨_, rfl, a, _, 1, _, rfl, rfl, hs, atI_nat (j := 1) rfl, _, rfl, u1, c, qa, r, rfl, t1, o1, by omega, hq, hv, fun H1 s1 => ?_⟩
      obtain ⟨pl, dp⟩ := key_plain (c.val r)
      refine ⟨_, _, dp_key (c.val r), dp_key (.inl 0), pl, rfl, dp, _, rfl, ?_⟩
      rw [eqv_key]
      have hs1 : SqT K H1 a [.str "if", u1, u2, u3] := sqT_mono s1 hs
      by_cases e0 : c.val r = .inl 0
      · rw [decide_eq_true e0]
        refine iteF ⟨_, rfl, a, _, 3, _, rfl, rfl, hs1, atI_nat (j := 3) rfl, _, rfl, u3, y, qa, r, rfl, Dp.mono s1 t3, o3, by omega, hq.mono s1, hv, fun H2 s2 => ?_⟩
        have := q _ (s1.trans s2)
        rw [show (Ex.ite c x y).val r = y.val r from if_pos e0] at this
        exact this
      · rw [decide_eq_false e0]
        refine iteT ⟨_, rfl, a, _, 2, _, rfl, rfl, hs1, atI_nat (j := 2) rfl, _, rfl, u2, x, qa, r, rfl, Dp.mono s1 t2, o2, by omega, hq.mono s1, hv, fun H2 s2 => ?_⟩
        have := q _ (s1.trans s2)
        rw [show (Ex.ite c x y).val r = x.val r from if_neg e0] at this
        exact this
    | bin o x y =>
      obtain ⟨o1, o2⟩ := ho
      have hn' : max x.depth y.depth + 1 < n + 1 := hn
      obtain ⟨a, u1, u2, rfl, hs, t1, t2⟩ : ∃ a u1 u2, v = .ref a ∧ SqT K H a [.str o.sign, u1, u2] ∧ Dp K H u1 x.d ∧ Dp K H u2 y.d := by
        cases hd with
        | tup hs ha =>
          cases ha with
          | cons h1 ha =>
            cases h1
            cases ha with
            | cons h2 ha =>
              cases ha with
              | cons h3 ha =>
                cases ha
                exact ⟨_, _, _, rfl, hs, h2, h3⟩
      have vx := val_ok (e := x) o1 hv
      have vy := val_ok (e := y) o2 hv
      have n1 : o.sign ≠ "at" := by cases o <;> decide +kernel
      have n2 : o.sign ≠ "const" := by cases o <;> decide +kernel
      have n3 : o.sign ≠ "if" := by cases o <;> decide +kernel
      refine tag_no rfl hs (iteF (tag_no rfl hs (iteF (tag_no rfl hs (iteF ?_) n3)) n2)) n1
      refine ⟨_, rfl, a, _, 1, _, rfl, rfl, hs, atI_nat (j := 1) rfl, _, rfl, u1, x, qa, r, rfl, t1, o1, by omega, hq, hv, fun H1 s1 => ?_⟩
      refine ⟨_, rfl, a, _, 2, _, rfl, rfl, sqT_mono s1 hs, atI_nat (j := 2) rfl, _, rfl, u2, y, qa, r, rfl, Dp.mono s1 t2, o2, by omega, hq.mono s1, hv, fun H2 s2 => ?_⟩
      have q2 : ∀ H', Same H2 H' → Q (kV (binZ o (x.val r) (y.val r))) H' := fun H' s' => q H' ((s1.trans s2).trans s')
      have hs2 : SqT K H2 a [.str o.sign, u1, u2] := sqT_mono (s1.trans s2) hs
      generalize x.val r = vx1 at vx q2 ⊢
      generalize y.val r = vy1 at vy q2 ⊢
      clear q hs hq t1 t2 s1 s2
      have bx := num_bd vx
      have by_ := num_bd vy
      have kp := fun x : Key => key_plain x
      by_cases c1 : o = .eq
      · subst c1
        refine tag_yes rfl hs2 (iteT ⟨_, rfl, _, rfl, _, _, dp_key vx1, dp_key vy1, (kp vx1).1, (kp vy1).1, (kp vx1).2, .inr ⟨_, rfl, ?_⟩⟩)
        rw [eqv_key]
        exact q2 _ (Same.refl _)
      have m1 : o.sign ≠ "=" := by cases o <;> first | exact absurd rfl c1 | decide +kernel
      refine tag_no rfl hs2 (iteF ?_) m1
      by_cases c2 : o = .lt
      · subst c2
        refine tag_yes rfl hs2 (iteT ⟨_, rfl, (by show 1 ≤ sizeLine; decide), fun p hp => ⟨p, [vx1], rfl, .inr upd_same, (by show 1 ≤ 1000; decide), fun u H3 s3 d3 => ?_⟩⟩)
        refine ⟨_, rfl, (by show 1 ≤ sizeLine; decide), fun p2 hp2 => ⟨p2, [vy1], rfl, .inr upd_same, (by show 1 ≤ 1000; decide), fun u2 H4 s4 d4 => ?_⟩⟩
        refine .inr (.inl ⟨[vx1], [vy1], Dp.mono ((same_new hp2).trans s4) d3, d4, .inr ⟨_, rfl, ?_⟩⟩)
        rw [rowLt1]
        exact q2 _ (((same_new hp).trans s3).trans ((same_new hp2).trans s4))
      have m2 : o.sign ≠ "<" := by cases o <;> first | exact absurd rfl c2 | decide +kernel
      refine tag_no rfl hs2 (iteF ?_) m2
      by_cases c3 : o = .cat
      · subst c3
        have l1 := text_bd vx
        have l2 := text_bd vy
        refine tag_yes rfl hs2 (iteT ⟨_, rfl, vx1, rfl, vx, _, rfl, vy1, rfl, vy, _, _, rfl, rfl, ?_, ?_⟩)
        · exact Nat.le_trans (show _ ≤ 100 by omega) (by decide)
        · refine ⟨_, rfl, _, rfl, ?_, q2 _ (Same.refl _)⟩
          rw [strLen_append]
          exact Nat.le_trans (show _ ≤ 100 by omega) (by decide)
      have m3 : o.sign ≠ "cat" := by cases o <;> first | exact absurd rfl c3 | decide +kernel
      refine tag_no rfl hs2 (iteF ?_) m3
      refine ⟨_, rfl, vx1, rfl, _, rfl, vy1, rfl, fun p hp => ?_⟩
      refine ⟨_, rfl, _, rfl, _, _, rfl, rfl, _, rfl, _, rfl, _, _, rfl, rfl, _, rfl, _, rfl, _, _, rfl, rfl, .inl ⟨by omega, by omega⟩, ?_⟩
      obtain ⟨z, hz, hb⟩ : ∃ z : Int, valV (mergeK [] [((.inr "+" : Key), V.int (numZ vx1 + numZ vy1)), (.inr "-", V.int (numZ vx1 - numZ vy1)), (.inr "*", V.int (numZ vx1 * numZ vy1))]) (.inr o.sign) = some (.int z) ∧ binZ o vx1 vy1 = .inl (wrapZ z) := by
        cases o with
        | add => exact ⟨_, sign_dict.1, rfl⟩
        | sub => exact ⟨_, sign_dict.2.1, rfl⟩
        | mul => exact ⟨_, sign_dict.2.2, rfl⟩
        | eq => exact absurd rfl c1
        | lt => exact absurd rfl c2
        | cat => exact absurd rfl c3
      rw [hb] at q2
      refine ⟨upd_same, [(.inr "+", _), (.inr "-", _), (.inr "*", _)], rfl, (by show 3 ≤ 15; decide), ?_⟩
      have s3 := same_mut (o := .dK (mergeK [] [((.inr "+" : Key), V.int (numZ vx1 + numZ vy1)), (.inr "-", V.int (numZ vx1 - numZ vy1)), (.inr "*", V.int (numZ vx1 * numZ vy1))])) (same_new (o := .dK []) hp) hp
      exact ⟨_, rfl, a, _, 0, _, rfl, rfl, sqT_mono s3 hs2, atI_nat (j := 0) rfl, p, _, rfl, .inl ⟨_, .inr o.sign, .inl upd_same, rfl, hz.symm⟩, _, rfl, q2 _ s3⟩
end
end KA
set_option Elab.async false
set_option linter.all false
set_option maxRecDepth 100000
set_option maxHeartbeats 4000000
/-! _law_rowed, _law_added -/
namespace KA
open PySem PySem.Spec PyProof.Rows L2
open PySem.W (EachIs)
/-- a list of expressions, as data -/
def ExsD (K : PySem.W.Frag) (H : Hp) (p : Addr) (es : List Ex) : Prop := ∃ vs : List V, SqL K H p vs ∧ DpAll K H vs (es.map Ex.d)
theorem ExsAt.data {K : PySem.W.Frag} {H : Hp} {p : Addr} {es : List Ex} (h : ExsAt K H p es) : ExsD K H p es := by
  obtain ⟨ts, h1, h2⟩ := h
  exact ⟨_, sq_l h1, dp_each (D := Ex.d) (fun _ _ q => Tp.dp q) h2⟩
theorem sqL_mono {K : PySem.W.Frag} {H H' : Hp} (s : Same H H') {a : Addr} {xs : List V} (h : SqL K H a xs) : SqL K H' a xs := s.seq h
theorem DpAll.mono {K : PySem.W.Frag} {H H' : Hp} (s : Same H H') {ds : List PyData} {vs : List V} (h : DpAll K H vs ds) : DpAll K H' vs ds := DpAll.monoD (Same.d s) ds vs h
theorem ExsD.mono {K : PySem.W.Frag} {H H' : Hp} (s : Same H H') {p : Addr} {es : List Ex} (h : ExsD K H p es) : ExsD K H' p es := by
  obtain ⟨vs, h1, h2⟩ := h
  exact ⟨vs, sqL_mono s h1, DpAll.mono s h2⟩
theorem dpAll_len {K : PySem.W.Frag} {H : Hp} : ∀ {vs : List V} {ds : List PyData}, DpAll K H vs ds → vs.length = ds.length
  | _, _, .nil => rfl
  | _, _, .cons _ t => by simp [dpAll_len t]
theorem dpAll_get {K : PySem.W.Frag} {H : Hp} : ∀ {vs : List V} {ds : List PyData} {i : Nat} {v : V} {d : PyData}, DpAll K H vs ds → vs[i]? = some v → ds[i]? = some d → Dp K H v d
  | _, _, _, _, _, .nil, h, _ => by simp at h
  | _, _, 0, _, _, .cons q t, h, g => by
    simp at h g
    subst h g
    exact q
  | _, _, i + 1, _, _, .cons q t, h, g => dpAll_get (i := i) t (by simpa using h) (by simpa using g)
def ExsB (n : Nat) (es : List Ex) : Prop := es.length ≤ 1000 ∧ ∀ e ∈ es, e.Ok ∧ e.depth < n
def rowOf (es : List Ex) (r : Row) : Row := es.map fun e => e.val r
theorem rowOf_v {n : Nat} {es : List Ex} {r : Row} (h : ExsB n es) (hr : RowV r) : RowV (rowOf es r) := by
  unfold rowOf
  refine ⟨by rw [List.length_map]; exact h.1, fun x hx => ?_⟩
  obtain ⟨e, he, rfl⟩ := List.mem_map.mp hx
  exact val_ok (h.2 e he).1 hr
section
variable {P : Program} {w : World} {K : PySem.W.Frag} {mg : Str → Option Value} {base : Heap} {f : Addr} {fd : FuncData}
def spRowed (K : PySem.W.Frag) (n : Nat) : Sp := fun vs H Q _ => ∃ (p q : Addr) (es : List Ex) (r : Row), vs = [.ref p, .ref q] ∧ ExsD K H p es ∧ ExsB n es ∧ RowAt H q r ∧ RowV r ∧ ∀ t H', Same H H' → RowAt H' t (rowOf es r) → Q (.ref t) H'
theorem ok_rowed {k n : Nat} (F : FnP K "_law_rowed" s__law_rowed f fd) (gU : mg "tuple" = none) (CF : Cal P w K mg base "_law_of" k ["e", "row"] (spOf K n)) : FnOk P w K mg base CX0 (k + 1) f fd ["exprs", "row"] (spRowed K n) := by
  refine F.ok sc__law_rowed (fun vs H Q E h => ?_) (fun cdv A outer s H vs Q E hr h => ?_)
  · obtain ⟨p, q, es, r, rfl, _⟩ := h
    rfl
  · obtain ⟨p, qa, es, r, rfl, he, hb, hq, hv, q⟩ := h
    refine ⟨_, PSs.nox (pss_one (ps_ret (pe_callTy call_tuple_of (by rfl) gU (by decide +kernel) (pa_cons (pe_lc (own := [("e", 2)]) (g := (gName 2)) (tt := tYes) (by rfl) sc__law_rowed.nd (pi_list (pv 0)) (blkOk_by (own := [("e", 2)]) (N := ["exprs", "row", "e"]) (sc := defScope s__law_rowed) (by decide +kernel)) (fun _ _ _ _ _ => (pg_name (i := 2) sc__law_rowed.nd rfl (Or.inl rfl))) (fun _ _ _ _ _ => pts_nil) (fun _ _ _ _ _ => (pe_cal CF hr (pa_cons (pv 2) (pa_cons (pv 1) pa_nil))))) pa_nil)))), ?_⟩
    obtain ⟨vs, h1, h2⟩ := he
    have hl := dpAll_len h2
    rw [List.length_map] at hl
    refine ⟨_, rfl, p, rfl, ⟨_, h1⟩, fun D hD => ?_⟩
    refine lc_same (walk_list (xs := vs)) es hl.symm (fun _ => true) (fun _ v e => v = kV (e.val r)) (fun _ _ _ _ _ z => z) hD (fun H' s' => sqL_mono s' h1) (by rw [hl]; have := hb.1; omega) ?_ ?_
    · rintro i x e H1 _ hi he s1 ⟨rfl, hx⟩ Q' Qn k1 _
      have hd : Dp K H x (Ex.d e) := dpAll_get h2 hx (by rw [List.getElem?_map, he]; rfl)
      obtain ⟨o1, o2⟩ := hb.2 e (List.mem_of_getElem? he)
      exact ⟨rfl, yes_in ⟨_, rfl, _, rfl, x, e, qa, r, rfl, Dp.mono s1 hd, o1, o2, hq.mono s1, hv, fun H2 s2 => k1 rfl _ _ s2 rfl⟩⟩
    · intro H1 acc s1 ha he
      rw [filter_true] at he
      have e1 : acc = (rowOf es r).map kV := by
        clear ha
        unfold rowOf
        clear q hb h2 hl
        induction he with
        | nil => rfl
        | cons h t ih => simp [h, ih]
      subst e1
      exact ⟨D, _, rfl, .inl ⟨sq_l ha, fun t ht => q t _ (s1.trans (same_new ht)) upd_same⟩⟩
def spAdded : Sp := fun vs H Q _ => ∃ (d q : Addr) (ps : Bag) (r : Row) (c : Int), vs = [.ref d, .ref q, .int c] ∧ H d = some (.dT (vk (tally ps))) ∧ RowAt H q r ∧ ps.length ≤ 20000 ∧ Q .non (upd H d (.dT (vk (tally (ps ++ [(r, c)])))))
theorem ok_added (F : FnP K "_law_added" s__law_added f fd) : FnOk P w K mg base CX0 1 f fd ["counts", "row", "count"] spAdded := by
  refine F.ok sc__law_added (fun vs H Q E h => ?_) (fun cdv A outer s H vs Q E hr h => ?_)
  · obtain ⟨d, q, ps, r, c, rfl, _⟩ := h
    rfl
  · obtain ⟨d, qa, ps, r, c, rfl, hd, hq, hl, q⟩ := h
    refine ⟨_, PSs.nox (pss_one (ps_dput hr.u1 (pv 0) (pv 1) (pe_op op_add (pe_dget2 hr.u1 (pv 0) (pv 1) pe_int ⟨rfl, rfl, rfl, rfl⟩) (pv 2)) rfl)), ?_⟩
    refine ⟨_, rfl, d, rfl, .inr ⟨_, .inl hd⟩, _, rfl, _, DGet.t hd hq, ?_⟩
    refine ⟨_, rfl, _, _, vk_getD _ _, rfl, ?_⟩
    have hlt : (vk (tally ps)).length < sizeLine := by
      rw [List.length_map]
      have := tally_len ps
      exact Nat.lt_of_lt_of_le (show _ < 30000 by omega) (by decide)
    refine ⟨_, rfl, _, rfl, d, _, rfl, DPut.t hd hq hlt, ?_⟩
    rw [vk_put]
    rw [tally_snoc] at q
    exact q
end
end KA
set_option Elab.async false
set_option linter.all false
set_option maxRecDepth 100000
set_option maxHeartbeats 4000000
/-! terms: what they are, how they stand in the heap -/
namespace KA
open PySem PySem.Spec PyProof.Rows L2
open PySem.W (EachIs)
inductive Nk | old | change | new
def Nk.sign : Nk → Str
  | .old => "old" | .change => "change" | .new => "new"
inductive Fk | count | sum | least | most
def Fk.sign : Fk → Str
  | .count => "count" | .sum => "sum" | .least => "least" | .most => "most"
inductive Tm
  | name (k : Nk) (n : Str)
  | bag (b : Bag)
  | map (es : List Ex) (t : Tm)
  | keep (e : Ex) (t : Tm)
  | neg (t : Tm)
  | once (t : Tm)
  | fold (keys : List Ex) (k : Fk) (e : Ex) (t : Tm)
  | plus (a b : Tm)
  | join (l r es : List Ex) (a b : Tm)
def exsD (es : List Ex) : PyData := .list (es.map Ex.d)
namespace Tm
def d : Tm → PyData
  | .name k n => .tuple [.str k.sign, .str n]
  | .bag b => .tuple [.str "bag", bagD b]
  | .map es t => .tuple [.str "map", exsD es, t.d]
  | .keep e t => .tuple [.str "keep", e.d, t.d]
  | .neg t => .tuple [.str "neg", t.d]
  | .once t => .tuple [.str "once", t.d]
  | .fold keys k e t => .tuple [.str "fold", exsD keys, .str k.sign, e.d, t.d]
  | .plus a b => .tuple [.str "plus", a.d, b.d]
  | .join l r es a b => .tuple [.str "join", exsD l, exsD r, exsD es, a.d, b.d]
def depth : Tm → Nat
  | .name _ _ => 0
  | .bag _ => 0
  | .map _ t => t.depth + 1
  | .keep _ t => t.depth + 1
  | .neg t => t.depth + 1
  | .once t => t.depth + 1
  | .fold _ _ _ t => t.depth + 1
  | .plus a b => max a.depth b.depth + 1
  | .join _ _ _ a b => max a.depth b.depth + 1
/-- joins on a path -/
def joins : Tm → Nat
  | .name _ _ => 0
  | .bag _ => 0
  | .map _ t => t.joins
  | .keep _ t => t.joins
  | .neg t => t.joins
  | .once t => t.joins
  | .fold _ _ _ t => t.joins
  | .plus a b => max a.joins b.joins
  | .join _ _ _ a b => max a.joins b.joins + 1
def Ok : Tm → Prop
  | .name _ n => n = "a" ∨ n = "b"
  | .bag b => GoodBag b
  | .map es t => ExsOk 1 es ∧ t.Ok
  | .keep e t => (e.Ok ∧ e.depth ≤ 2) ∧ t.Ok
  | .neg t => t.Ok
  | .once t => t.Ok
  | .fold keys _ e t => ExsOk 1 keys ∧ (e.Ok ∧ e.depth ≤ 1) ∧ t.Ok
  | .plus a b => a.Ok ∧ b.Ok
  | .join l r es a b => ExsOk 1 l ∧ ExsOk 1 r ∧ ExsOk 1 es ∧ a.Ok ∧ b.Ok
/-- of old names alone -/
def Simple : Tm → Prop
  | .name k _ => k = .old
  | .bag _ => True
  | .map _ t => t.Simple
  | .keep _ t => t.Simple
  | .neg t => t.Simple
  | .once t => t.Simple
  | .fold _ _ _ t => t.Simple
  | .plus a b => a.Simple ∧ b.Simple
  | .join _ _ _ a b => a.Simple ∧ b.Simple
end Tm
/-! ### tuples, and lists of objects alone -/
def isRefs : List V → Bool
  | [] => true
  | .ref _ :: t => isRefs t
  | _ :: _ => false
theorem isRefs_map : ∀ ts : List Addr, isRefs (ts.map V.ref) = true
  | [] => rfl
  | _ :: t => isRefs_map t
theorem isRefs_is : ∀ {xs : List V}, isRefs xs = true → ∃ ts : List Addr, xs = ts.map V.ref
  | [], _ => ⟨[], rfl⟩
  | .ref a :: t, h => by
    obtain ⟨ts, rfl⟩ := isRefs_is (xs := t) h
    exact ⟨a :: ts, rfl⟩
  | .non :: _, h => by cases h
  | .bl _ :: _, h => by cases h
  | .int _ :: _, h => by cases h
  | .str _ :: _, h => by cases h
  | .byt _ :: _, h => by cases h
  | .ty _ :: _, h => by cases h
  | .flt _ :: _, h => by cases h
def frm (H : Hp) : Hp := fun a => match H a with
  | some (.tup xs) => some (.tup xs)
  | some (.lst xs) => if isRefs xs = true then some (.lst xs) else none
  | _ => none
theorem frm_tup {H : Hp} {a : Addr} {xs : List V} (h : H a = some (.tup xs)) : frm H a = some (.tup xs) := by
  unfold frm
  rw [h]
theorem frm_lst {H : Hp} {a : Addr} {ts : List Addr} (h : H a = some (.lst (ts.map V.ref))) : frm H a = some (.lst (ts.map V.ref)) := by
  unfold frm
  rw [h]
  exact if_pos (isRefs_map ts)
theorem frm_is {H : Hp} {a : Addr} {o : HO} (h : frm H a = some o) : (∃ xs, o = .tup xs ∧ H a = some (.tup xs)) ∨ ∃ ts : List Addr, o = .lst (ts.map V.ref) ∧ H a = some (.lst (ts.map V.ref)) := by
  unfold frm at h
  split at h
  · rename_i xs e
    exact .inl ⟨xs, (Option.some.inj h).symm, e⟩
  · rename_i xs e
    split at h
    · rename_i q
      obtain ⟨ts, rfl⟩ := isRefs_is q
      exact .inr ⟨ts, (Option.some.inj h).symm, e⟩
    · cases h
  · cases h
theorem frm_sub (H : Hp) : Same (frm H) H := fun a o h => by
  rcases frm_is h with ⟨xs, rfl, e⟩ | ⟨ts, rfl, e⟩
  · exact e
  · exact e
theorem tups_frm (H : Hp) : Same (tups H) (frm H) := fun a o h => by
  obtain ⟨xs, rfl, e⟩ := tups_is h
  exact frm_tup e
theorem Same.frm {H H' : Hp} (s : Same H H') : Same (KA.frm H) (KA.frm H') := fun a o h => by
  rcases frm_is h with ⟨xs, rfl, e⟩ | ⟨ts, rfl, e⟩
  · exact frm_tup (s _ _ e)
  · exact frm_lst (s _ _ e)
theorem Drawn.frm {st cl : Addr} {H H' : Hp} (d : Drawn st cl H H') (h : StOk H st cl) : Same (KA.frm H) (KA.frm H') := fun a o q => by
  rcases frm_is q with ⟨xs, rfl, e⟩ | ⟨ts, rfl, e⟩
  · exact frm_tup ((d.tk h).at e)
  · exact frm_lst (d.refs h e)
/-- data of tuples and lists of objects -/
def Fd (K : PySem.W.Frag) (H : Hp) (v : V) (d : PyData) : Prop := Dp K (frm H) v d
theorem Fd.dp {K : PySem.W.Frag} {H : Hp} {v : V} {d : PyData} (h : Fd K H v d) : Dp K H v d := Dp.mono (frm_sub H) h
theorem Fd.same {K : PySem.W.Frag} {H H' : Hp} (s : Same H H') {v : V} {d : PyData} (h : Fd K H v d) : Fd K H' v d := Dp.mono (Same.frm s) h
theorem Fd.drawn {K : PySem.W.Frag} {st cl : Addr} {H H' : Hp} (e : Drawn st cl H H') (ok : StOk H st cl) {v : V} {d : PyData} (h : Fd K H v d) : Fd K H' v d := Dp.mono (e.frm ok) h
theorem Tp.fd {K : PySem.W.Frag} {H : Hp} {v : V} {d : PyData} (h : Tp K H v d) : Fd K H v d := Dp.mono (tups_frm H) h
theorem BagAt.fd {K : PySem.W.Frag} {H : Hp} {p : Addr} {b : Bag} (h : BagAt H p b) : Fd K H (.ref p) (bagD b) := by
  obtain ⟨ts, h1, h2⟩ := h
  exact dp_bag ⟨ts, frm_lst h1, h2.mono fun _ _ ⟨q, p1, p2⟩ => ⟨q, frm_tup p1, frm_tup p2⟩⟩
theorem ExsAt.fd {K : PySem.W.Frag} {H : Hp} {p : Addr} {es : List Ex} (h : ExsAt K H p es) : Fd K H (.ref p) (exsD es) := by
  obtain ⟨ts, h1, h2⟩ := h
  exact .lst (sq_l (frm_lst h1)) (dp_each (D := Ex.d) (fun _ _ q => Tp.fd q) h2)
theorem sqt_frm {K : PySem.W.Frag} {H : Hp} {a : Addr} {xs : List V} (h : H a = some (.tup xs)) : SqT K (frm H) a xs := .inl (.inl (frm_tup h))
/-- kinds: a list of texts -/
def kindsOf (smp : Bool) : List Str := if smp = true then ["old"] else ["old", "change", "new"]
def KindsAt (H : Hp) (p : Addr) (smp : Bool) : Prop := H p = some (.lst ((kindsOf smp).map V.str))
theorem KindsAt.drawn {st cl : Addr} {H H' : Hp} (d : Drawn st cl H H') (h : StOk H st cl) {p : Addr} {smp : Bool} (q : KindsAt H p smp) : KindsAt H' p smp := by
  obtain ⟨c, z, S⟩ := h
  have q' : H p = some (.lst ((kindsOf smp).map V.str)) := q
  refine d.but p _ (fun e => ?_) (fun e => ?_) q'
  · rw [e, S.hs] at q'
    cases smp <;> cases q'
  · rw [e, S.hc] at q'
    have q2 : c.map V.int = (kindsOf smp).map V.str := by injection (Option.some.inj q')
    cases c with
    | nil => cases smp <;> cases q2
    | cons x t => cases smp <;> (injection q2 with q3 _; cases q3)
theorem kind_at {smp : Bool} {v : Int} (h0 : 0 ≤ v) (h1 : v < ((kindsOf smp).map V.str).length) : ∃ k : Nk, atI ((kindsOf smp).map V.str) v = some (.str k.sign) ∧ (smp = true → k = .old) := by
  cases smp with
  | true =>
    have h2 : v < 1 := h1
    obtain rfl : v = 0 := by omega
    exact ⟨.old, atI_nat (j := 0) rfl, fun _ => rfl⟩
  | false =>
    have h2 : v < 3 := h1
    have : v = 0 ∨ v = 1 ∨ v = 2 := by omega
    rcases this with rfl | rfl | rfl
    · exact ⟨.old, atI_nat (j := 0) rfl, fun _ => rfl⟩
    · exact ⟨.change, atI_nat (j := 1) rfl, fun z => by cases z⟩
    · exact ⟨.new, atI_nat (j := 2) rfl, fun z => by cases z⟩
theorem name_at {v : Int} (h0 : 0 ≤ v) (h1 : v < 2) : ∃ n : Str, (n = "a" ∨ n = "b") ∧ atI [V.str "a", .str "b"] v = some (.str n) := by
  have : v = 0 ∨ v = 1 := by omega
  rcases this with rfl | rfl
  · exact ⟨"a", .inl rfl, atI_nat (j := 0) rfl⟩
  · exact ⟨"b", .inr rfl, atI_nat (j := 1) rfl⟩
theorem fk_at {v : Int} (h0 : 0 ≤ v) (h1 : v < 4) : ∃ k : Fk, atI [V.str "count", .str "sum", .str "least", .str "most"] v = some (.str k.sign) := by
  rcases four h0 h1 with rfl | rfl | rfl | rfl
  · exact ⟨.count, atI_nat (j := 0) rfl⟩
  · exact ⟨.sum, atI_nat (j := 1) rfl⟩
  · exact ⟨.least, atI_nat (j := 2) rfl⟩
  · exact ⟨.most, atI_nat (j := 3) rfl⟩
theorem good_nil : GoodBag [] := ⟨⟨List.Pairwise.nil, fun e he => by cases he⟩, Nat.zero_le _, fun e he => (List.not_mem_nil he).elim, fun e he => (List.not_mem_nil he).elim⟩
/-- what is laid anew, over a draw -/
theorem Drawn.lay {st cl : Addr} {H H' : Hp} (d : Drawn st cl H H') {p : Addr} {o : HO} (hp : H' p = none) : Drawn st cl H (upd H' p o) := d.trans (Drawn.of_same (same_new hp) d.ok)
section
variable {P : Program} {w : World} {K L : PySem.W.Frag} {mg : Str → Option Value} {base : Heap} {f : Addr} {fd : FuncData}
structure LeafT (smp : Bool) (t : Tm) : Prop where
  ok : t.Ok
  dp : t.depth = 0
  jn : t.joins = 0
  sm : smp = true → t.Simple
def spLeaf (K : PySem.W.Frag) : Sp := fun vs H Q _ => ∃ (st cl kp : Addr) (smp : Bool), vs = [.ref st, .ref kp] ∧ StOk H st cl ∧ KindsAt H kp smp ∧ ∀ t v H', Drawn st cl H H' → Fd K H' v (Tm.d t) → LeafT smp t → Q v H'
theorem ok_leaf (F : FnP K "_law_leaf" s__law_leaf f fd) (gL : mg "len" = none) (C : DrawC P w K mg base) (CB : Cal P w K mg base "_law_bag" 5 ["state", "most"] spBag) : FnOk P w K mg base CX0 6 f fd ["state", "kinds"] (spLeaf L) := by
  refine F.ok sc__law_leaf (fun vs H Q E h => ?_) (fun cdv A outer s H vs Q E hr h => ?_)
  · obtain ⟨st, cl, kp, smp, rfl, _⟩ := h
    rfl
  · obtain ⟨st, cl, kp, smp, rfl, hS, hk, q⟩ := h
    refine ⟨_, PSs.nox (pss_cons (ps_set (i := 2) sc__law_leaf.nd rfl (Or.inl rfl) (pe_cal C hr.lt (pa_cons (pv 0) (pa_cons pe_int pa_nil))))
      (pss_cons (ps_if (pt_cmpR op_eq (pv 2) pe_int (nomark _))
        (pss_one (ps_ret (pe_tup (pa_cons pe_str (pa_cons (pe_ifExp (pt_cmpR op_eq (pe_cal C hr.lt (pa_cons (pv 0) (pa_cons pe_int pa_nil))) pe_int (nomark _)) (pe_lst pa_nil) (pe_cal CB hr (pa_cons (pv 0) (pa_cons pe_int pa_nil)))) pa_nil))))) pss_nil)
      (pss_one (ps_ret (pe_tup (pa_cons (pe_ix ix_list (pv 1) (pe_cal C hr.lt (pa_cons (pv 0) (pa_cons (pe_callB call_len_seq (by rfl) gL PySem.boot_len (pa_cons (pv 1) pa_nil)) pa_nil))) (fun _ _ => rfl)) (pa_cons (pe_ix ix_list (pe_lst (pa_cons pe_str (pa_cons pe_str pa_nil))) (pe_cal C hr.lt (pa_cons (pv 0) (pa_cons pe_int pa_nil))) (fun _ _ => rfl)) pa_nil))))))), ?_⟩
    refine ⟨_, rfl, st, cl, 6, rfl, hS, by decide, by decide, fun kd H1 d1 k0 k1 => ?_⟩
    have bagIt : ∀ (b : Bag) (pb : Addr) (H2 : Hp), Drawn st cl H H2 → BagAt H2 pb b → GoodBag b → ∀ p, H2 p = none → Q (.ref p) (upd H2 p (.tup [.str "bag", .ref pb])) := fun b pb H2 d2 hb gb p hp => by
      have sp := same_new (o := .tup [.str "bag", .ref pb]) hp
      exact q (.bag b) _ _ (d2.lay hp) (.tup (sqt_frm upd_same) (.cons (.str _) (.cons (BagAt.fd (hb.mono sp)) .nil))) ⟨gb, rfl, rfl, fun _ => trivial⟩
    refine ⟨_, rfl, rfl, _, rfl, ite2 (fun _ => ?_) fun _ => ?_⟩
    · refine ⟨_, rfl, st, cl, 2, rfl, d1.ok, by decide, by decide, fun v H2 d2 v0 v1 => ?_⟩
      refine ⟨rfl, _, rfl, ite2 (fun _ => ?_) fun _ => ?_⟩
      · refine ⟨Nat.zero_le _, fun pb hpb => ⟨(by show 2 ≤ sizeLine; decide), fun p hp => ?_⟩⟩
        exact bagIt [] pb _ ((d1.trans d2).lay hpb) ⟨[], upd_same, .nil⟩ good_nil p hp
      · exact ⟨_, rfl, st, cl, 2, rfl, by decide, by decide, d2.ok, fun pb b H3 d3 hb gb => ⟨(by show 2 ≤ sizeLine; decide), fun p hp => bagIt b pb H3 ((d1.trans d2).trans d3) hb gb p hp⟩⟩
    · refine ⟨_, rfl, _, rfl, _, rfl, kp, _, rfl, .inl (sq_l (hk.drawn d1 hS)), ?_⟩
      have hk1 := hk.drawn d1 hS
      refine ⟨st, cl, _, rfl, d1.ok, by cases smp <;> decide, by cases smp <;> decide, fun v H2 d2 v0 v1 => ?_⟩
      obtain ⟨k, hk2, hk3⟩ := kind_at v0 v1
      refine ⟨kp, _, v, _, rfl, rfl, sq_l (hk1.drawn d2 d1.ok), hk2, (by show 2 ≤ sizeLine; decide), fun pn hpn => ?_⟩
      refine ⟨_, rfl, st, cl, 2, rfl, d2.ok.new hpn, by decide, by decide, fun u H3 d3 u0 u1 => ?_⟩
      have hp3 : H3 pn = some (.lst [V.str "a", .str "b"]) := by
        obtain ⟨c, z, S⟩ := d2.ok
        obtain ⟨h1, h2⟩ := S.away hpn
        exact d3.but pn _ h1 h2 upd_same
      obtain ⟨n, hn, hn2⟩ := name_at u0 u1
      refine ⟨pn, _, u, _, rfl, rfl, sq_l hp3, hn2, (by show 2 ≤ sizeLine; decide), fun p hp => ?_⟩
      exact q (.name k n) _ _ ((((d1.trans d2).lay hpn).trans d3).lay hp) (.tup (sqt_frm upd_same) (.cons (.str _) (.cons (.str _) .nil))) ⟨hn, rfl, rfl, hk3⟩
end
end KA
set_option Elab.async false
set_option linter.all false
set_option maxRecDepth 100000
set_option maxHeartbeats 8000000
/-! _law_grown: how terms are drawn -/
namespace KA
open PySem PySem.Spec PyProof.Rows L2
open PySem.W (EachIs)
theorem tnext {D : Ends} {σ : L2.St} {H : Hp} (h : D.nx σ H) : tNext D σ H := h
theorem join_set {c : TT} {te : TE} {i : Nat} {rest : TS} {D : Ends} {σ : L2.St} {H : Hp} (Φ : V → Prop) (br : ∀ R : L2.St → Hp → Prop, (∀ v, Φ v → R (σ.set i (some v)) H) → tIfS c (tAsg te (gName i)) tNext { D with nx := R } σ H) (main : ∀ v, Φ v → rest D (σ.set i (some v)) H) :
    tSeq (tIfS c (tAsg te (gName i)) tNext) rest D σ H := br _ main
structure TmB (smp : Bool) (n j : Int) (t : Tm) : Prop where
  ok : t.Ok
  dp : (t.depth : Int) ≤ n
  jn : (t.joins : Int) ≤ j
  sm : smp = true → t.Simple
theorem exs_take {es : List Ex} (h : ExsOk 1 es) (n : Nat) : ExsOk 1 (es.take n) := ⟨Nat.le_trans (List.length_take_le' _ _) h.1, fun e he => h.2 e (List.mem_of_mem_take he)⟩
theorem cut_refs (ts : List Addr) {j : Int} (h : 0 ≤ j) : cutV (ts.map V.ref) none (some j) = (ts.take j.toNat).map V.ref := by
  obtain ⟨n, rfl⟩ : ∃ n : Nat, j = n := ⟨j.toNat, by omega⟩
  unfold cutV
  rw [HT.sIx_none, HT.sIx_nat, List.drop_zero, Nat.sub_zero, Int.toNat_natCast, List.map_take, List.length_map]
  by_cases q : n ≤ ts.length
  · rw [Nat.min_eq_left q]
  · rw [Nat.min_eq_right (by omega), List.take_of_length_le (by simp), List.take_of_length_le (by simp; omega)]
theorem eachs_take {α β : Type} {R : α → β → Prop} : ∀ {as : List α} {bs : List β} (n : Nat), EachIs R as bs → EachIs R (as.take n) (bs.take n)
  | _, _, 0, _ => by simp; exact .nil
  | _, _, n + 1, .nil => by simp; exact .nil
  | _, _, n + 1, .cons h t => by simp; exact .cons h (eachs_take n t)
section
variable {P : Program} {w : World} {K L : PySem.W.Frag} {mg : Str → Option Value} {base : Heap} {f : Addr} {fd : FuncData}
def spGrown (K : PySem.W.Frag) (n : Nat) : Sp := fun vs H Q _ => ∃ (st cl kp : Addr) (d j : Int) (smp : Bool), vs = [.ref st, .int d, .ref kp, .int j] ∧ 0 ≤ d ∧ d < n ∧ 0 ≤ j ∧ j ≤ 1 ∧ StOk H st cl ∧ KindsAt H kp smp ∧
  ∀ t v H', Drawn st cl H H' → Fd K H' v (Tm.d t) → TmB smp d j t → Q v H'
theorem ok_grown0 (F : FnP K "_law_grown" s__law_grown f fd) : FnOk P w K mg base CX0 1 f fd ["state", "deep", "kinds", "joins"] (spGrown L 0) := by
  refine F.ok sc__law_grown (fun vs H Q E h => ?_) (fun cdv A outer s H vs Q E hr h => ?_)
  · obtain ⟨st, cl, kp, d, j, smp, rfl, _⟩ := h
    rfl
  · obtain ⟨st, cl, kp, d, j, smp, rfl, h0, h1, _⟩ := h
    omega
theorem ok_grownS {k n : Nat} (hk : 6 ≤ k) (F : FnP K "_law_grown" s__law_grown f fd) (gR : mg "range" = none) (gI : mg "int" = none) (C : DrawC P w K mg base) (CL : Cal P w K mg base "_law_leaf" 6 ["state", "kinds"] (spLeaf L))
    (CX : Cal P w K mg base "_law_exprs" 6 ["state"] (spExprs L)) (CE : Cal P w K mg base "_law_expr" 6 ["state", "deep"] (spExpr L 4)) (CG : Cal P w K mg base "_law_grown" k ["state", "deep", "kinds", "joins"] (spGrown L n)) :
    FnOk P w K mg base CX0 (k + 1) f fd ["state", "deep", "kinds", "joins"] (spGrown L (n + 1)) := by
  refine F.ok sc__law_grown (fun vs H Q E h => ?_) (fun cdv A outer s H vs Q E hr h => ?_)
  · obtain ⟨st, cl, kp, d, j, smp, rfl, _⟩ := h
    rfl
  · obtain ⟨st, cl, kp, d, j, smp, rfl, d0, d1, j0, j1, hS, hK, q⟩ := h
    have r1 := hr.mono (show 1 ≤ k by omega)
    have r6 := hr.mono hk
    refine ⟨_, PSs.nox (pss_cons (ps_set (i := 4) sc__law_grown.nd rfl (Or.inl rfl) (pe_cal C r1 (pa_cons (pv 0) (pa_cons pe_int pa_nil))))
      (pss_cons (ps_if (PW.pt (pw_or (pt_cmpR op_eq (pv 1) pe_int (nomark _)) (pw_or1 (pt_cmpR op_eq (pv 4) pe_int (nomark _)))))
        (pss_one (ps_ret (pe_cal CL r6 (pa_cons (pv 0) (pa_cons (pv 2) pa_nil))))) pss_nil)
      (pss_cons (ps_if (PW.pt (pw_and (pt_cmpR op_eq (pv 4) pe_int (nomark _)) (pw_and1 (pt_cmpR op_eq (pv 3) pe_int (nomark _)))))
        (pss_one (ps_set (i := 4) sc__law_grown.nd rfl (Or.inl rfl) pe_int)) pss_nil)
      (pss_cons (ps_set (i := 3) sc__law_grown.nd rfl (Or.inl rfl) (pe_op op_sub (pv 3) (pe_callTy call_int1 (by rfl) gI (by decide +kernel) (pa_cons (pe_cmpR op_eq (pv 4) pe_int (nomark _)) pa_nil))))
      (pss_cons (ps_set (i := 5) sc__law_grown.nd rfl (Or.inl rfl) (pe_cal CG hr (pa_cons (pv 0) (pa_cons (pe_op op_sub (pv 1) pe_int) (pa_cons (pv 2) (pa_cons (pv 3) pa_nil))))))
      (pss_cons (ps_if (pt_cmpR op_eq (pv 4) pe_int (nomark _))
        (pss_one (ps_ret (pe_tup (pa_cons pe_str (pa_cons (pe_cal CX r6 (pa_cons (pv 0) pa_nil)) (pa_cons (pv 5) pa_nil)))))) pss_nil)
      (pss_cons (ps_if (pt_cmpR op_eq (pv 4) pe_int (nomark _))
        (pss_one (ps_ret (pe_tup (pa_cons pe_str (pa_cons (pe_cal CE r6 (pa_cons (pv 0) (pa_cons pe_int pa_nil))) (pa_cons (pv 5) pa_nil)))))) pss_nil)
      (pss_cons (ps_if (pt_cmpR op_eq (pv 4) pe_int (nomark _))
        (pss_one (ps_ret (pe_tup (pa_cons pe_str (pa_cons (pv 5) pa_nil))))) pss_nil)
      (pss_cons (ps_if (pt_cmpR op_eq (pv 4) pe_int (nomark _))
        (pss_one (ps_ret (pe_tup (pa_cons pe_str (pa_cons (pv 5) pa_nil))))) pss_nil)
      (pss_cons (ps_if (pt_cmpR op_eq (pv 4) pe_int (nomark _))
        (pss_cons (ps_set (i := 6) sc__law_grown.nd rfl (Or.inl rfl) (pe_slice sl_list (pe_cal CX r6 (pa_cons (pv 0) pa_nil)) po_none (po_some pe_int)))
        (pss_one (ps_ret (pe_tup (pa_cons pe_str (pa_cons (pv 6) (pa_cons (pe_ix ix_list (pe_lst (pa_cons pe_str (pa_cons pe_str (pa_cons pe_str (pa_cons pe_str pa_nil))))) (pe_cal C r1 (pa_cons (pv 0) (pa_cons pe_int pa_nil))) (fun _ _ => rfl)) (pa_cons (pe_cal CE r6 (pa_cons (pv 0) (pa_cons pe_int pa_nil))) (pa_cons (pv 5) pa_nil))))))))) pss_nil)
      (pss_cons (ps_if (pt_cmpR op_lt (pv 4) pe_int (nomark _))
        (pss_one (ps_ret (pe_tup (pa_cons pe_str (pa_cons (pv 5) (pa_cons (pe_cal CG hr (pa_cons (pv 0) (pa_cons (pe_op op_sub (pv 1) pe_int) (pa_cons (pv 2) (pa_cons (pv 3) pa_nil))))) pa_nil)))))) pss_nil)
      (pss_cons (ps_set (i := 7) sc__law_grown.nd rfl (Or.inl rfl) (pe_cal C r1 (pa_cons (pv 0) (pa_cons pe_int pa_nil))))
      (pss_cons (ps_setLc (i := 8) (own := [("k", 9)]) (g := (gName 9)) (tt := tYes) (by rfl) sc__law_grown.nd rfl rfl (sw_true rfl rfl rfl (by decide +kernel)) (pi_range1 rfl gR (pa_cons (pv 7) pa_nil)) (blkOk_by (own := [("k", 9)]) (N := ["state", "deep", "kinds", "joins", "kind", "first", "keys", "size", "left", "k", "right"]) (sc := defScope s__law_grown) (by decide +kernel)) (fun _ _ _ _ _ => (pg_name (i := 9) sc__law_grown.nd rfl (Or.inl rfl))) (fun _ _ _ _ _ => pts_nil) (fun _ _ _ _ _ => (pe_cal CE r6 (pa_cons (pv 0) (pa_cons pe_int pa_nil)))))
      (pss_cons (ps_setLc (i := 10) (own := [("k", 9)]) (g := (gName 9)) (tt := tYes) (by rfl) sc__law_grown.nd rfl rfl (sw_true rfl rfl rfl (by decide +kernel)) (pi_range1 rfl gR (pa_cons (pv 7) pa_nil)) (blkOk_by (own := [("k", 9)]) (N := ["state", "deep", "kinds", "joins", "kind", "first", "keys", "size", "left", "k", "right"]) (sc := defScope s__law_grown) (by decide +kernel)) (fun _ _ _ _ _ => (pg_name (i := 9) sc__law_grown.nd rfl (Or.inl rfl))) (fun _ _ _ _ _ => pts_nil) (fun _ _ _ _ _ => (pe_cal CE r6 (pa_cons (pv 0) (pa_cons pe_int pa_nil)))))
      (pss_one (ps_ret (pe_tup (pa_cons pe_str (pa_cons (pv 8) (pa_cons (pv 10) (pa_cons (pe_cal CX r6 (pa_cons (pv 0) pa_nil)) (pa_cons (pv 5) (pa_cons (pe_cal CG hr (pa_cons (pv 0) (pa_cons (pe_op op_sub (pv 1) pe_int) (pa_cons (pv 2) (pa_cons (pv 3) pa_nil))))) pa_nil))))))))))))))))))))))), ?_⟩
    refine ⟨_, rfl, st, cl, 9, rfl, hS, by decide, by decide, fun kd H1 e1 k0 k1 => ?_⟩
    have hK1 := hK.drawn e1 hS
    refine ⟨_, rfl, rfl, _, rfl, or_leaf ?_ fun hd lf => ?_⟩
    · refine ⟨_, rfl, _, rfl, st, cl, kp, smp, rfl, e1.ok, hK1, fun t v H2 e2 ft lt => ?_⟩
      exact q t v _ (e1.trans e2) ft ⟨lt.ok, by rw [lt.dp]; exact d0, by rw [lt.jn]; exact j0, lt.sm⟩
    have hd' : d ≠ 0 := fun z => by rw [z] at hd; simp at hd
    refine ⟨_, rfl, rfl, _, rfl, ite2 (fun _ => lf) fun h8 => ?_⟩
    clear lf
    have h8' : kd ≠ 8 := fun z => h8 (by rw [z]; exact decide_eq_true rfl)
    -- kind 7 only where a join is left
    refine tnext ?_
    dsimp only
    refine join_set (fun v => ∃ z : Int, v = .int z ∧ 0 ≤ z ∧ z ≤ 7 ∧ (z = 7 → j = 1)) (fun R hR => ?_) ?_
    · refine ⟨_, rfl, rfl, _, rfl, ?_⟩
      by_cases h7 : kd = 7
      · rw [decide_eq_true (by rw [h7])]
        refine iteT ⟨_, rfl, rfl, _, rfl, ite2 (fun _ => ?_) fun hj => ?_⟩
        · exact hR (.int 5) ⟨5, rfl, by decide, by decide, fun z => by omega⟩
        · have hj' : j ≠ 0 := fun z => hj (by rw [z]; exact decide_eq_true rfl)
          exact hR (.int kd) ⟨kd, rfl, by omega, by omega, fun _ => by omega⟩
      · rw [decide_eq_false fun z => h7 (by injection z)]
        exact iteF (iteF (hR (.int kd) ⟨kd, rfl, by omega, by omega, fun z => absurd z h7⟩))
    rintro _ ⟨z, rfl, z0, z7, zj⟩
    refine ⟨_, rfl, _, rfl, rfl, .inr ⟨_, rfl, _, _, rfl, rfl, ?_⟩⟩
    obtain ⟨j', hj', hj2, hj3⟩ : ∃ j' : Int, (j - if decide (V.int z = V.int 7) = true then 1 else 0) = j' ∧ (z = 7 → j' = j - 1) ∧ (z ≠ 7 → j' = j) := by
      by_cases h7 : z = 7
      · rw [decide_eq_true (by rw [h7])]
        exact ⟨j - 1, rfl, fun _ => rfl, fun h => absurd h7 h⟩
      · rw [decide_eq_false fun y => h7 (by injection y)]
        exact ⟨j, by simp, fun h => absurd h h7, fun _ => rfl⟩
    have jle : j' ≤ j := by
      by_cases h : z = 7
      · rw [hj2 h]; omega
      · rw [hj3 h]; omega
    have j'0 : 0 ≤ j' := by
      by_cases h : z = 7
      · rw [hj2 h, zj h]; omega
      · rw [hj3 h]; omega
    show gName 3 (V.int (j - if decide (V.int z = V.int 7) = true then 1 else 0)) _ _ _
    rw [hj']
    refine ⟨_, rfl, _, rfl, _, _, rfl, rfl, _, rfl, _, rfl, st, cl, kp, d - 1, j', smp, rfl, by omega, by omega, j'0, by omega, e1.ok, hK1, fun t v H2 e2 ft bt => ?_⟩
    have hdt := bt.dp
    have hjt := bt.jn
    have hK2 := hK1.drawn e2 e1.ok
    have e12 := e1.trans e2
    refine ⟨_, rfl, rfl, _, rfl, ite2 (fun _ => ?_) fun _ => ?_⟩
    · refine ⟨_, rfl, st, cl, rfl, e2.ok, fun p es H3 e3 _ hes oes => ⟨_, rfl, (by show 3 ≤ sizeLine; decide), fun pt hpt => ?_⟩⟩
      have sp := same_new (o := .tup [.str "map", .ref p, v]) hpt
      exact q (.map es t) _ _ ((e12.trans e3).lay hpt) (.tup (sqt_frm upd_same) (.cons (.str _) (.cons (ExsAt.fd (hes.mono sp)) (.cons ((ft.drawn e3 e2.ok).same sp) .nil)))) ⟨⟨oes, bt.ok⟩, by show ((t.depth + 1 : Nat) : Int) ≤ d; omega, by show (t.joins : Int) ≤ j; omega, bt.sm⟩
    refine ⟨_, rfl, rfl, _, rfl, ite2 (fun _ => ?_) fun _ => ?_⟩
    · refine ⟨_, rfl, st, cl, 2, rfl, by decide, by decide, e2.ok, fun e u H3 e3 te oe pe => ⟨_, rfl, (by show 3 ≤ sizeLine; decide), fun pt hpt => ?_⟩⟩
      have sp := same_new (o := .tup [.str "keep", u, v]) hpt
      exact q (.keep e t) _ _ ((e12.trans e3).lay hpt) (.tup (sqt_frm upd_same) (.cons (.str _) (.cons ((Tp.fd te).same sp) (.cons ((ft.drawn e3 e2.ok).same sp) .nil)))) ⟨⟨⟨oe, by omega⟩, bt.ok⟩, by show ((t.depth + 1 : Nat) : Int) ≤ d; omega, by show (t.joins : Int) ≤ j; omega, bt.sm⟩
    refine ⟨_, rfl, rfl, _, rfl, ite2 (fun _ => ?_) fun _ => ?_⟩
    · refine ⟨_, rfl, (by show 2 ≤ sizeLine; decide), fun pt hpt => ?_⟩
      have sp := same_new (o := .tup [.str "neg", v]) hpt
      exact q (.neg t) _ _ (e12.lay hpt) (.tup (sqt_frm upd_same) (.cons (.str _) (.cons (ft.same sp) .nil))) ⟨bt.ok, by show ((t.depth + 1 : Nat) : Int) ≤ d; omega, by show (t.joins : Int) ≤ j; omega, bt.sm⟩
    refine ⟨_, rfl, rfl, _, rfl, ite2 (fun _ => ?_) fun _ => ?_⟩
    · refine ⟨_, rfl, (by show 2 ≤ sizeLine; decide), fun pt hpt => ?_⟩
      have sp := same_new (o := .tup [.str "once", v]) hpt
      exact q (.once t) _ _ (e12.lay hpt) (.tup (sqt_frm upd_same) (.cons (.str _) (.cons (ft.same sp) .nil))) ⟨bt.ok, by show ((t.depth + 1 : Nat) : Int) ≤ d; omega, by show (t.joins : Int) ≤ j; omega, bt.sm⟩
    refine ⟨_, rfl, rfl, _, rfl, ite2 (fun _ => ?_) fun _ => ?_⟩
    · refine ⟨_, rfl, st, cl, rfl, e2.ok, fun p es H3 e3 _ hes oes => ?_⟩
      obtain ⟨ts, h1, h2⟩ := id hes
      refine ⟨_, rfl, p, _, rfl, sq_l h1, fun p2 hp2 => ?_⟩
      rw [cut_refs ts (by decide)]
      have s2 := same_new (o := .lst ((ts.take (2 : Int).toNat).map V.ref)) hp2
      have hes2 : ExsAt L (upd H3 p2 (.lst ((ts.take (2 : Int).toNat).map V.ref))) p2 (es.take (2 : Int).toNat) := ⟨_, upd_same, (eachs_take _ h2).mono fun _ _ y => Tp.tk s2.tk y⟩
      have e13 := (e12.trans e3).lay (o := .lst ((ts.take (2 : Int).toNat).map V.ref)) hp2
      have ft3 := (ft.drawn e3 e2.ok).same s2
      have o3 := e13.ok
      generalize upd H3 p2 (.lst ((ts.take (2 : Int).toNat).map V.ref)) = H4 at hes2 e13 ft3 o3 ⊢
      refine ⟨_, rfl, (by show 4 ≤ sizeLine; decide), fun pl hpl => ?_⟩
      have sl := same_new (o := .lst [V.str "count", .str "sum", .str "least", .str "most"]) hpl
      refine ⟨_, rfl, st, cl, 4, rfl, o3.new hpl, by decide, by decide, fun u H5 e5 u0 u1 => ?_⟩
      have hpl5 : H5 pl = some (.lst [V.str "count", .str "sum", .str "least", .str "most"]) := by
        obtain ⟨c, z, S⟩ := o3
        obtain ⟨h1, h2⟩ := S.away hpl
        exact e5.but pl _ h1 h2 upd_same
      obtain ⟨fk, hfk⟩ := fk_at u0 u1
      refine ⟨pl, _, u, _, rfl, rfl, sq_l hpl5, hfk, ?_⟩
      refine ⟨_, rfl, st, cl, 1, rfl, by decide, by decide, e5.ok, fun e x H6 e6 te oe pe => ⟨_, rfl, (by show 5 ≤ sizeLine; decide), fun pt hpt => ?_⟩⟩
      have sp := same_new (o := .tup [.str "fold", .ref p2, .str fk.sign, x, v]) hpt
      have f5 := Drawn.frm e5 (o3.new hpl)
      have f6 := Drawn.frm e6 e5.ok
      have up : ∀ {y : V} {dd : PyData}, Fd L H4 y dd → Fd L (upd H6 pt (.tup [.str "fold", .ref p2, .str fk.sign, x, v])) y dd := fun h => Fd.same sp (Dp.mono f6 (Dp.mono f5 (Fd.same sl h)))
      exact q (.fold (es.take (2 : Int).toNat) fk e t) _ _ ((((e13.lay hpl).trans e5).trans e6).lay hpt) (.tup (sqt_frm upd_same) (.cons (.str _) (.cons (up (ExsAt.fd hes2)) (.cons (.str _) (.cons ((Tp.fd te).same sp) (.cons (up ft3) .nil))))))
        ⟨⟨exs_take oes _, ⟨oe, by omega⟩, bt.ok⟩, by show ((t.depth + 1 : Nat) : Int) ≤ d; omega, by show (t.joins : Int) ≤ j; omega, bt.sm⟩
    refine ⟨_, rfl, _, _, rfl, rfl, _, rfl, ite2 (fun _ => ?_) fun h7 => ?_⟩
    · refine ⟨_, rfl, _, rfl, _, rfl, _, _, rfl, rfl, _, rfl, _, rfl, st, cl, kp, d - 1, j', smp, rfl, by omega, by omega, j'0, by omega, e2.ok, hK2, fun b v2 H3 e3 fb bb => ⟨(by show 3 ≤ sizeLine; decide), fun pt hpt => ?_⟩⟩
      have sp := same_new (o := .tup [.str "plus", v, v2]) hpt
      have hdb := bb.dp
      have hjb := bb.jn
      exact q (.plus t b) _ _ ((e12.trans e3).lay hpt) (.tup (sqt_frm upd_same) (.cons (.str _) (.cons ((ft.drawn e3 e2.ok).same sp) (.cons (fb.same sp) .nil)))) ⟨⟨bt.ok, bb.ok⟩, by show ((max t.depth b.depth + 1 : Nat) : Int) ≤ d; omega, by show ((max t.joins b.joins : Nat) : Int) ≤ j; omega, fun h => ⟨bt.sm h, bb.sm h⟩⟩
    have z7' : z = 7 := by
      have : ¬ (z < 7) := fun h => h7 (decide_eq_true h)
      omega
    have hjj := hj2 z7'
    refine ⟨_, rfl, st, cl, 3, rfl, e2.ok, by decide, by decide, fun sz H3 e3 s0 s1 => ?_⟩
    refine ⟨_, rfl, sz, rfl, by omega, by omega, fun D hD => ?_⟩
    refine ex_comp (K := L) (si := 9) 1 e3.ok s0 (by omega) hD (fun _ => rfl) (fun x H' d2 Q' hQ => ?_) fun H4 ls e4 hls ols lls => ?_
    · exact ⟨_, rfl, st, cl, 1, rfl, by decide, by decide, d2.ok, fun e v H'' d3 t3 o3 p3 => hQ e v H'' d3 t3 o3 (by omega)⟩
    refine ⟨_, rfl, sz, rfl, by omega, by omega, fun D2 hD2 => ?_⟩
    refine ex_comp (K := L) (si := 9) 1 e4.ok s0 (by omega) hD2 (fun _ => rfl) (fun x H' d2 Q' hQ => ?_) fun H5 rs e5 hrs ors lrs => ?_
    · exact ⟨_, rfl, st, cl, 1, rfl, by decide, by decide, d2.ok, fun e v H'' d3 t3 o3 p3 => hQ e v H'' d3 t3 o3 (by omega)⟩
    refine ⟨_, rfl, _, rfl, _, rfl, st, cl, rfl, e5.ok, fun pe es H6 e6 _ hes oes => ?_⟩
    have e26 := (((e12.trans e3).trans e4).trans e5).trans e6
    have hK6 := (((hK2.drawn e3 e2.ok).drawn e4 e3.ok).drawn e5 e4.ok).drawn e6 e5.ok
    refine ⟨_, rfl, _, rfl, _, rfl, _, _, rfl, rfl, _, rfl, _, rfl, st, cl, kp, d - 1, j', smp, rfl, by omega, by omega, j'0, by omega, e6.ok, hK6, fun b v2 H7 e7 fb bb => ⟨(by show 6 ≤ sizeLine; decide), fun pt hpt => ?_⟩⟩
    have sp := same_new (o := .tup [.str "join", .ref D, .ref D2, .ref pe, v, v2]) hpt
    have hdb := bb.dp
    have hjb := bb.jn
    have ft7 := ((((ft.drawn e3 e2.ok).drawn e4 e3.ok).drawn e5 e4.ok).drawn e6 e5.ok).drawn e7 e6.ok
    have fl7 := ((ExsAt.fd hls).drawn e5 e4.ok |>.drawn e6 e5.ok).drawn e7 e6.ok
    have fr7 := ((ExsAt.fd hrs).drawn e6 e5.ok).drawn e7 e6.ok
    have fe7 := (ExsAt.fd hes).drawn e7 e6.ok
    exact q (.join ls rs es t b) _ _ ((e26.trans e7).lay hpt) (.tup (sqt_frm upd_same) (.cons (.str _) (.cons (fl7.same sp) (.cons (fr7.same sp) (.cons (fe7.same sp) (.cons (ft7.same sp) (.cons (fb.same sp) .nil)))))))
      ⟨⟨⟨by omega, ols⟩, ⟨by omega, ors⟩, oes, bt.ok, bb.ok⟩, by show ((max t.depth b.depth + 1 : Nat) : Int) ≤ d; omega, by show ((max t.joins b.joins + 1 : Nat) : Int) ≤ j; omega, fun h => ⟨bt.sm h, bb.sm h⟩⟩
def spTerm (K : PySem.W.Frag) (n : Nat) : Sp := fun vs H Q _ => ∃ (st cl kp : Addr) (d : Int) (smp : Bool), vs = [.ref st, .int d, .ref kp] ∧ 0 ≤ d ∧ d < n ∧ StOk H st cl ∧ KindsAt H kp smp ∧
  ∀ t v H', Drawn st cl H H' → Fd K H' v (Tm.d t) → TmB smp d 1 t → Q v H'
theorem ok_term {k n : Nat} (F : FnP K "_law_term" s__law_term f fd) (CG : Cal P w K mg base "_law_grown" k ["state", "deep", "kinds", "joins"] (spGrown L n)) : FnOk P w K mg base CX0 (k + 1) f fd ["state", "deep", "kinds"] (spTerm L n) := by
  refine F.ok sc__law_term (fun vs H Q E h => ?_) (fun cdv A outer s H vs Q E hr h => ?_)
  · obtain ⟨st, cl, kp, d, smp, rfl, _⟩ := h
    rfl
  · obtain ⟨st, cl, kp, d, smp, rfl, d0, d1, hS, hK, q⟩ := h
    exact ⟨_, PSs.nox (pss_one (ps_ret (pe_cal CG hr (pa_cons (pv 0) (pa_cons (pv 1) (pa_cons (pv 2) (pa_cons pe_int pa_nil))))))), _, rfl, _, rfl, _, rfl, st, cl, kp, d, 1, smp, rfl, d0, d1, by decide, by decide, hS, hK, q⟩
end
end KA
set_option Elab.async false
set_option linter.all false
set_option maxRecDepth 100000
set_option maxHeartbeats 4000000
/-! data that was made at the run: read back; _law_below -/
namespace KA
open PySem PySem.Spec PyProof.Rows L2
open PySem.W (EachIs)
/-- X: a part of the heap, of tuples and lists of objects that were made at the run -/
abbrev Sub (X H : Hp) : Prop := Same X (frm H)
theorem rd_sub {X H : Hp} (sub : Sub X H) {a : Addr} {u : HO} (h : Rd X a u) : X a = some u := by
  rcases h with h | ⟨o, h⟩
  · exact h
  · rcases frm_is (sub _ _ h) with ⟨xs, e, _⟩ | ⟨ts, e, _⟩ <;> cases e
theorem dx_tup {X H : Hp} (sub : Sub X H) {v : V} {ds : List PyData} (h : Dp [] X v (.tuple ds)) : ∃ a vs, v = .ref a ∧ X a = some (.tup vs) ∧ H a = some (.tup vs) ∧ DpAll [] X vs ds := by
  cases h with
  | tup hs ha =>
    rcases hs with hs | ⟨_, _, _, z, _⟩
    · exact ⟨_, _, rfl, rd_sub sub hs, frm_sub H _ _ (sub _ _ (rd_sub sub hs)), ha⟩
    · cases z
theorem dx_lst {X H : Hp} (sub : Sub X H) {v : V} {ds : List PyData} (h : Dp [] X v (.list ds)) : ∃ (a : Addr) (ts : List Addr), v = .ref a ∧ X a = some (.lst (ts.map V.ref)) ∧ H a = some (.lst (ts.map V.ref)) ∧ DpAll [] X (ts.map V.ref) ds := by
  cases h with
  | lst hs ha =>
    rcases hs with hs | ⟨_, _, _, z, _⟩
    · have hx := rd_sub sub hs
      rcases frm_is (sub _ _ hx) with ⟨xs, e, _⟩ | ⟨ts, e, e2⟩
      · cases e
      · injection e with e3
        subst e3
        exact ⟨_, ts, rfl, hx, e2, ha⟩
    · cases z
theorem dp_strV {K : PySem.W.Frag} {H : Hp} {v : V} {x : Str} (h : Dp K H v (.str x)) : v = .str x := by cases h; rfl
theorem dp_intV {K : PySem.W.Frag} {H : Hp} {v : V} {x : Int} (h : Dp K H v (.int x)) : v = .int x := by cases h; rfl
theorem dpa_cons {K : PySem.W.Frag} {H : Hp} {vs : List V} {d : PyData} {ds : List PyData} (h : DpAll K H vs (d :: ds)) : ∃ v r, vs = v :: r ∧ Dp K H v d ∧ DpAll K H r ds := by
  cases h with
  | cons h t => exact ⟨_, _, rfl, h, t⟩
theorem dpa_nil {K : PySem.W.Frag} {H : Hp} {vs : List V} (h : DpAll K H vs []) : vs = [] := by cases h; rfl
theorem dpa_app {K : PySem.W.Frag} {H : Hp} : ∀ {ds es : List PyData} {vs : List V}, DpAll K H vs (ds ++ es) → ∃ us ws, vs = us ++ ws ∧ DpAll K H us ds ∧ DpAll K H ws es
  | [], _, vs, h => ⟨[], vs, rfl, .nil, h⟩
  | d :: ds, _, _, h => by
    obtain ⟨v, r, rfl, h1, h2⟩ := dpa_cons h
    obtain ⟨us, ws, rfl, h3, h4⟩ := dpa_app (ds := ds) h2
    exact ⟨v :: us, ws, rfl, .cons h1 h3, h4⟩
theorem dpa_join {K : PySem.W.Frag} {H : Hp} : ∀ {us ws : List V} {ds es : List PyData}, DpAll K H us ds → DpAll K H ws es → DpAll K H (us ++ ws) (ds ++ es)
  | _, _, _, _, .nil, h => h
  | _, _, _, _, .cons h t, h2 => .cons h (dpa_join t h2)
theorem xd_keys {K : PySem.W.Frag} {H : Hp} : ∀ {vs : List V} {r : Row}, DpAll K H vs (r.map keyD) → vs = r.map kV
  | _, [], h => dpa_nil h
  | _, x :: r, h => by
    obtain ⟨v, t, rfl, h1, h2⟩ := dpa_cons h
    rw [dp_keyV h1, xd_keys h2]
    rfl
theorem dx_row {X H : Hp} (sub : Sub X H) {v : V} {r : Row} (h : Dp [] X v (rowD r)) : ∃ q, v = .ref q ∧ RowAt H q r := by
  obtain ⟨a, vs, rfl, _, h1, h2⟩ := dx_tup sub h
  rw [xd_keys h2] at h1
  exact ⟨a, rfl, h1⟩
theorem dx_pair {X H : Hp} (sub : Sub X H) {v : V} {e : Row × Int} (h : Dp [] X v (pairD e)) : ∃ t, v = .ref t ∧ PairAt H t e := by
  obtain ⟨a, vs, rfl, _, h1, h2⟩ := dx_tup sub h
  obtain ⟨x, r, rfl, h3, h4⟩ := dpa_cons h2
  obtain ⟨y, r2, rfl, h5, h6⟩ := dpa_cons h4
  obtain rfl := dpa_nil h6
  obtain rfl := dp_intV h5
  obtain ⟨q, rfl, h7⟩ := dx_row sub h3
  exact ⟨a, rfl, q, h1, h7⟩
theorem dx_each {X H : Hp} (sub : Sub X H) : ∀ {ts : List Addr} {b : Bag}, DpAll [] X (ts.map V.ref) (b.map pairD) → EachIs (PairAt H) ts b
  | [], [], _ => .nil
  | [], _ :: _, h => by cases h
  | _ :: _, [], h => by cases h
  | t :: ts, e :: b, h => by
    cases h with
    | cons h1 h2 =>
      obtain ⟨t', e1, h3⟩ := dx_pair sub h1
      injection e1 with e1
      subst e1
      exact .cons h3 (dx_each sub h2)
theorem dx_bag {X H : Hp} (sub : Sub X H) {v : V} {b : Bag} (h : Dp [] X v (bagD b)) : ∃ p, v = .ref p ∧ BagAt H p b := by
  obtain ⟨a, ts, rfl, _, h1, h2⟩ := dx_lst sub h
  exact ⟨a, rfl, ts, h1, dx_each sub h2⟩
open Classical in
/-- behind H: what stands in X, all that is new, all tuples -/
noncomputable def Mx (H X H' : Hp) : Hp := fun a => if (∃ xs, H a = some (.lst xs)) ∧ X a = none then none else frm H' a
theorem mx_sub (H X H' : Hp) : Sub (Mx H X H') H' := fun a o h => by
  unfold Mx at h
  split at h
  · cases h
  · exact h
theorem sub_at {X H : Hp} (sub : Sub X H) {a : Addr} {o : HO} (h : X a = some o) : H a = some o := frm_sub H _ _ (sub _ _ h)
theorem mx_old {H X H' : Hp} (s : Same H H') (sub : Sub X H) : Same X (Mx H X H') := fun a o h => by
  unfold Mx
  rw [if_neg fun z => by rw [h] at z; cases z.2]
  exact Same.frm s _ _ (sub _ _ h)
theorem mx_step {H0 H1 X H' : Hp} (s : Same H0 H1) : Same (Mx H1 X H') (Mx H0 X H') := fun a o h => by
  unfold Mx at h ⊢
  split at h
  · cases h
  · rename_i c
    rw [if_neg fun z => c ⟨let ⟨xs, q⟩ := z.1; ⟨xs, s _ _ q⟩, z.2⟩]
    exact h
theorem mx_mono {H X H' H'' : Hp} (s : Same H' H'') : Same (Mx H X H') (Mx H X H'') := fun a o h => by
  unfold Mx at h ⊢
  split at h
  · cases h
  · rename_i c
    rw [if_neg c]
    exact Same.frm s _ _ h
theorem mx_new {H X H' : Hp} {p : Addr} {o : HO} (hp : H p = none) (h : frm H' p = some o) : Mx H X H' p = some o := by
  unfold Mx
  rw [if_neg fun z => by
    obtain ⟨xs, q⟩ := z.1
    rw [hp] at q
    cases q]
  exact h
/-- an old tuple -/
theorem mx_tup {H X H' : Hp} (s : Same H H') {p : Addr} {xs : List V} (h : H' p = some (.tup xs)) : Mx H X H' p = some (.tup xs) := by
  unfold Mx
  rw [if_neg fun z => by
    obtain ⟨ys, q⟩ := z.1
    rw [s _ _ q] at h
    cases h]
  exact frm_tup h
/-- without the object at D -/
def off (D : Addr) (X : Hp) : Hp := fun a => if a = D then none else X a
theorem off_sub (D : Addr) (X : Hp) : Same (off D X) X := fun a o h => by
  unfold off at h
  split at h
  · cases h
  · exact h
theorem off_same {D : Addr} {X Y : Hp} (h : ∀ a o, a ≠ D → X a = some o → Y a = some o) : Same (off D X) (off D Y) := fun a o q => by
  unfold off at q ⊢
  split at q
  · cases q
  · rename_i c
    rw [if_neg c]
    exact h a o c q
theorem off_none {D : Addr} {X : Hp} (h : X D = none) : Same X (off D X) := fun a o q => by
  unfold off
  rw [if_neg fun z => by rw [z, h] at q; cases q]
  exact q
def Off (D : Addr) (H H' : Hp) : Prop := ∀ a o, a ≠ D → H a = some o → H' a = some o
theorem Off.frm {D : Addr} {H H' : Hp} (k : Off D H H') : ∀ a o, a ≠ D → KA.frm H a = some o → KA.frm H' a = some o := fun a o n h => by
  rcases frm_is h with ⟨xs, rfl, e⟩ | ⟨ts, rfl, e⟩
  · exact frm_tup (k _ _ n e)
  · exact frm_lst (k _ _ n e)
theorem off_mx {D : Addr} {H X H' H'' : Hp} (k : Off D H' H'') : Same (off D (Mx H X H')) (off D (Mx H X H'')) := off_same fun a o n h => by
  unfold Mx at h ⊢
  split at h
  · cases h
  · rename_i c
    rw [if_neg c]
    exact k.frm a o n h
section
variable {J : It} {n : Nat} {G : Hp → Prop} {Y : Nat → Hp → V → Hp → Prop} {β : Type}
/-- a comprehension whose items are told by all objects but the list that grows -/
theorem lc_off (w : Walk J n G Y) (bs : List β) (hn : bs.length = n) {D : Addr} (R : Hp → V → β → Prop) (hR : ∀ H H' v b, Off D H H' → R H v b → R H' v b)
    {g : TG} {te : TE} {vs : List Nat} {σ : L2.St} {H1 : Hp} {Qd : Hp → Prop} (hD : H1 D = none) (hG : ∀ H, Same H1 H → G H) (hz : n ≤ 100000)
    (turn : ∀ i x b H H', i < n → bs[i]? = some b → Same H1 H → (∃ acc, H D = some (.lst acc)) → Y i H x H' → ∀ (Q : VK) (Qn : Hp → Prop), (∀ v H'', Same H H'' → R H'' v b → Q v H'') → g x (wipe σ vs) H' fun σ2 H2 => wipe σ2 vs = wipe σ vs ∧ tYes σ2 H2 fun c H3 => if c = true then te σ2 H3 Q else Qn H3)
    (done : ∀ H acc, Same H1 H → H D = some (.lst acc) → EachIs (R H) acc bs → Qd H) :
    ∃ W : Nat → Nat → Hp → Prop, (∃ m, W 0 m (upd H1 D (.lst []))) ∧ ∀ i m H, W i m H →
      (J.stop i H ∧ Qd H) ∨ (J.go i H ∧ ∃ Nx : Hp → Prop, (∀ H', Nx H' → ∃ m', m' < m ∧ W (i + 1) m' H') ∧ ∀ x H', J.yld i H x H' → g x (wipe σ vs) H' fun σ2 H2 => wipe σ2 vs = wipe σ vs ∧ tYes σ2 H2 fun b H3 =>
        if b = true then te σ2 H3 fun y H4 => ∃ acc, H4 D = some (.lst acc) ∧ acc.length < sizeLine ∧ Nx (upd H4 D (.lst (acc ++ [y]))) else Nx H3) := by
  refine lc_it w (fun i H => Same H1 H ∧ ∃ acc, H D = some (.lst acc) ∧ EachIs (R H) acc (bs.take i)) ⟨same_new hD, [], upd_same, by rw [List.take_zero]; exact .nil⟩ (fun i H _ p => hG H p.1) ?_ ?_
  · rintro i x H H' hi ⟨hr, acc, ha, he⟩ y
    obtain ⟨b, hb⟩ : ∃ b, bs[i]? = some b := ⟨_, List.getElem?_eq_getElem (by omega)⟩
    have et : bs.take (i + 1) = bs.take i ++ [b] := by rw [List.take_add_one, hb]; rfl
    have hlen : acc.length ≤ i := by
      rw [he.length, List.length_take]
      exact Nat.min_le_left _ _
    refine turn i x b H H' hi hb hr ⟨acc, ha⟩ y _ _ fun v H2 s2 rv => ?_
    have hd : H2 D = some (.lst acc) := s2 _ _ ha
    have k2 : Off D H2 (upd H2 D (.lst (acc ++ [v]))) := fun a o n h => by
      rw [upd_ne n]
      exact h
    refine ⟨acc, hd, Nat.lt_of_lt_of_le (show acc.length < 100001 by omega) (by decide), same_mut (hr.trans s2) hD, acc ++ [v], upd_same, ?_⟩
    rw [et]
    exact each_snoc1 (hR _ _ _ _ k2 rv) (he.mono fun v b z => hR _ _ _ _ (fun a o n h => k2 a o n (s2 _ _ h)) z)
  · rintro H ⟨hr, acc, ha, he⟩
    rw [List.take_of_length_le (by omega)] at he
    exact done H acc hr ha he
end
mutual
theorem dp_any {K : PySem.W.Frag} {H : Hp} : ∀ (d : PyData) (v : V), Dp [] H v d → Dp K H v d
  | .none, _, h => by cases h; exact .non
  | .bool b, _, h => by cases h; exact .bl b
  | .int i, _, h => by cases h; exact .int i
  | .str x, _, h => by cases h; exact .str x
  | .list ds, _, h => by
    cases h with
    | lst hs ha =>
      refine .lst ?_ (dpa_any ds _ ha)
      rcases hs with q | ⟨_, _, _, z, _⟩
      · exact .inl q
      · cases z
  | .tuple ds, _, h => by
    cases h with
    | tup hs ha =>
      refine .tup ?_ (dpa_any ds _ ha)
      rcases hs with q | ⟨_, _, _, z, _⟩
      · exact .inl q
      · cases z
  | .dict _, _, h => by cases h
theorem dpa_any {K : PySem.W.Frag} {H : Hp} : ∀ (ds : List PyData) (vs : List V), DpAll [] H vs ds → DpAll K H vs ds
  | [], _, h => by cases h; exact .nil
  | d :: ds, _, h => by
    cases h with
    | cons h1 h2 => exact .cons (dp_any d _ h1) (dpa_any ds _ h2)
end
theorem dx_dp {K : PySem.W.Frag} {X H : Hp} (sub : Sub X H) {v : V} {d : PyData} (h : Dp [] X v d) : Dp K H v d := dp_any d v (Dp.mono (sub.trans (frm_sub H)) h)
theorem dxa_dp {K : PySem.W.Frag} {X H : Hp} (sub : Sub X H) {vs : List V} {ds : List PyData} (h : DpAll [] X vs ds) : DpAll K H vs ds := dpa_any ds vs (DpAll.mono (sub.trans (frm_sub H)) h)
theorem dx_exs {K : PySem.W.Frag} {X H : Hp} (sub : Sub X H) {v : V} {es : List Ex} (h : Dp [] X v (exsD es)) : ∃ p, v = .ref p ∧ ExsD K H p es := by
  obtain ⟨a, ts, rfl, _, h1, h2⟩ := dx_lst sub h
  exact ⟨a, rfl, _, sq_l h1, dxa_dp sub h2⟩
def Tm.kids : Tm → List Tm
  | .name _ _ => []
  | .bag _ => []
  | .map _ t => [t]
  | .keep _ t => [t]
  | .neg t => [t]
  | .once t => [t]
  | .fold _ _ _ t => [t]
  | .plus a b => [a, b]
  | .join _ _ _ a b => [a, b]
abbrev tags4 : List V := [.str "old", .str "change", .str "new", .str "bag"]
abbrev tags2 : List V := [.str "plus", .str "join"]
/-- what a term is told by: its tag, its parts behind -/
theorem below_shape {X H : Hp} (sub : Sub X H) {v : V} {t : Tm} (hx : Dp [] X v t.d) : ∃ (a : Addr) (tag : Str) (xs us : List V), v = .ref a ∧ H a = some (.tup (.str tag :: xs)) ∧ DpAll [] X us (t.kids.map Tm.d) ∧
    ((inV (.str tag) tags4 = true ∧ us = []) ∨ (inV (.str tag) tags4 = false ∧ inV (.str tag) tags2 = true ∧ ∃ u1 u2, us = [u1, u2] ∧ atI (V.str tag :: xs) (-2) = some u1 ∧ atI (V.str tag :: xs) (-1) = some u2) ∨
      (inV (.str tag) tags4 = false ∧ inV (.str tag) tags2 = false ∧ ∃ u, us = [u] ∧ atI (V.str tag :: xs) (-1) = some u)) := by
  cases t with
  | name k n =>
    obtain ⟨a, vs, rfl, _, ha, hd0⟩ := dx_tup sub hx
    obtain ⟨x, r0, rfl, h1, hd1⟩ := dpa_cons hd0
    obtain rfl := dp_strV h1
    exact ⟨a, _, _, [], rfl, ha, .nil, .inl ⟨by cases k <;> rfl, rfl⟩⟩
  | bag b =>
    obtain ⟨a, vs, rfl, _, ha, hd0⟩ := dx_tup sub hx
    obtain ⟨x, r0, rfl, h1, hd1⟩ := dpa_cons hd0
    obtain rfl := dp_strV h1
    exact ⟨a, _, _, [], rfl, ha, .nil, .inl ⟨rfl, rfl⟩⟩
  | map es t =>
    obtain ⟨a, vs, rfl, _, ha, hd0⟩ := dx_tup sub hx
    obtain ⟨x0, r0, rfl, h1, hd1⟩ := dpa_cons hd0
    obtain rfl := dp_strV h1
    obtain ⟨x1, r1, rfl, g1, hd2⟩ := dpa_cons hd1
    obtain ⟨x2, r2, rfl, g2, hd3⟩ := dpa_cons hd2
    obtain rfl := dpa_nil hd3
    exact ⟨a, _, _, [x2], rfl, ha, .cons g2 .nil, .inr (.inr ⟨rfl, rfl, _, rfl, rfl⟩)⟩
  | keep e t =>
    obtain ⟨a, vs, rfl, _, ha, hd0⟩ := dx_tup sub hx
    obtain ⟨x0, r0, rfl, h1, hd1⟩ := dpa_cons hd0
    obtain rfl := dp_strV h1
    obtain ⟨x1, r1, rfl, g1, hd2⟩ := dpa_cons hd1
    obtain ⟨x2, r2, rfl, g2, hd3⟩ := dpa_cons hd2
    obtain rfl := dpa_nil hd3
    exact ⟨a, _, _, [x2], rfl, ha, .cons g2 .nil, .inr (.inr ⟨rfl, rfl, _, rfl, rfl⟩)⟩
  | neg t =>
    obtain ⟨a, vs, rfl, _, ha, hd0⟩ := dx_tup sub hx
    obtain ⟨x0, r0, rfl, h1, hd1⟩ := dpa_cons hd0
    obtain rfl := dp_strV h1
    obtain ⟨x1, r1, rfl, g1, hd2⟩ := dpa_cons hd1
    obtain rfl := dpa_nil hd2
    exact ⟨a, _, _, [x1], rfl, ha, .cons g1 .nil, .inr (.inr ⟨rfl, rfl, _, rfl, rfl⟩)⟩
  | once t =>
    obtain ⟨a, vs, rfl, _, ha, hd0⟩ := dx_tup sub hx
    obtain ⟨x0, r0, rfl, h1, hd1⟩ := dpa_cons hd0
    obtain rfl := dp_strV h1
    obtain ⟨x1, r1, rfl, g1, hd2⟩ := dpa_cons hd1
    obtain rfl := dpa_nil hd2
    exact ⟨a, _, _, [x1], rfl, ha, .cons g1 .nil, .inr (.inr ⟨rfl, rfl, _, rfl, rfl⟩)⟩
  | fold keys k e t =>
    obtain ⟨a, vs, rfl, _, ha, hd0⟩ := dx_tup sub hx
    obtain ⟨x0, r0, rfl, h1, hd1⟩ := dpa_cons hd0
    obtain rfl := dp_strV h1
    obtain ⟨x1, r1, rfl, g1, hd2⟩ := dpa_cons hd1
    obtain ⟨x2, r2, rfl, g2, hd3⟩ := dpa_cons hd2
    obtain ⟨x3, r3, rfl, g3, hd4⟩ := dpa_cons hd3
    obtain ⟨x4, r4, rfl, g4, hd5⟩ := dpa_cons hd4
    obtain rfl := dpa_nil hd5
    exact ⟨a, _, _, [x4], rfl, ha, .cons g4 .nil, .inr (.inr ⟨rfl, rfl, _, rfl, rfl⟩)⟩
  | plus b c =>
    obtain ⟨a, vs, rfl, _, ha, hd0⟩ := dx_tup sub hx
    obtain ⟨x0, r0, rfl, h1, hd1⟩ := dpa_cons hd0
    obtain rfl := dp_strV h1
    obtain ⟨x1, r1, rfl, g1, hd2⟩ := dpa_cons hd1
    obtain ⟨x2, r2, rfl, g2, hd3⟩ := dpa_cons hd2
    obtain rfl := dpa_nil hd3
    exact ⟨a, _, _, [x1, x2], rfl, ha, .cons g1 (.cons g2 .nil), .inr (.inl ⟨rfl, rfl, _, _, rfl, rfl, rfl⟩)⟩
  | join l r2 es b c =>
    obtain ⟨a, vs, rfl, _, ha, hd0⟩ := dx_tup sub hx
    obtain ⟨x0, r0, rfl, h1, hd1⟩ := dpa_cons hd0
    obtain rfl := dp_strV h1
    obtain ⟨x1, r1, rfl, g1, hd2⟩ := dpa_cons hd1
    obtain ⟨x2, r2, rfl, g2, hd3⟩ := dpa_cons hd2
    obtain ⟨x3, r3, rfl, g3, hd4⟩ := dpa_cons hd3
    obtain ⟨x4, r4, rfl, g4, hd5⟩ := dpa_cons hd4
    obtain ⟨x5, r5, rfl, g5, hd6⟩ := dpa_cons hd5
    obtain rfl := dpa_nil hd6
    exact ⟨a, _, _, [x4, x5], rfl, ha, .cons g4 (.cons g5 .nil), .inr (.inl ⟨rfl, rfl, _, _, rfl, rfl, rfl⟩)⟩
section
variable {P : Program} {w : World} {K : PySem.W.Frag} {mg : Str → Option Value} {base : Heap} {f : Addr} {fd : FuncData}
def spBelow : Sp := fun vs H Q _ => ∃ (v : V) (t : Tm) (X : Hp), vs = [v] ∧ Sub X H ∧ Dp [] X v t.d ∧ ∀ D us H', Same H H' → H D = none → H' D = some (.lst us) → DpAll [] X us (t.kids.map Tm.d) → Q (.ref D) H'
theorem ok_below (F : FnP K "_law_below" s__law_below f fd) : FnOk P w K mg base CX0 1 f fd ["term"] spBelow := by
  refine F.ok sc__law_below (fun vs H Q E h => ?_) (fun cdv A outer s H vs Q E hr h => ?_)
  · obtain ⟨v, t, X, rfl, _⟩ := h
    rfl
  · obtain ⟨v, t, X, rfl, sub, hx, q⟩ := h
    refine ⟨_, PSs.nox (pss_cons (ps_if (pt_cmpR op_in_seq (pe_ix ix_tup (pv 0) pe_int (fun _ _ => rfl)) (pe_tup (pa_cons pe_str (pa_cons pe_str (pa_cons pe_str (pa_cons pe_str pa_nil))))) (by with_unfolding_all rfl)) (pss_one (ps_ret (pe_lst pa_nil))) pss_nil)
      (pss_one (ps_ret (pe_ifExp (pt_cmpR op_in_seq (pe_ix ix_tup (pv 0) pe_int (fun _ _ => rfl)) (pe_tup (pa_cons pe_str (pa_cons pe_str pa_nil))) (by with_unfolding_all rfl))
        (pe_lst (pa_cons (pe_ix ix_tup (pv 0) (pe_un un_neg pe_int) (fun _ _ => rfl)) (pa_cons (pe_ix ix_tup (pv 0) (pe_un un_neg pe_int) (fun _ _ => rfl)) pa_nil)))
        (pe_lst (pa_cons (pe_ix ix_tup (pv 0) (pe_un un_neg pe_int) (fun _ _ => rfl)) pa_nil)))))), ?_⟩
    obtain ⟨a, tag, xs, us, rfl, ha, hu, hc⟩ := below_shape sub hx
    refine ⟨_, rfl, a, _, 0, _, rfl, rfl, sq_t ha, atI_nat (j := 0) rfl, (by show 4 ≤ sizeLine; decide), fun p hp => ?_⟩
    refine ⟨p, _, rfl, .inr (sq_t upd_same), rfl, rfl, _, rfl, ?_⟩
    have s1 := same_new (o := .tup tags4) hp
    rcases hc with ⟨c4, rfl⟩ | ⟨c4, c2, u1, u2, rfl, i1, i2⟩ | ⟨c4, c2, u, rfl, i1⟩
    · refine ite2 (fun _ => ⟨Nat.zero_le _, fun D hD => ?_⟩) fun z => absurd c4 z
      exact q D [] _ (s1.trans (same_new hD)) (s1.free hD) upd_same hu
    · refine ite2 (fun z => absurd (c4.symm.trans z) Bool.false_ne_true) fun _ => ?_
      refine ⟨_, rfl, a, _, 0, _, rfl, rfl, sq_t (s1 _ _ ha), atI_nat (j := 0) rfl, (by show 2 ≤ sizeLine; decide), fun p2 hp2 => ?_⟩
      have s2 := s1.trans (same_new (o := .tup tags2) hp2)
      refine ⟨p2, _, rfl, .inr (sq_t upd_same), rfl, rfl, _, rfl, ite2 (fun _ => ?_) fun z => absurd c2 z⟩
      refine ⟨_, rfl, _, rfl, a, _, -2, _, rfl, rfl, sq_t (s2 _ _ ha), i1, _, rfl, _, rfl, a, _, -1, _, rfl, rfl, sq_t (s2 _ _ ha), i2, (by show 2 ≤ sizeLine; decide), fun D hD => ?_⟩
      exact q D [u1, u2] _ (s2.trans (same_new hD)) (s2.free hD) upd_same hu
    · refine ite2 (fun z => absurd (c4.symm.trans z) Bool.false_ne_true) fun _ => ?_
      refine ⟨_, rfl, a, _, 0, _, rfl, rfl, sq_t (s1 _ _ ha), atI_nat (j := 0) rfl, (by show 2 ≤ sizeLine; decide), fun p2 hp2 => ?_⟩
      have s2 := s1.trans (same_new (o := .tup tags2) hp2)
      refine ⟨p2, _, rfl, .inr (sq_t upd_same), rfl, rfl, _, rfl, ite2 (fun z => absurd (c2.symm.trans z) Bool.false_ne_true) fun _ => ?_⟩
      refine ⟨_, rfl, _, rfl, a, _, -1, _, rfl, rfl, sq_t (s2 _ _ ha), i1, (by show 1 ≤ sizeLine; decide), fun D hD => ?_⟩
      exact q D [u] _ (s2.trans (same_new hD)) (s2.free hD) upd_same hu
end
end KA
set_option Elab.async false
set_option linter.all false
set_option maxRecDepth 100000
set_option maxHeartbeats 4000000
/-! _law_new -/
namespace KA
open PySem PySem.Spec PyProof.Rows L2
open PySem.W (EachIs)
namespace Tm
def newf : Tm → Tm
  | .name _ n => .name .new n
  | .bag b => .bag b
  | .map es t => .map es t.newf
  | .keep e t => .keep e t.newf
  | .neg t => .neg t.newf
  | .once t => .once t.newf
  | .fold keys k e t => .fold keys k e t.newf
  | .plus a b => .plus a.newf b.newf
  | .join l r es a b => .join l r es a.newf b.newf
/-- the parts ahead of the subterms, behind the tag -/
def pre : Tm → List PyData
  | .name _ n => [.str n]
  | .bag b => [bagD b]
  | .map es _ => [exsD es]
  | .keep e _ => [e.d]
  | .neg _ => []
  | .once _ => []
  | .fold keys k e _ => [exsD keys, .str k.sign, e.d]
  | .plus _ _ => []
  | .join l r es _ _ => [exsD l, exsD r, exsD es]
def tag : Tm → Str
  | .name k _ => k.sign
  | .bag _ => "bag" | .map _ _ => "map" | .keep _ _ => "keep" | .neg _ => "neg" | .once _ => "once" | .fold _ _ _ _ => "fold" | .plus _ _ => "plus" | .join _ _ _ _ _ => "join"
def isName : Tm → Bool
  | .name _ _ => true
  | _ => false
theorem d_split (t : Tm) : t.d = .tuple (.str t.tag :: (t.pre ++ t.kids.map Tm.d)) := by cases t <;> rfl
theorem newf_split {t : Tm} (h : t.isName = false) : t.newf.d = .tuple (.str t.tag :: (t.pre ++ (t.kids.map newf).map Tm.d)) := by
  cases t with
  | name k n => cases h
  | _ => rfl
theorem newf_kids {t : Tm} (h : t.isName = false) (hk : t.kids = []) : t.newf = t := by
  cases t with
  | name k n => cases h
  | bag b => rfl
  | _ => cases hk
theorem tag_not {t : Tm} (h : t.isName = false) : t.tag ≠ "old" ∧ t.tag ≠ "change" ∧ t.tag ≠ "new" := by
  have key : ∀ x : Str, x ∈ ([("bag" : Str), "map", "keep", "neg", "once", "fold", "plus", "join"] : List Str) → x ≠ "old" ∧ x ≠ "change" ∧ x ≠ "new" := by decide +kernel
  cases t with
  | name k n => cases h
  | _ => exact key _ (by simp [tag])
theorem kid_depth {t c : Tm} (h : c ∈ t.kids) : c.depth < t.depth := by
  cases t with
  | name k n => cases h
  | bag b => cases h
  | plus a b =>
    show c.depth < max a.depth b.depth + 1
    rcases List.mem_cons.mp h with rfl | h
    · omega
    · rcases List.mem_cons.mp h with rfl | h
      · omega
      · cases h
  | join l r es a b =>
    show c.depth < max a.depth b.depth + 1
    rcases List.mem_cons.mp h with rfl | h
    · omega
    · rcases List.mem_cons.mp h with rfl | h
      · omega
      · cases h
  | _ =>
    rcases List.mem_cons.mp h with rfl | h
    · exact Nat.lt_succ_self _
    · cases h
theorem kid_simple {t c : Tm} (h : c ∈ t.kids) (hs : t.Simple) : c.Simple := by
  cases t with
  | name k n => cases h
  | bag b => cases h
  | plus a b =>
    rcases List.mem_cons.mp h with rfl | h
    · exact hs.1
    · rcases List.mem_cons.mp h with rfl | h
      · exact hs.2
      · cases h
  | join l r es a b =>
    rcases List.mem_cons.mp h with rfl | h
    · exact hs.1
    · rcases List.mem_cons.mp h with rfl | h
      · exact hs.2
      · cases h
  | _ =>
    rcases List.mem_cons.mp h with rfl | h
    · exact hs
    · cases h
theorem kids_len (t : Tm) : t.kids.length ≤ 2 := by
  cases t with
  | _ => first | exact Nat.zero_le _ | (show 1 ≤ 2; decide) | (show 2 ≤ 2; decide)
theorem pre_len (t : Tm) : t.pre.length ≤ 3 := by
  cases t with
  | _ => first | exact Nat.zero_le _ | (show 1 ≤ 3; decide) | (show 3 ≤ 3; decide)
end Tm
/-- what stands at a term -/
theorem term_at {X H : Hp} (sub : Sub X H) {v : V} {t : Tm} (h : Dp [] X v t.d) : ∃ (a : Addr) (xs us : List V), v = .ref a ∧ X a = some (.tup (.str t.tag :: (xs ++ us))) ∧ H a = some (.tup (.str t.tag :: (xs ++ us))) ∧ DpAll [] X xs t.pre ∧ DpAll [] X us (t.kids.map Tm.d) := by
  rw [Tm.d_split] at h
  obtain ⟨a, vs, rfl, hx, ha, hd⟩ := dx_tup sub h
  obtain ⟨y, r, rfl, h1, hd2⟩ := dpa_cons hd
  obtain rfl := dp_strV h1
  obtain ⟨xs, us, rfl, h2, h3⟩ := dpa_app hd2
  exact ⟨a, xs, us, rfl, hx, ha, h2, h3⟩
theorem cut_nat (xs : List V) (n : Nat) : cutV xs none (some (n : Int)) = xs.take n := by
  unfold cutV
  rw [HT.sIx_none, HT.sIx_nat, List.drop_zero, Nat.sub_zero]
  by_cases q : n ≤ xs.length
  · rw [Nat.min_eq_left q]
  · rw [Nat.min_eq_right (by omega), List.take_of_length_le (Nat.le_refl _), List.take_of_length_le (by omega)]
section
variable {P : Program} {w : World} {K : PySem.W.Frag} {mg : Str → Option Value} {base : Heap} {f : Addr} {fd : FuncData}
def spNew (n : Nat) : Sp := fun vs H Q _ => ∃ (v : V) (t : Tm) (X : Hp), vs = [v] ∧ Sub X H ∧ Dp [] X v t.d ∧ t.Simple ∧ t.depth < n ∧ ∀ v' H', Same H H' → Dp [] (Mx H X H') v' t.newf.d → Q v' H'
theorem ok_new0 (F : FnP K "_law_new" s__law_new f fd) : FnOk P w K mg base CX0 1 f fd ["term"] (spNew 0) := by
  refine F.ok sc__law_new (fun vs H Q E h => ?_) (fun cdv A outer s H vs Q E hr h => ?_)
  · obtain ⟨v, t, X, rfl, _⟩ := h
    rfl
  · obtain ⟨v, t, X, rfl, _, _, _, h, _⟩ := h
    omega
theorem ok_newS {k n : Nat} (hk1 : 1 ≤ k) (F : FnP K "_law_new" s__law_new f fd) (gL : mg "len" = none) (gU : mg "tuple" = none) (CB : Cal P w K mg base "_law_below" 1 ["term"] spBelow) (CN : Cal P w K mg base "_law_new" k ["term"] (spNew n)) :
    FnOk P w K mg base CX0 (k + 1) f fd ["term"] (spNew (n + 1)) := by
  refine F.ok sc__law_new (fun vs H Q E h => ?_) (fun cdv A outer s H vs Q E hr h => ?_)
  · obtain ⟨v, t, X, rfl, _⟩ := h
    rfl
  · obtain ⟨v, t, X, rfl, sub, hx, hs, hn, q⟩ := h
    refine ⟨_, PSs.nox (pss_cons (ps_if (pt_cmpR op_eq (pe_ix ix_tup (pv 0) pe_int (fun _ _ => rfl)) pe_str (nomark _)) (pss_one (ps_ret (pe_tup (pa_cons pe_str (pa_cons (pe_ix ix_tup (pv 0) pe_int (fun _ _ => rfl)) pa_nil))))) pss_nil)
      (pss_cons (ps_setLc (i := 1) (own := [("part", 2)]) (g := gName 2) (tt := tYes) (by rfl) sc__law_new.nd rfl rfl (sw_true rfl rfl rfl (by decide +kernel)) (pi_list (pe_cal CB (hr.mono hk1) (pa_cons (pv 0) pa_nil)))
        (blkOk_by (own := [("part", 2)]) (N := ["term", "parts", "part"]) (sc := defScope s__law_new) (by decide +kernel)) (fun _ _ _ _ _ => pg_name (i := 2) sc__law_new.nd rfl (Or.inl rfl)) (fun _ _ _ _ _ => pts_nil) (fun _ _ _ _ _ => pe_cal CN hr (pa_cons (pv 2) pa_nil)))
      (pss_one (ps_ret (pe_op op_catA (pe_slice sl_tupA (pv 0) po_none (po_some (pe_op op_sub (pe_callB call_len_seq (by rfl) gL PySem.boot_len (pa_cons (pv 0) pa_nil)) (pe_callB call_len_seq (by rfl) gL PySem.boot_len (pa_cons (pv 1) pa_nil)))))
        (pe_callTy call_tuple_of (by rfl) gU (by decide +kernel) (pa_cons (pv 1) pa_nil))))))), ?_⟩
    obtain ⟨a, xs, us, rfl, hX, ha, h1, h2⟩ := term_at sub hx
    by_cases hN : t.isName = true
    · cases t with
      | name kd nm =>
        obtain rfl : kd = .old := hs
        obtain ⟨y, r, rfl, h3, h4⟩ := dpa_cons h1
        obtain rfl := dp_strV h3
        obtain rfl := dpa_nil h4
        obtain rfl := dpa_nil h2
        refine tag_yes rfl (sq_t ha) (iteT ⟨_, rfl, a, _, 1, _, rfl, rfl, sq_t ha, atI_nat (j := 1) rfl, (by show 2 ≤ sizeLine; decide), fun p hp => ?_⟩)
        exact q _ _ (same_new hp) (.tup (.inl (.inl (mx_new hp (frm_tup upd_same)))) (.cons (.str _) (.cons (.str _) .nil)))
      | _ => cases hN
    have hN' : t.isName = false := by
      cases e : t.isName with
      | false => rfl
      | true => exact absurd e hN
    refine tag_no rfl (sq_t ha) (iteF ?_) (Tm.tag_not hN').1
    refine ⟨_, rfl, _, t, X, rfl, sub, hx, fun Db us' H1 s1 _ hDb hus => ?_⟩
    have hl : us'.length = t.kids.length := by
      have := dpAll_len hus
      rw [List.length_map] at this
      exact this
    refine ⟨Db, rfl, ⟨_, sq_l hDb⟩, fun D hD => ?_⟩
    refine lc_off (walk_list (xs := us')) t.kids hl.symm (D := D) (fun H' v c => Dp [] (off D (Mx H X H')) v c.newf.d) (fun _ _ _ _ kp h => Dp.mono (off_mx kp) h) hD (fun H' s' => sq_l (s' _ _ hDb)) (by rw [hl]; have := t.kids_len; omega) ?_ ?_
    · rintro i y c H2 _ hi hc s2 ⟨acc, hacc⟩ ⟨rfl, hy⟩ Q' Qn k1
      have hm := List.mem_of_getElem? hc
      have hdc : Dp [] X y c.d := dpAll_get hus hy (by rw [List.getElem?_map, hc]; rfl)
      have s02 := s1.trans s2
      refine ⟨rfl, yes_in ⟨_, rfl, y, c, X, rfl, sub.trans (Same.frm s02), hdc, Tm.kid_simple hm hs, by have := Tm.kid_depth hm; omega, fun v' H3 s3 hv => k1 _ _ s3 ?_⟩⟩
      refine Dp.mono ((off_none ?_).trans (off_same fun a o _ h => mx_step s02 a o h)) hv
      have hXD : X D = none := by
        cases e : X D with
        | none => rfl
        | some o =>
          have := (s1 _ _ (sub_at sub e))
          rw [hD] at this
          cases this
      unfold Mx
      rw [if_pos ⟨⟨acc, hacc⟩, hXD⟩]
    · intro H2 acc s2 hacc he
      have s02 := s1.trans s2
      have hla : acc.length = us.length := by
        rw [he.length]
        have := dpAll_len h2
        rw [List.length_map] at this
        exact this.symm
      have hda : DpAll [] (Mx H X H2) acc ((t.kids.map Tm.newf).map Tm.d) := by
        rw [List.map_map]
        exact each_dps (E := Tm.d ∘ Tm.newf) (he.mono fun v c h => Dp.mono (off_sub _ _) h)
      have ha2 := s02 _ _ ha
      refine ⟨_, rfl, _, rfl, a, _, rfl, .inr (sq_t ha2), _, rfl, D, _, rfl, .inl (sq_l hacc), _, _, rfl, rfl, ?_⟩
      have e : (((V.str t.tag :: (xs ++ us)).length : Nat) : Int) - ((acc.length : Nat) : Int) = (((V.str t.tag :: xs).length : Nat) : Int) := by
        simp only [List.length_cons, List.length_append]
        omega
      refine ⟨_, congrArg V.int e, a, _, rfl, sq_t ha2, fun hw => ?_, fun hw p1 hp1 => ?_⟩
      · have hu : us = [] := by
          have h := hw.2
          rw [HT.sIx_nat] at h
          simp only [List.length_cons, List.length_append] at h
          exact List.eq_nil_of_length_eq_zero (by omega)
        subst hu
        obtain rfl : acc = [] := List.eq_nil_of_length_eq_zero hla
        have hk : t.kids = [] := by
          have := dpAll_len h2
          simp only [List.length_nil, List.length_map] at this
          exact List.eq_nil_of_length_eq_zero this.symm
        refine ⟨_, rfl, D, _, rfl, .inl ⟨sq_l hacc, fun p hp => ?_⟩⟩
        have s3 := s02.trans (same_new (o := .tup []) hp)
        refine ⟨a, p, _, _, rfl, rfl, sq_t (s3 _ _ ha), sq_t upd_same, ?_, (fun z => by cases z), (fun _ _ => q _ _ s3 ?_), fun _ z => absurd rfl z⟩
        · have := t.pre_len
          have h3 := dpAll_len h1
          simp only [List.length_cons, List.length_append, List.length_nil]
          exact Nat.le_trans (show _ ≤ 10 by omega) (by decide)
        · rw [Tm.newf_kids hN' hk]
          exact Dp.mono (mx_old s3 sub) hx
      · rw [cut_nat]
        have et : (V.str t.tag :: (xs ++ us)).take (V.str t.tag :: xs).length = V.str t.tag :: xs := by
          rw [← List.cons_append, List.take_left']
          rfl
        rw [et]
        have s3 := s02.trans (same_new (o := .tup (V.str t.tag :: xs)) hp1)
        have hacc3 : upd H2 p1 (.tup (V.str t.tag :: xs)) D = some (.lst acc) := same_new hp1 _ _ hacc
        refine ⟨_, rfl, D, _, rfl, .inl ⟨sq_l hacc3, fun p2 hp2 => ?_⟩⟩
        have s4 := s3.trans (same_new (o := .tup acc) hp2)
        refine ⟨p1, p2, _, _, rfl, rfl, sq_t (same_new hp2 _ _ upd_same), sq_t upd_same, ?_, (fun z => by cases z), (fun _ z => ?_), fun _ _ p3 hp3 => ?_⟩
        · have := t.pre_len
          have h3 := dpAll_len h1
          have := t.kids_len
          have h4 := dpAll_len h2
          rw [List.length_map] at h4
          simp only [List.length_cons]
          exact Nat.le_trans (show _ ≤ 10 by omega) (by decide)
        · exfalso
          subst z
          have hu : us = [] := List.eq_nil_of_length_eq_zero hla.symm
          subst hu
          refine hw ⟨?_, ?_⟩
          · rw [HT.sIx_none]
          · rw [HT.sIx_nat, List.append_nil]
            exact Nat.min_self _
        · have s5 := s4.trans (same_new (o := .tup ((V.str t.tag :: xs) ++ acc)) hp3)
          refine q _ _ s5 ?_
          rw [Tm.newf_split hN']
          refine .tup (.inl (.inl (mx_new (s4.free hp3) (frm_tup upd_same)))) (.cons (.str _) (dpa_join (DpAll.mono (mx_old s5 sub) h1) (DpAll.mono (mx_mono ?_) hda)))
          exact ((same_new hp1).trans (same_new hp2)).trans (same_new hp3)
end
end KA
set_option Elab.async false
set_option linter.all false
set_option maxRecDepth 100000
set_option maxHeartbeats 4000000
/-! _law_names -/
namespace KA
open PySem PySem.Spec PyProof.Rows L2
open PySem.W (EachIs)
def StrsAt (H : Hp) (p : Addr) (xs : List Str) : Prop := H p = some (.lst (xs.map V.str))
theorem inV_strs (x : Str) : ∀ xs : List Str, inV (.str x) (xs.map V.str) = xs.contains x
  | [] => rfl
  | y :: xs => by
    have ih := inV_strs x xs
    unfold inV at ih ⊢
    rw [List.map_cons, List.any_cons, ih, List.contains_cons]
    show (y == x || _) = (x == y || _)
    rw [BEq.comm]
theorem flat_strs : ∀ xs : List Str, (xs.map V.str).all flatV = true
  | [] => rfl
  | _ :: xs => by
    rw [List.map_cons, List.all_cons, flat_strs xs]
    rfl
namespace Tm
def addN (acc more : List Str) : List Str := acc ++ more.filter fun x => !acc.contains x
def names : Tm → List Str
  | .name _ n => [n]
  | .bag _ => []
  | .map _ t => t.names
  | .keep _ t => t.names
  | .neg t => t.names
  | .once t => t.names
  | .fold _ _ _ t => t.names
  | .plus a b => addN a.names b.names
  | .join _ _ _ a b => addN a.names b.names
def comb (ts : List Tm) : List Str := ts.foldl (fun acc t => addN acc t.names) []
theorem addN_nil (xs : List Str) : addN [] xs = xs := by
  unfold addN
  rw [List.nil_append]
  exact List.filter_eq_self.mpr fun _ _ => rfl
theorem comb_snoc (l : List Tm) (t : Tm) : comb (l ++ [t]) = addN (comb l) t.names := by
  unfold comb
  rw [List.foldl_append]
  rfl
theorem comb_kids {t : Tm} (h : t.isName = false) : comb t.kids = t.names := by
  cases t with
  | name k n => cases h
  | bag b => rfl
  | plus a b => show addN (addN [] a.names) b.names = addN a.names b.names; rw [addN_nil]
  | join l r es a b => show addN (addN [] a.names) b.names = addN a.names b.names; rw [addN_nil]
  | _ => exact addN_nil _
theorem addN_len (a b : List Str) : (addN a b).length ≤ a.length + b.length := by
  unfold addN
  rw [List.length_append]
  have := List.length_filter_le (fun x => !a.contains x) b
  omega
theorem names_len : ∀ t : Tm, t.names.length ≤ 2 ^ t.depth
  | .name _ _ => Nat.le_refl _
  | .bag _ => Nat.zero_le _
  | .map _ t => Nat.le_trans (names_len t) (Nat.pow_le_pow_right (by decide) (Nat.le_succ _))
  | .keep _ t => Nat.le_trans (names_len t) (Nat.pow_le_pow_right (by decide) (Nat.le_succ _))
  | .neg t => Nat.le_trans (names_len t) (Nat.pow_le_pow_right (by decide) (Nat.le_succ _))
  | .once t => Nat.le_trans (names_len t) (Nat.pow_le_pow_right (by decide) (Nat.le_succ _))
  | .fold _ _ _ t => Nat.le_trans (names_len t) (Nat.pow_le_pow_right (by decide) (Nat.le_succ _))
  | .plus a b => two a b (names_len a) (names_len b)
  | .join _ _ _ a b => two a b (names_len a) (names_len b)
where
  two (a b : Tm) (ha : a.names.length ≤ 2 ^ a.depth) (hb : b.names.length ≤ 2 ^ b.depth) : (addN a.names b.names).length ≤ 2 ^ (max a.depth b.depth + 1) := by
    have h := addN_len a.names b.names
    have h1 : 2 ^ a.depth ≤ 2 ^ max a.depth b.depth := Nat.pow_le_pow_right (by decide) (Nat.le_max_left _ _)
    have h2 : 2 ^ b.depth ≤ 2 ^ max a.depth b.depth := Nat.pow_le_pow_right (by decide) (Nat.le_max_right _ _)
    rw [Nat.pow_succ]
    omega
theorem names_b {t : Tm} (h : t.depth ≤ 10) : t.names.length ≤ 1024 := Nat.le_trans (names_len t) (show _ ≤ 2 ^ 10 from Nat.pow_le_pow_right (by decide) h)
theorem comb_len {l : List Tm} (h : ∀ t ∈ l, t.depth ≤ 10) : (comb l).length ≤ l.length * 1024 := by
  unfold comb
  suffices g : ∀ (l : List Tm) (acc : List Str), (∀ t ∈ l, t.depth ≤ 10) → (l.foldl (fun acc t => addN acc t.names) acc).length ≤ acc.length + l.length * 1024 by
    have := g l [] h
    simpa using this
  intro l
  induction l with
  | nil => intro acc _; simp
  | cons t l ih =>
    intro acc h
    have h1 := ih (addN acc t.names) fun x hx => h x (List.mem_cons_of_mem _ hx)
    have h2 := addN_len acc t.names
    have h3 := names_b (h t List.mem_cons_self)
    rw [List.foldl_cons, List.length_cons]
    omega
end Tm
theorem each_strs : ∀ {vs : List V} {xs : List Str}, EachIs (fun v x => v = V.str x) vs xs → vs = xs.map V.str
  | _, _, .nil => rfl
  | _, _, .cons h t => by rw [h, each_strs t]; rfl
theorem StrsAt.mono {H H' : Hp} (s : Same H H') {p : Addr} {xs : List Str} (h : StrsAt H p xs) : StrsAt H' p xs := s _ _ h
section
variable {P : Program} {w : World} {K : PySem.W.Frag} {mg : Str → Option Value} {base : Heap} {f : Addr} {fd : FuncData}
def spNames (n : Nat) : Sp := fun vs H Q _ => ∃ (v : V) (t : Tm) (X : Hp), vs = [v] ∧ Sub X H ∧ Dp [] X v t.d ∧ t.depth < n ∧ ∀ p H', Same H H' → StrsAt H' p t.names → Q (.ref p) H'
theorem ok_names0 (F : FnP K "_law_names" s__law_names f fd) : FnOk P w K mg base CX0 1 f fd ["term"] (spNames 0) := by
  refine F.ok sc__law_names (fun vs H Q E h => ?_) (fun cdv A outer s H vs Q E hr h => ?_)
  · obtain ⟨v, t, X, rfl, _⟩ := h
    rfl
  · obtain ⟨v, t, X, rfl, _, _, h, _⟩ := h
    omega
theorem ok_namesS {k n : Nat} (hk1 : 1 ≤ k) (hn10 : n ≤ 10) (F : FnP K "_law_names" s__law_names f fd) (CB : Cal P w K mg base "_law_below" 1 ["term"] spBelow) (CN : Cal P w K mg base "_law_names" k ["term"] (spNames n)) :
    FnOk P w K mg base CX0 (k + 1) f fd ["term"] (spNames (n + 1)) := by
  refine F.ok sc__law_names (fun vs H Q E h => ?_) (fun cdv A outer s H vs Q E hr h => ?_)
  · obtain ⟨v, t, X, rfl, _⟩ := h
    rfl
  · obtain ⟨v, t, X, rfl, sub, hx, hn, q⟩ := h
    refine ⟨_, PSs.nox (pss_cons (ps_if (pt_cmpR op_in_seq (pe_ix ix_tup (pv 0) pe_int (fun _ _ => rfl)) (pe_tup (pa_cons pe_str (pa_cons pe_str (pa_cons pe_str pa_nil)))) (by with_unfolding_all rfl)) (pss_one (ps_ret (pe_lst (pa_cons (pe_ix ix_tup (pv 0) pe_int (fun _ _ => rfl)) pa_nil)))) pss_nil)
      (pss_cons (ps_set (i := 1) sc__law_names.nd rfl (Or.inr rfl) (pe_lst pa_nil))
      (pss_cons (ps_for PassesOwn.never rfl (pi_list (pe_cal CB (hr.mono hk1) (pa_cons (pv 0) pa_nil))) (pg_name (i := 2) sc__law_names.nd rfl (Or.inl rfl))
        (pss_one (ps_set (i := 1) sc__law_names.nd rfl (Or.inr rfl) (pe_op op_cat (pv 1) (pe_lc (own := [("name", 3)]) (g := gName 3) (tt := tTest (tOp (rIn K true) (tVar 3) (tVar 1))) (by rfl) sc__law_names.nd (pi_list (pe_cal CN hr (pa_cons (pv 2) pa_nil)))
          (blkOk_by (own := [("name", 3)]) (N := ["term", "rows", "part", "name"]) (sc := defScope s__law_names) (by decide +kernel)) (fun _ _ _ _ _ => pg_name (i := 3) sc__law_names.nd rfl (Or.inl rfl)) (fun _ _ _ _ _ => pts_one (pt_cmpR op_notIn_seq (pv 3) (pv 1) (by with_unfolding_all rfl))) (fun _ _ _ _ _ => pv 3))))))
      (pss_one (ps_ret (pv 1)))))), ?_⟩
    obtain ⟨a, xs, us, rfl, hX, ha, h1, h2⟩ := term_at sub hx
    refine ⟨_, rfl, a, _, 0, _, rfl, rfl, sq_t ha, atI_nat (j := 0) rfl, (by show 3 ≤ sizeLine; decide), fun p hp => ?_⟩
    have s1 := same_new (o := .tup [V.str "old", .str "change", .str "new"]) hp
    refine ⟨p, _, rfl, .inr (sq_t upd_same), rfl, rfl, _, rfl, ?_⟩
    have e3 : inV (.str t.tag) [V.str "old", .str "change", .str "new"] = t.isName := by
      have := inV_strs t.tag ["old", "change", "new"]
      refine this.trans ?_
      cases e : t.isName with
      | true =>
        cases t with
        | name k n => cases k <;> rfl
        | _ => cases e
      | false =>
        obtain ⟨n1, n2, n3⟩ := Tm.tag_not e
        simp [n1, n2, n3]
    refine ite2 (fun hN => ?_) fun hN => ?_
    · have hN' : t.isName = true := e3.symm.trans hN
      cases t with
      | name kd nm =>
        obtain ⟨y, r, rfl, h3, h4⟩ := dpa_cons h1
        obtain rfl := dp_strV h3
        obtain rfl := dpa_nil h4
        obtain rfl := dpa_nil h2
        refine ⟨_, rfl, a, _, 1, _, rfl, rfl, sq_t (s1 _ _ ha), atI_nat (j := 1) rfl, (by show 1 ≤ sizeLine; decide), fun p2 hp2 => ?_⟩
        exact q _ _ (s1.trans (same_new hp2)) upd_same
      | _ => cases hN'
    have hN' : t.isName = false := by
      cases e : t.isName with
      | false => rfl
      | true => exact absurd (e3.trans e) hN
    refine ⟨Nat.zero_le _, fun r0 hr0 => ?_⟩
    have s2 := s1.trans (same_new (o := .lst []) hr0)
    refine ⟨_, rfl, _, t, X, rfl, sub.trans (Same.frm s2), hx, fun Db us' H1 s3 _ hDb hus => ?_⟩
    have hl : us'.length = t.kids.length := by
      have := dpAll_len hus
      rw [List.length_map] at this
      exact this
    have hkd : ∀ c ∈ t.kids, c.depth ≤ 10 := fun c hc => by
      have := Tm.kid_depth hc
      omega
    refine ⟨Db, rfl, ⟨_, sq_l hDb⟩, for_it (walk_list (xs := us')) (fun i σ H' => ∃ r x2, σ = [some (.ref a), some (.ref r), x2, none] ∧ Same H1 H' ∧ StrsAt H' r (Tm.comb (t.kids.take i))) ⟨r0, none, rfl, Same.refl _, (by rw [List.take_zero]; exact s3 _ _ upd_same)⟩ (fun i σ H' _ ⟨_, _, _, s', _⟩ => sq_l (s' _ _ hDb)) ?_ ?_⟩
    · rintro i x σ H2 _ hi ⟨r, x2, rfl, s4, hr1⟩ ⟨rfl, hx2⟩
      obtain ⟨c, hc⟩ : ∃ c, t.kids[i]? = some c := ⟨_, List.getElem?_eq_getElem (by omega)⟩
      have hm := List.mem_of_getElem? hc
      have hdc : Dp [] X x c.d := dpAll_get hus hx2 (by rw [List.getElem?_map, hc]; rfl)
      have et : t.kids.take (i + 1) = t.kids.take i ++ [c] := by rw [List.take_add_one, hc]; rfl
      have s04 := (s2.trans s3).trans s4
      refine ⟨_, rfl, _, rfl, x, c, X, rfl, sub.trans (Same.frm s04), hdc, by have := Tm.kid_depth hm; omega, fun pn H3 s5 hpn => ?_⟩
      have hl1 : (Tm.comb (t.kids.take i)).length ≤ 2048 := by
        have h3 := Tm.comb_len (l := t.kids.take i) fun c hc => hkd c (List.mem_of_mem_take hc)
        have h4 : (t.kids.take i).length ≤ t.kids.length := by
          rw [List.length_take]
          exact Nat.min_le_right _ _
        have h5 := t.kids_len
        omega
      have hl2 := Tm.names_b (hkd c hm)
      refine ⟨pn, rfl, ⟨_, sq_l hpn⟩, fun D hD => ?_⟩
      refine lc_same (walk_list (xs := c.names.map V.str)) c.names (by rw [List.length_map]) (fun x => !(Tm.comb (t.kids.take i)).contains x) (fun _ v x => v = .str x) (fun _ _ _ _ _ z => z) hD (fun H' s' => sq_l (s' _ _ hpn)) (by rw [List.length_map]; omega) ?_ ?_
      · rintro j y b H4 _ hj hb s6 ⟨rfl, hy⟩ Q' Qn k1 k2
        obtain ⟨b', hb', rfl⟩ := map_at hy
        obtain rfl : b = b' := Option.some.inj (hb.symm.trans hb')
        have hr4 := (hr1.mono s5).mono s6
        refine ⟨rfl, if_in (c := !(Tm.comb (t.kids.take i)).contains b) (fun Q'' z => ?_) (fun hc => ⟨_, rfl, k1 hc _ _ (Same.refl _) rfl⟩) fun hc => k2 hc _ (Same.refl _)⟩
        refine ⟨_, rfl, _, rfl, r, _, rfl, .inl (sq_l hr4), rfl, flat_strs _, _, rfl, ?_⟩
        rw [if_pos rfl, inV_strs]
        exact z
      · intro H4 acc s6 hacc he
        have e1 : acc = (c.names.filter fun x => !(Tm.comb (t.kids.take i)).contains x).map V.str := each_strs he
        subst e1
        have hr4 : StrsAt H4 r (Tm.comb (t.kids.take i)) := (hr1.mono s5).mono s6
        refine ⟨r, D, _, _, rfl, rfl, hr4, hacc, ?_, fun p2 hp2 => ?_⟩
        · rw [List.length_map, List.length_map]
          have := List.length_filter_le (fun x => !(Tm.comb (t.kids.take i)).contains x) c.names
          exact Nat.le_trans (show _ ≤ 4000 by omega) (by decide)
        · refine ⟨p2, _, rfl, ((s4.trans s5).trans s6).trans (same_new hp2), ?_⟩
          rw [et, Tm.comb_snoc]
          unfold Tm.addN StrsAt
          rw [List.map_append]
          exact upd_same
    · rintro σ H2 ⟨r, x2, rfl, s4, hr1⟩
      rw [List.take_of_length_le (by omega), Tm.comb_kids hN'] at hr1
      exact ⟨_, rfl, q r _ ((s2.trans s3).trans s4) hr1⟩
end
end KA
set_option Elab.async false
set_option linter.all false
set_option maxRecDepth 100000
set_option maxHeartbeats 4000000
/-! loops that add pairs to a dict; _law_named -/
namespace KA
open PySem PySem.Spec PyProof.Rows L2
open PySem.W (EachIs)
theorem Off.refl (D : Addr) (H : Hp) : Off D H H := fun _ _ _ h => h
theorem Off.trans {D : Addr} {H H1 H2 : Hp} (a : Off D H H1) (b : Off D H1 H2) : Off D H H2 := fun c o n h => b c o n (a c o n h)
theorem _root_.L2.Same.off {D : Addr} {H H' : Hp} (s : Same H H') : Off D H H' := fun a o _ h => s a o h
theorem Off.upd (D : Addr) (H : Hp) (o : HO) : Off D H (upd H D o) := fun a u n h => by
  rw [upd_ne n]
  exact h
theorem Off.same {D : Addr} {H H1 H' : Hp} (hD : H D = none) (s : Same H H1) (k : Off D H1 H') : Same H H' := fun a o h => k a o (ne_of_none h hD) (s a o h)
theorem RowAt.off {D : Addr} {H H' : Hp} {kvs : List (List Key × V)} (hd : H D = some (.dT kvs)) (k : Off D H H') {q : Addr} {r : Row} (h : RowAt H q r) : RowAt H' q r := k _ _ (fun z => by
  have h' : H q = some (.tup (r.map kV)) := h
  rw [z, hd] at h'
  cases h') h
theorem PairAt.off {D : Addr} {H H' : Hp} {kvs : List (List Key × V)} (hd : H D = some (.dT kvs)) (k : Off D H H') {t : Addr} {e : Row × Int} (h : PairAt H t e) : PairAt H' t e := by
  obtain ⟨q, h1, h2⟩ := h
  exact ⟨q, k _ _ (fun z => by rw [z, hd] at h1; cases h1) h1, h2.off hd k⟩
theorem BagAt.off {D : Addr} {H H' : Hp} {kvs : List (List Key × V)} (hd : H D = some (.dT kvs)) (k : Off D H H') {p : Addr} {b : Bag} (h : BagAt H p b) : BagAt H' p b := by
  obtain ⟨ts, h1, h2⟩ := h
  exact ⟨ts, k _ _ (fun z => by rw [z, hd] at h1; cases h1) h1, h2.mono fun _ _ y => y.off hd k⟩
theorem flat_le {α : Type} {g : α → Bag} {m : Nat} : ∀ {b : List α}, (∀ e ∈ b, (g e).length ≤ m) → (b.flatMap g).length ≤ b.length * m
  | [], _ => Nat.zero_le _
  | e :: b, h => by
    have h1 := h e List.mem_cons_self
    have h2 := flat_le (b := b) fun x hx => h x (List.mem_cons_of_mem _ hx)
    rw [List.flatMap_cons, List.length_append, List.length_cons, Nat.succ_mul]
    omega
/-- for row, count in bag: what is added to the dict at d, pair by pair -/
theorem bag_loop {K : PySem.W.Frag} {a d : Addr} {b ps0 : Bag} {H : Hp} {D : Ends} {σ : L2.St} {tb : TS} {si sj m : Nat} (Sg : L2.St → Prop) (g : Row × Int → Bag) (ha : BagAt H a b) (hd : H d = some (.dT (vk (tally ps0)))) (h0 : Sg σ) (hg : ∀ e ∈ b, (g e).length ≤ m)
    (turn : ∀ (e : Row × Int) (q : Addr) (σ : L2.St) (H' : Hp) (ps : Bag), e ∈ b → Sg σ → Off d H H' → H' d = some (.dT (vk (tally ps))) → RowAt H' q e.1 → ps.length ≤ ps0.length + b.length * m → ∀ N : L2.St → Hp → Prop,
      (∀ σ' H'', Sg σ' → Off d H' H'' → H'' d = some (.dT (vk (tally (ps ++ g e)))) → N σ' H'') → tb { D with nx := N, ct := N, bk := D.nx } ((σ.set si (some (.ref q))).set sj (some (.int e.2))) H')
    (done : ∀ σ' H', Sg σ' → Off d H H' → H' d = some (.dT (vk (tally (ps0 ++ b.flatMap g)))) → D.nx σ' H') :
    ∃ W : Nat → Nat → L2.St → Hp → Prop, (∃ m, W 0 m σ H) ∧ ∀ i m σ H, W i m σ H →
      ((Itl K a).stop i H ∧ D.nx σ H) ∨ ((Itl K a).go i H ∧ ∃ N : L2.St → Hp → Prop, (∀ σ' H', N σ' H' → ∃ m', m' < m ∧ W (i + 1) m' σ' H') ∧ ∀ x H', (Itl K a).yld i H x H' → gP2 K si sj x σ H' fun σ2 H2 => tb { D with nx := N, ct := N, bk := D.nx } σ2 H2) := by
  obtain ⟨ts, h1, h2⟩ := id ha
  refine for_it (walk_list (xs := ts.map V.ref)) (fun i σ H' => Sg σ ∧ Off d H H' ∧ H' d = some (.dT (vk (tally (ps0 ++ (b.take i).flatMap g))))) ⟨h0, Off.refl _ _, by simpa using hd⟩ (fun i σ H' _ ⟨_, k, _⟩ => ?_) ?_ ?_
  · refine sq_l (k _ _ (fun z => ?_) h1)
    rw [z, hd] at h1
    cases h1
  · rintro i x σ H' _ hi ⟨hs, k, hd'⟩ ⟨rfl, hx⟩
    obtain ⟨t, ht, rfl⟩ := ref_at hx
    have hlen : i < b.length := by
      rw [← h2.length]
      simpa using hi
    obtain ⟨e, he⟩ : ∃ e, b[i]? = some e := ⟨_, List.getElem?_eq_getElem hlen⟩
    obtain ⟨q, p1, p2⟩ := (each_get h2 ht he).off hd k
    have hm := List.mem_of_getElem? he
    refine gp2 p1 (turn e q σ _ _ hm hs k hd' p2 ?_ _ fun σ' H'' hs' k' hd'' => ⟨hs', k.trans k', ?_⟩)
    · rw [List.length_append]
      have h3 := flat_le (b := b.take i) fun x hx => hg x (List.mem_of_mem_take hx)
      have h4 : (b.take i).length ≤ b.length := by
        rw [List.length_take]
        exact Nat.min_le_right _ _
      have h5 := Nat.mul_le_mul_right m h4
      omega
    · rw [show b.take (i + 1) = b.take i ++ [e] by rw [List.take_add_one, he]; rfl, List.flatMap_append, ← List.append_assoc]
      simpa using hd''
  · rintro σ H' ⟨hs, k, hd'⟩
    rw [List.take_of_length_le (by rw [List.length_map, h2.length]; exact Nat.le_refl _)] at hd'
    exact done σ H' hs k hd'
theorem seq_if {c : TT} {s1 rest : TS} {D : Ends} {σ : L2.St} {H : Hp} (Φ : L2.St → Hp → Prop) (br : ∀ R : L2.St → Hp → Prop, (∀ σ' H', Φ σ' H' → R σ' H') → tIfS c s1 tNext { D with nx := R } σ H) (main : ∀ σ' H', Φ σ' H' → rest D σ' H') : tSeq (tIfS c s1 tNext) rest D σ H := br _ main
/-- a dict from names to bags -/
def BagsAt (H : Hp) (p : Addr) (m : Str → Bag) : Prop := ∃ kvs : List (Key × V), H p = some (.dK kvs) ∧ ∀ n : Str, (∃ a, valV kvs (.inr n) = some (.ref a) ∧ BagAt H a (m n)) ∨ (valV kvs (.inr n) = none ∧ m n = [])
theorem BagsAt.mono {H H' : Hp} (s : Same H H') {p : Addr} {m : Str → Bag} (h : BagsAt H p m) : BagsAt H' p m := by
  obtain ⟨kvs, h1, h2⟩ := h
  refine ⟨kvs, s _ _ h1, fun n => ?_⟩
  rcases h2 n with ⟨a, h3, h4⟩ | h3
  · exact .inl ⟨a, h3, h4.mono s⟩
  · exact .inr h3
theorem BagsAt.off {D : Addr} {H H' : Hp} {kvs : List (List Key × V)} (hd : H D = some (.dT kvs)) (k : Off D H H') {p : Addr} {m : Str → Bag} (h : BagsAt H p m) : BagsAt H' p m := by
  obtain ⟨es, h1, h2⟩ := h
  refine ⟨es, k _ _ (fun z => by rw [z, hd] at h1; cases h1) h1, fun n => ?_⟩
  rcases h2 n with ⟨a, h3, h4⟩ | h3
  · exact .inl ⟨a, h3, h4.off hd k⟩
  · exact .inr h3
/-- d.get(name, []) -/
theorem get_bag {H : Hp} {p : Addr} {m : Str → Bag} (h : BagsAt H p m) (n : Str) {pl : Addr} (hpl : H pl = none) :
    ∃ o a, DGet (upd H pl (.lst [])) p (.str n) o ∧ o.getD (.ref pl) = .ref a ∧ BagAt (upd H pl (.lst [])) a (m n) := by
  obtain ⟨kvs, h1, h2⟩ := h
  have s := same_new (o := .lst []) hpl
  rcases h2 n with ⟨a, h3, h4⟩ | ⟨h3, h4⟩
  · exact ⟨_, a, .inl ⟨kvs, .inr n, .inl (s _ _ h1), rfl, rfl⟩, by rw [h3]; rfl, h4.mono s⟩
  · exact ⟨_, pl, .inl ⟨kvs, .inr n, .inl (s _ _ h1), rfl, rfl⟩, by rw [h3]; rfl, by rw [h4]; exact ⟨[], upd_same, .nil⟩⟩
theorem bag_mx {H X H' : Hp} (s : Same H H') {q : Addr} {b : Bag} (hq : H q = none) (h : BagAt H' q b) : Dp [] (Mx H X H') (.ref q) (bagD b) := by
  obtain ⟨ts, h1, h2⟩ := h
  exact dp_bag ⟨ts, mx_new hq (frm_lst h1), h2.mono fun _ _ ⟨r, p1, p2⟩ => ⟨r, mx_tup s p1, mx_tup s p2⟩⟩
theorem flat_id (b : Bag) : b.flatMap (fun e => [e]) = b := by
  induction b with
  | nil => rfl
  | cons e t ih => rw [List.flatMap_cons, ih]; rfl
def BagsOk (m : Str → Bag) : Prop := ∀ n, (m n).length ≤ 1000 ∧ RowB 1000 (m n)
def firstB (o : Str → Bag) (n : Str) : Nk → Bag
  | .change => []
  | .old => o n
  | .new => o n
def bothB (o c : Str → Bag) (n : Str) : Nk → Bag
  | .old => o n
  | .change => c n
  | .new => o n ++ c n
theorem first_yes {o : Str → Bag} {n : Str} {k : Nk} (h : inV (.str k.sign) [V.str "old", .str "new"] = true) : firstB o n k = o n := by
  cases k with
  | change => cases h
  | _ => rfl
theorem first_no {o : Str → Bag} {n : Str} {k : Nk} (h : ¬ inV (.str k.sign) [V.str "old", .str "new"] = true) : firstB o n k = [] := by
  cases k with
  | change => rfl
  | _ => exact absurd rfl h
theorem both_yes {o c : Str → Bag} {n : Str} {k : Nk} (h : inV (.str k.sign) [V.str "change", .str "new"] = true) : bothB o c n k = firstB o n k ++ c n := by
  cases k with
  | old => cases h
  | _ => rfl
theorem both_no {o c : Str → Bag} {n : Str} {k : Nk} (h : ¬ inV (.str k.sign) [V.str "change", .str "new"] = true) : bothB o c n k = firstB o n k := by
  cases k with
  | old => rfl
  | _ => exact absurd rfl h
theorem both_ok {o c : Str → Bag} (oo : BagsOk o) (oc : BagsOk c) (n : Str) (k : Nk) : (bothB o c n k).length ≤ 2000 ∧ RowB 1000 (bothB o c n k) := by
  have h1 := oo n
  have h2 := oc n
  cases k with
  | old => exact ⟨Nat.le_trans h1.1 (by decide), h1.2⟩
  | change => exact ⟨Nat.le_trans h2.1 (by decide), h2.2⟩
  | new => exact ⟨by show (o n ++ c n).length ≤ 2000; rw [List.length_append]; omega, h1.2.app h2.2⟩
/-- what a name or a constant bag denotes -/
def leafB (o c : Str → Bag) : Tm → Bag
  | .name k n => mk (bothB o c n k)
  | .bag b => b
  | _ => []
section
variable {P : Program} {w : World} {K : PySem.W.Frag} {mg : Str → Option Value} {base : Heap} {f : Addr} {fd : FuncData}
abbrev AddC (P : Program) (w : World) (K : PySem.W.Frag) (mg : Str → Option Value) (base : Heap) : Prop := Cal P w K mg base "_law_added" 1 ["counts", "row", "count"] spAdded
def spNamed : Sp := fun vs H Q _ => ∃ (v : V) (po pc : Addr) (t : Tm) (o c : Str → Bag) (X : Hp), vs = [v, .ref po, .ref pc] ∧ Sub X H ∧ Dp [] X v t.d ∧ t.kids = [] ∧ BagsAt H po o ∧ BagsAt H pc c ∧ BagsOk o ∧ BagsOk c ∧
  ∀ v' H', Same H H' → Dp [] (Mx H X H') v' (bagD (leafB o c t)) → Q v' H'
theorem ok_named (F : FnP K "_law_named" s__law_named f fd) (CA : AddC P w K mg base) (CC : Cal P w K mg base "_law_canon" 4 ["counts"] spCanon) : FnOk P w K mg base CX0 5 f fd ["term", "olds", "changes"] spNamed := by
  refine F.ok sc__law_named (fun vs H Q E h => ?_) (fun cdv A outer s H vs Q E hr h => ?_)
  · obtain ⟨v, po, pc, t, o, c, X, rfl, _⟩ := h
    rfl
  · obtain ⟨v, po, pc, t, o, c, X, rfl, sub, hx, hk, ho, hc, oo, oc, q⟩ := h
    refine ⟨_, PSs.nox (pss_cons (ps_set (i := 3) sc__law_named.nd rfl (Or.inl rfl) pe_dnewT)
      (pss_cons (ps_if (pt_cmpR op_eq (pe_ix ix_tup (pv 0) pe_int (fun _ _ => rfl)) pe_str (nomark _))
        (pss_one (ps_ret (pe_ix ix_tup (pv 0) pe_int (fun _ _ => rfl)))) pss_nil)
      (pss_cons (ps_if (pt_cmpR op_in_seq (pe_ix ix_tup (pv 0) pe_int (fun _ _ => rfl)) (pe_tup (pa_cons pe_str (pa_cons pe_str pa_nil))) (by with_unfolding_all rfl))
        (pss_one (ps_for PassesOwn.never rfl (pi_list (pe_dget2 hr.u1 (pv 1) (pe_ix ix_tup (pv 0) pe_int (fun _ _ => rfl)) (pe_lst pa_nil) ⟨rfl, rfl, rfl, rfl⟩)) (pg_tup rfl (pgs_cons (pg_name (i := 4) sc__law_named.nd rfl (Or.inl rfl)) (pgs_cons (pg_name (i := 5) sc__law_named.nd rfl (Or.inl rfl)) pgs_nil)))
          (pss_one (ps_expr (pe_cal CA hr.lt (pa_cons (pv 3) (pa_cons (pv 4) (pa_cons (pv 5) pa_nil)))))))) pss_nil)
      (pss_cons (ps_if (pt_cmpR op_in_seq (pe_ix ix_tup (pv 0) pe_int (fun _ _ => rfl)) (pe_tup (pa_cons pe_str (pa_cons pe_str pa_nil))) (by with_unfolding_all rfl))
        (pss_one (ps_for PassesOwn.never rfl (pi_list (pe_dget2 hr.u1 (pv 2) (pe_ix ix_tup (pv 0) pe_int (fun _ _ => rfl)) (pe_lst pa_nil) ⟨rfl, rfl, rfl, rfl⟩)) (pg_tup rfl (pgs_cons (pg_name (i := 4) sc__law_named.nd rfl (Or.inl rfl)) (pgs_cons (pg_name (i := 5) sc__law_named.nd rfl (Or.inl rfl)) pgs_nil)))
          (pss_one (ps_expr (pe_cal CA hr.lt (pa_cons (pv 3) (pa_cons (pv 4) (pa_cons (pv 5) pa_nil)))))))) pss_nil)
      (pss_one (ps_ret (pe_cal CC hr (pa_cons (pv 3) pa_nil)))))))), ?_⟩
    obtain ⟨a, xs, us, rfl, hX, ha, h1, h2⟩ := term_at sub hx
    rw [hk] at h2
    obtain rfl := dpa_nil h2
    rw [List.append_nil] at hX ha
    refine fun d hd => ?_
    have s0 := same_new (o := .dT []) hd
    have hd0 : upd H d (.dT []) d = some (.dT (vk (tally []))) := upd_same
    generalize upd H d (.dT []) = H0 at s0 hd0 ⊢
    have ha0 := s0 _ _ ha
    cases t with
    | bag b =>
      obtain ⟨y, r, rfl, h3, h4⟩ := dpa_cons h1
      obtain rfl := dpa_nil h4
      refine tag_yes rfl (sq_t ha0) (iteT ⟨_, rfl, a, _, 1, _, rfl, rfl, sq_t ha0, atI_nat (j := 1) rfl, ?_⟩)
      exact q _ _ s0 (Dp.mono (mx_old s0 sub) h3)
    | name kd nm =>
      obtain ⟨y, r, rfl, h3, h4⟩ := dpa_cons h1
      obtain rfl := dp_strV h3
      obtain rfl := dpa_nil h4
      have nb : kd.sign ≠ "bag" := by cases kd <;> decide +kernel
      refine tag_no rfl (sq_t ha0) (iteF ?_) nb
      refine tnext ?_
      dsimp only
      refine seq_if (fun σ' H' => (∃ x y, σ' = [some (.ref a), some (.ref po), some (.ref pc), some (.ref d), x, y]) ∧ Off d H0 H' ∧ H' d = some (.dT (vk (tally (firstB o nm kd))))) (fun R hR => ?_) ?_
      · refine ⟨_, rfl, a, _, 0, _, rfl, rfl, sq_t ha0, atI_nat (j := 0) rfl, (by show 2 ≤ sizeLine; decide), fun p hp => ?_⟩
        have s1 := same_new (o := .tup [V.str "old", .str "new"]) hp
        refine ⟨p, _, rfl, .inr (sq_t upd_same), rfl, rfl, _, rfl, ite2 (fun hy => ?_) fun hn => ?_⟩
        · have ho1 := ho.mono (s0.trans s1)
          obtain ⟨kvs, hk1, _⟩ := id ho1
          refine ⟨_, rfl, po, rfl, .inl ⟨_, .inl hk1⟩, _, rfl, a, _, 1, _, rfl, rfl, sq_t (s1 _ _ ha0), atI_nat (j := 1) rfl, Nat.zero_le _, fun pl hpl => ?_⟩
          obtain ⟨ov, a2, g1, g2, hb⟩ := get_bag ho1 nm hpl
          have s2 := same_new (o := .lst []) hpl
          refine ⟨ov, g1, a2, g2, ?_, ?_⟩
          · obtain ⟨ts, t1, _⟩ := id hb
            exact ⟨_, sq_l t1⟩
          · have hd2 := s2 _ _ (s1 _ _ hd0)
            refine bag_loop (K := K) (ps0 := []) (m := 1) (fun σ' => ∃ x y, σ' = [some (.ref a), some (.ref po), some (.ref pc), some (.ref d), x, y]) (fun e => [e]) hb hd2 ⟨none, none, rfl⟩ (fun _ _ => Nat.le_refl _) ?_ ?_
            · rintro e qa σ' H3 ps he ⟨x, y, rfl⟩ k3 hd3 hq3 hl3 N hN
              have := (oo nm).1
              exact ⟨_, rfl, _, rfl, _, rfl, d, qa, ps, e.1, e.2, rfl, hd3, hq3, by simp at hl3; omega, hN _ _ ⟨_, _, rfl⟩ (Off.upd _ _ _) upd_same⟩
            · intro σ' H3 hs k3 hd3
              refine hR σ' H3 ⟨hs, ((s1.trans s2).off).trans k3, ?_⟩
              rw [first_yes hy]
              rw [flat_id] at hd3
              exact hd3
        · refine hR _ _ ⟨⟨_, _, rfl⟩, s1.off, ?_⟩
          rw [first_no hn]
          exact s1 _ _ hd0
      · rintro _ H1 ⟨⟨x, y, rfl⟩, k1, hd1⟩
        have ha1 : H1 a = some (.tup [.str kd.sign, .str nm]) := k1 _ _ (fun z => by rw [z, hd0] at ha0; cases ha0) ha0
        refine seq_if (fun σ' H' => (∃ x y, σ' = [some (.ref a), some (.ref po), some (.ref pc), some (.ref d), x, y]) ∧ Off d H0 H' ∧ H' d = some (.dT (vk (tally (bothB o c nm kd))))) (fun R hR => ?_) ?_
        · refine ⟨_, rfl, a, _, 0, _, rfl, rfl, sq_t ha1, atI_nat (j := 0) rfl, (by show 2 ≤ sizeLine; decide), fun p hp => ?_⟩
          have s1 := same_new (o := .tup [V.str "change", .str "new"]) hp
          refine ⟨p, _, rfl, .inr (sq_t upd_same), rfl, rfl, _, rfl, ite2 (fun hy => ?_) fun hn => ?_⟩
          · have hc1 := ((hc.mono s0).off hd0 k1).mono s1
            obtain ⟨kvs, hk1, _⟩ := id hc1
            refine ⟨_, rfl, pc, rfl, .inl ⟨_, .inl hk1⟩, _, rfl, a, _, 1, _, rfl, rfl, sq_t (s1 _ _ ha1), atI_nat (j := 1) rfl, Nat.zero_le _, fun pl hpl => ?_⟩
            obtain ⟨ov, a2, g1, g2, hb⟩ := get_bag hc1 nm hpl
            have s2 := same_new (o := .lst []) hpl
            refine ⟨ov, g1, a2, g2, ?_, ?_⟩
            · obtain ⟨ts, t1, _⟩ := id hb
              exact ⟨_, sq_l t1⟩
            · have hd2 := s2 _ _ (s1 _ _ hd1)
              refine bag_loop (K := K) (ps0 := firstB o nm kd) (m := 1) (fun σ' => ∃ x y, σ' = [some (.ref a), some (.ref po), some (.ref pc), some (.ref d), x, y]) (fun e => [e]) hb hd2 ⟨_, _, rfl⟩ (fun _ _ => Nat.le_refl _) ?_ ?_
              · rintro e qa σ' H3 ps he ⟨x, y, rfl⟩ k3 hd3 hq3 hl3 N hN
                have h5 := (oc nm).1
                have h6 : (firstB o nm kd).length ≤ 1000 := by
                  cases kd with
                  | change => exact Nat.zero_le _
                  | _ => exact (oo nm).1
                exact ⟨_, rfl, _, rfl, _, rfl, d, qa, ps, e.1, e.2, rfl, hd3, hq3, by omega, hN _ _ ⟨_, _, rfl⟩ (Off.upd _ _ _) upd_same⟩
              · intro σ' H3 hs k3 hd3
                refine hR σ' H3 ⟨hs, (k1.trans (s1.trans s2).off).trans k3, ?_⟩
                rw [both_yes hy]
                rw [flat_id] at hd3
                exact hd3
          · refine hR _ _ ⟨⟨_, _, rfl⟩, k1.trans s1.off, ?_⟩
            rw [both_no hn]
            exact s1 _ _ hd1
        · rintro _ H2 ⟨⟨x, y, rfl⟩, k2, hd2⟩
          obtain ⟨b1, b2⟩ := both_ok oo oc nm kd
          refine ⟨_, rfl, d, _, rfl, hd2, by omega, b2, fun qr H3 s3 hqr hb => ?_⟩
          have s03 : Same H H2 := Off.same hd s0 k2
          have e : leafB o c (.name kd nm) = mk (bothB o c nm kd) := by cases kd <;> rfl
          refine q _ _ (s03.trans s3) ?_
          rw [e]
          exact bag_mx (s03.trans s3) (s03.free hqr) hb
    | _ => cases hk
end
end KA
set_option Elab.async false
set_option linter.all false
set_option maxRecDepth 100000
set_option maxHeartbeats 4000000
/-! what a term denotes -/
namespace KA
open PySem PySem.Spec PyProof.Rows L2
open PySem.W (EachIs)
/-- rows of bags that terms denote -/
def RowS (r : Row) : Prop := r.length ≤ 8 ∧ ∀ x ∈ r, VOk x
def RowsS (b : Bag) : Prop := ∀ e ∈ b, RowS e.1
theorem RowS.v {r : Row} (h : RowS r) : RowV r := ⟨Nat.le_trans h.1 (by decide), h.2⟩
theorem RowOk.s {r : Row} (h : RowOk r) : RowS r := ⟨h.1, fun x hx => (h.2 x hx).v⟩
theorem RowS.cat {r t : Row} (h1 : RowS r) (h2 : RowS t) : RowV (r ++ t) := by
  have a := h1.1
  have b := h2.1
  exact ⟨by rw [List.length_append]; omega, fun x hx => (List.mem_append.mp hx).elim (h1.2 x) (h2.2 x)⟩
theorem RowsS.rowB {b : Bag} (h : RowsS b) : RowB 1000 b := fun e he => Nat.le_trans (h e he).1 (by decide)
theorem mk_rowsS {ps : Bag} (h : RowsS ps) : RowsS (mk ps) := fun e he => by
  obtain ⟨e', h1, h2⟩ := mk_rows he
  rw [← h2]
  exact h e' h1
theorem RowsS.app {a b : Bag} (h1 : RowsS a) (h2 : RowsS b) : RowsS (a ++ b) := fun e he => (List.mem_append.mp he).elim (h1 e) (h2 e)
theorem rowOf_s {n : Nat} {es : List Ex} {r : Row} (h : ExsOk n es) (hr : RowV r) : RowS (rowOf es r) := by
  unfold rowOf
  refine ⟨by rw [List.length_map]; exact Nat.le_trans h.1 (by decide), fun x hx => ?_⟩
  obtain ⟨e, he, rfl⟩ := List.mem_map.mp hx
  exact val_ok (h.2 e he).1 hr
/-! ### groups -/
def putG (gs : List (Row × Bag)) (k : Row) (e : Row × Int) : List (Row × Bag) :=
  if gs.any (fun g => decide (g.1 = k)) = true then gs.map (fun g => if g.1 = k then (g.1, g.2 ++ [e]) else g) else gs ++ [(k, [e])]
def groupsOf (keys : List Ex) (b : Bag) : List (Row × Bag) := b.foldl (fun gs e => putG gs (rowOf keys e.1) e) []
/-- the values of the rows that a group has, ascending -/
def hadOf (e : Ex) (ps : Bag) : List Row := sortRows ((ps.filter fun p => decide (p.2 > 0)).map fun p => [e.val p.1])
def foldOne (k : Fk) (e : Ex) (ps : Bag) : Option Key :=
  match k with
  | .count => some (.inl (wrapZ (ps.map (·.2)).sum))
  | .sum => some (.inl (wrapZ (ps.map fun p => numZ (e.val p.1) * p.2).sum))
  | .least => ((hadOf e ps).head?.bind fun r => r.head?)
  | .most => ((hadOf e ps).getLast?.bind fun r => r.head?)
def foldP (keys : List Ex) (k : Fk) (e : Ex) (b : Bag) : Bag := (groupsOf keys b).filterMap fun g => (foldOne k e g.2).map fun v => (g.1 ++ [v], 1)
theorem putG_mem {gs : List (Row × Bag)} {k : Row} {e : Row × Int} {P : Row → Bag → Prop} (h : ∀ g ∈ gs, P g.1 g.2) (h1 : ∀ ps, P k ps → P k (ps ++ [e])) (h2 : P k [e]) : ∀ g ∈ putG gs k e, P g.1 g.2 := fun g hg => by
  unfold putG at hg
  split at hg
  · obtain ⟨g0, h0, rfl⟩ := List.mem_map.mp hg
    by_cases c : g0.1 = k
    · rw [if_pos c]
      have := h g0 h0
      rw [c] at this ⊢
      exact h1 _ this
    · rw [if_neg c]
      exact h g0 h0
  · rcases List.mem_append.mp hg with h3 | h3
    · exact h g h3
    · rw [List.mem_singleton.mp h3]
      exact h2
theorem groups_mem {keys : List Ex} {b : Bag} {P : Row → Bag → Prop} (h1 : ∀ e ∈ b, ∀ ps, P (rowOf keys e.1) ps → P (rowOf keys e.1) (ps ++ [e])) (h2 : ∀ e ∈ b, P (rowOf keys e.1) [e]) : ∀ g ∈ groupsOf keys b, P g.1 g.2 := by
  unfold groupsOf
  suffices go : ∀ (b : Bag) (gs : List (Row × Bag)), (∀ e ∈ b, ∀ ps, P (rowOf keys e.1) ps → P (rowOf keys e.1) (ps ++ [e])) → (∀ e ∈ b, P (rowOf keys e.1) [e]) → (∀ g ∈ gs, P g.1 g.2) → ∀ g ∈ b.foldl (fun gs e => putG gs (rowOf keys e.1) e) gs, P g.1 g.2 from
    go b [] h1 h2 fun g hg => (List.not_mem_nil hg).elim
  intro b
  induction b with
  | nil => exact fun gs _ _ h => h
  | cons e b ih =>
    intro gs h1 h2 h
    exact ih _ (fun x hx => h1 x (List.mem_cons_of_mem _ hx)) (fun x hx => h2 x (List.mem_cons_of_mem _ hx)) (putG_mem h (h1 e List.mem_cons_self) (h2 e List.mem_cons_self))
theorem had_mem {e : Ex} {ps : Bag} {r : Row} (h : r ∈ hadOf e ps) : ∃ p ∈ ps, r = [e.val p.1] := by
  obtain ⟨p, hp, rfl⟩ := List.mem_map.mp (mem_sorted h)
  exact ⟨p, (List.mem_filter.mp hp).1, rfl⟩
theorem foldOne_ok {k : Fk} {e : Ex} {ps : Bag} {v : Key} (he : e.Ok) (hp : ∀ p ∈ ps, RowV p.1) (h : foldOne k e ps = some v) : VOk v := by
  have had : ∀ r ∈ hadOf e ps, ∀ x, r.head? = some x → VOk x := fun r hr x hx => by
    obtain ⟨p, h1, rfl⟩ := had_mem hr
    cases hx
    exact val_ok he (hp p h1)
  cases k with
  | count => cases h; exact wrapZ_bd _
  | sum => cases h; exact wrapZ_bd _
  | least =>
    obtain ⟨r, h1, h2⟩ := Option.bind_eq_some_iff.mp h
    exact had r (List.mem_of_mem_head? h1) v h2
  | most =>
    obtain ⟨r, h1, h2⟩ := Option.bind_eq_some_iff.mp h
    exact had r (List.mem_of_getLast? h1) v h2
theorem foldP_s {keys : List Ex} {k : Fk} {e : Ex} {b : Bag} (hk : ExsOk 1 keys) (he : e.Ok) (hb : RowsS b) : RowsS (foldP keys k e b) := fun x hx => by
  obtain ⟨g, hg, h1⟩ := List.mem_filterMap.mp hx
  have hP := groups_mem (keys := keys) (b := b) (P := fun r ps => (∃ p : Row, RowV p ∧ r = rowOf keys p) ∧ ∀ p ∈ ps, RowV p.1)
    (fun e he ps h => ⟨h.1, fun p hp => (List.mem_append.mp hp).elim (h.2 p) fun z => by rw [List.mem_singleton.mp z]; exact (hb e he).v⟩)
    (fun e he => ⟨⟨e.1, (hb e he).v, rfl⟩, fun p hp => by rw [List.mem_singleton.mp hp]; exact (hb e he).v⟩) g hg
  obtain ⟨⟨p, hp, e1⟩, h2⟩ := hP
  cases q : foldOne k e g.2 with
  | none => rw [q] at h1; cases h1
  | some v =>
    rw [q] at h1
    cases h1
    have hl : (rowOf keys p).length ≤ 3 := by unfold rowOf; rw [List.length_map]; exact hk.1
    refine ⟨?_, fun y hy => ?_⟩
    · rw [e1, List.length_append]
      show _ + 1 ≤ 8
      omega
    · rw [e1] at hy
      rcases List.mem_append.mp hy with h3 | h3
      · exact (rowOf_s hk hp).2 y h3
      · rw [List.mem_singleton.mp h3]
        exact foldOne_ok he h2 q
def joinP (l r es : List Ex) (a b : Bag) : Bag := a.flatMap fun x => b.flatMap fun y => if rowOf l x.1 = rowOf r y.1 then [(rowOf es (x.1 ++ y.1), x.2 * y.2)] else []
namespace Tm
def value (o c : Str → Bag) : Tm → Bag
  | .name k n => mk (bothB o c n k)
  | .bag b => b
  | .map es t => mk ((t.value o c).map fun e => (rowOf es e.1, e.2))
  | .keep x t => mk ((t.value o c).map fun e => (e.1, if x.val e.1 = .inl 0 then 0 else e.2))
  | .neg t => mk ((t.value o c).map fun e => (e.1, 0 - e.2))
  | .once t => mk ((t.value o c).map fun e => (e.1, b2z (decide (e.2 > 0))))
  | .fold keys k e t => mk (foldP keys k e (t.value o c))
  | .plus a b => mk (a.value o c ++ b.value o c)
  | .join l r es a b => mk (joinP l r es (a.value o c) (b.value o c))
theorem value_s {o c : Str → Bag} (ho : ∀ n, RowsS (o n)) (hc : ∀ n, RowsS (c n)) : ∀ t : Tm, t.Ok → RowsS (t.value o c)
  | .name k n, _ => by
    refine mk_rowsS ?_
    cases k with
    | old => exact ho n
    | change => exact hc n
    | new => exact (ho n).app (hc n)
  | .bag b, h => fun e he => (GoodBag.rows h e he).s
  | .map es t, h => mk_rowsS fun e he => by
    obtain ⟨x, hx, rfl⟩ := List.mem_map.mp he
    exact rowOf_s h.1 (value_s ho hc t h.2 x hx).v
  | .keep x t, h => mk_rowsS fun e he => by
    obtain ⟨x, hx, rfl⟩ := List.mem_map.mp he
    exact value_s ho hc t h.2 x hx
  | .neg t, h => mk_rowsS fun e he => by
    obtain ⟨x, hx, rfl⟩ := List.mem_map.mp he
    exact value_s ho hc t h x hx
  | .once t, h => mk_rowsS fun e he => by
    obtain ⟨x, hx, rfl⟩ := List.mem_map.mp he
    exact value_s ho hc t h x hx
  | .fold keys k e t, h => mk_rowsS (foldP_s h.1 h.2.1.1 (value_s ho hc t h.2.2))
  | .plus a b, h => mk_rowsS ((value_s ho hc a h.1).app (value_s ho hc b h.2))
  | .join l r es a b, h => mk_rowsS fun e he => by
    obtain ⟨x, hx, h1⟩ := List.mem_flatMap.mp he
    obtain ⟨y, hy, h2⟩ := List.mem_flatMap.mp h1
    split at h2
    · rw [List.mem_singleton.mp h2]
      exact rowOf_s h.2.2.1 ((value_s ho hc a h.2.2.2.1 x hx).cat (value_s ho hc b h.2.2.2.2 y hy))
    · cases h2
/-- bounds under which the value is computed -/
def Fits (o c : Str → Bag) : Tm → Prop
  | .name _ _ => True
  | .bag _ => True
  | .map _ t => t.Fits o c ∧ (t.value o c).length ≤ 20000
  | .keep _ t => t.Fits o c ∧ (t.value o c).length ≤ 20000
  | .neg t => t.Fits o c ∧ (t.value o c).length ≤ 20000
  | .once t => t.Fits o c ∧ (t.value o c).length ≤ 20000
  | .fold _ _ _ t => t.Fits o c ∧ (t.value o c).length ≤ 20000
  | .plus a b => a.Fits o c ∧ b.Fits o c ∧ (a.value o c).length + (b.value o c).length ≤ 20000
  | .join _ _ _ a b => a.Fits o c ∧ b.Fits o c ∧ (a.value o c).length * (b.value o c).length ≤ 10000 ∧ (b.value o c).length ≤ 10000 ∧ BdB (2 ^ 60) (a.value o c)
end Tm
end KA
set_option Elab.async false
set_option linter.all false
set_option maxRecDepth 100000
set_option maxHeartbeats 4000000
/-! heaps whose tables of code objects may grow: what still holds -/
namespace KA
open PySem PySem.Spec PyProof.Rows L2 LamX
open PySem.W (EachIs)
theorem extn_frm {H H' : Hp} (s : ExtN H H') : Same (frm H) (frm H') := fun a o h => by
  rcases frm_is h with ⟨xs, rfl, e⟩ | ⟨ts, rfl, e⟩
  · exact frm_tup (s _ _ e fun ps z => by cases z)
  · exact frm_lst (s _ _ e fun ps z => by cases z)
theorem RowAt.extn {H H' : Hp} (s : ExtN H H') {q : Addr} {r : Row} (h : RowAt H q r) : RowAt H' q r := s _ _ h fun ps z => by cases z
theorem PairAt.extn {H H' : Hp} (s : ExtN H H') {t : Addr} {e : Row × Int} (h : PairAt H t e) : PairAt H' t e := by
  obtain ⟨q, h1, h2⟩ := h
  exact ⟨q, s _ _ h1 (fun ps z => by cases z), h2.extn s⟩
theorem BagAt.extn {H H' : Hp} (s : ExtN H H') {p : Addr} {b : Bag} (h : BagAt H p b) : BagAt H' p b := by
  obtain ⟨ts, h1, h2⟩ := h
  exact ⟨ts, s _ _ h1 (fun ps z => by cases z), h2.mono fun _ _ q => q.extn s⟩
theorem BagsAt.extn {H H' : Hp} (s : ExtN H H') {p : Addr} {m : Str → Bag} (h : BagsAt H p m) : BagsAt H' p m := by
  obtain ⟨kvs, h1, h2⟩ := h
  refine ⟨kvs, s _ _ h1 (fun ps z => by cases z), fun n => ?_⟩
  rcases h2 n with ⟨a, h3, h4⟩ | h3
  · exact .inl ⟨a, h3, h4.extn s⟩
  · exact .inr h3
theorem sqL_extn {K : PySem.W.Frag} {H H' : Hp} (s : ExtN H H') {a : Addr} {xs : List V} (h : SqL K H a xs) : SqL K H' a xs := by
  rcases h with (h | ⟨o, h⟩) | h
  · exact .inl (.inl (s _ _ h fun ps z => by cases z))
  · exact .inl (.inr ⟨o, s _ _ h fun ps z => by cases z⟩)
  · exact .inr h
theorem extn_new {H : Hp} {p : Addr} {o : HO} (h : H p = none) : ExtN H (upd H p o) := ExtN.of (same_new h)
theorem extn_mut {H H' : Hp} {p : Addr} {o : HO} (e : ExtN H H') (h : H p = none) : ExtN H (upd H' p o) := fun b x q n => by
  rw [upd_ne (ne_of_none q h)]
  exact e b x q n
theorem extn_off {D : Addr} {H H1 H' : Hp} (hD : H D = none) (s : ExtN H H1) (k : Off D H1 H') : ExtN H H' := fun a o h n => k a o (ne_of_none h hD) (s a o h n)
/-- a list or a row was there before, or it is new -/
theorem extn_lst {H H' : Hp} (s : ExtN H H') {q : Addr} (h : H' q = none) : ∀ xs, H q ≠ some (.lst xs) := fun xs z => by
  rw [s _ _ z fun ps y => by cases y] at h
  cases h
theorem tabs_off {T : List (Addr × Str)} {D : Addr} {H H' : Hp} {o : HO} (hD : H D = some o) (hn : ∀ ps, o ≠ .tbl ps) (hc : ∀ φ, o ≠ .ext φ) (k : Off D H H') (t : Tabs T H) : Tabs T H' := fun p hp => by
  obtain ⟨ps, h1, h2, h3⟩ := t p hp
  refine ⟨ps, k _ _ (fun z => ?_) h1, h2, fun pos cv hcv => ?_⟩
  · rw [z, hD] at h1
    exact hn ps (Option.some.inj h1)
  · obtain ⟨c, e1, e2⟩ := h3 pos cv hcv
    refine ⟨c, e1, k _ _ (fun z => ?_) e2⟩
    rw [z, hD] at e2
    exact hc _ (Option.some.inj e2)
theorem tabs_new {T : List (Addr × Str)} {H : Hp} {p : Addr} {o : HO} (h : H p = none) (t : Tabs T H) : Tabs T (upd H p o) := t.ext (same_new h)
theorem tabs_lst {T : List (Addr × Str)} {H : Hp} {p : Addr} {xs ys : List V} (h : H p = some (.lst xs)) (t : Tabs T H) : Tabs T (upd H p (.lst ys)) := tabs_off h (fun ps z => by cases z) (fun φ z => by cases z) (Off.upd _ _ _) t
theorem mx_subX {H X H' : Hp} (s : ExtN H H') (sub : Sub X H) : Same X (Mx H X H') := fun a o h => by
  unfold Mx
  rw [if_neg fun z => by rw [h] at z; cases z.2]
  exact extn_frm s _ _ (sub _ _ h)
theorem mx_stepX {H0 H1 X H' : Hp} (s : ExtN H0 H1) : Same (Mx H1 X H') (Mx H0 X H') := fun a o h => by
  unfold Mx at h ⊢
  split at h
  · cases h
  · rename_i c
    rw [if_neg fun z => c ⟨let ⟨xs, q⟩ := z.1; ⟨xs, s _ _ q fun ps y => by cases y⟩, z.2⟩]
    exact h
theorem bag_mxX {H X H' : Hp} (s : ExtN H H') {q : Addr} {b : Bag} (hq : ∀ xs, H q ≠ some (.lst xs)) (h : BagAt H' q b) : Dp [] (Mx H X H') (.ref q) (bagD b) := by
  obtain ⟨ts, h1, h2⟩ := h
  have tup : ∀ {p : Addr} {xs : List V}, H' p = some (.tup xs) → Mx H X H' p = some (.tup xs) := fun {p xs} h => by
    unfold Mx
    rw [if_neg fun z => by
      obtain ⟨ys, y⟩ := z.1
      rw [s _ _ y fun ps q => by cases q] at h
      cases h]
    exact frm_tup h
  refine dp_bag ⟨ts, ?_, h2.mono fun _ _ ⟨r, p1, p2⟩ => ⟨r, tup p1, tup p2⟩⟩
  unfold Mx
  rw [if_neg fun z => let ⟨ys, y⟩ := z.1; hq ys y]
  exact frm_lst h1
section
variable {J : It} {n : Nat} {G : Hp → Prop} {Y : Nat → Hp → V → Hp → Prop} {β : Type}
/-- lc_off, where tables may grow -/
theorem lc_offX {T : List (Addr × Str)} (w : Walk J n G Y) (bs : List β) (hn : bs.length = n) {D : Addr} (R : Hp → V → β → Prop) (hR : ∀ H H' v b, (∀ a o, a ≠ D → H a = some o → (∀ ps, o ≠ .tbl ps) → H' a = some o) → R H v b → R H' v b)
    {g : TG} {te : TE} {vs : List Nat} {σ : L2.St} {H1 : Hp} {Qd : Hp → Prop} (hD : H1 D = none) (hT : Tabs T H1) (hG : ∀ H, ExtN H1 H → G H) (hz : n ≤ 100000)
    (turn : ∀ i x b H H', i < n → bs[i]? = some b → ExtN H1 H → Tabs T H → (∃ acc, H D = some (.lst acc)) → Y i H x H' → ∀ (Q : VK) (Qn : Hp → Prop), (∀ v H'', ExtN H H'' → Tabs T H'' → R H'' v b → Q v H'') → g x (wipe σ vs) H' fun σ2 H2 => wipe σ2 vs = wipe σ vs ∧ tYes σ2 H2 fun c H3 => if c = true then te σ2 H3 Q else Qn H3)
    (done : ∀ H acc, ExtN H1 H → Tabs T H → H D = some (.lst acc) → EachIs (R H) acc bs → Qd H) :
    ∃ W : Nat → Nat → Hp → Prop, (∃ m, W 0 m (upd H1 D (.lst []))) ∧ ∀ i m H, W i m H →
      (J.stop i H ∧ Qd H) ∨ (J.go i H ∧ ∃ Nx : Hp → Prop, (∀ H', Nx H' → ∃ m', m' < m ∧ W (i + 1) m' H') ∧ ∀ x H', J.yld i H x H' → g x (wipe σ vs) H' fun σ2 H2 => wipe σ2 vs = wipe σ vs ∧ tYes σ2 H2 fun b H3 =>
        if b = true then te σ2 H3 fun y H4 => ∃ acc, H4 D = some (.lst acc) ∧ acc.length < sizeLine ∧ Nx (upd H4 D (.lst (acc ++ [y]))) else Nx H3) := by
  refine lc_it w (fun i H => (ExtN H1 H ∧ Tabs T H) ∧ ∃ acc, H D = some (.lst acc) ∧ EachIs (R H) acc (bs.take i)) ⟨⟨extn_new hD, tabs_new hD hT⟩, [], upd_same, by rw [List.take_zero]; exact .nil⟩ (fun i H _ p => hG H p.1.1) ?_ ?_
  · rintro i x H H' hi ⟨⟨hr, ht⟩, acc, ha, he⟩ y
    obtain ⟨b, hb⟩ : ∃ b, bs[i]? = some b := ⟨_, List.getElem?_eq_getElem (by omega)⟩
    have et : bs.take (i + 1) = bs.take i ++ [b] := by rw [List.take_add_one, hb]; rfl
    have hlen : acc.length ≤ i := by
      rw [he.length, List.length_take]
      exact Nat.min_le_left _ _
    refine turn i x b H H' hi hb hr ht ⟨acc, ha⟩ y _ _ fun v H2 s2 t2 rv => ?_
    have hd : H2 D = some (.lst acc) := s2 _ _ ha fun ps z => by cases z
    refine ⟨acc, hd, Nat.lt_of_lt_of_le (show acc.length < 100001 by omega) (by decide), ⟨extn_mut (hr.trans s2) hD, tabs_lst hd t2⟩, acc ++ [v], upd_same, ?_⟩
    rw [et]
    exact each_snoc1 (hR _ _ _ _ (fun a o n h _ => (Off.upd D H2 _) a o n h) rv) (he.mono fun v b z => hR _ _ _ _ (fun a o n h nt => (Off.upd D H2 _) a o n (s2 _ _ h nt)) z)
  · rintro H ⟨⟨hr, ht⟩, acc, ha, he⟩
    rw [List.take_of_length_le (by omega)] at he
    exact done H acc hr ht ha he
end
theorem off_mxX {D : Addr} {H X H' H'' : Hp} (k : ∀ a o, a ≠ D → H' a = some o → (∀ ps, o ≠ .tbl ps) → H'' a = some o) : Same (off D (Mx H X H')) (off D (Mx H X H'')) := off_same fun a o n h => by
  unfold Mx at h ⊢
  split at h
  · cases h
  · rename_i c
    rw [if_neg c]
    rcases frm_is h with ⟨xs, rfl, e⟩ | ⟨ts, rfl, e⟩
    · exact frm_tup (k _ _ n e fun ps z => by cases z)
    · exact frm_lst (k _ _ n e fun ps z => by cases z)
end KA
set_option Elab.async false
set_option linter.all false
set_option maxRecDepth 100000
set_option maxHeartbeats 4000000
/-! xs.extend(t) of a tuple t; xs[a:] = ys -/
namespace KA
open PySem PySem.Spec PyProof.Rows L2
section
variable {X : Cx}
theorem meets_extendT {l b : Addr} {had : Array Value} {c1 : Nat} {ob : Obj} {tail : Array Value} {c2 : Nat} (room : had.size + tail.size ≤ sizeLine) :
    Meets (Builtin.«list.extend» ⟨[.ref l, .ref b], []⟩) (fun _ R s => s.heap.get? l = some { cls := .type "list", data := .seq had c1 } ∧ (s.heap.get? b = some ob ∧ ob.cls = .type "tuple" ∧ ob.data = .seq tail c2) ∧
      R (.ok (.ret .none)) { s with heap := s.heap.update l (Obj.mapSeq (· ++ tail)) }) := by
  intro prog w A R s ⟨hl, ⟨hb, hc, hd⟩, hR⟩
  show wpAny _ A.in1 (Builtin.List.listExtendWith (.ref l) (.ref b) .none) _ _ s
  unfold Builtin.List.listExtendWith
  refine wpAny_bind (wpAny_typeOf ⟨ob, hb, hc⟩ ?_)
  have isT : (Builtin.List.listSameRef (.ref l) (.ref b) || Value.type "tuple" == Value.type "list" || Value.type "tuple" == Value.type "tuple") = true := by simp
  simp only [isT, if_true]
  unfold Builtin.List.listItems
  refine wpAny_bind (wpAny_bind (wpAny_seqItems hb hd (wpAny_pure ?_)))
  refine wpAny_bind (wpAny_bind (wpAny_seqItems hl rfl (wpAny_pure ?_)))
  have short : (!had.isEmpty && Builtin.List.listTooLong (had.size + tail.size)) = false := by rw [notLongL room, Bool.and_false]
  simp only [short, Bool.false_eq_true, if_false]
  have fits : ((fun y : Array Value => y ++ tail) had).size ≤ sizeLine + 1 := by
    show (had ++ tail).size ≤ _
    rw [Array.size_append]
    omega
  first
    | refine wpAny_bind (wpAny_pure (wpAny_bind (wpAny_updateSeq (hz := by omega) (_hz' := fits) hl rfl ?_)))
    | refine wpAny_bind (wpAny_updateSeq (hz := by omega) (_hz' := fits) hl rfl ?_)
  exact wpAny_pure hR
/-- extend by a tuple -/
def rExtendT (K : PySem.W.Frag) : V → List V → Hp → VK → Prop := fun x vs H Q => ∃ (l b : Addr) (xs zs : List V), x = .ref l ∧ vs = [.ref b] ∧ H l = some (.lst xs) ∧ SqT K H b zs ∧ xs.length + zs.length ≤ sizeLine ∧ Q .non (upd H l (.lst (xs ++ zs)))
theorem mt_extendT : MtM X "list.extend" (rExtendT X.K) := by
  intro pins s σ H x vs v us Q I rx rv h
  obtain ⟨l, b, xs, zs, rfl, rfl, hH, hB, hz, q⟩ := h
  cases rx
  obtain rfl := Vals.ref1 rv
  obtain ⟨_, had, n, r, el, e⟩ := I.lstM hH
  obtain ⟨tl, r2, ⟨ob, e2, hc, m, hd⟩, _⟩ := I.tuple hB
  have el2 := r2.length
  refine call_meets F.slot_list_extend ⟨_, e, rfl⟩ F.entry_list_extend (F.args_list_extend_2 _ _) (meets_extendT (l := l) (b := b) (had := had.toArray) (c1 := n) (ob := ob) (tail := tl.toArray) (c2 := m) (by rw [List.size_toArray, List.size_toArray]; omega)) ⟨e, ⟨e2, hc, hd⟩, ?_⟩
  refine ⟨.non, _, I.lset (its' := had ++ tl) hH e (by simp) (r.append r2) ?_, rfl, q⟩
  rw [List.length_append]
  exact hz
end
/-! ### xs[a:] = ys -/
theorem ends_at {a n : Nat} (ha : a ≤ n) : sliceBounds (some (a : Int)) none none n = ((a : Int), (n : Int), 1) := by
  have h1 : ¬ ((a : Int) < 0) := by omega
  simp only [sliceBounds, Option.getD_none, h1, if_false, show (1 : Int) > 0 by decide, if_true]
  have h2 : min (a : Int) (n : Int) = (a : Int) := by omega
  have h3 : max (0 : Int) (a : Int) = (a : Int) := by omega
  first
    | (rw [h2, h3]; done)
    | simp only [h2, h3]
theorem glue (xs ys : List Value) (a : Nat) (ha : a ≤ xs.length) : xs.toArray.extract 0 a ++ ys.toArray ++ xs.toArray.extract xs.toArray.size xs.toArray.size = (xs.take a ++ ys).toArray := by
  apply Array.toList_inj.mp
  simp
theorem put_from {P : Program} {w : World} {A : Around} {E : Value → Shared → Prop} {s : Shared} {l b sl : Addr} {xs : List Value} {ys : Array Value} {n m : Nat} {va : Value} {a : Nat} {Q : Unit → Shared → Prop}
    (el : s.heap.get? l = some { cls := .type "list", data := .seq xs.toArray n }) (eb : s.heap.get? b = some { cls := .type "list", data := .seq ys m }) (lb : l ≠ b) (hs : s.heap.IsSliceOf sl va .none .none)
    (pa : IsPart va (some (a : Int))) (ha : a ≤ xs.length) (fit : xs.length + ys.size ≤ sizeLine) (h : Q () { s with heap := s.heap.update l (Obj.mapSeq fun z => z.extract 0 a ++ ys ++ z.extract xs.length z.size) }) :
    wpAny (model P w) A (setItem (.ref l) (.ref sl) (.ref b)) Q E s := by
  have isl := PySem.IsL.isList el
  have isb := PySem.IsL.isList eb
  obtain ⟨o, ho, ho1, ho2⟩ := id hs
  have tys : s.TypeIs (.ref sl) "slice" := ⟨o, ho, ho1⟩
  have diff : Builtin.List.listSameRef (.ref l) (.ref b) = false := beq_eq_false_iff_ne.mpr lb
  have top : (max (a : Int) (xs.toArray.size : Int)).toNat = xs.length := by
    rw [List.size_toArray]
    omega
  have small : ((fun z : Array Value => z.extract 0 a ++ ys ++ z.extract xs.length z.size) xs.toArray).size ≤ sizeLine + 1 := by
    simp only [Array.size_append, Array.size_extract, List.size_toArray]
    omega
  unfold setItem
  try with_reducible refine wpAny_holding ?_
  try refine wpAny_bind (wpAny_pure ?_)
  refine wpAny_bind (wpAny_sequenceKey isl.typeIs (by decide) (wpAny_bind (wpAny_callSpecial?_slot (name := Str.ofString "__setitem__") isl.typeIs slot_list_setitem (wpAny_call_entry slot_list_setitem isl.typeIs entry_list_setitem ?_ (args_list_setitem _ _ _)))))
  show wpAny _ _ (Builtin.List.listSubscript? (.ref sl) >>= _) _ _ s
  unfold Builtin.List.listSubscript?
  refine wpAny_bind (wpAny_bind (wpAny_specialOf tys slice_no_index ?_))
  simp only [Option.isNone_none, if_true]
  refine wpAny_pure (show wpAny _ _ (typeOf (.ref sl) >>= _) _ _ s from wpAny_bind (wpAny_typeOf tys ?_))
  first
    | rw [if_neg (by decide)]
    | refine PySem.W.KFB.if_not (by decide) ?_
  rw [listSliceParts_eq]
  refine wpAny_bind (wpAny_bind (wpAny_field ho ho2 (x := .none) rfl (wpAny_bind (wpAny_listPart .none ?_))))
  rw [if_neg (show ¬ ((rawPart none == rawInt 0) = true) from Bool.false_ne_true)]
  refine wpAny_bind (wpAny_field ho ho2 (x := va) rfl (wpAny_bind (wpAny_listPart pa (wpAny_bind (wpAny_field ho ho2 (x := .none) rfl (wpAny_bind (wpAny_listPart .none (wpAny_pure ?_))))))))
  first
    | simp only [diff, Bool.false_eq_true, if_false]
    | refine PySem.W.KFB.if_not diff ?_
  refine wpAny_bind (m := Builtin.List.listAllItems (.ref b) "must assign iterable to extended slice") ?_
  unfold Builtin.List.listAllItems
  refine wpAny_bind (wpAny_typeOf isb.typeIs ?_)
  first
    | refine PySem.W.KFB.if_so (by decide) ?_
    | rw [if_pos (by decide)]
  unfold Builtin.List.listItems
  refine wpAny_bind (wpAny_seqItems eb rfl (wpAny_pure ?_))
  refine wpAny_bind (wpAny_bind (wpAny_seqItems el rfl (wpAny_pure ?_)))
  refine wpAny_bind (wpAny_of_eq ((sliceIndices_raw (some (a : Int)) none none xs.toArray.size (by simp)).trans (congrArg (pure : Int × Int × Int → Sem (Int × Int × Int)) (ends_at (by rw [List.size_toArray]; exact ha)))) ?_)
  show wpAny _ _ (if ((1 : Int) == 1) = true then _ else _) _ _ s
  rw [if_pos (by decide)]
  refine wpAny_bind (wpAny_rule ?_)
  have notLong := notLongL (n := xs.toArray.size + ys.size) (by rw [List.size_toArray]; exact fit)
  first
    | simp only [notLong, Bool.false_eq_true, if_false]
    | refine PySem.W.KFB.if_not notLong ?_
  try refine wpAny_bind (wpAny_pure ?_)
  show wpAny _ _ (updateSeq l (fun z => z.extract 0 ((a : Int)).toNat ++ ys ++ z.extract (max (a : Int) (xs.toArray.size : Int)).toNat z.size) >>= _) _ _ s
  rw [top, Int.toNat_natCast]
  refine wpAny_bind (wpAny_updateSeq (hz := by rw [List.size_toArray]; omega) (_hz' := small) el rfl (wpAny_bind (wpAny_letGo ?_)))
  first
    | exact wpAny_bind (wpAny_pure (wpAny_pure ⟨.none, rfl, wpAny_pure h⟩))
    | exact wpAny_pure ⟨.none, rfl, wpAny_pure h⟩
section
variable {X : Cx}
/-- o[a:] = v, of another list -/
def gFrom (to : TE) (ta : TE) : TG := fun v σ H Q => to σ H fun o H1 => ta σ H1 fun i H2 => ∃ (l b : Addr) (xs ys : List V) (a : Nat), o = .ref l ∧ v = .ref b ∧ i = .int a ∧ H2 l = some (.lst xs) ∧ H2 b = some (.lst ys) ∧ l ≠ b ∧ a ≤ xs.length ∧ xs.length + ys.length ≤ sizeLine ∧
  Q σ (upd H2 l (.lst (xs.take a ++ ys)))
theorem pg_from {o i : Expr} {to ti : TE} {p pos : Pos} (ho : PE X o to) (hi : PE X i ti) : PG X (.Subscript o (.Slice (some i) none none p) pos) (gFrom to ti) := by
  refine ⟨fun pins s σ H v u Q I rv h => ?_⟩
  rw [assign_Subscript]
  refine wpAny_bind (wpAny_holding (thn (ho.run pins s σ H _ I h) fun ov s1 ⟨x, H1, I1, r1, q1⟩ => wpAny_bind (wpAny_holding (wpAny_Slice ?_))))
  rw [evalPart_some]
  refine thn (hi.run pins s1 σ H1 _ I1 q1) fun iv s2 ⟨y, H2, I2, r2, l, b, xs, ys, a, ex, ev, ey, hl, hb, lb, ale, fit, q2⟩ => ?_
  refine wpAny_pure (wpAny_pure ?_)
  subst ex ev ey
  cases r1
  cases rv
  obtain ⟨t, rfl⟩ := r2
  have I3 : Inv X pins σ H2 { s2 with heap := s2.heap.push { cls := .type "slice", data := .fields #[.int a t, .none, .none] } } := I2.kept (t' := s2.toks) fun c oc z => Heap.get?_push_of_some _ z
  obtain ⟨_, its, n, r, elen, e⟩ := I3.lstM hl
  obtain ⟨_, new, m, r', elen', e'⟩ := I3.lstM hb
  refine wpAny_bind (wpAny_standAt (wpAny_bind (wpAny_holding ?_)))
  refine put_from (a := a) e e' lb (Heap.IsSliceOf.new ..) (.int _ _) (by omega) (by rw [List.size_toArray]; omega) (wpAny_release ⟨σ, _, ?_, q2⟩)
  refine I3.lset (its' := its.take a ++ new) (t' := s2.toks) hl e ?_ ((r.take _).append r') (by rw [List.length_append, List.length_take]; omega)
  have g := glue its new a (by omega)
  rw [List.size_toArray] at g
  rw [← g]
  simp
end
end KA
set_option Elab.async false
set_option linter.all false
set_option maxRecDepth 100000
set_option maxHeartbeats 4000000
/-! what is handed over as a function: a def, or a lambda with captured names; defs that call what they got -/
namespace KA
open PySem PySem.Spec PyProof.Rows L2 LamX NdefX
abbrev XF : XK := fun _ _ _ => False
section
variable (P : Program) (w : World) (K : PySem.W.Frag) (mg : Str → Option Value) (base : Heap)
/-- what stands at g may be called as sp tells, wherever what was untracked behind (s0, H0) stands still -/
structure CloS (fr : List Addr) (s0 : Shared) (H0 : Hp) (k : Nat) (g : Addr) (sp : Sp) : Prop where
  at_ : ∀ (s : Shared) (H : Hp), Un fr [] H0 H s0.heap s.heap → PySem.W.FnAt g s.heap
  run : ∀ (A : Around) (outer : List Env) (s : Shared) (H : Hp) (us : List Value) (vs : List V) (Q : VK), Room k A → Env0 P w K mg base A outer s H → Un fr [] H0 H s0.heap s.heap → Vals vs us → sp vs H Q XF →
    codeAny (model P w) A (.call (.ref g) ⟨us, []⟩) (CR CX0 outer P w H s Q XF) s
abbrev CloT := Addr → Nat → Sp → Prop
/-- the promise of a def that calls what it got -/
structure FnC (k : Nat) (f : Addr) (sp : CloT → Sp) : Prop where
  run : ∀ (A : Around) (outer : List Env) (s : Shared) (H : Hp) (us : List Value) (vs : List V) (Q : VK), Room k A → Env0 P w K mg base A outer s H → Vals vs us → sp (fun g j r => CloS P w K mg base (frs outer) s H j g r) vs H Q XF →
    codeAny (model P w) A (.call (.ref f) ⟨us, []⟩) (CR CX0 outer P w H s Q XF) s
/-- .. by its name -/
def CalC (x : Str) (k : Nat) (sp : CloT → Sp) : Prop := ∃ f, mg x = some (.ref f) ∧ PySem.W.keepIn K (.ref f) = true ∧ FnC P w K mg base k f sp
/-- a def of the top, as a value -/
def DefClo : CloT := fun g j r => ∃ (fd : FuncData) (ps : List Str) (oc : Value) (od : Option Addr) (osl : Array (Option Value)), FnOk P w K mg base CX0 j g fd ps r ∧ K.lookup g = some ⟨oc, od, .func fd, osl⟩ ∧ Binds K fd ps []
end
section
variable {P : Program} {w : World} {K : PySem.W.Frag} {mg : Str → Option Value} {base : Heap}
theorem DefClo.to {A : Around} {outer : List Env} {s : Shared} {H : Hp} {g : Addr} {j : Nat} {r : Sp} (e0 : Env0 P w K mg base A outer s H) (h : DefClo P w K mg base g j r) : CloS P w K mg base (frs outer) s H j g r := by
  obtain ⟨fd, ps, oc, od, osl, F, lk, b⟩ := h
  have kept : ∀ {s1 : Shared} {H1 : Hp}, Un (frs outer) [] H H1 s.heap s1.heap → s1.heap.get? g = some ⟨oc, od, .func fd, osl⟩ := fun {s1 H1} u => by
    have e1 := e0.mod.kin g _ lk
    obtain ⟨e2, e3⟩ := e0.bs g _ e1
    refine u.keep g _ e2 e3 (fun z => ?_) (by simp)
    have := (e0.funs.mem z).1
    rw [e1] at this
    cases this
  refine ⟨fun s1 H1 u => ⟨oc, od, fd, osl, kept u⟩, fun A1 outer1 s1 H1 us vs Q hr e1 u rv hs => ?_⟩
  have hl : (us ++ []).length = ps.length := by
    rw [List.append_nil, ← rv.length]
    exact F.len _ _ _ _ hs
  have bd := b s1 us (e1.mod.kin.keeps fun c o z => (e1.bs c o z).1) hl
  rw [List.append_nil] at bd
  exact F.run A1 outer1 s1 H1 ⟨us, []⟩ us vs Q XF hr e1 bd rv hs
/-- a def's body -/
theorem fnC_of {x qual : Str} {params : Arguments} {body : List Stmt} {scope : Scope} {f : Addr} {fd : FuncData} {N ps : List Str} {k : Nat} {sp : CloT → Sp} (F : FunD K x qual params body scope [] [] f fd) (b : Binds K fd ps []) (S : FnScope N ps scope)
    (len : ∀ C vs H Q E, sp C vs H Q E → vs.length = ps.length)
    (hbody : ∀ (cdv : Value) (A : Around) (outer : List Env) (s : Shared) (H : Hp) (vs : List V) (Q : VK), Room k (A.deeper (envOfC qual scope s.heap.objs.size f cdv)) → sp (fun g j r => CloS P w K mg base (frs outer) s H j g r) vs H Q XF →
      ∃ t, PSs (cxOf CX0 P w K mg base N qual scope f cdv A outer s H XF) body t ∧ t { nx := fun _ H' => Q .non H', rt := Q } (L2.start N vs) H) : FnC P w K mg base (k + 1) f sp := by
  obtain ⟨oc, od, dV, kV, doc, pm, an, cdv, ct, osl, rfl, lk, hcd, _, _⟩ := F.ex
  refine ⟨fun A outer s H us vs Q hr e0 rv hs => ?_⟩
  have hl := len _ _ _ _ _ hs
  have bd := b s us (e0.mod.kin.keeps fun c o z => (e0.bs c o z).1) (by rw [List.append_nil, ← rv.length]; exact hl)
  rw [List.append_nil] at bd
  exact run_ofS lk hcd S hr e0 bd rv hl fun hr' => hbody cdv A outer s H vs Q hr' hs
end
/-! ### calls of what was handed over -/
def tClo (i : Nat) (g : Addr) (sp : Sp) (t : TA) : TE := fun σ H Q => σ[i]? = some (some (.ref g)) ∧ t σ H fun vs H1 => sp vs H1 Q XF
section
variable {X : Cx} {k i : Nat} {g : Addr} {sp : Sp} {x : Str} {p pos : Pos} {e : Expr} {es : List Expr} {t : TA}
theorem pe_clo (C : CloS X.prog X.w X.K X.mg X.base X.fs X.s_0 X.H_0 k g sp) (hex : X.ex = []) (hr : Room k X.A) (hN : X.N[i]? = some x) (hv : Vis X.env.scope x) (hx : Passes CX0 X XF) (ha : PA X (e :: es) t)
    (hdb : (x == ("__debug__" : Str)) = false := by decide) (hcd : (x == ("__classdict__" : Str)) = false := by decide)
    (he : starEach (e :: es) X.env = (false, eval e X.env) :: starEach es X.env := by rfl) (hpl : (backTo pos (starEach es X.env)).any (·.1) = false := by rfl) : PE X (.Call (.Name x p) (e :: es) [] pos) (tClo i g sp t) := by
  refine ⟨fun pins s σ H Q I ⟨hs, ht⟩ => ?_⟩
  have un : ∀ {H1 : Hp} {s1 : Shared}, Inv X pins σ H1 s1 → Un X.fs [] X.H_0 H1 X.s_0.heap s1.heap := fun J => by
    have := J.base
    rw [hex] at this
    exact this
  refine wpAny_Call_Name_kw (thn ((pe_var (pos := p) hN hv hdb hcd).run pins s σ H (fun v H1 => v = .ref g ∧ H1 = H) I ⟨.ref g, hs, rfl, rfl⟩) fun u s1 ⟨v, H1, I1, r1, q1⟩ => ?_)
  obtain ⟨rfl, rfl⟩ := q1
  obtain rfl : u = Value.ref g := r1
  refine PySem.W.callWith_F (first := []) (C.at_ _ _ (un I1)) (thn (ha.run pos pins s1 σ _ _ I1 ht) fun us s2 ⟨vs, H2, I2, r, q⟩ => ⟨C.at_ _ _ (un I2), ?_⟩) he hpl
  refine wpAny_call (codeAny_mono (C.run X.A X.stack s2 H2 us vs Q hr I2.env0 (un I2) r q) fun r s' hq => ?_)
  cases r with
  | error e => exact hx pins σ H2 s2 e s' I2 hq
  | ok fl =>
    cases fl with
    | ret u => exact I2.after hq
    | next => exact False.elim hq
    | brk => exact False.elim hq
    | cont => exact False.elim hq
end
/-! ### a lambda that was made -/
theorem cells_un {cl : List (Str × Addr)} {fr : List Str} {ws : List (Option V)} {h h1 : Heap} {H H1 : Hp} {fs : List Addr} (C : CellsAt cl fr ws h H) (u : Un fs [] H H1 h h1) : CellsAt cl fr ws h1 H1 := by
  have mv : ∀ {c : Addr} {v : Option Value}, H c = none → h.IsCell c v → h1.IsCell c v := fun {c v} n ⟨o, ho, hd⟩ => by
    obtain ⟨sl, q⟩ := u.any ho n (by simp)
    exact ⟨_, q, hd⟩
  refine ⟨C.len, fun y c e => ?_, C.inj, fun i y e => ?_⟩
  · obtain ⟨n, v, z⟩ := C.all y c e
    have z1 := mv n z
    obtain ⟨o, ho, _⟩ := z
    exact ⟨u.free c o ho n (by simp), v, z1⟩
  · obtain ⟨c, hc, hv⟩ := C.has i y e
    refine ⟨c, hc, fun v ev => ?_⟩
    obtain ⟨u2, r, z⟩ := hv v ev
    exact ⟨u2, r, mv (C.all y c hc).1 z⟩
section
variable {X : Cx} {pins : List (Addr × Obj)} {σ : L2.St} {H : Hp} {s : Shared}
theorem clo_lam {q : Str} {params : Arguments} {body : Expr} {scope : Scope} {pm ctv : Value} {f c' : Addr} {N ps fr : List Str} {js : List Nat} {k : Nat} {sp : Sp} {tb : TE} (I : Inv X pins σ H s)
    (at_f : s.heap.get? f = some (PySem.W.kla_obj "<lambda>" q params body scope (cloFrom X.env.cells scope.names []) pm c' ctv)) (hfn : H f = none) (hfr : f ∉ frs X.stack) (at_c : H c' = some (CodeO c' q))
    (S : NScope N ps fr scope) (cap : X.Ok → Caps X (cloFrom X.env.cells scope.names []) fr js)
    (hb : ∀ (cl : List (Str × Addr)) (pm cv ctv : Value) (us : List Value), us.length = ps.length → bindArgs (PySem.W.kla_fn "<lambda>" q params body scope cl pm cv ctv) ⟨us, []⟩ = pure (ps.zip us))
    (hbody : ∀ (cl : List (Str × Addr)) (c f : Addr) (A : Around) (outer : List Env) (s : Shared) (H : Hp), Room k (A.deeper (envF ⟨"<lambda>", q, params, [], scope, cl, c⟩ f s.heap.objs.size)) →
      PE (ncx CX0 X.prog X.w X.K X.mg X.base N ⟨"<lambda>", q, params, [], scope, cl, c⟩ f A outer s H XF) body tb)
    (sem : ∀ vs H1 Q, sp vs H1 Q XF → vs.length = ps.length ∧ ExtN H H1 ∧ tb (startF N vs (js.map (slotAt σ))) H1 Q) : CloS X.prog X.w X.K X.mg X.base (frs X.stack) s H (k + 1) f sp := by
  have same : ∀ {s1 : Shared} {H1 : Hp}, Un (frs X.stack) [] H H1 s.heap s1.heap → s1.heap.get? f = some (PySem.W.kla_obj "<lambda>" q params body scope (cloFrom X.env.cells scope.names []) pm c' ctv) := fun u => u.keep f _ at_f hfn hfr (by simp)
  refine ⟨fun s1 H1 u => ⟨_, _, _, _, same u⟩, fun A outer s1 H1 us vs Q hr e0 u rv hs => ?_⟩
  obtain ⟨hl, hE, hq⟩ := sem _ _ _ hs
  have C := cells_un (cells_of I (cap I.ok)) u
  have lim : s1.heap.NoLimit := e0.mod.nolimit.keeps fun b o e => (e0.bs b o e).1
  refine PySem.W.kla_callFunE hr.depth (same u) rfl S.co S.gen rfl (codeO_at e0.hok (hE _ _ at_c fun ps z => codeO_ne ps z)) ?_
  rw [hb _ _ _ _ us (by rw [← rv.length]; exact hl)]
  refine wpAny_pure (wpAny_newFunctionEnv S.nocell (fun ⟨n, _⟩ hy => S.par n (List.of_mem_zip hy).1) (fun h₁ hns hsb => ⟨lim.fresh _ hsb, ?_⟩) S.kind)
  show codeAny _ _ (.expr body (envF ⟨"<lambda>", q, params, [], scope, cloFrom X.env.cells scope.names [], c'⟩ f s1.heap.objs.size)) _ _
  have kp : ∀ b o, s1.heap.get? b = some o → h₁.get? b = some o := fun b o e => hsb.extBut b o (Nat.ne_of_lt (Heap.lt_size e)) (Heap.get?_push_of_some _ e)
  have J : Inv (ncx CX0 X.prog X.w X.K X.mg X.base N ⟨"<lambda>", q, params, [], scope, cloFrom X.env.cells scope.names [], c'⟩ f A outer s1 H1 XF) [] (startF N vs (js.map (slotAt σ))) H1 { s1 with heap := h₁, toks := s1.toks + (ps.zip us).length } :=
    inv_startN S hr.hd e0 hl rv C hns kp
  refine PySem.W.kla_codeExpr (wpAny_mono ((hbody _ c' f A outer s1 H1 (hr.deeper _)).run [] _ _ H1 Q J hq) (fun v s' z => ?_) fun e s' z => z)
  obtain ⟨y, H', J', r, qq⟩ := z
  exact ⟨y, H', J'.os, J'.bare, J'.base, J'.hok, r, qq⟩
end
/-! ### the calls that hand something over -/
section
variable {X : Cx} {k j : Nat} {x : Str} {sp : CloT → Sp} {p pos : Pos}
theorem fnC_run {f : Addr} {pins : List (Addr × Obj)} {σ : L2.St} {H : Hp} {s : Shared} {us : List Value} {vs : List V} {Q : VK} (F : FnC X.prog X.w X.K X.mg X.base k f sp) (hr : Room k X.A) (hx : Passes CX0 X XF) (I : Inv X pins σ H s) (r : Vals vs us)
    (h : sp (fun g j r => CloS X.prog X.w X.K X.mg X.base (frs X.stack) s H j g r) vs H Q XF) : wpAny (model X.prog X.w) X.A (call (.ref f) us) (EP X pins σ Q) X.xe s := by
  refine wpAny_call (codeAny_mono (F.run X.A X.stack s H us vs Q hr I.env0 r h) fun r s' hq => ?_)
  cases r with
  | error e => exact hx pins σ H s e s' I hq
  | ok fl =>
    cases fl with
    | ret u => exact I.after hq
    | next => exact False.elim hq
    | brk => exact False.elim hq
    | cont => exact False.elim hq
/-- x(.., f) of a def f of the top -/
theorem pe_fnC {e : Expr} {es : List Expr} {t : TA} (C : CalC X.prog X.w X.K X.mg X.base x k sp) (mono : ∀ (C C' : CloT) vs H Q E, (∀ g j r, C g j r → C' g j r) → sp C vs H Q E → sp C' vs H Q E) (hr : Room k X.A) (ha : PA X (e :: es) t) (hg : Gl X x := by rfl) (hx : Passes CX0 X XF := by exact pass0)
    (hdb : (x == ("__debug__" : Str)) = false := by decide) (he : starEach (e :: es) X.env = (false, eval e X.env) :: starEach es X.env := by rfl) (hpl : (backTo pos (starEach es X.env)).any (·.1) = false := by rfl) :
    PE X (.Call (.Name x p) (e :: es) [] pos) (fun σ H Q => t σ H fun vs H1 => sp (DefClo X.prog X.w X.K X.mg X.base) vs H1 Q XF) := by
  obtain ⟨f, hm, hk, F⟩ := C
  refine ⟨fun pins s σ H Q I h => ?_⟩
  refine wpAny_Call_Name_kw (ld_glob I hg hm ?_ hdb)
  refine PySem.W.callWith_K (h₀ := X.base) I.ok.mod.kin hk (thn (ha.run pos pins s σ H _ I h) fun us s1 ⟨vs, H1, I1, r, q⟩ => ⟨I1.kIn, ?_⟩) he hpl
  exact fnC_run F hr hx I1 r (mono _ _ _ _ _ _ (fun g j r z => DefClo.to I1.env0 z) q)
/-- what a lambda is, as a function: its body's reading at its names -/
def LamClo (g : Addr) (k : Nat) (N ps : List Str) (ws : List (Option V)) (H : Hp) (tb : TE) : CloT := fun g' j r => g' = g ∧ j = k ∧ ∀ vs H1 Q, r vs H1 Q XF → vs.length = ps.length ∧ ExtN H H1 ∧ tb (startF N vs ws) H1 Q
def tLam3 (DC : CloT) (sp : CloT → Sp) (T : List (Addr × Str)) (k : Nat) (N ps : List Str) (js : List Nat) (tb : TE) (t1 t2 : TE) : TE := fun σ H Q => t1 σ H fun v1 H1 => t2 σ H1 fun v2 H2 => Tabs T H2 ∧
  ∀ g H3, ExtN H2 H3 → Tabs T H3 → H3 g = none → sp (fun g' j' r => LamClo g k N ps (js.map (slotAt σ)) H3 tb g' j' r ∨ DC g' j' r) [v1, v2, .ref g] H3 Q XF
/-- x(e1, e2, lambda ..: body) -/
theorem pe_lam3 {e1 e2 : Expr} {t1 t2 : TE} {T : List (Addr × Str)} {c P : Addr} {N ps fr : List Str} {js : List Nat} {params : Arguments} {body : Expr} {scope : Scope} {tb : TE} {lpos : Pos}
    (C : CalC X.prog X.w X.K X.mg X.base x k sp) (mono : ∀ (C C' : CloT) vs H Q E, (∀ g j r, C g j r → C' g j r) → sp C vs H Q E → sp C' vs H Q E) (hr : Room k X.A) (h1 : PE X e1 t1) (h2 : PE X e2 t2)
    (TB : TabB X.base X.mg c P) (hcode : X.env.code = .ref c) (hmT : (P, X.env.qual ++ "<lambda>") ∈ T) (hu : ∀ p ∈ T, p.1 = P → p.2 = X.env.qual ++ "<lambda>") (hdef : defaultsOf params X.env = ([], []))
    (S : NScope N ps fr scope) (cap : ndefB X.env.scope scope fr = true) (hjs : js.map (fun j => X.N[j]?) = fr.map some)
    (hb : ∀ (q : Str) (cl : List (Str × Addr)) (pm cv ctv : Value) (us : List Value), us.length = ps.length → bindArgs (PySem.W.kla_fn "<lambda>" q params body scope cl pm cv ctv) ⟨us, []⟩ = pure (ps.zip us))
    (hbody : ∀ (q : Str) (cl : List (Str × Addr)) (c f : Addr) (A : Around) (outer : List Env) (s : Shared) (H : Hp), Room j (A.deeper (envF ⟨"<lambda>", q, params, [], scope, cl, c⟩ f s.heap.objs.size)) →
      PE (ncx CX0 X.prog X.w X.K X.mg X.base N ⟨"<lambda>", q, params, [], scope, cl, c⟩ f A outer s H XF) body tb)
    (hg : Gl X x := by rfl) (hx : Passes CX0 X XF := by exact pass0) (hdb : (x == ("__debug__" : Str)) = false := by decide)
    (he : starEach [e1, e2, .Lambda params body scope lpos] X.env = (false, eval e1 X.env) :: starEach [e2, .Lambda params body scope lpos] X.env := by rfl) (hpl : (backTo pos (starEach [e2, .Lambda params body scope lpos] X.env)).any (·.1) = false := by rfl)
    (hbk : backTo pos (starEach [e1, e2, .Lambda params body scope lpos] X.env) = [(false, eval e1 X.env), (false, eval e2 X.env), (false, eval (.Lambda params body scope lpos) X.env)] := by rfl) :
    PE X (.Call (.Name x p) [e1, e2, .Lambda params body scope lpos] [] pos) (tLam3 (DefClo X.prog X.w X.K X.mg X.base) sp T (j + 1) N ps js tb t1 t2) := by
  obtain ⟨f, hm, hk, F⟩ := C
  refine ⟨fun pins s σ H Q I h => ?_⟩
  refine wpAny_Call_Name_kw (ld_glob I hg hm ?_ hdb)
  refine PySem.W.callWith_K (h₀ := X.base) I.ok.mod.kin hk ?_ he hpl
  rw [hbk]
  refine Calls.spliced_cons (thn (h1.run pins s σ H _ I h) fun u1 s1 ⟨v1, H1, I1, r1, q1⟩ => ?_)
  refine Calls.spliced_cons (thn (h2.run pins s1 σ H1 _ I1 q1) fun u2 s2 ⟨v2, H2, I2, r2, hT, q2⟩ => ?_)
  have hf := ndef_free cap
  refine Calls.spliced_cons (lam_make2 I2 TB hcode hmT hu hT hdef (fun y hy e => (hf y hy e).elim (fun z => I2.ok.has _ (.inl z)) fun z => I2.ok.has _ (.inr z)) fun g c' pm ctv H3 s3 I3 eN T3 at_g hgn hgr hco => ?_)
  refine Calls.spliced_nil ⟨I3.kIn, ?_⟩
  refine fnC_run F hr hx I3 (vs := [v1, v2, .ref g]) (.cons r1 (.cons r2 (.cons (show RelV (.ref g) (Value.ref g) from rfl) .nil))) (mono _ _ _ _ _ _ (fun g' j' r z => ?_) (q2 g H3 eN T3 hgn))
  rcases z with ⟨e1, e2, sem⟩ | z
  case inr => exact DefClo.to I3.env0 z
  subst e1 e2
  exact clo_lam I3 at_g hgn hgr hco S (fun ok => Caps.made ok hf (ndef_fr cap) hjs) (hb _) (hbody _) sem
end
end KA
set_option Elab.async false
set_option linter.all false
set_option maxRecDepth 100000
set_option maxHeartbeats 4000000
/-! trees in postorder: the order, and the stack on which they are worked out -/
namespace KA
section
variable {α : Type} (kids : α → List α)
/-- the order in which a stack of trees is taken down, last ones first: each tree ahead of its parts -/
inductive RPosts : List α → List α → Prop
  | nil : RPosts [] []
  | cons {a : α} {as R B : List α} : RPosts (kids a).reverse R → RPosts as B → RPosts (a :: as) (a :: (R ++ B))
/-- from the stack S through the rest of the order to the one result -/
def Runs : List α → List α → α → Prop
  | S, [], r => S = [r]
  | S, a :: L, r => ∃ S', S = S' ++ kids a ∧ Runs (S' ++ [a]) L r
variable {kids}
theorem RPosts.split : ∀ {as bs R : List α}, RPosts kids (as ++ bs) R → ∃ R1 R2, R = R1 ++ R2 ∧ RPosts kids as R1 ∧ RPosts kids bs R2
  | [], bs, R, h => ⟨[], R, rfl, .nil, h⟩
  | a :: as, bs, _, h => by
    cases h with
    | @cons _ _ R B h1 h2 =>
      obtain ⟨R1, R2, rfl, h3, h4⟩ := RPosts.split h2
      exact ⟨a :: (R ++ R1), R2, by simp, .cons h1 h3, h4⟩
theorem RPosts.runs {as R : List α} (h : RPosts kids as R) : ∀ (S L : List α) (r : α), Runs kids (S ++ as.reverse) L r → Runs kids S (R.reverse ++ L) r := by
  induction h with
  | nil => exact fun S L r h => by simpa using h
  | @cons a as R B h1 h2 ih1 ih2 =>
    intro S L r h
    have e : (a :: (R ++ B)).reverse ++ L = B.reverse ++ (R.reverse ++ (a :: L)) := by simp
    rw [e]
    refine ih2 _ _ _ (ih1 _ _ _ ?_)
    rw [List.reverse_reverse]
    refine ⟨S ++ as.reverse, rfl, ?_⟩
    rw [List.append_assoc, ← List.reverse_cons]
    exact h
/-- one tree -/
theorem RPosts.one {a : α} {R : List α} (h : RPosts kids [a] R) : Runs kids [] R.reverse a := by
  have := h.runs [] [] a rfl
  rwa [List.append_nil] at this
variable {sz : α → Nat}
def szs (sz : α → Nat) (l : List α) : Nat := (l.map sz).sum
theorem szs_app (l m : List α) : szs sz (l ++ m) = szs sz l + szs sz m := by unfold szs; rw [List.map_append, List.sum_append]
theorem szs_len (h : ∀ a, 1 ≤ sz a) (l : List α) : l.length ≤ szs sz l := by
  induction l with
  | nil => exact Nat.zero_le _
  | cons a l ih =>
    have := h a
    unfold szs at ih ⊢
    rw [List.map_cons, List.sum_cons, List.length_cons]
    omega
end
end KA
set_option Elab.async false
set_option linter.all false
set_option maxRecDepth 100000
set_option maxHeartbeats 4000000
/-! in_postorder, worked_out: over any trees, any defs or lambdas -/
namespace KA
open PySem PySem.Spec PyProof.Rows L2 LamX
open PySem.W (EachIs)
/-- what is asked of the function that gives a tree's parts -/
def PartsOf {α : Type} (K : PySem.W.Frag) (T : List (Addr × Str)) (H0 : Hp) (R : V → α → Prop) (kids : α → List α) (rp : Sp) : Prop :=
  ∀ (v : V) (a : α) (H : Hp) (Q : VK), R v a → ExtN H0 H → Tabs T H → (∀ (t : Addr) (us : List V) (H' : Hp), ExtN H H' → Tabs T H' → SqT K H' t us → EachIs R us (kids a) → Q (.ref t) H') → rp [v] H Q XF
def spPost (K : PySem.W.Frag) (j : Nat) : CloT → Sp := fun C vs H Q _ => ∃ (α : Type) (kids : α → List α) (sz : α → Nat) (R : V → α → Prop) (T : List (Addr × Str)) (v : V) (a : α) (gp : Addr) (rp : Sp), vs = [v, .ref gp] ∧ C gp j rp ∧ R v a ∧
  Tabs T H ∧ PartsOf K T H R kids rp ∧ (∀ a, szs sz (kids a) < sz a) ∧ sz a ≤ 100000 ∧
  ∀ (D : Addr) (us : List V) (L : List α) (H' : Hp), ExtN H H' → Tabs T H' → H D = none → H' D = some (.lst us) → EachIs R us L → Runs kids [] L a → RPosts kids [a] L.reverse → L.length ≤ sz a → Q (.ref D) H'
theorem each_take {α β : Type} {R : α → β → Prop} : ∀ {as : List α} {bs : List β} (n : Nat), EachIs R as bs → EachIs R (as.take n) (bs.take n)
  | _, _, 0, _ => .nil
  | _, _, _ + 1, .nil => .nil
  | _, _, n + 1, .cons h t => .cons h (each_take n t)
theorem each_drop {α β : Type} {R : α → β → Prop} : ∀ {as : List α} {bs : List β} (n : Nat), EachIs R as bs → EachIs R (as.drop n) (bs.drop n)
  | _, _, 0, h => h
  | _, _, _ + 1, .nil => .nil
  | _, _, n + 1, .cons h t => each_drop n t
theorem each_app {α β : Type} {R : α → β → Prop} : ∀ {as cs : List α} {bs ds : List β}, EachIs R as bs → EachIs R cs ds → EachIs R (as ++ cs) (bs ++ ds)
  | _, _, _, _, .nil, h => h
  | _, _, _, _, .cons h t, h2 => .cons h (each_app t h2)
theorem each_rev {α β : Type} {R : α → β → Prop} : ∀ {as : List α} {bs : List β}, EachIs R as bs → EachIs R as.reverse bs.reverse
  | _, _, .nil => .nil
  | a :: as, b :: bs, .cons h t => by
    rw [List.reverse_cons, List.reverse_cons]
    exact each_app (each_rev t) (.cons h .nil)
/-- a list that is cut in two -/
theorem each_cut {α β : Type} {R : α → β → Prop} {as : List α} {bs cs : List β} (h : EachIs R as (bs ++ cs)) : as.length = bs.length + cs.length ∧ EachIs R (as.take bs.length) bs ∧ EachIs R (as.drop bs.length) cs := by
  refine ⟨?_, ?_, ?_⟩
  · rw [h.length, List.length_append]
  · have := each_take bs.length h
    rwa [List.take_left] at this
  · have := each_drop bs.length h
    rwa [List.drop_left] at this
section
variable {P : Program} {w : World} {K : PySem.W.Frag} {mg : Str → Option Value} {base : Heap} {f : Addr} {fd : FuncData}
theorem spPost_mono {j : Nat} (C C' : CloT) (vs : List V) (H : Hp) (Q : VK) (E : XK) (h : ∀ g j r, C g j r → C' g j r) (q : spPost K j C vs H Q E) : spPost K j C' vs H Q E := by
  obtain ⟨α, kids, sz, R, T, v, a, gp, rp, e, c, r⟩ := q
  exact ⟨α, kids, sz, R, T, v, a, gp, rp, e, h _ _ _ c, r⟩
theorem ok_post {j : Nat} (F : FnP K "in_postorder" s_in_postorder f fd) (b : Binds K fd ["tree", "parts_of"] []) : FnC P w K mg base (j + 1) f (spPost K j) := by
  refine fnC_of F b sc_in_postorder (fun C vs H Q E h => ?_) (fun cdv A outer s H vs Q hr h => ?_)
  · obtain ⟨_, _, _, _, _, v, a, gp, rp, rfl, _⟩ := h
    rfl
  · obtain ⟨α, kids, sz, R, T, v, a, gp, rp, rfl, C, hv, hT, hp, hsz, hz, q⟩ := h
    have one : ∀ x, 1 ≤ sz x := fun x => by have := hsz x; omega
    refine ⟨_, PSs.nox (pss_cons (ps_set (i := 2) sc_in_postorder.nd rfl (Or.inl rfl) (pe_lst pa_nil)) (pss_cons (ps_set (i := 3) sc_in_postorder.nd rfl (Or.inl rfl) (pe_lst (pa_cons (pv 0) pa_nil)))
      (pss_cons (ps_while PassesOwn.never (pt_truth (pv 3) (fun _ => rfl))
        (pss_cons (ps_set (i := 4) sc_in_postorder.nd rfl (Or.inl rfl) (pe_bm0 PySem.F.plainAttrs_list PySem.F.slot_list_pop PySem.F.type_list_pop mt_pop (pv 3)))
        (pss_cons (ps_expr (pe_bm PySem.F.plainAttrs_list PySem.F.slot_list_append PySem.F.type_list_append mt_append (pv 2) (pa_cons (pv 4) pa_nil)))
        (pss_one (ps_expr (pe_bm PySem.F.plainAttrs_list PySem.F.slot_list_extend PySem.F.type_list_extend mt_extendT (pv 3) (pa_cons (pe_clo (i := 1) (g := gp) (sp := rp) C rfl hr rfl (Or.inl rfl) pass0 (pa_cons (pv 4) pa_nil)) pa_nil)))))))
      (pss_cons (ps_expr (pe_bm0 PySem.F.plainAttrs_list PySem.F.slot_list_reverse PySem.F.type_list_reverse mt_reverse (pv 2))) (pss_one (ps_ret (pv 2))))))), ?_⟩
    refine ⟨Nat.zero_le _, fun fnd hf => ⟨_, rfl, (by show 1 ≤ sizeLine; decide), fun wt hw => ?_⟩⟩
    have ne : fnd ≠ wt := fun z => by
      rw [← z, upd_same] at hw
      cases hw
    have hw0 : H wt = none := by
      rw [upd_ne (Ne.symm ne)] at hw
      exact hw
    have s2 : ExtN H (upd (upd H fnd (.lst [])) wt (.lst [v])) := (extn_new hf).trans (extn_new hw)
    refine ⟨fun m σ' H' => ∃ pt fs ws F W, σ' = [some v, some (.ref gp), some (.ref fnd), some (.ref wt), pt] ∧ ExtN H H' ∧ Tabs T H' ∧ H' fnd = some (.lst fs) ∧ H' wt = some (.lst ws) ∧ EachIs R fs F ∧ EachIs R ws W ∧
      (∀ R', RPosts kids W.reverse R' → RPosts kids [a] (F ++ R')) ∧ F.length + szs sz W ≤ sz a ∧ m = szs sz W, ⟨_, none, [], [v], [], [a], rfl, s2, tabs_new hw (tabs_new hf hT), by rw [upd_ne ne]; exact upd_same, upd_same, .nil, .cons hv .nil, fun R' h => h, by simp [szs], rfl⟩, ?_⟩
    rintro m σ' H' ⟨pt, fs, ws, F, W, rfl, hE, hT', h1, h2, e1, e2, inv, hlen, rfl⟩
    refine ⟨_, rfl, _, .inl ⟨ws, sq_l h2, rfl⟩, ?_⟩
    cases hW : ws.isEmpty with
    | true =>
      obtain rfl : ws = [] := List.isEmpty_iff.mp hW
      obtain rfl : W = [] := by cases e2; rfl
      refine ⟨_, rfl, .inl ⟨rfl, _, sq_l h1⟩, _, _, rfl, rfl, h1, _, rfl, ?_⟩
      have := inv [] .nil
      rw [List.append_nil] at this
      refine q fnd _ _ _ (extn_mut hE hf) (tabs_lst h1 hT') hf upd_same (each_rev e1) this.one (by rw [List.reverse_reverse]; exact this) ?_
      rw [List.length_reverse]
      omega
    | false =>
      have hne : ws ≠ [] := fun z => by rw [z] at hW; cases hW
      obtain ⟨ws', x, rfl⟩ : ∃ l x, ws = l ++ [x] := ⟨_, _, (List.dropLast_concat_getLast hne).symm⟩
      obtain ⟨W', c, rfl⟩ : ∃ l x, W = l ++ [x] := by
        have hl := e2.length
        rw [List.length_append, List.length_singleton] at hl
        exact ⟨_, _, (List.dropLast_concat_getLast (l := W) (fun z => by rw [z] at hl; simp at hl)).symm⟩
      have hl := e2.length
      rw [List.length_append, List.length_append, List.length_singleton, List.length_singleton] at hl
      have cut := each_cut e2
      rw [show W'.length = ws'.length by omega, List.take_left, List.drop_left] at cut
      obtain ⟨_, e3, e4⟩ := cut
      have hx : R x c := by
        cases e4 with
        | cons h _ => exact h
      have sW : szs sz (W' ++ [c]) = szs sz W' + sz c := by rw [szs_app]; simp [szs]
      have lenW := szs_len one W'
      have lenK := szs_len one (kids c)
      have hc := hsz c
      have big : (200000 : Nat) ≤ sizeLine := by decide
      have lf := e1.length
      refine ⟨fun σ2 H2 => ∃ pt fs ws F W, σ2 = [some v, some (.ref gp), some (.ref fnd), some (.ref wt), pt] ∧ ExtN H H2 ∧ Tabs T H2 ∧ H2 fnd = some (.lst fs) ∧ H2 wt = some (.lst ws) ∧ EachIs R fs F ∧ EachIs R ws W ∧
        (∀ R', RPosts kids W.reverse R' → RPosts kids [a] (F ++ R')) ∧ F.length + szs sz W ≤ sz a ∧ szs sz W < szs sz (W' ++ [c]), fun σ2 H2 ⟨pt, fs, ws, F, W, g1, g2, g3, g4, g5, g6, g7, g8, g9, g10⟩ => ⟨_, g10, pt, fs, ws, F, W, g1, g2, g3, g4, g5, g6, g7, g8, g9, rfl⟩, ?_⟩
      refine ⟨_, rfl, .inl ⟨rfl, _, sq_l h2⟩, wt, ws' ++ [x], x, rfl, rfl, h2, by simp, ?_⟩
      rw [List.dropLast_concat]
      have h1' : upd H' wt (.lst ws') fnd = some (.lst fs) := by rw [upd_ne ne]; exact h1
      refine ⟨_, rfl, .inl ⟨rfl, _, sq_l h1'⟩, _, rfl, fnd, fs, x, rfl, rfl, h1', by omega, ?_⟩
      have h2' : upd (upd H' wt (.lst ws')) fnd (.lst (fs ++ [x])) wt = some (.lst ws') := by rw [upd_ne (Ne.symm ne)]; exact upd_same
      have hE2 : ExtN H (upd (upd H' wt (.lst ws')) fnd (.lst (fs ++ [x]))) := extn_mut (extn_mut hE hw0) hf
      have hT2 : Tabs T (upd (upd H' wt (.lst ws')) fnd (.lst (fs ++ [x]))) := tabs_lst h1' (tabs_lst h2 hT')
      refine ⟨_, rfl, .inl ⟨rfl, _, sq_l h2'⟩, rfl, _, rfl, hp x c _ _ hx hE2 hT2 fun t us H3 s3 t3 ht hus => ?_⟩
      have h3 : H3 wt = some (.lst ws') := s3 _ _ h2' fun ps z => by cases z
      have h4 : H3 fnd = some (.lst (fs ++ [x])) := s3 _ _ upd_same fun ps z => by cases z
      have lu := hus.length
      refine ⟨wt, t, ws', us, rfl, rfl, h3, ht, by omega, ?_⟩
      refine ⟨_, fs ++ [x], ws' ++ us, F ++ [c], W' ++ kids c, rfl, extn_mut (hE2.trans s3) hw0, tabs_lst h3 t3, by rw [upd_ne ne]; exact h4, upd_same, each_app e1 (.cons hx .nil), each_app e3 hus, fun R' h => ?_, ?_, ?_⟩
      · rw [List.reverse_append] at h
        obtain ⟨R1, R2, rfl, r1, r2⟩ := h.split
        rw [List.append_assoc]
        refine inv (c :: (R1 ++ R2)) ?_
        rw [List.reverse_append]
        exact .cons r1 r2
      · rw [szs_app, List.length_append, List.length_singleton]
        omega
      · rw [szs_app]
        omega
end
end KA
set_option Elab.async false
set_option linter.all false
set_option maxRecDepth 100000
set_option maxHeartbeats 4000000
/-! worked_out -/
namespace KA
open PySem PySem.Spec PyProof.Rows L2 LamX
open PySem.W (EachIs)
section
variable {X : Cx} {pins : List (Addr × Obj)} {σ : L2.St} {H : Hp} {s : Shared} {k : Nat} {g : Addr} {sp : Sp}
/-- handed on to a call -/
theorem cloS_down (I : Inv X pins σ H s) (hex : X.ex = []) (C : CloS X.prog X.w X.K X.mg X.base X.fs X.s_0 X.H_0 k g sp) : CloS X.prog X.w X.K X.mg X.base (frs X.stack) s H k g sp := by
  have hb := I.base
  rw [hex] at hb
  have no : ∀ b : Addr, b ∉ ([] : List Addr) := fun b z => by cases z
  have join : ∀ {s2 : Shared} {H2 : Hp}, Un (frs X.stack) [] H H2 s.heap s2.heap → Un X.fs [] X.H_0 H2 X.s_0.heap s2.heap := fun {s2 H2} u => by
    refine ⟨fun b o e n nf _ => ?_, fun b o e n hf _ => ?_, fun b o e n _ => ?_, fun b o e _ => ?_, fun b xs e => u.tups b xs (hb.tups b xs e), fun b o v e => u.frzs b o v (hb.frzs b o v e), fun b ps e => ?_⟩
    · refine u.keep b o (hb.keep b o e n nf (no b)) (hb.free b o e n (no b)) (fun z => ?_) (no b)
      rcases List.mem_cons.mp (I.stkSub b z) with q | q
      · have h1 := I.ok.above
        rw [← q] at h1
        exact Nat.lt_irrefl _ (Nat.lt_of_lt_of_le (Heap.lt_size e) h1)
      · exact nf q
    · obtain ⟨sl, e1⟩ := hb.slot b o e n hf (no b)
      obtain ⟨sl2, e2⟩ := u.any e1 (hb.free b o e n (no b)) (no b)
      exact ⟨sl2, e2⟩
    · obtain ⟨o', e1⟩ := hb.there b o e (no b)
      exact u.free b o' e1 (hb.free b o e n (no b)) (no b)
    · obtain ⟨o', e1⟩ := hb.there b o e (no b)
      exact u.there b o' e1 (no b)
    · obtain ⟨m1, e1⟩ := hb.tbls b ps e
      obtain ⟨m2, e2⟩ := u.tbls b _ e1
      exact ⟨m1 ++ m2, by rw [← Array.append_assoc]; exact e2⟩
  exact ⟨fun s2 H2 u => C.at_ s2 H2 (join u), fun A outer s2 H2 us vs Q hr e0 u => C.run A outer s2 H2 us vs Q hr e0 (join u)⟩
end
section
variable {X : Cx} {k : Nat} {x : Str} {sp : CloT → Sp} {p pos : Pos} {e : Expr} {es : List Expr} {t : TA}
/-- x(.., f), f handed on -/
theorem pe_fnC2 (C : CalC X.prog X.w X.K X.mg X.base x k sp) (mono : ∀ (C C' : CloT) vs H Q E, (∀ g j r, C g j r → C' g j r) → sp C vs H Q E → sp C' vs H Q E) (hex : X.ex = []) (hr : Room k X.A) (ha : PA X (e :: es) t) (hg : Gl X x := by rfl) (hx : Passes CX0 X XF := by exact pass0)
    (hdb : (x == ("__debug__" : Str)) = false := by decide) (he : starEach (e :: es) X.env = (false, eval e X.env) :: starEach es X.env := by rfl) (hpl : (backTo pos (starEach es X.env)).any (·.1) = false := by rfl) :
    PE X (.Call (.Name x p) (e :: es) [] pos) (fun σ H Q => t σ H fun vs H1 => sp (fun g j r => CloS X.prog X.w X.K X.mg X.base X.fs X.s_0 X.H_0 j g r) vs H1 Q XF) := by
  obtain ⟨f, hm, hk, F⟩ := C
  refine ⟨fun pins s σ H Q I h => ?_⟩
  refine wpAny_Call_Name_kw (ld_glob I hg hm ?_ hdb)
  refine PySem.W.callWith_K (h₀ := X.base) I.ok.mod.kin hk (thn (ha.run pos pins s σ H _ I h) fun us s1 ⟨vs, H1, I1, r, q⟩ => ⟨I1.kIn, ?_⟩) he hpl
  exact fnC_run F hr hx I1 r (mono _ _ _ _ _ _ (fun g j r z => cloS_down I1 hex z) q)
end
theorem cut_from (xs : List V) {n : Nat} (h : n ≤ xs.length) : cutV xs (some (n : Int)) none = xs.drop n := by
  unfold cutV
  rw [HT.sIx_none, HT.sIx_nat, Nat.min_eq_left h, List.take_of_length_le]
  rw [List.length_drop]
  exact Nat.le_refl _
/-- what a result may consist of, told at the call and told at the whole -/
theorem mx_nest {D q : Addr} {H X H4 H5 H7 : Hp} (s4 : ExtN H H4) (h4 : ∃ xs, H4 D = some (.lst xs)) (k : ∀ a o, a ≠ D → a ≠ q → H5 a = some o → H7 a = some o) (hq : H5 q = none) :
    Same (Mx H4 (off D (Mx H X H4)) H5) (off D (Mx H X H7)) := fun b o h => by
  have nD : b ≠ D := fun z => by
    subst z
    unfold Mx at h
    rw [if_pos ⟨h4, by unfold off; rw [if_pos rfl]⟩] at h
    cases h
  unfold off
  rw [if_neg nD]
  unfold Mx at h ⊢
  split at h
  · cases h
  · rename_i c
    rw [if_neg fun z => c ⟨let ⟨xs, e⟩ := z.1; ⟨xs, s4 _ _ e fun ps y => by cases y⟩, by
      unfold off
      rw [if_neg nD]
      exact if_pos z⟩]
    rcases frm_is h with ⟨xs, rfl, e⟩ | ⟨ts, rfl, e⟩
    · exact frm_tup (k _ _ nD (ne_of_none e hq) e)
    · exact frm_lst (k _ _ nD (ne_of_none e hq) e)
/-- what is asked of the function that gives a tree's result from its parts' results -/
def ResultOf {α : Type} (T : List (Addr × Str)) (H0 : Hp) (R : V → α → Prop) (kids : α → List α) (RV : Hp → V → α → Prop) (rr : Sp) : Prop :=
  ∀ (v : V) (a : α) (p : Addr) (us : List V) (Y H : Hp) (Q : VK), R v a → ExtN H0 H → Tabs T H → H p = some (.lst us) → Sub Y H → EachIs (RV Y) us (kids a) → (∀ v' H', ExtN H H' → Tabs T H' → RV (Mx H Y H') v' a → Q v' H') → rr [v, .ref p] H Q XF
def spWorked (K : PySem.W.Frag) (jp jr : Nat) : CloT → Sp := fun C vs H Q _ => ∃ (α : Type) (kids : α → List α) (sz : α → Nat) (R : V → α → Prop) (RV : Hp → V → α → Prop) (T : List (Addr × Str)) (X : Hp) (v : V) (a : α) (gp gr : Addr) (rp rr : Sp), vs = [v, .ref gp, .ref gr] ∧
  C gp jp rp ∧ C gr jr rr ∧ R v a ∧ Tabs T H ∧ PartsOf K T H R kids rp ∧ ResultOf T H R kids RV rr ∧ (∀ Y Y' v a, Same Y Y' → RV Y v a → RV Y' v a) ∧ (∀ a, szs sz (kids a) < sz a) ∧ sz a ≤ 100000 ∧
  ∀ v' H', ExtN H H' → Tabs T H' → RV (Mx H X H') v' a → Q v' H'
section
variable {P : Program} {w : World} {K : PySem.W.Frag} {mg : Str → Option Value} {base : Heap} {f : Addr} {fd : FuncData}
theorem spWorked_mono {jp jr : Nat} (C C' : CloT) (vs : List V) (H : Hp) (Q : VK) (E : XK) (h : ∀ g j r, C g j r → C' g j r) (q : spWorked K jp jr C vs H Q E) : spWorked K jp jr C' vs H Q E := by
  obtain ⟨α, kids, sz, R, RV, T, X, v, a, gp, gr, rp, rr, e, c1, c2, r⟩ := q
  exact ⟨α, kids, sz, R, RV, T, X, v, a, gp, gr, rp, rr, e, h _ _ _ c1, h _ _ _ c2, r⟩
theorem ok_worked {jp jr k : Nat} (k1 : jp + 1 ≤ k) (k2 : jr ≤ k) (F : FnP K "worked_out" s_worked_out f fd) (b : Binds K fd ["tree", "parts_of", "result_of"] []) (gL : mg "len" = none) (CP : CalC P w K mg base "in_postorder" (jp + 1) (spPost K jp)) :
    FnC P w K mg base (k + 1) f (spWorked K jp jr) := by
  refine fnC_of F b sc_worked_out (fun C vs H Q E h => ?_) (fun cdv A outer s H vs Q hr h => ?_)
  · obtain ⟨_, _, _, _, _, _, _, v, a, gp, gr, rp, rr, rfl, _⟩ := h
    rfl
  · obtain ⟨α, kids, sz, R, RV, T, X, v, a, gp, gr, rp, rr, rfl, C1, C2, hv, hT, hp, hres, hRV, hsz, hz, q⟩ := h
    refine ⟨_, PSs.nox (pss_cons (ps_set (i := 3) sc_worked_out.nd rfl (Or.inl rfl) (pe_lst pa_nil))
      (pss_cons (ps_for PassesOwn.never rfl (pi_list (pe_fnC2 CP spPost_mono rfl (hr.mono k1) (pa_cons (pv 0) (pa_cons (pv 1) pa_nil)))) (pg_name (i := 4) sc_worked_out.nd rfl (Or.inl rfl))
        (pss_cons (ps_set (i := 5) sc_worked_out.nd rfl (Or.inl rfl) (pe_op op_sub (pe_callB call_len_seq (by rfl) gL PySem.boot_len (pa_cons (pv 3) pa_nil))
          (pe_callB call_len_seq (by rfl) gL PySem.boot_len (pa_cons (pe_clo (i := 1) (g := gp) (sp := rp) C1 rfl (hr.mono (Nat.le_trans (Nat.le_succ _) k1)) rfl (Or.inl rfl) pass0 (pa_cons (pv 4) pa_nil)) pa_nil))))
        (pss_one (ps_asg (pe_lst (pa_cons (pe_clo (i := 2) (g := gr) (sp := rr) C2 rfl (hr.mono k2) rfl (Or.inl rfl) pass0 (pa_cons (pv 4) (pa_cons (pe_slice sl_list (pv 3) (po_some (pv 5)) po_none) pa_nil))) pa_nil)) (pg_from (pv 3) (pv 5))))))
      (pss_one (ps_ret (pe_ix ix_list (pv 3) pe_int (fun _ _ => rfl)))))), ?_⟩
    refine ⟨Nat.zero_le _, fun res hr0 => ?_⟩
    have s1 : ExtN H (upd H res (.lst [])) := extn_new hr0
    refine ⟨_, rfl, _, rfl, α, kids, sz, R, T, v, a, gp, rp, rfl, C1, hv, tabs_new hr0 hT, (fun v2 a2 H2 Q2 r2 e2 => hp v2 a2 H2 Q2 r2 (s1.trans e2)), hsz, hz, fun DL us L H1 sE hT1 hDL hDl hus hrun _ hlen => ?_⟩
    have hres1 : H1 res = some (.lst []) := sE _ _ upd_same fun ps z => by cases z
    have nR : DL ≠ res := fun z => by
      rw [z, upd_same] at hDL
      cases hDL
    have hDL0 : H DL = none := by
      rw [upd_ne nR] at hDL
      exact hDL
    refine ⟨DL, rfl, ⟨_, sq_l hDl⟩, for_it (walk_list (xs := us)) (fun i σ' H' => ∃ pt fr rs S, σ' = [some v, some (.ref gp), some (.ref gr), some (.ref res), pt, fr] ∧ ExtN H H' ∧ Tabs T H' ∧ H' DL = some (.lst us) ∧ H' res = some (.lst rs) ∧
      EachIs (RV (off res (Mx H X H'))) rs S ∧ Runs kids S (L.drop i) a ∧ S.length ≤ i) ⟨none, none, [], [], rfl, s1.trans sE, hT1, hDl, hres1, .nil, hrun, Nat.le_refl _⟩ (fun i σ' H' _ ⟨_, _, _, _, _, _, _, h, _⟩ => sq_l h) ?_ ?_⟩
    · rintro i x σ' _ H' hi ⟨pt, fr, rs, S, rfl, hE, hT', hD, hR, hS, hrun', hSi⟩ ⟨rfl, hx⟩
      have hul := hus.length
      have hiL : i < L.length := by omega
      obtain ⟨c, hc⟩ : ∃ c, L[i]? = some c := ⟨_, List.getElem?_eq_getElem hiL⟩
      have hRc : R x c := each_get hus hx hc
      have hdrop : L.drop i = c :: L.drop (i + 1) := by
        obtain ⟨h1, h2⟩ := List.getElem?_eq_some_iff.mp hc
        rw [List.drop_eq_getElem_cons h1, h2]
      rw [hdrop] at hrun'
      obtain ⟨S', rfl, hrun2⟩ := hrun'
      obtain ⟨lrs, cut1, cut2⟩ := each_cut hS
      refine ⟨_, rfl, res, _, rfl, .inl (sq_l hR), rfl, _, rfl, hp x c _ _ hRc hE hT' fun t us2 H2 s2 t2 ht hus2 => ⟨t, us2, rfl, .inr ht, ?_⟩⟩
      have l2 := hus2.length
      have hfirst : ((rs.length : Nat) : Int) - ((us2.length : Nat) : Int) = ((S'.length : Nat) : Int) := by omega
      refine ⟨_, _, rfl, rfl, ?_⟩
      have hR2 : H2 res = some (.lst rs) := s2 _ _ hR fun ps z => by cases z
      refine ⟨rfl, _, rfl, _, rfl, _, rfl, _, congrArg V.int hfirst, res, rs, rfl, sq_l hR2, fun p4 hp4 => ?_⟩
      rw [cut_from rs (by omega)]
      have s04 := (hE.trans s2).trans (extn_new (o := .lst (rs.drop S'.length)) hp4)
      have s24 : ExtN H' (upd H2 p4 (.lst (rs.drop S'.length))) := s2.trans (extn_new hp4)
      have keep4 : Same (off res (Mx H X H')) (off res (Mx H X (upd H2 p4 (.lst (rs.drop S'.length))))) := off_mxX fun b o _ h n => s24 b o h n
      refine hres x c p4 (rs.drop S'.length) (off res (Mx H X (upd H2 p4 (.lst (rs.drop S'.length))))) _ _ hRc s04 (tabs_new hp4 t2) upd_same ((off_sub _ _).trans (mx_sub _ _ _)) (cut2.mono fun v2 b2 z => hRV _ _ _ _ keep4 z) fun v' H5 s5 t5 hv' => ?_
      refine ⟨(by show 1 ≤ sizeLine; decide), fun q5 hq5 => ?_⟩
      have hR4 : upd H2 p4 (.lst (rs.drop S'.length)) res = some (.lst rs) := extn_new hp4 _ _ hR2 fun ps z => by cases z
      have hR5 : H5 res = some (.lst rs) := s5 _ _ hR4 fun ps z => by cases z
      have hR6 : upd H5 q5 (.lst [v']) res = some (.lst rs) := extn_new hq5 _ _ hR5 fun ps z => by cases z
      have s46 : ExtN H' (upd H5 q5 (.lst [v'])) := s24.trans (s5.trans (extn_new hq5))
      have big : (200000 : Nat) ≤ sizeLine := by decide
      rw [List.length_append] at hSi
      refine ⟨_, rfl, _, rfl, res, q5, rs, [v'], S'.length, rfl, rfl, congrArg V.int hfirst, hR6, upd_same, ne_of_none hR5 hq5, by omega, by simp only [List.length_singleton]; omega, ?_⟩
      have s07 : ∀ b o, b ≠ res → b ≠ q5 → H5 b = some o → upd (upd H5 q5 (.lst [v'])) res (.lst (rs.take S'.length ++ [v'])) b = some o := fun b o n1 n2 h => by rw [upd_ne n1, upd_ne n2]; exact h
      refine ⟨_, _, rs.take S'.length ++ [v'], S' ++ [c], rfl, extn_mut (hE.trans s46) hr0, tabs_lst hR6 (tabs_new hq5 t5), ?_, upd_same, ?_, hrun2, by rw [List.length_append, List.length_singleton]; omega⟩
      · rw [upd_ne nR]
        exact s46 _ _ hD fun ps z => by cases z
      · refine each_app (cut1.mono fun v2 b2 z => hRV _ _ _ _ ?_ z) (.cons (hRV _ _ _ _ ?_ hv') .nil)
        · exact off_mxX fun b o n h nt => by rw [upd_ne n]; exact s46 b o h nt
        · exact mx_nest s04 ⟨rs, hR4⟩ s07 hq5
    · rintro σ' H' ⟨pt, fr, rs, S, rfl, hE, hT', hD, hR, hS, hrun', hSi⟩
      rw [hus.length, List.drop_length] at hrun'
      obtain rfl : S = [a] := hrun'
      cases hS with
      | cons h1 h2 =>
        cases h2
        exact ⟨_, rfl, res, _, 0, _, rfl, rfl, sq_l hR, atI_nat (j := 0) rfl, q _ _ hE hT' (hRV _ _ _ _ (off_sub _ _) h1)⟩
end
end KA
set_option Elab.async false
set_option linter.all false
set_option maxRecDepth 100000
set_option maxHeartbeats 4000000
/-! number, operands, arithmetic, calculated, result -/
namespace KA
open PySem PySem.Spec PyProof.Rows L2 LamX
open PySem.W (EachIs)
def Ex.kids : Ex → List Ex
  | .at_ _ => []
  | .const _ => []
  | .ite c a b => [c, a, b]
  | .bin _ a b => [a, b]
def Ex.size : Ex → Nat
  | .at_ _ => 1
  | .const _ => 1
  | .ite c a b => c.size + a.size + b.size + 1
  | .bin _ a b => a.size + b.size + 1
def Ex.tag : Ex → Str
  | .at_ _ => "at"
  | .const _ => "const"
  | .ite _ _ _ => "if"
  | .bin o _ _ => o.sign
theorem Ex.kids_size (e : Ex) : szs Ex.size e.kids < e.size := by
  cases e with
  | ite c a b => simp only [kids, szs, size, List.map_cons, List.map_nil, List.sum_cons, List.sum_nil]; omega
  | bin o a b => simp only [kids, szs, size, List.map_cons, List.map_nil, List.sum_cons, List.sum_nil]; omega
  | _ => simp [kids, szs, size]
theorem Ex.size_le : ∀ e : Ex, e.size ≤ 4 ^ e.depth
  | .at_ _ => Nat.le_refl _
  | .const _ => Nat.le_refl _
  | .ite c a b => by
    have h1 := size_le c
    have h2 := size_le a
    have h3 := size_le b
    have m : ∀ n, n ≤ max c.depth (max a.depth b.depth) → 4 ^ n ≤ 4 ^ max c.depth (max a.depth b.depth) := fun n h => Nat.pow_le_pow_right (by decide) h
    have m1 := m c.depth (by omega)
    have m2 := m a.depth (by omega)
    have m3 := m b.depth (by omega)
    have p := Nat.one_le_two_pow (n := 0)
    have p4 : 1 ≤ 4 ^ max c.depth (max a.depth b.depth) := Nat.one_le_pow _ _ (by decide)
    show c.size + a.size + b.size + 1 ≤ 4 ^ (max c.depth (max a.depth b.depth) + 1)
    rw [Nat.pow_succ]
    omega
  | .bin o a b => by
    have h2 := size_le a
    have h3 := size_le b
    have m : ∀ n, n ≤ max a.depth b.depth → 4 ^ n ≤ 4 ^ max a.depth b.depth := fun n h => Nat.pow_le_pow_right (by decide) h
    have m2 := m a.depth (by omega)
    have m3 := m b.depth (by omega)
    have p4 : 1 ≤ 4 ^ max a.depth b.depth := Nat.one_le_pow _ _ (by decide)
    show a.size + b.size + 1 ≤ 4 ^ (max a.depth b.depth + 1)
    rw [Nat.pow_succ]
    omega
theorem Ex.kids_ok {e c : Ex} (h : c ∈ e.kids) (ho : e.Ok) : c.Ok := by
  cases e with
  | ite x a b =>
    obtain ⟨h1, h2, h3⟩ := ho
    simp only [kids, List.mem_cons, List.not_mem_nil, or_false] at h
    rcases h with rfl | rfl | rfl <;> assumption
  | bin o a b =>
    obtain ⟨h1, h2⟩ := ho
    simp only [kids, List.mem_cons, List.not_mem_nil, or_false] at h
    rcases h with rfl | rfl <;> assumption
  | _ => cases h
def isLeafTag (t : Str) : Bool := inV (.str t) [.str "at", .str "const"]
theorem Ex.leaf {e : Ex} (h : isLeafTag e.tag = true) : e.kids = [] := by
  have nb : ∀ o : Bop, ¬ isLeafTag o.sign = true := fun o => by cases o <;> decide +kernel
  cases e with
  | ite x a b => exact absurd h (show ¬ isLeafTag "if" = true by decide +kernel)
  | bin o a b => exact absurd h (nb o)
  | _ => rfl
/-- what stands at an expression -/
theorem ex_at {K : PySem.W.Frag} {H : Hp} {v : V} {e : Ex} (h : Dp K H v e.d) : ∃ (a : Addr) (u : V) (us : List V), v = .ref a ∧ SqT K H a (.str e.tag :: u :: us) ∧ (isLeafTag e.tag = false → DpAll K H (u :: us) (e.kids.map Ex.d)) ∧ (∀ k, e = .at_ k → u = .int k) ∧ ∀ x, e = .const x → u = kV x := by
  cases e with
  | at_ j =>
    cases h with
    | tup hs ha0 =>
      obtain ⟨v0, r0, rfl, h1, ha⟩ := dpa_cons ha0
      obtain rfl := dp_strV h1
      obtain ⟨v1, r1, rfl, h2, ha1⟩ := dpa_cons ha
      obtain rfl := dp_intV h2
      exact ⟨_, _, _, rfl, hs, fun z => absurd z (by show ¬ isLeafTag "at" = false; decide +kernel), fun k z => (by cases z; rfl), fun x z => by cases z⟩
  | const x =>
    cases h with
    | tup hs ha0 =>
      obtain ⟨v0, r0, rfl, h1, ha⟩ := dpa_cons ha0
      obtain rfl := dp_strV h1
      obtain ⟨v1, r1, rfl, h2, ha1⟩ := dpa_cons ha
      obtain rfl := dp_keyV h2
      exact ⟨_, _, _, rfl, hs, fun z => absurd z (by show ¬ isLeafTag "const" = false; decide +kernel), fun k z => (by cases z), fun x z => by cases z; rfl⟩
  | ite c a b =>
    cases h with
    | tup hs ha0 =>
      obtain ⟨v0, r0, rfl, h1, ha⟩ := dpa_cons ha0
      obtain rfl := dp_strV h1
      obtain ⟨v1, r1, rfl, h2, ha2⟩ := dpa_cons ha
      exact ⟨_, _, _, rfl, hs, fun _ => ha, fun k z => (by cases z), fun x z => by cases z⟩
  | bin o a b =>
    cases h with
    | tup hs ha0 =>
      obtain ⟨v0, r0, rfl, h1, ha⟩ := dpa_cons ha0
      obtain rfl := dp_strV h1
      obtain ⟨v1, r1, rfl, h2, ha2⟩ := dpa_cons ha
      exact ⟨_, _, _, rfl, hs, fun _ => ha, fun k z => (by cases z), fun x z => by cases z⟩
theorem text_empty (x : Str) : Str.empty ++ x = x := by
  apply str_ext
  show (Str.empty.cps ++ x.cps).toList = _
  simp [Str.empty]
section
variable {P : Program} {w : World} {K : PySem.W.Frag} {mg : Str → Option Value} {base : Heap} {f : Addr} {fd : FuncData}
theorem ok_num (F : FnP K "number" s_number f fd) (gI : mg "str" = none) (gS : mg "isinstance" = none) : FnOk P w K mg base CX0 1 f fd ["value"] spNumber := by
  refine F.ok sc_number (fun vs H Q E h => ?_) (fun cdv A outer s H vs Q E hr h => ?_)
  · obtain ⟨n, rfl, _⟩ := h
    rfl
  · obtain ⟨x, rfl, q⟩ := h
    refine ⟨_, PSs.nox (pss_one (ps_ret (pe_ifExp (pt_val (pe_callB call_isi (by rfl) gS (by decide +kernel) (pa_cons (pv 0) (pa_cons (pe_bltn (v := .ty "str") (by rfl) gI (by decide +kernel) rfl) pa_nil)))) pe_int (pv 0)))), ?_⟩
    cases x with
    | inl i => exact ⟨_, rfl, _, _, .type "int", .type "str", false, rfl, .ty "str", .base (.int i), kit_ty (by decide +kernel), _, rfl, iteF ⟨_, rfl, q⟩⟩
    | inr z => exact ⟨_, rfl, _, _, .type "str", .type "str", true, rfl, .ty "str", .base (.str z), kit_ty (by decide +kernel), _, rfl, iteT q⟩
def spOperands (K : PySem.W.Frag) : Sp := fun vs H Q _ => ∃ (a : Addr) (tag : Str) (u : V) (us : List V), vs = [.ref a] ∧ SqT K H a (.str tag :: u :: us) ∧ ∀ t H', Same H H' → SqT K H' t (if isLeafTag tag = true then [] else u :: us) → Q (.ref t) H'
theorem ok_operands (F : FnP K "operands" s_operands f fd) : FnOk P w K mg base CX0 1 f fd ["e"] (spOperands K) := by
  refine F.ok sc_operands (fun vs H Q E h => ?_) (fun cdv A outer s H vs Q E hr h => ?_)
  · obtain ⟨a, tag, u, us, rfl, _⟩ := h
    rfl
  · obtain ⟨a, tag, u, us, rfl, hs, q⟩ := h
    refine ⟨_, PSs.nox (pss_one (ps_ret (pe_ifExp (pt_cmpR op_in_seq (pe_ix ix_tup (pv 0) pe_int (fun _ _ => rfl)) (pe_tup (pa_cons pe_str (pa_cons pe_str pa_nil))) (by with_unfolding_all rfl))
      (pe_tup pa_nil) (pe_slice sl_tup (pv 0) (po_some pe_int) po_none)))), ?_⟩
    refine ⟨_, rfl, a, _, 0, _, rfl, rfl, hs, atI_nat (j := 0) rfl, (by show 2 ≤ sizeLine; decide), fun p hp => ?_⟩
    have s1 := same_new (o := .tup [.str "at", .str "const"]) hp
    refine ⟨p, _, rfl, .inr (sq_t upd_same), rfl, rfl, _, rfl, ?_⟩
    cases hl : isLeafTag tag with
    | true =>
      rw [show inV (.str tag) [.str "at", .str "const"] = true from hl]
      refine iteT ⟨Nat.zero_le _, fun t ht => q t _ (s1.trans (same_new ht)) ?_⟩
      rw [if_pos hl]
      exact sq_t upd_same
    | false =>
      rw [show inV (.str tag) [.str "at", .str "const"] = false from hl]
      refine iteF ⟨_, rfl, 1, rfl, a, _, rfl, sqT_mono s1 hs, fun z => ?_, fun t ht => q t _ (s1.trans (same_new ht)) ?_⟩
      · exact absurd z.1 (by
          show ¬ HT.sIx _ 0 (some ((1 : Nat) : Int)) = 0
          rw [HT.sIx_nat]
          simp)
      · rw [if_neg (by rw [hl]; exact Bool.false_ne_true)]
        have e : cutV (V.str tag :: u :: us) (some 1) none = u :: us := cut_from (n := 1) _ (by simp)
        exact Eq.mp (congrArg (SqT K _ t) e) (sq_t upd_same)
def arithZ : Bop → Int → Int → Int
  | .add, x, y => x + y
  | .sub, x, y => x - y
  | _, x, y => x * y
def spArith : Sp := fun vs H Q _ => ∃ (o : Bop) (x y : Int), vs = [.str o.sign, .int x, .int y] ∧ (o = .add ∨ o = .sub ∨ o = .mul) ∧ x.natAbs ≤ 2 ^ 33 ∧ Q (.int (wrapZ (arithZ o x y))) H
theorem ok_arith (F : FnP K "arithmetic" s_arithmetic f fd) (CW : Cal P w K mg base "wrap" 1 ["n"] spWrap) : FnOk P w K mg base CX0 2 f fd ["sign", "first", "second"] spArith := by
  refine F.ok sc_arithmetic (fun vs H Q E h => ?_) (fun cdv A outer s H vs Q E hr h => ?_)
  · obtain ⟨o, x, y, rfl, _⟩ := h
    rfl
  · obtain ⟨o, x, y, rfl, ho, hx, q⟩ := h
    refine ⟨_, PSs.nox (pss_cons (ps_if (pt_cmpR op_eq (pv 0) pe_str (nomark _)) (pss_one (ps_ret (pe_cal CW hr (pa_cons (pe_op op_add (pv 1) (pv 2)) pa_nil)))) pss_nil)
      (pss_cons (ps_if (pt_cmpR op_eq (pv 0) pe_str (nomark _)) (pss_one (ps_ret (pe_cal CW hr (pa_cons (pe_op op_sub (pv 1) (pv 2)) pa_nil)))) pss_nil)
      (pss_one (ps_ret (pe_cal CW hr (pa_cons (pe_op op_mul (pv 1) (pv 2)) pa_nil)))))), ?_⟩
    rcases ho with rfl | rfl | rfl
    · exact ⟨_, rfl, rfl, _, rfl, iteT ⟨_, rfl, _, rfl, _, _, rfl, rfl, _, rfl, q⟩⟩
    · exact ⟨_, rfl, rfl, _, rfl, iteF ⟨_, rfl, rfl, _, rfl, iteT ⟨_, rfl, _, rfl, _, _, rfl, rfl, _, rfl, q⟩⟩⟩
    · exact ⟨_, rfl, rfl, _, rfl, iteF ⟨_, rfl, rfl, _, rfl, iteF ⟨_, rfl, _, rfl, _, _, rfl, rfl, .inl ⟨by omega, by omega⟩, _, rfl, q⟩⟩⟩
end
end KA
set_option Elab.async false
set_option linter.all false
set_option maxRecDepth 100000
set_option maxHeartbeats 4000000
/-! calculated, result -/
namespace KA
open PySem PySem.Spec PyProof.Rows L2 LamX
open PySem.W (EachIs)
theorem sign_ne {o o' : Bop} (h : o ≠ o') : o.sign ≠ o'.sign := by
  cases o <;> cases o' <;> first | exact absurd rfl h | decide +kernel
theorem sign_if (o : Bop) : o.sign ≠ "if" := by cases o <;> decide +kernel
theorem fits_log {i : Int} (h : i.natAbs ≤ 2 ^ 33) : i.natAbs.log2 < 1920 := by
  by_cases e : i.natAbs = 0
  · rw [e]; decide
  · exact Nat.lt_of_lt_of_le ((Nat.log2_lt e).mpr (Nat.lt_of_le_of_lt h (show 2 ^ 33 < 2 ^ 34 by decide))) (by decide)
section
variable {K : PySem.W.Frag} {te : TE} {σ : L2.St} {H : Hp} {Q : VK}
/-- {x} of a row's value -/
theorem fmt_key {i : Nat} {x : Key} (hs : σ[i]? = some (some (kV x))) (hx : VOk x) (h : Q (.str (textZ x)) H) : tFmt (tVar i) σ H Q := by
  refine ⟨_, hs, ?_⟩
  cases x with
  | inl n => exact .inr ⟨n, rfl, fits_log hx, h⟩
  | inr z => exact .inl ⟨z, rfl, Nat.le_trans hx (by decide), h⟩
/-- the texts of two values, one behind the other -/
theorem two_keys {i j : Nat} {x y : Key} {R : Str → Hp → Prop} (h1 : σ[i]? = some (some (kV x))) (h2 : σ[j]? = some (some (kV y))) (hx : VOk x) (hy : VOk y) (h : R (textZ x ++ textZ y) H) : tJs [tFmt (tVar i), tFmt (tVar j)] Str.empty σ H R := by
  have lx := text_bd hx
  have ly := text_bd hy
  refine fmt_key h1 hx ⟨_, rfl, ?_, fmt_key h2 hy ⟨_, rfl, ?_, ?_⟩⟩
  · rw [text_empty]
    exact Nat.le_trans lx (by decide)
  · rw [text_empty, strLen_append]
    exact Nat.le_trans (show _ ≤ 100 by omega) (by decide)
  · rw [text_empty]
    exact h
/-- x == s -/
theorem is_str {i : Nat} {x z : Str} {Qt : Bool → Hp → Prop} (h1 : σ[i]? = some (some (.str x))) (h : Qt (decide (x = z)) H) : tTest (tOp rEq (tVar i) (tC (.str z))) σ H Qt := by
  refine ⟨_, h1, rfl, _, rfl, ?_⟩
  rw [show decide (V.str x = V.str z) = decide (x = z) from by
    by_cases e : x = z
    · rw [decide_eq_true e, decide_eq_true (congrArg V.str e)]
    · rw [decide_eq_false e, decide_eq_false fun q => e (by injection q)]]
  exact h
theorem is_yes {i : Nat} {x : Str} {Qt : Bool → Hp → Prop} (h1 : σ[i]? = some (some (.str x))) (h : Qt true H) : tTest (tOp rEq (tVar i) (tC (.str x))) σ H Qt := is_str h1 (by rw [decide_eq_true rfl]; exact h)
theorem is_no {i : Nat} {x z : Str} {Qt : Bool → Hp → Prop} (h1 : σ[i]? = some (some (.str x))) (hn : x ≠ z) (h : Qt false H) : tTest (tOp rEq (tVar i) (tC (.str z))) σ H Qt := is_str h1 (by rw [decide_eq_false hn]; exact h)
end
section
variable {P : Program} {w : World} {K : PySem.W.Frag} {mg : Str → Option Value} {base : Heap} {f : Addr} {fd : FuncData}
def spCalc (K : PySem.W.Frag) : Sp := fun vs H Q _ => (∃ (p : Addr) (c x y : Key), vs = [.str "if", .ref p] ∧ H p = some (.lst [kV c, kV x, kV y]) ∧ Q (kV (if c = .inl 0 then y else x)) H) ∨
  ∃ (p : Addr) (o : Bop) (x y : Key), vs = [.str o.sign, .ref p] ∧ H p = some (.lst [kV x, kV y]) ∧ VOk x ∧ VOk y ∧ ∀ H', Same H H' → Q (kV (binZ o x y)) H'
theorem ok_calc {t40 : Tok} (F : FnP K "calculated" s_calculated f fd) (gT : mg "LONGEST_TEXT" = some (.int 40 t40)) (CR : Cal P w K mg base "rank" 1 ["value"] (spRank K)) (CN : Cal P w K mg base "number" 1 ["value"] spNumber) (CA : Cal P w K mg base "arithmetic" 2 ["sign", "first", "second"] spArith) :
    FnOk P w K mg base CX0 3 f fd ["sign", "values"] (spCalc K) := by
  refine F.ok sc_calculated (fun vs H Q E h => ?_) (fun cdv A outer s H vs Q E hr h => ?_)
  · rcases h with ⟨p, c, x, y, rfl, _⟩ | ⟨p, o, x, y, rfl, _⟩ <;> rfl
  · have unl2 := fun (X : Cx) => True
    refine ⟨_, PSs.nox (pss_cons (ps_if (pt_cmpR op_eq (pv 0) pe_str (nomark _))
        (pss_cons (ps_asg (pv 1) (pg_unl rfl (pgs_cons (pg_name (i := 2) sc_calculated.nd rfl (Or.inl rfl)) (pgs_cons (pg_name (i := 3) sc_calculated.nd rfl (Or.inl rfl)) (pgs_cons (pg_name (i := 4) sc_calculated.nd rfl (Or.inl rfl)) pgs_nil)))))
        (pss_one (ps_ret (pe_ifExp (pt_cmpR (op_eqP hr.u64) (pv 2) pe_int (nomark _)) (pv 4) (pv 3))))) pss_nil)
      (pss_cons (ps_asg (pv 1) (pg_unl rfl (pgs_cons (pg_name (i := 3) sc_calculated.nd rfl (Or.inl rfl)) (pgs_cons (pg_name (i := 4) sc_calculated.nd rfl (Or.inl rfl)) pgs_nil))))
      (pss_cons (ps_if (pt_cmpR op_eq (pv 0) pe_str (nomark _)) (pss_one (ps_ret (pe_ifExp (pt_cmpR (op_eqP hr.u64) (pv 3) (pv 4) (nomark _)) pe_int pe_int))) pss_nil)
      (pss_cons (ps_if (pt_cmpR op_eq (pv 0) pe_str (nomark _)) (pss_one (ps_ret (pe_ifExp (pt_cmpR (op_ltK hr.u64) (pe_cal CR hr.lt (pa_cons (pv 3) pa_nil)) (pe_cal CR hr.lt (pa_cons (pv 4) pa_nil)) (nomark _)) pe_int pe_int))) pss_nil)
      (pss_cons (ps_if (pt_cmpR op_eq (pv 0) pe_str (nomark _)) (pss_one (ps_ret (pe_slice sl_str (pe_joined (.cons (pe_fmt (pv 3)) (.cons (pe_fmt (pv 4)) .nil))) po_none (po_some (pe_glob (v := .int 40) rfl gT ⟨_, rfl⟩))))) pss_nil)
      (pss_one (ps_ret (pe_cal CA hr (pa_cons (pv 0) (pa_cons (pe_cal CN hr.lt (pa_cons (pv 3) pa_nil)) (pa_cons (pe_cal CN hr.lt (pa_cons (pv 4) pa_nil)) pa_nil))))))))))), ?_⟩
    rcases h with ⟨p, c, x, y, rfl, hp, q⟩ | ⟨p, o, x, y, rfl, hp, vx, vy, q⟩
    · refine is_yes rfl (iteT ⟨_, rfl, p, _, rfl, sq_l hp, rfl, ?_⟩)
      refine ⟨_, _, rfl, _, _, rfl, _, _, rfl, rfl, ?_⟩
      obtain ⟨pl, dp⟩ := key_plain c
      refine ⟨_, rfl, _, _, dp_key c, dp_key (.inl 0), pl, rfl, dp, _, rfl, ?_⟩
      rw [eqv_key]
      by_cases e0 : c = .inl 0
      · rw [decide_eq_true e0]
        rw [if_pos e0] at q
        exact iteT ⟨_, rfl, q⟩
      · rw [decide_eq_false e0]
        rw [if_neg e0] at q
        exact iteF ⟨_, rfl, q⟩
    · refine is_no rfl (sign_if o) (iteF ⟨_, rfl, p, _, rfl, sq_l hp, rfl, _, _, rfl, _, _, rfl, rfl, ?_⟩)
      have bx := num_bd vx
      have kx := key_plain x
      have ky := key_plain y
      by_cases c1 : o = .eq
      · subst c1
        refine is_yes rfl (iteT ⟨_, rfl, _, rfl, _, _, dp_key x, dp_key y, kx.1, ky.1, kx.2, _, rfl, ?_⟩)
        rw [eqv_key]
        have q1 := q _ (Same.refl _)
        by_cases e0 : x = y
        · rw [decide_eq_true e0]
          rw [show binZ .eq x y = .inl 1 by simp [binZ, b2z, e0]] at q1
          exact iteT q1
        · rw [decide_eq_false e0]
          rw [show binZ .eq x y = .inl 0 by simp [binZ, b2z, e0]] at q1
          exact iteF q1
      refine is_no rfl (sign_ne c1) (iteF ?_)
      by_cases c2 : o = .lt
      · subst c2
        refine is_yes rfl (iteT ⟨_, rfl, x, rfl, fun u H3 s3 d3 => ⟨_, rfl, y, rfl, fun u2 H4 s4 d4 => ?_⟩⟩)
        refine .inr (.inr ⟨x, y, Dp.mono s4 d3.dp, d4.dp, _, rfl, ?_⟩)
        have q1 := q _ (s3.trans s4)
        cases e0 : oneLt x y with
        | true =>
          rw [show binZ .lt x y = .inl 1 by simp [binZ, b2z, e0]] at q1
          exact iteT q1
        | false =>
          rw [show binZ .lt x y = .inl 0 by simp [binZ, b2z, e0]] at q1
          exact iteF q1
      refine is_no rfl (sign_ne c2) (iteF ?_)
      by_cases c3 : o = .cat
      · subst c3
        refine is_yes rfl (iteT (two_keys rfl rfl vx vy ⟨_, rfl, _, rfl, ?_, q _ (Same.refl _)⟩))
        have l1 := text_bd vx
        have l2 := text_bd vy
        rw [strLen_append]
        exact Nat.le_trans (show _ ≤ 100 by omega) (by decide)
      refine is_no rfl (sign_ne c3) (iteF ?_)
      refine ⟨_, rfl, _, rfl, x, rfl, _, rfl, y, rfl, o, numZ x, numZ y, rfl, ?_, bx, ?_⟩
      · cases o with
        | add => exact .inl rfl
        | sub => exact .inr (.inl rfl)
        | mul => exact .inr (.inr rfl)
        | eq => exact absurd rfl c1
        | lt => exact absurd rfl c2
        | cat => exact absurd rfl c3
      · have q1 := q _ (Same.refl _)
        cases o with
        | add => exact q1
        | sub => exact q1
        | mul => exact q1
        | eq => exact absurd rfl c1
        | lt => exact absurd rfl c2
        | cat => exact absurd rfl c3
def spResult (K : PySem.W.Frag) : Sp := fun vs H Q _ => ∃ (v : V) (p q : Addr) (e : Ex) (r : Row), vs = [v, .ref p, .ref q] ∧ Dp K H v e.d ∧ e.Ok ∧ RowAt H q r ∧ RowV r ∧ H p = some (.lst (e.kids.map fun c => kV (c.val r))) ∧ ∀ H', Same H H' → Q (kV (e.val r)) H'
theorem ok_result (F : FnP K "result" s_result f fd) (gL : mg "len" = none) (CC : Cal P w K mg base "calculated" 3 ["sign", "values"] (spCalc K)) : FnOk P w K mg base CX0 4 f fd ["e", "values", "row"] (spResult K) := by
  refine F.ok sc_result (fun vs H Q E h => ?_) (fun cdv A outer s H vs Q E hr h => ?_)
  · obtain ⟨v, p, q, e, r, rfl, _⟩ := h
    rfl
  · obtain ⟨v, p, qa, e, r, rfl, hd, ho, hq, hv, hp, q⟩ := h
    refine ⟨_, PSs.nox (pss_cons (ps_if (pt_cmpR op_eq (pe_ix ix_tup (pv 0) pe_int (fun _ _ => rfl)) pe_str (nomark _)) (pss_one (ps_ret (pe_ix ix_tup (pv 0) pe_int (fun _ _ => rfl)))) pss_nil)
      (pss_cons (ps_if (pt_cmpR op_eq (pe_ix ix_tup (pv 0) pe_int (fun _ _ => rfl)) pe_str (nomark _))
        (pss_one (ps_ret (pe_ifExp (pt_cmpR op_lt (pe_ix ix_tup (pv 0) pe_int (fun _ _ => rfl)) (pe_callB call_len_seq (by rfl) gL (by decide +kernel) (pa_cons (pv 2) pa_nil)) (nomark _)) (pe_ix ix_tup (pv 2) (pe_ix ix_tup (pv 0) pe_int (fun _ _ => rfl)) (fun _ _ => rfl)) pe_int))) pss_nil)
      (pss_one (ps_ret (pe_cal CC hr (pa_cons (pe_ix ix_tup (pv 0) pe_int (fun _ _ => rfl)) (pa_cons (pv 1) pa_nil))))))), ?_⟩
    obtain ⟨a, u, us, rfl, hs, _, hat, hco⟩ := ex_at hd
    cases e with
    | const x =>
      obtain rfl := hco x rfl
      exact tag_yes rfl hs (iteT ⟨_, rfl, a, _, 1, _, rfl, rfl, hs, atI_nat (j := 1) rfl, q _ (Same.refl _)⟩)
    | at_ j =>
      obtain rfl := hat j rfl
      obtain ⟨j0, j1⟩ := ho
      obtain ⟨m, rfl⟩ : ∃ m : Nat, j = m := ⟨j.toNat, by omega⟩
      refine tag_no rfl hs (iteF (tag_yes rfl hs (iteT ?_))) (show ("at" : Str) ≠ "const" by decide +kernel)
      refine ⟨_, rfl, a, _, 1, _, rfl, rfl, hs, atI_nat (j := 1) rfl, ?_⟩
      refine ⟨_, rfl, qa, _, rfl, .inr hq.sq, _, _, rfl, rfl, _, rfl, ?_⟩
      have e1 : (Ex.at_ (m : Int)).val r = (r[m]?).getD (.inl 0) := by
        show (r[(m : Int).toNat]?).getD (.inl 0) = _
        rw [Int.toNat_natCast]
      have q1 := q _ (Same.refl _)
      refine ite2 (fun hlt => ?_) fun hlt => ?_
      · have hlt := of_decide_eq_true hlt
        rw [List.length_map] at hlt
        obtain ⟨x, hx⟩ : ∃ x, r[m]? = some x := ⟨_, List.getElem?_eq_getElem (by omega)⟩
        refine ⟨_, rfl, _, rfl, a, _, 1, _, rfl, rfl, hs, atI_nat (j := 1) rfl, qa, _, m, kV x, rfl, rfl, hq.sq, atI_nat (j := m) (by rw [List.getElem?_map, hx]; rfl), ?_⟩
        rw [e1, hx] at q1
        exact q1
      · have hlt : ¬ ((m : Int) < ((r.map kV).length : Nat)) := fun z => hlt (decide_eq_true z)
        rw [List.length_map] at hlt
        rw [e1, List.getElem?_eq_none (by omega)] at q1
        exact q1
    | ite c x y =>
      refine tag_no rfl hs (iteF (tag_no rfl hs (iteF ?_) (show ("if" : Str) ≠ "at" by decide +kernel))) (show ("if" : Str) ≠ "const" by decide +kernel)
      exact ⟨_, rfl, a, _, 0, _, rfl, rfl, hs, atI_nat (j := 0) rfl, _, rfl, .inl ⟨p, c.val r, x.val r, y.val r, rfl, hp, q _ (Same.refl _)⟩⟩
    | bin o x y =>
      have n1 : o.sign ≠ "at" := by cases o <;> decide +kernel
      have n2 : o.sign ≠ "const" := by cases o <;> decide +kernel
      refine tag_no rfl hs (iteF (tag_no rfl hs (iteF ?_) n1)) n2
      exact ⟨_, rfl, a, _, 0, _, rfl, rfl, hs, atI_nat (j := 0) rfl, _, rfl, .inr ⟨p, o, x.val r, y.val r, rfl, hp, val_ok ho.1 hv, val_ok ho.2 hv, q⟩⟩
end
end KA
set_option Elab.async false
set_option linter.all false
set_option maxRecDepth 100000
set_option maxHeartbeats 4000000
/-! evaluate, mapped -/
namespace KA
open PySem PySem.Spec PyProof.Rows L2 LamX NdefX
open PySem.W (EachIs)
mutual
theorem Dp.extn {K : PySem.W.Frag} {H H' : Hp} (s : ExtN H H') : ∀ (d : PyData) (v : V), Dp K H v d → Dp K H' v d
  | .none, _, h => by cases h; exact .non
  | .bool b, _, h => by cases h; exact .bl b
  | .int i, _, h => by cases h; exact .int i
  | .str x, _, h => by cases h; exact .str x
  | .list ds, _, h => by
    cases h with
    | lst hs ha => exact .lst (sqL_extn s hs) (DpAll.extn s ds _ ha)
  | .tuple ds, _, h => by
    cases h with
    | tup hs ha =>
      refine .tup ?_ (DpAll.extn s ds _ ha)
      rcases hs with (q | ⟨o, q⟩) | q
      · exact .inl (.inl (s _ _ q fun ps z => by cases z))
      · exact .inl (.inr ⟨o, s _ _ q fun ps z => by cases z⟩)
      · exact .inr q
  | .dict _, _, h => by cases h
theorem DpAll.extn {K : PySem.W.Frag} {H H' : Hp} (s : ExtN H H') : ∀ (ds : List PyData) (vs : List V), DpAll K H vs ds → DpAll K H' vs ds
  | [], _, h => by cases h; exact .nil
  | d :: ds, _, h => by
    cases h with
    | cons h1 h2 => exact .cons (Dp.extn s d _ h1) (DpAll.extn s ds _ h2)
end
theorem sqT_extn {K : PySem.W.Frag} {H H' : Hp} (s : ExtN H H') {a : Addr} {xs : List V} (h : SqT K H a xs) : SqT K H' a xs := by
  rcases h with (h | ⟨o, h⟩) | h
  · exact .inl (.inl (s _ _ h fun ps z => by cases z))
  · exact .inl (.inr ⟨o, s _ _ h fun ps z => by cases z⟩)
  · exact .inr h
theorem ExsD.extn {K : PySem.W.Frag} {H H' : Hp} (s : ExtN H H') {p : Addr} {es : List Ex} (h : ExsD K H p es) : ExsD K H' p es := by
  obtain ⟨vs, h1, h2⟩ := h
  exact ⟨vs, sqL_extn s h1, DpAll.extn s _ _ h2⟩
theorem dps_each {K : PySem.W.Frag} {H : Hp} {α : Type} {D : α → PyData} : ∀ {vs : List V} {xs : List α}, DpAll K H vs (xs.map D) → EachIs (fun v x => Dp K H v (D x)) vs xs
  | _, [], h => by cases h; exact .nil
  | _, x :: xs, h => by
    obtain ⟨v, r, rfl, h1, h2⟩ := dpa_cons h
    exact .cons h1 (dps_each h2)
theorem each_with {α β : Type} {R : α → β → Prop} {p : β → Prop} : ∀ {as : List α} {bs : List β}, EachIs R as bs → (∀ b ∈ bs, p b) → EachIs (fun a b => R a b ∧ p b) as bs
  | _, _, .nil, _ => .nil
  | _, _, .cons h t, g => .cons ⟨h, g _ List.mem_cons_self⟩ (each_with t fun b hb => g b (List.mem_cons_of_mem _ hb))
theorem each_map_eq {α β : Type} {g : β → α} : ∀ {as : List α} {bs : List β}, EachIs (fun a b => a = g b) as bs → as = bs.map g
  | _, _, .nil => rfl
  | _, _, .cons h t => by rw [List.map_cons, h, each_map_eq t]
section
variable {P : Program} {w : World} {K : PySem.W.Frag} {mg : Str → Option Value} {base : Heap} {f : Addr} {fd : FuncData}
/-- a def's body, its code object told -/
theorem okC {CX : CXT} {x qual : Str} {params : Arguments} {body : List Stmt} {scope : Scope} {dvs : List V} {kws : List (Str × V)} {N ps : List Str} {k : Nat} {sp : Sp} (F : FunD K x qual params body scope dvs kws f fd) (S : FnScope N ps scope) (len : ∀ vs H Q E, sp vs H Q E → vs.length = ps.length)
    (hbody : ∀ (cdv : Value) (A : Around) (outer : List Env) (s : Shared) (H : Hp) (vs : List V) (Q : VK) (E : XK), fd.code = cdv → Room k (A.deeper (envOfC qual scope s.heap.objs.size f cdv)) → sp vs H Q E →
      ∃ t, PSs (cxOf CX P w K mg base N qual scope f cdv A outer s H E) body t ∧ t { nx := fun _ H' => Q .non H', rt := Q } (L2.start N vs) H) : FnOk P w K mg base CX (k + 1) f fd ps sp := by
  obtain ⟨oc, od, dV, kV, doc, pm, an, cdv, ct, osl, rfl, lk, hcd, _, _⟩ := F.ex
  exact fn_of lk hcd S len fun A outer s H vs Q E hr hs => hbody cdv A outer s H vs Q E rfl hr hs
def spEval (K : PySem.W.Frag) (T : List (Addr × Str)) : Sp := fun vs H Q _ => ∃ (v : V) (q : Addr) (e : Ex) (r : Row), vs = [v, .ref q] ∧ Dp K H v e.d ∧ e.Ok ∧ e.depth < 8 ∧ RowAt H q r ∧ RowV r ∧ Tabs T H ∧ ∀ H', ExtN H H' → Tabs T H' → Q (kV (e.val r)) H'
abbrev lamN : Str := ("evaluate" ++ ".<locals>." : Str) ++ "<lambda>"
theorem ok_evaluate {T : List (Addr × Str)} {c Pt fo : Addr} (F : FnP K "evaluate" s_evaluate f fd) (hc : fd.code = .ref c) (TB : TabB base mg c Pt) (hmT : (Pt, lamN) ∈ T) (hu : ∀ p ∈ T, p.1 = Pt → p.2 = lamN)
    (gO : mg "operands" = some (.ref fo)) (DO : DefClo P w K mg base fo 1 (spOperands K)) (CW : CalC P w K mg base "worked_out" 6 (spWorked K 1 5)) (CR : Cal P w K mg base "result" 4 ["e", "values", "row"] (spResult K)) :
    FnOk P w K mg base CX0 7 f fd ["e", "row"] (spEval K T) := by
  refine okC F sc_evaluate (fun vs H Q E h => ?_) (fun cdv A outer s H vs Q E hcd hr h => ?_)
  · obtain ⟨v, q, e, r, rfl, _⟩ := h
    rfl
  · obtain ⟨v, qa, e, r, rfl, hd, ho, hn, hq, hv, hT, q⟩ := h
    obtain rfl : cdv = .ref c := hcd.symm.trans hc
    refine ⟨_, PSs.nox (pss_one (ps_ret (pe_lam3 (sp := spWorked K 1 5) (j := 4) (T := T) (N := ["part", "values", "row"]) (ps := ["part", "values"]) (fr := ["row"]) (js := [1]) CW spWorked_mono hr (pv 0) (pe_glob (v := .ref fo) rfl gO rfl) TB rfl hmT hu rfl
      (nscope_by (by decide +kernel)) (show ndefB (defScope s_evaluate) _ ["row"] = true from by decide +kernel) rfl (fun _ _ _ _ _ us hl => match us, hl with | [_, _], _ => rfl) (fun _ _ _ _ _ _ _ _ hr' => pe_cal CR hr' (pa_cons (pv 0) (pa_cons (pv 1) (pa_cons (pv 2) pa_nil))))))), ?_⟩
    refine ⟨_, rfl, hT, fun g H3 e3 t3 hg => ?_⟩
    refine ⟨Ex, Ex.kids, Ex.size, fun v e => Dp K H v e.d ∧ e.Ok, fun _ v e => v = kV (e.val r), T, fun _ => none, v, e, fo, g, spOperands K, fun vs H1 Q1 _ => ∃ v1 p1, vs = [v1, .ref p1] ∧ ExtN H3 H1 ∧ spResult K [v1, .ref p1, .ref qa] H1 Q1 XF, rfl, .inr DO,
      .inl ⟨rfl, rfl, fun vs H1 Q1 h => ?_⟩, ⟨hd, ho⟩, t3, ?_, ?_, fun _ _ _ _ _ h => h, Ex.kids_size, ?_, fun v' H' e' t' hv' => ?_⟩
    · obtain ⟨v1, p1, rfl, eE, h⟩ := h
      exact ⟨rfl, eE, _, rfl, _, rfl, _, rfl, h⟩
    · intro v1 e1 H1 Q1 ⟨hd1, ho1⟩ eE t1 k
      obtain ⟨a, u, us, rfl, hs, hk, _, _⟩ := ex_at hd1
      refine ⟨a, e1.tag, u, us, rfl, sqT_extn (e3.trans eE) hs, fun t H' s' ht => k t _ H' (ExtN.of s') (t1.ext s') ht ?_⟩
      cases hl : isLeafTag e1.tag with
      | true =>
        rw [if_pos rfl, Ex.leaf hl]
        exact .nil
      | false =>
        rw [if_neg Bool.false_ne_true]
        exact each_with (dps_each (hk hl)) fun b hb => Ex.kids_ok hb ho1
    · intro v1 e1 p1 us Y H1 Q1 ⟨hd1, ho1⟩ eE t1 hp sub he k
      refine ⟨v1, p1, rfl, eE, v1, p1, qa, e1, r, rfl, Dp.extn (e3.trans eE) _ _ hd1, ho1, hq.extn (e3.trans eE), hv, ?_, fun H' s' => k _ H' (ExtN.of s') (t1.ext s') rfl⟩
      rw [hp, each_map_eq he]
    · have h1 := e.size_le
      have h2 : 4 ^ e.depth ≤ 4 ^ 8 := Nat.pow_le_pow_right (by decide) (Nat.le_of_lt hn)
      exact Nat.le_trans (Nat.le_trans h1 h2) (by decide)
    · subst hv'
      exact q _ (e3.trans e') t'
def spMapped (K : PySem.W.Frag) (T : List (Addr × Str)) : Sp := fun vs H Q _ => ∃ (p q : Addr) (es : List Ex) (r : Row), vs = [.ref p, .ref q] ∧ ExsD K H p es ∧ ExsB 8 es ∧ RowAt H q r ∧ RowV r ∧ Tabs T H ∧ ∀ t H', ExtN H H' → Tabs T H' → RowAt H' t (rowOf es r) → Q (.ref t) H'
theorem ok_mapped {T : List (Addr × Str)} (F : FnP K "mapped" s_mapped f fd) (gU : mg "tuple" = none) (CE : Cal P w K mg base "evaluate" 7 ["e", "row"] (spEval K T)) : FnOk P w K mg base CX0 8 f fd ["exprs", "row"] (spMapped K T) := by
  refine F.ok sc_mapped (fun vs H Q E h => ?_) (fun cdv A outer s H vs Q E hr h => ?_)
  · obtain ⟨p, q, es, r, rfl, _⟩ := h
    rfl
  · obtain ⟨p, qa, es, r, rfl, he, hb, hq, hv, hT, q⟩ := h
    refine ⟨_, PSs.nox (pss_one (ps_ret (pe_callTy call_tuple_of (by rfl) gU (by decide +kernel) (pa_cons (pe_lc (own := [("e", 2)]) (g := (gName 2)) (tt := tYes) (by rfl) sc_mapped.nd (pi_list (pv 0)) (blkOk_by (own := [("e", 2)]) (N := ["exprs", "row", "e"]) (sc := defScope s_mapped) (by decide +kernel)) (fun _ _ _ _ _ => (pg_name (i := 2) sc_mapped.nd rfl (Or.inl rfl))) (fun _ _ _ _ _ => pts_nil) (fun _ _ _ _ _ => (pe_cal CE hr (pa_cons (pv 2) (pa_cons (pv 1) pa_nil))))) pa_nil)))), ?_⟩
    obtain ⟨vs, h1, h2⟩ := he
    have hl := dpAll_len h2
    rw [List.length_map] at hl
    refine ⟨_, rfl, p, rfl, ⟨_, h1⟩, fun D hD => ?_⟩
    refine lc_offX (T := T) (walk_list (xs := vs)) es hl.symm (fun _ v e => v = kV (e.val r)) (fun _ _ _ _ _ z => z) hD hT (fun H' s' => sqL_extn s' h1) (by rw [hl]; have := hb.1; omega) ?_ ?_
    · rintro i x e H1 _ hi he s1 t1 _ ⟨rfl, hx⟩ Q' Qn k1
      have hd : Dp K H x (Ex.d e) := dpAll_get h2 hx (by rw [List.getElem?_map, he]; rfl)
      obtain ⟨o1, o2⟩ := hb.2 e (List.mem_of_getElem? he)
      exact ⟨rfl, yes_in ⟨_, rfl, _, rfl, x, qa, e, r, rfl, Dp.extn s1 _ _ hd, o1, o2, hq.extn s1, hv, t1, fun H2 s2 t2 => k1 _ _ s2 t2 rfl⟩⟩
    · intro H1 acc s1 t1 ha he
      have e1 : acc = (rowOf es r).map kV := by
        rw [each_map_eq he]
        unfold rowOf
        rw [List.map_map]
        rfl
      subst e1
      refine ⟨D, _, rfl, .inl ⟨sq_l ha, fun t ht => ?_⟩⟩
      exact q t _ (s1.trans (extn_new ht)) (tabs_new ht t1) upd_same
end
end KA
set_option Elab.async false
set_option linter.all false
set_option maxRecDepth 100000
set_option maxHeartbeats 4000000
/-! bags of up to 20,000 pairs: make_bag, plus, scaled, rows_of, support; what is given is new -/
namespace KA
open PySem PySem.Spec PyProof.Rows L2
open PySem.W (EachIs)
section
variable {P : Program} {w : World} {K : PySem.W.Frag} {mg : Str → Option Value} {base : Heap} {f : Addr} {fd : FuncData}
def spScaledN : Sp := fun vs H Q _ => ∃ (p : Addr) (b : Bag) (m : Int), vs = [.ref p, .int m] ∧ BagAt H p b ∧ b.length ≤ 20000 ∧ m.natAbs ≤ 2 ^ 60 ∧ ∀ q H', Same H H' → H q = none → BagAt H' q (scaleB b m) → Q (.ref q) H'
theorem ok_scaledN (F : FnP K "scaled" s_scaled f fd) : FnOk P w K mg base CX0 1 f fd ["bag", "factor"] spScaledN := by
  refine F.ok sc_scaled (fun vs H Q E h => ?_) (fun cdv A outer s H vs Q E hr h => ?_)
  · obtain ⟨n, r, m, rfl, _⟩ := h
    rfl
  · obtain ⟨a, b, m, rfl, hb, hl, hbd, q⟩ := h
    refine ⟨_, PSs.nox (pss_cons (ps_if (pt_cmpR op_eq (pv 1) pe_int (nomark _)) (pss_one (ps_ret (pe_lst pa_nil))) pss_nil)
      (pss_one (ps_ret (pe_lc (own := [("row", 2), ("count", 3)]) (g := gP2 K 2 3) (tt := tYes) (by rfl) sc_scaled.nd (pi_list (pv 0))
      (blkOk_by (own := [("row", 2), ("count", 3)]) (N := ["bag", "factor", "row", "count"]) (sc := defScope s_scaled) (by decide +kernel))
      (fun _ _ _ _ _ => pg_tup rfl (pgs_cons (pg_name (i := 2) sc_scaled.nd rfl (Or.inl rfl)) (pgs_cons (pg_name (i := 3) sc_scaled.nd rfl (Or.inl rfl)) pgs_nil))) (fun _ _ _ _ _ => pts_nil)
      (fun _ _ _ _ _ => pe_tup (pa_cons (pv 2) (pa_cons (pe_op op_mul (pv 3) (pv 1)) pa_nil))))))), ?_⟩
    refine ⟨_, rfl, rfl, _, rfl, ?_⟩
    by_cases hm : m = 0
    · subst hm
      refine iteT ⟨Nat.zero_le _, fun p hp => q _ _ (same_new hp) hp ⟨[], upd_same, ?_⟩⟩
      unfold scaleB
      rw [if_pos rfl]
      exact .nil
    · have e : decide (V.int m = V.int 0) = false := decide_eq_false fun z => hm (by injection z)
      rw [e]
      refine iteF ?_
      obtain ⟨ts, h1, h2⟩ := id hb
      refine ⟨_, rfl, a, rfl, ⟨_, sq_l h1⟩, fun D hD => ?_⟩
      have hn : b.length = ts.length := h2.length.symm
      refine lc_same (walk_list (xs := ts.map V.ref)) b (by rw [List.length_map, hn]) (fun _ => true) (fun H v e => ∃ t, v = .ref t ∧ PairAt H t (e.1, e.2 * m)) (fun _ _ _ _ k ⟨t, e, z⟩ => ⟨t, e, z.tk k⟩) hD (fun H' s' => sq_l (s' _ _ h1)) (by rw [List.length_map]; omega) ?_ ?_
      · rintro i x e H1 _ hi he s1 ⟨rfl, hx⟩ Q' Qn k1 _
        obtain ⟨t, ht, rfl⟩ := ref_at hx
        obtain ⟨qa, p1, p2⟩ := (each_get h2 ht he).mono s1
        refine gp2 p1 ⟨rfl, yes_in ⟨_, rfl, _, rfl, _, rfl, _, _, rfl, rfl, .inr ⟨by omega, by omega⟩, (by show 2 ≤ sizeLine; decide), fun p hp => ?_⟩⟩
        exact k1 rfl _ _ (same_new hp) ⟨p, rfl, pair_new hp p2⟩
      · intro H1 acc s1 ha he
        rw [filter_true] at he
        obtain ⟨as, rfl, hp⟩ := each_list (P := fun t (e : Row × Int) => PairAt H1 t (e.1, e.2 * m)) (fun v e z => z) he
        refine q _ _ s1 hD ⟨as, ha, ?_⟩
        unfold scaleB
        rw [if_neg hm]
        exact each_map_r (R := PairAt H1) (fun e : Row × Int => (e.1, e.2 * m)) hp
def spRowsOfN : Sp := fun vs H Q _ => ∃ (p : Addr) (b : Bag), vs = [.ref p] ∧ BagAt H p b ∧ b.length ≤ 20000 ∧ ∀ q H', Same H H' → H q = none → RowsAt H' q (posRows b) → Q (.ref q) H'
theorem ok_rows_ofN (F : FnP K "rows_of" s_rows_of f fd) : FnOk P w K mg base CX0 1 f fd ["bag"] spRowsOfN := by
  refine F.ok sc_rows_of (fun vs H Q E h => ?_) (fun cdv A outer s H vs Q E hr h => ?_)
  · obtain ⟨n, r, rfl, _⟩ := h
    rfl
  · obtain ⟨a, b, rfl, hb, hl, q⟩ := h
    refine ⟨_, PSs.nox (pss_one (ps_ret (pe_lc (own := [("row", 1), ("count", 2)]) (g := gP2 K 1 2) (tt := tTest (tOp (rI0 fun i j => .bl (decide (i > j))) (tVar 2) (tC (.int 0)))) (by rfl) sc_rows_of.nd (pi_list (pv 0))
      (blkOk_by (own := [("row", 1), ("count", 2)]) (N := ["bag", "row", "count"]) (sc := defScope s_rows_of) (by decide +kernel))
      (fun _ _ _ _ _ => pg_tup rfl (pgs_cons (pg_name (i := 1) sc_rows_of.nd rfl (Or.inl rfl)) (pgs_cons (pg_name (i := 2) sc_rows_of.nd rfl (Or.inl rfl)) pgs_nil))) (fun _ _ _ _ _ => pts_one (pt_cmpR op_gt (pv 2) pe_int (nomark _)))
      (fun _ _ _ _ _ => pv 1)))), ?_⟩
    obtain ⟨ts, h1, h2⟩ := id hb
    refine ⟨_, rfl, a, rfl, ⟨_, sq_l h1⟩, fun D hD => ?_⟩
    have hn : b.length = ts.length := h2.length.symm
    refine lc_same (walk_list (xs := ts.map V.ref)) b (by rw [List.length_map, hn]) (fun e => decide (e.2 > 0)) (fun H v e => ∃ t, v = .ref t ∧ RowAt H t e.1) (fun _ _ _ _ k ⟨t, e, z⟩ => ⟨t, e, z.tk k⟩) hD (fun H' s' => sq_l (s' _ _ h1)) (by rw [List.length_map]; omega) ?_ ?_
    · rintro i x e H1 _ hi he s1 ⟨rfl, hx⟩ Q' Qn k1 k2
      obtain ⟨t, ht, rfl⟩ := ref_at hx
      obtain ⟨qa, p1, p2⟩ := (each_get h2 ht he).mono s1
      refine gp2 p1 ⟨rfl, if_in (c := decide (e.2 > 0)) (fun Q z => ⟨_, rfl, _, _, rfl, rfl, _, rfl, z⟩) (fun hc => ⟨_, rfl, k1 hc _ _ (Same.refl _) ⟨qa, rfl, p2⟩⟩) fun hc => k2 hc _ (Same.refl _)⟩
    · intro H1 acc s1 ha he
      obtain ⟨as, rfl, hp⟩ := each_list (P := fun t (e : Row × Int) => RowAt H1 t e.1) (fun v e z => z) he
      exact q _ _ s1 hD ⟨as, ha, each_map_r (R := RowAt H1) (fun e : Row × Int => e.1) hp⟩
def spSupportN : Sp := fun vs H Q _ => ∃ (p : Addr) (b : Bag), vs = [.ref p] ∧ BagAt H p b ∧ b.length ≤ 20000 ∧ ∀ q H', Same H H' → H q = none → BagAt H' q (onesB (posRows b)) → Q (.ref q) H'
theorem ok_supportN (F : FnP K "support" s_support f fd) (C : Cal P w K mg base "rows_of" 1 ["bag"] spRowsOfN) : FnOk P w K mg base CX0 2 f fd ["bag"] spSupportN := by
  refine F.ok sc_support (fun vs H Q E h => ?_) (fun cdv A outer s H vs Q E hr h => ?_)
  · obtain ⟨n, r, rfl, _⟩ := h
    rfl
  · obtain ⟨a, b, rfl, hb, hl, q⟩ := h
    refine ⟨_, PSs.nox (pss_one (ps_ret (pe_lc (own := [("row", 1)]) (g := gName 1) (tt := tYes) (by rfl) sc_support.nd (pi_list (pe_cal C hr (pa_cons (pv 0) pa_nil)))
      (blkOk_by (own := [("row", 1)]) (N := ["bag", "row"]) (sc := defScope s_support) (by decide +kernel))
      (fun _ _ _ _ _ => pg_name (i := 1) sc_support.nd rfl (Or.inl rfl)) (fun _ _ _ _ _ => pts_nil)
      (fun _ _ _ _ _ => pe_tup (pa_cons (pv 1) (pa_cons pe_int pa_nil)))))), ?_⟩
    refine ⟨_, rfl, a, b, rfl, hb, hl, fun p H0 s0 _ hrw => ?_⟩
    obtain ⟨ts, h1, h2⟩ := id hrw
    refine ⟨p, rfl, ⟨_, sq_l h1⟩, fun D hD => ?_⟩
    have hn : (posRows b).length = ts.length := h2.length.symm
    have hle : (posRows b).length ≤ 20000 := by
      unfold posRows
      rw [List.length_map]
      exact Nat.le_trans (List.length_filter_le ..) hl
    refine lc_same (walk_list (xs := ts.map V.ref)) (posRows b) (by rw [List.length_map, hn]) (fun _ => true) (fun H v r => ∃ t, v = .ref t ∧ PairAt H t (r, 1)) (fun _ _ _ _ k ⟨t, e, z⟩ => ⟨t, e, z.tk k⟩) hD (fun H' s' => sq_l (s' _ _ h1)) (by rw [List.length_map]; omega) ?_ ?_
    · rintro i x e H1 _ hi he s1 ⟨rfl, hx⟩ Q' Qn k1 _
      obtain ⟨t, ht, rfl⟩ := ref_at hx
      have p2 := (each_get h2 ht he).mono s1
      exact ⟨rfl, yes_in ⟨_, rfl, (by show 2 ≤ sizeLine; decide), fun p hp => k1 rfl _ _ (same_new hp) ⟨p, rfl, pair_new hp p2⟩⟩⟩
    · intro H1 acc s1 ha he
      rw [filter_true] at he
      obtain ⟨as, rfl, hp⟩ := each_list (P := fun t (r : Row) => PairAt H1 t (r, 1)) (fun v e z => z) he
      exact q _ _ (s0.trans s1) (s0.free hD) ⟨as, ha, each_map_r (R := PairAt H1) (fun r : Row => (r, 1)) hp⟩
def spMakeBagN : Sp := fun vs H Q _ => ∃ (p : Addr) (b : Bag), vs = [.ref p] ∧ BagAt H p b ∧ b.length ≤ 20000 ∧ RowB 1000 b ∧ ∀ q H', Same H H' → H q = none → BagAt H' q (mk b) → Q (.ref q) H'
theorem ok_make_bagN (F : FnP K "make_bag" s_make_bag f fd) (gS : mg "sorted" = none) (C : Cal P w K mg base "row_rank" 2 ["row"] (spKey K rankRow)) : FnOk P w K mg base CX0 5 f fd ["pairs"] spMakeBagN := by
  obtain ⟨fR, fdR, gR, kR, bR, GR⟩ := C
  refine F.ok sc_make_bag (fun vs H Q E h => ?_) (fun cdv A outer s H vs Q E hr h => ?_)
  · obtain ⟨n, r, rfl, _⟩ := h
    rfl
  · obtain ⟨a, b, rfl, hb, hl, hrb, q⟩ := h
    have hcall : ∀ E0 : XK, KeyCall (cxOf CX0 P w K mg base ["pairs", "counts", "row", "count", "rows"] "make_bag" (defScope s_make_bag) f cdv A outer s H E0).nox rankRow fR := fun _ => keyCall_of GR bR hr
    refine ⟨_, PSs.nox (pss_cons (ps_set (i := 1) sc_make_bag.nd rfl (Or.inr rfl) pe_dnewT)
      (pss_cons (ps_for PassesOwn.never rfl (pi_list (pv 0)) (pg_tup rfl (pgs_cons (pg_name (i := 2) sc_make_bag.nd rfl (Or.inl rfl)) (pgs_cons (pg_name (i := 3) sc_make_bag.nd rfl (Or.inl rfl)) pgs_nil)))
        (pss_one (ps_dput hr.u1 (pv 1) (pv 2) (pe_op op_add (pe_dget2 hr.u1 (pv 1) (pv 2) pe_int ⟨rfl, rfl, rfl, rfl⟩) (pv 3)) rfl)))
      (pss_cons (ps_lock (ps_setLc (i := 4) (own := [("row", 2)]) (g := gName 2) (tt := tTest (tOp rNe (tDGet (tVar 1) (tVar 2)) (tC (.int 0)))) (by rfl) sc_make_bag.nd rfl rfl (sw_true rfl rfl rfl (by decide +kernel)) (pi_keys (pv 1))
        (blkOk_by (own := [("row", 2)]) (N := ["pairs", "counts", "row", "count", "rows"]) (sc := defScope s_make_bag) (by decide +kernel)) (fun _ _ _ _ _ => pg_name (i := 2) sc_make_bag.nd rfl (Or.inl rfl))
        (fun _ _ _ _ _ => pts_one (pt_cmpR op_ne (pe_dget hr.u1 (pv 1) (pv 2) (fun _ _ => rfl)) pe_int (nomark _))) (fun _ _ _ _ _ => pv 2)))
      (pss_one (ps_ret (pe_lc (own := [("row", 2)]) (g := gName 2) (tt := tYes) (by rfl) sc_make_bag.nd
        (pi_list (pe_callBK (cr_sortKey tells_rank (fun _ _ _ _ _ _ e u => sorts_rank e u) (hcall _) hr.u64 rfl) (by rfl) gS (by decide +kernel) (pa_cons (pv 4) pa_nil) (pk_cons (pe_glob (v := .ref fR) rfl gR rfl) pk_nil)))
        (blkOk_by (own := [("row", 2)]) (N := ["pairs", "counts", "row", "count", "rows"]) (sc := defScope s_make_bag) (by decide +kernel)) (fun _ _ _ _ _ => pg_name (i := 2) sc_make_bag.nd rfl (Or.inl rfl)) (fun _ _ _ _ _ => pts_nil)
        (fun _ _ _ _ _ => pe_tup (pa_cons (pv 2) (pa_cons (pe_dget hr.u1 (pv 1) (pv 2) (fun _ _ => rfl)) pa_nil))))))))), ?_⟩
    refine fun d hd => ?_
    obtain ⟨ts, b1, b2⟩ := id hb
    refine ⟨_, rfl, a, rfl, ⟨_, sq_l (same_new hd _ _ b1)⟩, count_loop hb hl (same_new hd) hd upd_same [none] none none _ fun u v H1 s1 h1 => ?_⟩
    refine ⟨d, _, h1, trivial, fun od => ?_⟩
    refine ⟨_, rfl, d, od, rfl, .inr ⟨_, upd_same, fun D hD => ?_⟩⟩
    have nD : D ≠ d := fun z => by
      rw [z, upd_same] at hD
      cases hD
    refine nz_comp (K := K) (si := 1) (sr := 2) (b := b) hl upd_same (by show 2 < 5; decide) (by decide) rfl hD fun H2 s2 hrw => ?_
    refine ⟨s2 _ _ upd_same, ?_⟩
    have s3 : Same H (upd H2 d (.dT (vk (tally b)))) := fun c o hc => by
      have nc : c ≠ d := ne_of_none hc hd
      rw [upd_ne nc]
      refine s2 _ _ ?_
      rw [upd_ne nc]
      exact s1 _ _ hc
    have hrw2 : RowsAt (upd H2 d (.dT (vk (tally b)))) D (nzRows b) := by
      obtain ⟨as, r1, r2⟩ := hrw
      have hdf := s2 _ _ (upd_same (H := H1) (a := d) (o := .frz od (.dT (vk (tally b)))))
      have tk : TupKeep H2 (upd H2 d (.dT (vk (tally b)))) := tk_upd fun xs z => by
        rw [hdf] at z
        cases z
      exact ⟨as, by rw [upd_ne nD]; exact r1, r2.mono fun t r z => z.tk tk⟩
    obtain ⟨as, r1, r2⟩ := id hrw2
    refine ⟨_, rfl, D, as, nzRows b, rfl, rfl, sq_l r1, r2, nz_len hrb, fun c hc => s3.free hc, fun p H4 s4 hp4 hso => ?_⟩
    refine ⟨p, rfl, ?_, fun D2 hD2 => ?_⟩
    · obtain ⟨cs, c1, _⟩ := id hso
      exact ⟨_, sq_l c1⟩
    · exact pair_comp (K := K) (sd := 1) (sr := 2) hl hso (s4 _ _ upd_same) (by show 2 < 5; decide) (by decide) rfl hD2 fun H5 s5 hbag => q _ _ ((s3.trans s4).trans s5) ((s3.trans s4).free hD2) hbag
theorem cat_len {ts us : List Addr} {a b : Bag} {H : Hp} (h1 : EachIs (PairAt H) ts a) (h2 : EachIs (PairAt H) us b) (la : a.length ≤ 10000) (lb : b.length ≤ 10000) : (ts.map V.ref).length + (us.map V.ref).length ≤ sizeLine := by
  rw [List.length_map, List.length_map, h1.length, h2.length]
  exact Nat.le_trans (show _ ≤ 20000 by omega) (by decide)
def spPlusN : Sp := fun vs H Q _ => ∃ (p t : Addr) (a b : Bag), vs = [.ref p, .ref t] ∧ BagAt H p a ∧ BagAt H t b ∧ a.length ≤ 10000 ∧ b.length ≤ 10000 ∧ RowB 1000 a ∧ RowB 1000 b ∧ ∀ q H', Same H H' → H q = none → BagAt H' q (mk (a ++ b)) → Q (.ref q) H'
theorem ok_plusN (F : FnP K "plus" s_plus f fd) (C : Cal P w K mg base "make_bag" 5 ["pairs"] spMakeBagN) : FnOk P w K mg base CX0 6 f fd ["first", "second"] spPlusN := by
  refine F.ok sc_plus (fun vs H Q E h => ?_) (fun cdv A outer s H vs Q E hr h => ?_)
  · obtain ⟨n, r, a, b, rfl, _⟩ := h
    rfl
  · obtain ⟨p, t, a, b, rfl, ha, hb, la, lb, ra, rb, q⟩ := h
    refine ⟨_, PSs.nox (pss_one (ps_ret (pe_cal C hr (pa_cons (pe_op op_cat (pv 0) (pv 1)) pa_nil)))), ?_⟩
    obtain ⟨ts, a1, a2⟩ := id ha
    obtain ⟨us, b1, b2⟩ := id hb
    refine ⟨_, rfl, _, rfl, p, t, _, _, rfl, rfl, a1, b1, cat_len a2 b2 la lb, fun l hl => ?_⟩
    have s1 := same_new (o := .lst (ts.map V.ref ++ us.map V.ref)) hl
    refine ⟨l, a ++ b, rfl, bag_app upd_same (a2.mono fun _ _ z => z.mono s1) (b2.mono fun _ _ z => z.mono s1), by rw [List.length_append]; omega, ra.app rb, fun r H' s' hn hb' => q _ _ (s1.trans s') (s1.free hn) hb'⟩
end
end KA
set_option Elab.async false
set_option linter.all false
set_option maxRecDepth 100000
set_option maxHeartbeats 4000000
/-! d.get(k, x) of a written dict; parts_of -/
namespace KA
open PySem PySem.Spec PyProof.Rows L2 LamX
open PySem.W (EachIs)
def tKGet (K : PySem.W.Frag) (d : Addr) (ty tx : TE) : TE := fun σ H Q => ty σ H fun y H1 => tx σ H1 fun z H2 => ∃ (key : Str) (r : Option Value), y = .str key ∧ PySem.W.nsIn K d key = some r ∧ (r = none → Q z H2) ∧ ∀ u, r = some u → ∃ v, RelV v u ∧ Q v H2
section
variable {X : Cx} {o e f : Expr} {apos cpos : Pos} {ty tx : TE} {d : Addr} {es : Array DictEntry} {n : Nat}
theorem pe_kget (D : KDict X.K X.w d es n) (ho : PE X o (tC (.ref d))) (he : PE X e ty) (hf : PE X f tx) (m : M2 X o "get" apos e f cpos) : PE X (.Call (.Attribute o "get" apos) [e, f] [] cpos) (tKGet X.K d ty tx) := by
  refine ⟨fun pins s σ H Q I h => ?_⟩
  refine wpAny_Call_method m.base m.few m.line PySem.F.plainAttrs_dict PySem.F.slot_dict_get PySem.F.type_dict_get (thn (ho.run pins s σ H (fun v H1 => v = .ref d ∧ H1 = H) I ⟨rfl, rfl⟩) fun u s1 ⟨v, H1, I1, r1, e1, e2⟩ => ?_)
  subst e1 e2
  obtain rfl : u = Value.ref d := r1
  have map1 := fun {s : Shared} (k : X.K.In s.heap) => PySem.W.mapOf_K (prog := X.prog) (w := X.w) k D.at_ D.lit
  refine ⟨(map1 I1.kIn).typeIs, fun b q => ?_, ?_⟩
  · cases q
    exact ⟨_, I1.kIn _ _ D.at_, rfl⟩
  rw [m.trees]
  refine Calls.callWith_builtin rfl (Calls.evalArgs_plain (Calls.spliced_cons (thn (he.run pins s1 σ _ _ I1 h) fun iv s2 ⟨y, H2, I2, ry, q2⟩ => Calls.spliced_cons (thn (hf.run pins s2 σ H2 _ I2 q2) fun fv s3 ⟨z, H3, I3, rz, key, r, ey, look, qn, qs⟩ => Calls.spliced_nil ?_))))
  subst ey
  obtain ⟨t, rfl⟩ := ry
  refine call_meetsIn PySem.F.slot_dict_get (map1 I3.kIn).typeIs PySem.F.entry_dict_get (PySem.F.args_dict_get_3 _ _ _) (meets_dict_get_default (PySem.strKind X.prog X.w) d (PySem.strKind_is X.prog X.w key t) D.low fv) ⟨_, map1 I3.kIn, ?_⟩
  rw [PySem.W.find_K D.at_ look]
  cases r with
  | none => exact ⟨z, H3, I3.tok _, rz, qn rfl⟩
  | some u =>
    obtain ⟨v, rv, q⟩ := qs u rfl
    exact ⟨v, H3, I3.tok _, rv, q⟩
end
/-- the written dict that tells how many parts a term has -/
structure ManyAt (K : PySem.W.Frag) (w : World) (d : Addr) : Prop where
  dict : ∃ es n, KDict K w d es n
  at_ : ∀ t : Tm, (t.kids.length = 0 ∧ PySem.W.nsIn K d t.tag = some none) ∨ ∃ u, PySem.W.nsIn K d t.tag = some (some u) ∧ RelV (.int (t.kids.length : Nat)) u
section
variable {P : Program} {w : World} {K : PySem.W.Frag} {mg : Str → Option Value} {base : Heap} {f : Addr} {fd : FuncData}
def spParts (K : PySem.W.Frag) : Sp := fun vs H Q _ => ∃ (a : Addr) (t : Tm) (xs us : List V), vs = [.ref a] ∧ SqT K H a (.str t.tag :: (xs ++ us)) ∧ us.length = t.kids.length ∧ ∀ p H', Same H H' → SqT K H' p us → Q (.ref p) H'
theorem ok_parts {dm : Addr} (F : FnP K "parts_of" s_parts_of f fd) (gL : mg "len" = none) (gM : mg "MANY_PARTS" = some (.ref dm)) (M : ManyAt K w dm) : FnOk P w K mg base CX0 1 f fd ["term"] (spParts K) := by
  obtain ⟨es, n, D⟩ := M.dict
  refine F.ok sc_parts_of (fun vs H Q E h => ?_) (fun cdv A outer s H vs Q E hr h => ?_)
  · obtain ⟨a, t, xs, us, rfl, _⟩ := h
    rfl
  · obtain ⟨a, t, xs, us, rfl, hs, hl, q⟩ := h
    refine ⟨_, PSs.nox (pss_one (ps_ret (pe_slice sl_tup (pv 0) (po_some (pe_op op_sub (pe_callB call_len_seq (by rfl) gL PySem.boot_len (pa_cons (pv 0) pa_nil)) (pe_kget D (pe_glob (v := .ref dm) rfl gM rfl) (pe_ix ix_tup (pv 0) pe_int (fun _ _ => rfl)) pe_int ⟨rfl, rfl, rfl, rfl⟩))) po_none))), ?_⟩
    have e1 : (((V.str t.tag :: (xs ++ us)).length : Nat) : Int) - ((t.kids.length : Nat) : Int) = (((V.str t.tag :: xs).length : Nat) : Int) := by
      simp only [List.length_cons, List.length_append]
      omega
    have fin : ∀ z : Int, z = ((t.kids.length : Nat) : Int) → ∃ i, V.int ((((V.str t.tag :: (xs ++ us)).length : Nat) : Int) - z) = V.int i ∧ rSlT K (.ref a) (some i) none H Q := fun z ez => by
      subst ez
      refine ⟨_, congrArg V.int e1, a, _, rfl, hs, fun z => ?_, fun p hp => ?_⟩
      · have z1 := z.1
        rw [HT.sIx_nat] at z1
        simp only [List.length_cons, List.length_append] at z1
        omega
      · rw [cut_from _ (by simp only [List.length_cons, List.length_append]; omega)]
        have et : (V.str t.tag :: (xs ++ us)).drop (V.str t.tag :: xs).length = us := by
          rw [← List.cons_append, List.drop_left]
        rw [et]
        exact q p _ (same_new hp) (sq_t upd_same)
    refine ⟨_, rfl, _, rfl, a, _, rfl, .inr hs, _, rfl, a, _, 0, _, rfl, rfl, hs, atI_nat (j := 0) rfl, ?_⟩
    rcases M.at_ t with ⟨m, look⟩ | ⟨u, look, ru⟩
    · exact ⟨_, _, rfl, look, fun _ => ⟨_, _, rfl, rfl, fin 0 (by rw [m]; rfl)⟩, fun u z => by cases z⟩
    · exact ⟨_, _, rfl, look, (fun z => by cases z), fun u' z => by cases z; exact ⟨_, ru, _, _, rfl, rfl, fin _ rfl⟩⟩
end
end KA
set_option Elab.async false
set_option linter.all false
set_option maxRecDepth 100000
set_option maxHeartbeats 4000000
/-! with_parts, renewed, new_form -/
namespace KA
open PySem PySem.Spec PyProof.Rows L2 LamX
open PySem.W (EachIs)
/-! ### data of tuples alone -/
mutual
def flatD : PyData → Bool
  | .tuple ds => flatA ds
  | .list _ => false
  | .dict _ => false
  | _ => true
def flatA : List PyData → Bool
  | [] => true
  | d :: ds => flatD d && flatA ds
end
theorem flat_keys : ∀ r : Row, flatA (r.map keyD) = true
  | [] => rfl
  | x :: r => by
    rw [List.map_cons, flatA, flat_keys r, Bool.and_true]
    cases x <;> rfl
theorem flat_pair (e : Row × Int) : flatD (pairD e) = true := by
  show (flatA (e.1.map keyD) && _) = true
  rw [flat_keys]
  rfl
theorem flat_ex : ∀ e : Ex, flatD e.d = true
  | .at_ k => rfl
  | .const x => by cases x <;> rfl
  | .ite c a b => by
    show (true && (flatD c.d && (flatD a.d && (flatD b.d && true)))) = true
    rw [flat_ex c, flat_ex a, flat_ex b]
    rfl
  | .bin o a b => by
    show (true && (flatD a.d && (flatD b.d && true))) = true
    rw [flat_ex a, flat_ex b]
    rfl
mutual
theorem dp_flat {X M : Hp} (k : ∀ a xs, X a = some (.tup xs) → M a = some (.tup xs)) (n : ∀ a o xs, X a ≠ some (.frz o (.tup xs))) : ∀ (d : PyData) (v : V), flatD d = true → Dp [] X v d → Dp [] M v d
  | .none, _, _, h => by cases h; exact .non
  | .bool b, _, _, h => by cases h; exact .bl b
  | .int i, _, _, h => by cases h; exact .int i
  | .str x, _, _, h => by cases h; exact .str x
  | .list ds, _, f, _ => by cases f
  | .tuple ds, _, f, h => by
    cases h with
    | tup hs ha =>
      refine .tup ?_ (dpa_flat k n ds _ f ha)
      rcases hs with (q | ⟨o, q⟩) | ⟨_, _, _, z, _⟩
      · exact .inl (.inl (k _ _ q))
      · exact absurd q (n _ _ _)
      · cases z
  | .dict _, _, _, h => by cases h
theorem dpa_flat {X M : Hp} (k : ∀ a xs, X a = some (.tup xs) → M a = some (.tup xs)) (n : ∀ a o xs, X a ≠ some (.frz o (.tup xs))) : ∀ (ds : List PyData) (vs : List V), flatA ds = true → DpAll [] X vs ds → DpAll [] M vs ds
  | [], _, _, h => by cases h; exact .nil
  | d :: ds, _, f, h => by
    cases h with
    | cons h1 h2 =>
      have f' : (flatD d && flatA ds) = true := f
      rw [Bool.and_eq_true] at f'
      exact .cons (dp_flat k n d _ f'.1 h1) (dpa_flat k n ds _ f'.2 h2)
end
theorem flat_map {α : Type} {D : α → PyData} (h : ∀ x, flatD (D x) = true) : ∀ l : List α, flatA (l.map D) = true
  | [] => rfl
  | x :: l => by rw [List.map_cons, flatA, h x, flat_map h l]; rfl
/-! ### a term's size -/
def Tm.size : Tm → Nat
  | .name _ _ => 1
  | .bag _ => 1
  | .map _ t => t.size + 1
  | .keep _ t => t.size + 1
  | .neg t => t.size + 1
  | .once t => t.size + 1
  | .fold _ _ _ t => t.size + 1
  | .plus a b => a.size + b.size + 1
  | .join _ _ _ a b => a.size + b.size + 1
theorem Tm.kids_size (t : Tm) : szs Tm.size t.kids < t.size := by
  cases t <;> simp only [kids, szs, size, List.map_cons, List.map_nil, List.sum_cons, List.sum_nil] <;> omega
theorem Tm.size_le : ∀ t : Tm, t.size ≤ 4 ^ t.depth
  | .name _ _ => Nat.le_refl _
  | .bag _ => Nat.le_refl _
  | .map _ t => by have := size_le t; have := Nat.one_le_pow t.depth 4 (by decide); show t.size + 1 ≤ 4 ^ (t.depth + 1); rw [Nat.pow_succ]; omega
  | .keep _ t => by have := size_le t; have := Nat.one_le_pow t.depth 4 (by decide); show t.size + 1 ≤ 4 ^ (t.depth + 1); rw [Nat.pow_succ]; omega
  | .neg t => by have := size_le t; have := Nat.one_le_pow t.depth 4 (by decide); show t.size + 1 ≤ 4 ^ (t.depth + 1); rw [Nat.pow_succ]; omega
  | .once t => by have := size_le t; have := Nat.one_le_pow t.depth 4 (by decide); show t.size + 1 ≤ 4 ^ (t.depth + 1); rw [Nat.pow_succ]; omega
  | .fold _ _ _ t => by have := size_le t; have := Nat.one_le_pow t.depth 4 (by decide); show t.size + 1 ≤ 4 ^ (t.depth + 1); rw [Nat.pow_succ]; omega
  | .plus a b => by
    have h2 := size_le a
    have h3 := size_le b
    have m2 : 4 ^ a.depth ≤ 4 ^ max a.depth b.depth := Nat.pow_le_pow_right (by decide) (by omega)
    have m3 : 4 ^ b.depth ≤ 4 ^ max a.depth b.depth := Nat.pow_le_pow_right (by decide) (by omega)
    have p4 : 1 ≤ 4 ^ max a.depth b.depth := Nat.one_le_pow _ _ (by decide)
    show a.size + b.size + 1 ≤ 4 ^ (max a.depth b.depth + 1)
    rw [Nat.pow_succ]
    omega
  | .join _ _ _ a b => by
    have h2 := size_le a
    have h3 := size_le b
    have m2 : 4 ^ a.depth ≤ 4 ^ max a.depth b.depth := Nat.pow_le_pow_right (by decide) (by omega)
    have m3 : 4 ^ b.depth ≤ 4 ^ max a.depth b.depth := Nat.pow_le_pow_right (by decide) (by omega)
    have p4 : 1 ≤ 4 ^ max a.depth b.depth := Nat.one_le_pow _ _ (by decide)
    show a.size + b.size + 1 ≤ 4 ^ (max a.depth b.depth + 1)
    rw [Nat.pow_succ]
    omega
theorem Tm.size_bd {t : Tm} (h : t.depth < 8) : t.size ≤ 100000 :=
  Nat.le_trans (Nat.le_trans t.size_le (Nat.pow_le_pow_right (by decide) (Nat.le_of_lt h))) (show 4 ^ 8 ≤ 100000 by decide)
/-! ### with_parts -/
/-- a list is copied, all else stays -/
def Cp (H H' : Hp) (v x : V) : Prop := (v = x ∧ ∀ b ys, x = .ref b → H b ≠ some (.lst ys)) ∨ ∃ b q ys, x = .ref b ∧ v = .ref q ∧ H b = some (.lst ys) ∧ H q = none ∧ H' q = some (.lst ys)
theorem Cp.mono {H H' H'' : Hp} (s : Same H' H'') {v x : V} (h : Cp H H' v x) : Cp H H'' v x := by
  rcases h with h | ⟨b, q, ys, h1, h2, h3, h4, h5⟩
  · exact .inl h
  · exact .inr ⟨b, q, ys, h1, h2, h3, h4, s _ _ h5⟩
/-- list(x) -/
abbrev rListOf (K : PySem.W.Frag) : List V → Hp → VK → Prop := fun xs H Q => ∃ p ys, xs = [.ref p] ∧ (SqL K H p ys ∨ SqT K H p ys) ∧ ∀ l, H l = none → Q (.ref l) (upd H l (.lst ys))
/-- what stands in a term ahead of its parts: a text, a tuple or a list -/
def ItemIs (H : Hp) (x : V) : Prop := (∃ z, x = .str z) ∨ (∃ b ys, x = .ref b ∧ H b = some (.tup ys)) ∨ ∃ b ys, x = .ref b ∧ H b = some (.lst ys)
section
variable {P : Program} {w : World} {K : PySem.W.Frag} {mg : Str → Option Value} {base : Heap} {f : Addr} {fd : FuncData}
def spWith : Sp := fun vs H Q _ => ∃ (a lp : Addr) (xs us ps : List V), vs = [.ref a, .ref lp] ∧ H a = some (.tup (xs ++ us)) ∧ H lp = some (.lst ps) ∧ us.length = ps.length ∧ xs ≠ [] ∧ xs.length ≤ 10 ∧ ps.length ≤ 10 ∧ (∀ x ∈ xs, ItemIs H x) ∧
  ∀ p xs' H', Same H H' → H p = none → H' p = some (.tup (xs' ++ ps)) → EachIs (Cp H H') xs' xs → Q (.ref p) H'
theorem ok_with (F : FnP K "with_parts" s_with_parts f fd) (gL : mg "len" = none) (gU : mg "tuple" = none) (gS : mg "list" = none) (gI : mg "isinstance" = none) : FnOk P w K mg base CX0 1 f fd ["term", "parts"] spWith := by
  refine F.ok sc_with_parts (fun vs H Q E h => ?_) (fun cdv A outer s H vs Q E hr h => ?_)
  · obtain ⟨a, lp, xs, us, ps, rfl, _⟩ := h
    rfl
  · obtain ⟨a, lp, xs, us, ps, rfl, ha, hlp, hl, hne, hx10, hp10, hit, q⟩ := h
    refine ⟨_, PSs.nox (pss_cons (ps_set (i := 2) sc_with_parts.nd rfl (Or.inl rfl) (pe_slice sl_tupA (pv 0) po_none (po_some (pe_op op_sub (pe_callB call_len_seq (by rfl) gL PySem.boot_len (pa_cons (pv 0) pa_nil)) (pe_callB call_len_seq (by rfl) gL PySem.boot_len (pa_cons (pv 1) pa_nil))))))
      (pss_one (ps_ret (pe_callTy call_tuple_of (by rfl) gU (by decide +kernel) (pa_cons (pe_op op_cat (pe_lc (own := [("item", 3)]) (g := gName 3) (tt := tYes) (by rfl) sc_with_parts.nd (pi_tup (pv 2))
        (blkOk_by (own := [("item", 3)]) (N := ["term", "parts", "before", "item"]) (sc := defScope s_with_parts) (by decide +kernel)) (fun _ _ _ _ _ => pg_name (i := 3) sc_with_parts.nd rfl (Or.inl rfl)) (fun _ _ _ _ _ => pts_nil)
        (fun _ _ _ _ _ => pe_ifExp (pt_val (pe_callB (id := "isinstance") (r := rIsi K) call_isi (by rfl) gI (by decide +kernel) (pa_cons (pv 3) (pa_cons (pe_bltn (v := .ty "list") (by rfl) gS (by decide +kernel) rfl) pa_nil)))) (pe_callTy (T := "list") (r := rListOf K) call_list_of (by rfl) gS (by decide +kernel) (pa_cons (pv 3) pa_nil)) (pv 3))) (pv 1)) pa_nil))))), ?_⟩
    have e1 : (((xs ++ us).length : Nat) : Int) - ((ps.length : Nat) : Int) = ((xs.length : Nat) : Int) := by
      rw [List.length_append]
      omega
    have big : (100 : Nat) ≤ sizeLine := by decide
    -- what comes behind the cut: the tuple xs stands at b
    have go : ∀ (b : Addr) (H1 : Hp), Same H H1 → H1 b = some (.tup xs) → ∀ D, H1 D = none → ∀ (Qd : Hp → Prop), (∀ H2 acc, Same H1 H2 → H2 D = some (.lst acc) → EachIs (fun v x => Cp H (off D H2) v x) acc xs → Qd H2) →
        ∃ W : Nat → Nat → Hp → Prop, (∃ m, W 0 m (upd H1 D (.lst []))) ∧ ∀ i m H', W i m H' → ((Itt K b).stop i H' ∧ Qd H') ∨ ((Itt K b).go i H' ∧ ∃ Nx : Hp → Prop, (∀ H'', Nx H'' → ∃ m', m' < m ∧ W (i + 1) m' H'') ∧
          ∀ x H'', (Itt K b).yld i H' x H'' → gName 3 x (wipe [some (.ref a), some (.ref lp), some (.ref b), none] [3]) H'' fun σ2 H2 => wipe σ2 [3] = wipe [some (.ref a), some (.ref lp), some (.ref b), none] [3] ∧ tYes σ2 H2 fun c H3 =>
            if c = true then tIf (tB (tCB (rIsi K) (tCons (tVar 3) (tCons (tC (V.ty "list")) tNil)))) (tCB (rListOf K) (tCons (tVar 3) tNil)) (tVar 3) σ2 H3 fun y H4 => ∃ acc, H4 D = some (.lst acc) ∧ acc.length < sizeLine ∧ Nx (upd H4 D (.lst (acc ++ [y]))) else Nx H3) := by
      intro b H1 s1 hb D hD Qd done
      refine lc_off (walk_tup (xs := xs)) xs rfl (D := D) (fun H2 v x => Cp H (off D H2) v x) (fun _ _ _ _ kp h => Cp.mono (off_same kp) h) hD (fun H' s' => sq_t (s' _ _ hb)) (by omega) ?_ done
      rintro i x y H2 _ hi hy s2 ⟨acc, hacc⟩ ⟨rfl, hx⟩ Q' Qn k1
      obtain rfl : x = y := Option.some.inj (hx.symm.trans hy)
      have s02 := s1.trans s2
      refine ⟨rfl, yes_in ?_⟩
      rcases hit x (List.mem_of_getElem? hx) with ⟨z, rfl⟩ | ⟨c, ys, rfl, hc⟩ | ⟨c, ys, rfl, hc⟩
      · exact ⟨_, rfl, _, _, .type "str", .type "list", false, rfl, .ty "list", .base (.str z), kit_ty (by decide +kernel), _, rfl, iteF ⟨_, rfl, k1 _ _ (Same.refl _) (.inl ⟨rfl, fun b ys z => by cases z⟩)⟩⟩
      · refine ⟨_, rfl, _, _, .type "tuple", .type "list", false, rfl, .ty "list", .base (.tup (s02 _ _ hc)), kit_ty (by decide +kernel), _, rfl, iteF ⟨_, rfl, k1 _ _ (Same.refl _) (.inl ⟨rfl, fun b2 ys2 z => ?_⟩)⟩⟩
        cases z
        rw [hc]
        intro z
        cases z
      · refine ⟨_, rfl, _, _, .type "list", .type "list", true, rfl, .ty "list", .base (.lst (s02 _ _ hc)), kit_ty (by decide +kernel), _, rfl, iteT ⟨_, rfl, c, ys, rfl, .inl (sq_l (s02 _ _ hc)), fun l hl => ?_⟩⟩
        refine k1 _ _ (same_new hl) (.inr ⟨c, l, ys, rfl, rfl, hc, s02.free hl, ?_⟩)
        unfold off
        rw [if_neg fun z => by rw [z] at hl; rw [hl] at hacc; cases hacc]
        exact upd_same
    -- what comes behind the comprehension
    have fin : ∀ (D : Addr) (H2 : Hp) (acc : List V), Same H H2 → H D = none → H2 D = some (.lst acc) → EachIs (fun v x => Cp H (off D H2) v x) acc xs → ∃ l b xs zs, V.ref D = .ref l ∧ V.ref lp = .ref b ∧ H2 l = some (.lst xs) ∧ H2 b = some (.lst zs) ∧ xs.length + zs.length ≤ sizeLine ∧ ∀ p, H2 p = none →
        ∃ p' ys, [V.ref p] = [.ref p'] ∧ ((SqL K (upd H2 p (.lst (xs ++ zs))) p' ys ∧ ∀ l, upd H2 p (.lst (xs ++ zs)) l = none → Q (.ref l) (upd (upd H2 p (.lst (xs ++ zs))) l (.tup ys))) ∨ (SqT K (upd H2 p (.lst (xs ++ zs))) p' ys ∧ Q (.ref p') (upd H2 p (.lst (xs ++ zs))))) := by
      intro D H2 acc s2 hD hacc he
      have la := he.length
      refine ⟨D, lp, acc, ps, rfl, rfl, hacc, s2 _ _ hlp, by omega, fun p hp => ⟨p, _, rfl, .inl ⟨sq_l upd_same, fun l hl => ?_⟩⟩⟩
      have s3 := (s2.trans (same_new (o := .lst (acc ++ ps)) hp)).trans (same_new (o := .tup (acc ++ ps)) hl)
      refine q l acc _ s3 ((s2.trans (same_new hp)).free hl) upd_same (he.mono fun v x z => Cp.mono ?_ z)
      exact ((off_sub D H2).trans (same_new hp)).trans (same_new hl)
    refine ⟨_, rfl, _, rfl, a, _, rfl, .inr (sq_t ha), _, rfl, lp, _, rfl, .inl (sq_l hlp), _, _, rfl, rfl, _, congrArg V.int e1, a, _, rfl, sq_t ha, fun hw => ?_, fun hw p hp => ?_⟩
    · have hu : us = [] := by
        have h := hw.2
        rw [HT.sIx_nat, List.length_append] at h
        exact List.eq_nil_of_length_eq_zero (by omega)
      subst hu
      rw [List.append_nil] at ha
      refine ⟨_, rfl, a, rfl, ⟨_, sq_t ha⟩, fun D hD => go a H (Same.refl _) ha D hD _ fun H2 acc s2 hacc he => ⟨_, rfl, ?_⟩⟩
      exact fin D H2 acc s2 hD hacc he
    · rw [cut_nat, List.take_left]
      have s1 := same_new (o := .tup xs) hp
      refine ⟨_, rfl, p, rfl, ⟨_, sq_t upd_same⟩, fun D hD => go p _ s1 upd_same D hD _ fun H2 acc s2 hacc he => ⟨_, rfl, ?_⟩⟩
      exact fin D H2 acc (s1.trans s2) (s1.free hD) hacc he
end
end KA
set_option Elab.async false
set_option linter.all false
set_option maxRecDepth 100000
set_option maxHeartbeats 4000000
/-! renewed, new_form -/
namespace KA
open PySem PySem.Spec PyProof.Rows L2 LamX
open PySem.W (EachIs)
theorem each_cons_inv {α β : Type} {R : α → β → Prop} {as : List α} {b : β} {bs : List β} (h : EachIs R as (b :: bs)) : ∃ a t, as = a :: t ∧ R a b ∧ EachIs R t bs := by
  cases h with
  | cons h t => exact ⟨_, _, rfl, h, t⟩
section
variable {H X Y H' : Hp}
theorem sub_notfrz (sub : Sub X H) : ∀ a o xs, X a ≠ some (.frz o (.tup xs)) := fun a o xs z => by
  rcases frm_is (sub _ _ z) with ⟨_, e, _⟩ | ⟨_, e, _⟩ <;> cases e
/-- tuples of a part of the old heap stand in what an answer may consist of -/
theorem mx_flat (sub : Sub X H) (s : Same H H') {d : PyData} {v : V} (f : flatD d = true) (h : Dp [] X v d) : Dp [] (Mx H Y H') v d :=
  dp_flat (fun a xs e => mx_tup s (s _ _ (sub_at sub e))) (sub_notfrz sub) d v f h
theorem mx_flats (sub : Sub X H) (s : Same H H') {ds : List PyData} {vs : List V} (f : flatA ds = true) (h : DpAll [] X vs ds) : DpAll [] (Mx H Y H') vs ds :=
  dpa_flat (fun a xs e => mx_tup s (s _ _ (sub_at sub e))) (sub_notfrz sub) ds vs f h
/-- one item ahead of the parts, as it was or copied -/
theorem cp_item (sub : Sub X H) (s : Same H H') {d : PyData} (hd : flatD d = true ∨ ∃ ds, d = .list ds ∧ flatA ds = true) {x v : V} (hx : Dp [] X x d) (c : Cp H H' v x) : Dp [] (Mx H Y H') v d := by
  rcases hd with f | ⟨ds, rfl, f⟩
  · rcases c with ⟨rfl, _⟩ | ⟨b, q, ys, rfl, rfl, hb, _⟩
    · exact mx_flat sub s f hx
    · cases d with
      | tuple ds =>
        obtain ⟨a, vs, e, _, ha, _⟩ := dx_tup sub hx
        cases e
        rw [hb] at ha
        cases ha
      | list _ => cases f
      | dict _ => cases f
      | _ => cases hx
  · obtain ⟨a, ts, rfl, _, ha, hds⟩ := dx_lst sub hx
    rcases c with ⟨_, n⟩ | ⟨b, q, ys, e, rfl, hb, hq, hq'⟩
    · exact absurd ha (n a _ rfl)
    · cases e
      rw [ha] at hb
      cases hb
      exact .lst (sq_l (mx_new hq (frm_lst hq'))) (mx_flats sub s f hds)
theorem cp_items (sub : Sub X H) (s : Same H H') : ∀ {ds : List PyData} {xs vs : List V}, (∀ d ∈ ds, flatD d = true ∨ ∃ l, d = .list l ∧ flatA l = true) → DpAll [] X xs ds → EachIs (Cp H H') vs xs → DpAll [] (Mx H Y H') vs ds
  | [], _, _, _, h, c => by
    cases h
    cases c
    exact .nil
  | d :: ds, _, _, f, h, c => by
    cases h with
    | cons h1 h2 =>
      obtain ⟨v, vs, rfl, c1, c2⟩ := each_cons_inv c
      exact .cons (cp_item sub s (f d List.mem_cons_self) h1 c1) (cp_items sub s (fun d hd => f d (List.mem_cons_of_mem _ hd)) h2 c2)
theorem item_is (sub : Sub X H) {d : PyData} (hd : (∃ z, d = .str z) ∨ (∃ ds, d = .tuple ds) ∨ ∃ ds, d = .list ds) {x : V} (hx : Dp [] X x d) : ItemIs H x := by
  rcases hd with ⟨z, rfl⟩ | ⟨ds, rfl⟩ | ⟨ds, rfl⟩
  · exact .inl ⟨z, dp_strV hx⟩
  · obtain ⟨a, vs, rfl, _, ha, _⟩ := dx_tup sub hx
    exact .inr (.inl ⟨a, vs, rfl, ha⟩)
  · obtain ⟨a, ts, rfl, _, ha, _⟩ := dx_lst sub hx
    exact .inr (.inr ⟨a, _, rfl, ha⟩)
end
theorem exsD_kind (es : List Ex) : ∃ l, exsD es = .list l ∧ flatA l = true := ⟨_, rfl, flat_map flat_ex es⟩
theorem ex_tup (e : Ex) : ∃ l, e.d = .tuple l := by cases e <;> exact ⟨_, rfl⟩
/-- the items ahead of the parts: texts, tuples without lists, lists of such -/
theorem Tm.pre_kind (t : Tm) : ∀ d ∈ t.pre, (flatD d = true ∨ ∃ l, d = .list l ∧ flatA l = true) ∧ ((∃ z, d = .str z) ∨ (∃ ds, d = .tuple ds) ∨ ∃ ds, d = .list ds) := by
  have ls : ∀ es : List Ex, (flatD (exsD es) = true ∨ ∃ l, exsD es = .list l ∧ flatA l = true) ∧ ((∃ z, exsD es = .str z) ∨ (∃ ds, exsD es = .tuple ds) ∨ ∃ ds, exsD es = .list ds) := fun es => ⟨.inr (exsD_kind es), .inr (.inr ⟨_, rfl⟩)⟩
  have ex : ∀ e : Ex, (flatD e.d = true ∨ ∃ l, e.d = .list l ∧ flatA l = true) ∧ ((∃ z, e.d = .str z) ∨ (∃ ds, e.d = .tuple ds) ∨ ∃ ds, e.d = .list ds) := fun e => ⟨.inl (flat_ex e), .inr (.inl (ex_tup e))⟩
  intro d hd
  cases t with
  | name k n =>
    rw [List.mem_singleton.mp hd]
    exact ⟨.inl rfl, .inl ⟨_, rfl⟩⟩
  | bag b =>
    rw [List.mem_singleton.mp hd]
    exact ⟨.inr ⟨_, rfl, flat_map flat_pair b⟩, .inr (.inr ⟨_, rfl⟩)⟩
  | map es t =>
    rw [List.mem_singleton.mp hd]
    exact ls es
  | keep e t =>
    rw [List.mem_singleton.mp hd]
    exact ex e
  | fold keys k e t =>
    simp only [pre, List.mem_cons, List.not_mem_nil, or_false] at hd
    rcases hd with rfl | rfl | rfl
    · exact ls keys
    · exact ⟨.inl rfl, .inl ⟨_, rfl⟩⟩
    · exact ex e
  | join l r es a b =>
    simp only [pre, List.mem_cons, List.not_mem_nil, or_false] at hd
    rcases hd with rfl | rfl | rfl
    · exact ls l
    · exact ls r
    · exact ls es
  | neg t => cases hd
  | once t => cases hd
  | plus a b => cases hd
section
variable {P : Program} {w : World} {K : PySem.W.Frag} {mg : Str → Option Value} {base : Heap} {f : Addr} {fd : FuncData}
theorem defClo_of {x : Str} {st : Stmt} {ps : List Str} {k : Nat} {sp : Sp} (F : FnP K x st f fd) (b : Binds K fd ps []) (G : FnOk P w K mg base CX0 k f fd ps sp) : DefClo P w K mg base f k sp := by
  obtain ⟨oc, od, dV, kV, doc, pm, an, cdv, ct, osl, e, lk, _⟩ := F.ex
  exact ⟨fd, ps, oc, od, osl, G, lk, b⟩
def spRenewed : Sp := fun vs H Q _ => ∃ (v : V) (lp : Addr) (t : Tm) (X Y : Hp) (us : List V), vs = [v, .ref lp] ∧ Sub X H ∧ Dp [] X v t.d ∧ t.Simple ∧ H lp = some (.lst us) ∧ Sub Y H ∧ DpAll [] Y us ((t.kids.map Tm.newf).map Tm.d) ∧
  ∀ v' H', Same H H' → Dp [] (Mx H Y H') v' t.newf.d → Q v' H'
theorem ok_renewed (F : FnP K "renewed" s_renewed f fd) (CW : Cal P w K mg base "with_parts" 1 ["term", "parts"] spWith) : FnOk P w K mg base CX0 2 f fd ["term", "parts"] spRenewed := by
  refine F.ok sc_renewed (fun vs H Q E h => ?_) (fun cdv A outer s H vs Q E hr h => ?_)
  · obtain ⟨v, lp, t, X, Y, us, rfl, _⟩ := h
    rfl
  · obtain ⟨v, lp, t, X, Y, ps, rfl, sub, hx, hs, hlp, subY, hps, q⟩ := h
    refine ⟨_, PSs.nox (pss_cons (ps_if (pt_cmpR op_eq (pe_ix ix_tup (pv 0) pe_int (fun _ _ => rfl)) pe_str (nomark _)) (pss_one (ps_ret (pe_tup (pa_cons pe_str (pa_cons (pe_ix ix_tup (pv 0) pe_int (fun _ _ => rfl)) pa_nil))))) pss_nil)
      (pss_one (ps_ret (pe_cal CW hr (pa_cons (pv 0) (pa_cons (pv 1) pa_nil)))))), ?_⟩
    obtain ⟨a, xs, us, rfl, hX, ha, h1, h2⟩ := term_at sub hx
    by_cases hN : t.isName = true
    · cases t with
      | name kd nm =>
        obtain rfl : kd = .old := hs
        obtain ⟨y, r, rfl, h3, h4⟩ := dpa_cons h1
        obtain rfl := dp_strV h3
        obtain rfl := dpa_nil h4
        obtain rfl := dpa_nil h2
        refine tag_yes rfl (sq_t ha) (iteT ⟨_, rfl, a, _, 1, _, rfl, rfl, sq_t ha, atI_nat (j := 1) rfl, (by show 2 ≤ sizeLine; decide), fun p hp => ?_⟩)
        exact q _ _ (same_new hp) (.tup (.inl (.inl (mx_new hp (frm_tup upd_same)))) (.cons (.str _) (.cons (.str _) .nil)))
      | _ => cases hN
    have hN' : t.isName = false := by
      cases e : t.isName with
      | false => rfl
      | true => exact absurd e hN
    refine tag_no rfl (sq_t ha) (iteF ?_) (Tm.tag_not hN').1
    have l1 := dpAll_len h1
    have l2 := dpAll_len h2
    have l3 := dpAll_len hps
    rw [List.length_map] at l2
    rw [List.length_map, List.length_map] at l3
    have lk := t.kids_len
    have lp3 := t.pre_len
    refine ⟨_, rfl, _, rfl, a, lp, .str t.tag :: xs, us, ps, rfl, ha, hlp, by omega, (fun z => by cases z), (by rw [List.length_cons]; omega), by omega, fun x hx => ?_, fun p xs' H' s' hp hp' hc => ?_⟩
    · rcases List.mem_cons.mp hx with rfl | hx
      · exact .inl ⟨_, rfl⟩
      · obtain ⟨i, hi⟩ := List.mem_iff_getElem?.mp hx
        obtain ⟨d, hd⟩ : ∃ d, t.pre[i]? = some d := by
          obtain ⟨h, _⟩ := List.getElem?_eq_some_iff.mp hi
          exact ⟨_, List.getElem?_eq_getElem (by omega)⟩
        exact item_is sub (t.pre_kind d (List.mem_of_getElem? hd)).2 (dpAll_get h1 hi hd)
    · obtain ⟨v0, xs1, rfl, c1, c2⟩ := each_cons_inv hc
      have hv0 : v0 = .str t.tag := by
        rcases c1 with ⟨e, _⟩ | ⟨b, _, _, e, _⟩
        · exact e
        · cases e
      subst hv0
      refine q _ _ s' ?_
      rw [Tm.newf_split hN']
      exact .tup (.inl (.inl (mx_new hp (frm_tup hp')))) (.cons (.str _) (dpa_join (cp_items sub s' (fun d hd => (t.pre_kind d hd).1) h1 c2) (DpAll.mono (mx_old s' subY) hps)))
def spNewForm (T : List (Addr × Str)) : Sp := fun vs H Q _ => ∃ (v : V) (t : Tm) (X : Hp), vs = [v] ∧ Sub X H ∧ Dp [] X v t.d ∧ t.Simple ∧ t.depth < 8 ∧ Tabs T H ∧ ∀ v' H', ExtN H H' → Tabs T H' → Dp [] (Mx H (fun _ => none) H') v' t.newf.d → Q v' H'
/-- a term and its parts, at the heap at which it was read and later -/
theorem partsOf_tm {T : List (Addr × Str)} {X H : Hp} (sub : Sub X H) {ok : Tm → Prop} (hk : ∀ t c, c ∈ t.kids → ok t → ok c) : PartsOf K T H (fun v t => Dp [] X v (Tm.d t) ∧ ok t) Tm.kids (spParts K) := by
  intro v t H1 Q1 ⟨hx, ho⟩ eE t1 k
  obtain ⟨a, xs, us, rfl, _, ha, _, h2⟩ := term_at sub hx
  have l2 := dpAll_len h2
  rw [List.length_map] at l2
  refine ⟨a, t, xs, us, rfl, sqT_extn eE (sq_t ha), l2, fun p H' s' hp => k p us H' (ExtN.of s') (t1.ext s') hp (each_with (dps_each h2) fun c hc => hk t c hc ho)⟩
theorem ok_new_form {T : List (Addr × Str)} {fp fr : Addr} (F : FnP K "new_form" s_new_form f fd) (gP : mg "parts_of" = some (.ref fp)) (gR : mg "renewed" = some (.ref fr)) (DP : DefClo P w K mg base fp 1 (spParts K)) (DR : DefClo P w K mg base fr 2 spRenewed)
    (CW : CalC P w K mg base "worked_out" 3 (spWorked K 1 2)) : FnOk P w K mg base CX0 4 f fd ["term"] (spNewForm T) := by
  refine F.ok sc_new_form (fun vs H Q E h => ?_) (fun cdv A outer s H vs Q E hr h => ?_)
  · obtain ⟨v, t, X, rfl, _⟩ := h
    rfl
  · obtain ⟨v, t, X, rfl, sub, hx, hs, hn, hT, q⟩ := h
    refine ⟨_, PSs.nox (pss_one (ps_ret (pe_fnC CW spWorked_mono hr (pa_cons (pv 0) (pa_cons (pe_glob (v := .ref fp) rfl gP rfl) (pa_cons (pe_glob (v := .ref fr) rfl gR rfl) pa_nil)))))), ?_⟩
    refine ⟨_, rfl, Tm, Tm.kids, Tm.size, fun v t => Dp [] X v t.d ∧ t.Simple, fun Y v t => Dp [] Y v t.newf.d, T, fun _ => none, v, t, fp, fr, spParts K, spRenewed, rfl, DP, DR, ⟨hx, hs⟩, hT, partsOf_tm sub fun t c hc ho => Tm.kid_simple hc ho, ?_, fun Y Y' v t s h => Dp.mono s h, Tm.kids_size, Tm.size_bd hn, fun v' H' e' t' h => q v' H' e' t' h⟩
    intro v1 t1 p1 us Y H1 Q1 ⟨hx1, hs1⟩ eE tt hp subY he k
    refine ⟨v1, p1, t1, X, Y, us, rfl, sub.trans (extn_frm eE), hx1, hs1, hp, subY, ?_, fun v' H' s' h => k v' H' (ExtN.of s') (tt.ext s') h⟩
    rw [List.map_map]
    exact each_dps (E := Tm.d ∘ Tm.newf) (he.mono fun v c h => h)
end
end KA
set_option Elab.async false
set_option linter.all false
set_option maxRecDepth 100000
set_option maxHeartbeats 4000000
/-! names_in -/
namespace KA
open PySem PySem.Spec PyProof.Rows L2 LamX
open PySem.W (EachIs)
section
variable {J : It} {n : Nat} {G : Hp → Prop} {Y : Nat → Hp → V → Hp → Prop}
/-- a dict comprehension over anything that is walked -/
theorem dc_go (w : Walk J n G Y) {g : TG} {tt : TT} {tk tv : TE} {vs : List Nat} {σ : L2.St} {H1 : Hp} {D : Addr} {Qd : Hp → Prop} (Pv : Nat → Hp → Prop) (h0 : Pv 0 (upd H1 D (.dK []))) (hG : ∀ i H, i ≤ n → Pv i H → G H)
    (hs : ∀ i x H H', i < n → Pv i H → Y i H x H' → g x (wipe σ vs) H' fun σ2 H2 => wipe σ2 vs = wipe σ vs ∧ tt σ2 H2 fun b H3 =>
      if b = true then tk σ2 H3 fun y H4 => tv σ2 H4 fun z H5 => ∃ kvs k, y = kV k ∧ H5 D = some (.dK kvs) ∧ kvs.length < sizeLine ∧ Pv (i + 1) (upd H5 D (.dK (putK kvs k z))) else Pv (i + 1) H3) (hd : ∀ H, Pv n H → Qd H) :
    ∃ W : Nat → Nat → Hp → Prop, (∃ m, W 0 m (upd H1 D (.dK []))) ∧ ∀ i m H, W i m H →
      (J.stop i H ∧ Qd H) ∨ (J.go i H ∧ ∃ Nx : Hp → Prop, (∀ H', Nx H' → ∃ m', m' < m ∧ W (i + 1) m' H') ∧ ∀ x H', J.yld i H x H' → g x (wipe σ vs) H' fun σ2 H2 => wipe σ2 vs = wipe σ vs ∧ tt σ2 H2 fun b H3 =>
        if b = true then tk σ2 H3 fun y H4 => tv σ2 H4 fun z H5 => ∃ kvs k, y = kV k ∧ H5 D = some (.dK kvs) ∧ kvs.length < sizeLine ∧ Nx (upd H5 D (.dK (putK kvs k z))) else Nx H3) := by
  refine ⟨fun i m H => m + i = n ∧ Pv i H, ⟨n, rfl, h0⟩, ?_⟩
  rintro i m H ⟨hm, p⟩
  have q := hG i H (by omega) p
  by_cases hlt : i < n
  · exact .inr ⟨w.goes i H hlt q, Pv (i + 1), fun H' p' => ⟨m - 1, by omega, by omega, p'⟩, fun x H' y => hs i x H H' hlt p (w.yields i H x H' hlt q y)⟩
  · obtain rfl : i = n := by omega
    exact .inl ⟨w.stops H q, hd H p⟩
end
namespace Tm
/-- the names at the leaves, from left to right -/
def seqN : Tm → List Str
  | .name _ n => [n]
  | .bag _ => []
  | .map _ t => t.seqN
  | .keep _ t => t.seqN
  | .neg t => t.seqN
  | .once t => t.seqN
  | .fold _ _ _ t => t.seqN
  | .plus a b => a.seqN ++ b.seqN
  | .join _ _ _ a b => a.seqN ++ b.seqN
def nm : Tm → List Str
  | .name _ n => [n]
  | _ => []
def uni (acc l : List Str) : List Str := l.foldl (fun acc n => addN acc [n]) acc
theorem uni_app (acc l m : List Str) : uni acc (l ++ m) = uni (uni acc l) m := List.foldl_append ..
theorem addN_assoc (acc l m : List Str) : addN acc (addN l m) = addN (addN acc l) m := by
  unfold addN
  rw [List.filter_append, List.append_assoc, List.filter_filter]
  congr 2
  refine List.filter_congr fun x _ => ?_
  rw [Bool.eq_iff_iff]
  simp only [Bool.and_eq_true, Bool.not_eq_true', List.contains_eq_mem, decide_eq_false_iff_not, List.mem_append, List.mem_filter, not_or, not_and]
  constructor
  · rintro ⟨h1, h2⟩
    exact ⟨h1, fun h3 => absurd h3 h2⟩
  · rintro ⟨h1, h2⟩
    exact ⟨h1, fun h3 => h2 h3 h1⟩
theorem uni_seq : ∀ (t : Tm) (acc : List Str), uni acc t.seqN = addN acc t.names
  | .name _ n, acc => rfl
  | .bag _, acc => by
    show acc = acc ++ [].filter _
    rw [List.filter_nil, List.append_nil]
  | .map _ t, acc => uni_seq t acc
  | .keep _ t, acc => uni_seq t acc
  | .neg t, acc => uni_seq t acc
  | .once t, acc => uni_seq t acc
  | .fold _ _ _ t, acc => uni_seq t acc
  | .plus a b, acc => by
    show uni acc (a.seqN ++ b.seqN) = addN acc (addN a.names b.names)
    rw [uni_app, uni_seq a, uni_seq b, addN_assoc]
  | .join _ _ _ a b, acc => by
    show uni acc (a.seqN ++ b.seqN) = addN acc (addN a.names b.names)
    rw [uni_app, uni_seq a, uni_seq b, addN_assoc]
theorem seq_kids (t : Tm) : t.seqN = t.kids.flatMap seqN ++ t.nm := by
  cases t <;> simp [seqN, kids, nm]
theorem post_names {as R : List Tm} (h : RPosts kids as R) : R.reverse.flatMap nm = as.reverse.flatMap seqN := by
  induction h with
  | nil => rfl
  | @cons a as R B h1 h2 ih1 ih2 =>
    rw [List.reverse_reverse] at ih1
    have e : (a :: (R ++ B)).reverse = B.reverse ++ (R.reverse ++ [a]) := by simp
    rw [e, List.flatMap_append, List.flatMap_append, ih1, ih2, List.reverse_cons, List.flatMap_append]
    congr 1
    rw [List.flatMap_singleton, List.flatMap_singleton, seq_kids a]
theorem order_names {t : Tm} {L : List Tm} (h : RPosts kids [t] L.reverse) : uni [] (L.flatMap nm) = t.names := by
  have e := post_names h
  rw [List.reverse_reverse] at e
  rw [e, show [t].reverse.flatMap seqN = t.seqN by simp, uni_seq, addN_nil]
theorem nm_len (L : List Tm) : (L.flatMap nm).length ≤ L.length := by
  induction L with
  | nil => exact Nat.le_refl _
  | cons t L ih =>
    rw [List.flatMap_cons, List.length_append, List.length_cons]
    have : t.nm.length ≤ 1 := by cases t <;> simp [nm]
    omega
theorem uni_len (l : List Str) : ∀ acc : List Str, (uni acc l).length ≤ acc.length + l.length := by
  induction l with
  | nil => exact fun acc => Nat.le_refl _
  | cons x l ih =>
    intro acc
    have h1 := ih (addN acc [x])
    have h2 := addN_len acc [x]
    show (uni (addN acc [x]) l).length ≤ _
    rw [List.length_cons]
    rw [List.length_singleton] at h2
    omega
end Tm
/-- names as keys -/
def kt (l : List Str) : List (Key × V) := l.map fun n => (.inr n, .bl true)
theorem kt_put (l : List Str) (n : Str) : putK (kt l) (.inr n) (.bl true) = kt (Tm.addN l [n]) := by
  unfold putK kt Tm.addN
  by_cases h : n ∈ l
  · have e : ((l.map fun n => ((Sum.inr n : Key), V.bl true)).any fun kv => decide (kv.1 = .inr n)) = true := by
      rw [List.any_map, List.any_eq_true]
      exact ⟨n, h, by simp⟩
    rw [if_pos e, List.map_map]
    rw [show [n].filter (fun x => !l.contains x) = [] by simp [h], List.append_nil]
    refine List.map_congr_left fun x _ => ?_
    show (if (Sum.inr x : Key) = .inr n then ((Sum.inr x : Key), V.bl true) else (Sum.inr x, V.bl true)) = _
    split <;> rfl
  · have e : ¬ ((l.map fun n => ((Sum.inr n : Key), V.bl true)).any fun kv => decide (kv.1 = .inr n)) = true := by
      rw [List.any_map, List.any_eq_true]
      rintro ⟨x, hx, hd⟩
      have hd' : (Sum.inr x : Key) = .inr n := by simpa using hd
      cases hd'
      exact h hx
    rw [if_neg e]
    rw [show [n].filter (fun x => !l.contains x) = [n] by simp [h], List.map_append]
    rfl
theorem name_tag (t : Tm) : inV (.str t.tag) [V.str "old", .str "change", .str "new"] = t.isName := by
  refine (inV_strs t.tag ["old", "change", "new"]).trans ?_
  cases e : t.isName with
  | true =>
    cases t with
    | name k n => cases k <;> rfl
    | _ => cases e
  | false =>
    obtain ⟨n1, n2, n3⟩ := Tm.tag_not e
    simp [n1, n2, n3]
section
variable {P : Program} {w : World} {K : PySem.W.Frag} {mg : Str → Option Value} {base : Heap} {f : Addr} {fd : FuncData}
def spNamesIn (T : List (Addr × Str)) : Sp := fun vs H Q _ => ∃ (v : V) (t : Tm) (X : Hp), vs = [v] ∧ Sub X H ∧ Dp [] X v t.d ∧ t.depth < 8 ∧ Tabs T H ∧ ∀ q H', ExtN H H' → Tabs T H' → StrsAt H' q t.names → Q (.ref q) H'
theorem ok_names_in {T : List (Addr × Str)} {fp : Addr} (F : FnP K "names_in" s_names_in f fd) (gP : mg "parts_of" = some (.ref fp)) (gL : mg "list" = none) (DP : DefClo P w K mg base fp 1 (spParts K)) (CP : CalC P w K mg base "in_postorder" 2 (spPost K 1)) :
    FnOk P w K mg base CX0 3 f fd ["term"] (spNamesIn T) := by
  refine F.ok sc_names_in (fun vs H Q E h => ?_) (fun cdv A outer s H vs Q E hr h => ?_)
  · obtain ⟨v, t, X, rfl, _⟩ := h
    rfl
  · obtain ⟨v, t, X, rfl, sub, hx, hn, hT, q⟩ := h
    refine ⟨_, PSs.nox (pss_cons (ps_set (i := 1) sc_names_in.nd rfl (Or.inl rfl) (pe_fnC CP spPost_mono hr (pa_cons (pv 0) (pa_cons (pe_glob (v := .ref fp) rfl gP rfl) pa_nil))))
      (pss_one (ps_ret (pe_callTy (call_list_dK rfl) (by rfl) gL (by decide +kernel) (pa_cons (pe_dc (own := [("part", 2)]) (g := gName 2) (tk := tOp (rIxT K) (tVar 2) (tC (.int 1))) (tv := tC (.bl true)) (tt := tTest (tOp (rIn K false) (tOp (rIxT K) (tVar 2) (tC (.int 0))) (tTup (tCons (tC (.str "old")) (tCons (tC (.str "change")) (tCons (tC (.str "new")) tNil))))))
        rfl sc_names_in.nd (pi_list (pv 1)) (blkOk_by (own := [("part", 2)]) (N := ["term", "parts", "part"]) (sc := defScope s_names_in) (by decide +kernel)) (fun _ _ _ _ _ => pg_name (i := 2) sc_names_in.nd rfl (Or.inl rfl))
        (fun _ _ _ _ _ => pts_one (pt_cmpR op_in_seq (pe_ix ix_tup (pv 2) pe_int (fun _ _ => rfl)) (pe_tup (pa_cons pe_str (pa_cons pe_str (pa_cons pe_str pa_nil)))) (by with_unfolding_all rfl)))
        (fun _ _ _ _ _ => pe_ix ix_tup (pv 2) pe_int (fun _ _ => rfl)) (fun _ _ _ _ _ => pe_bl)) pa_nil))))), ?_⟩
    refine ⟨_, rfl, Tm, Tm.kids, Tm.size, fun v t => Dp [] X v t.d ∧ True, T, v, t, fp, spParts K, rfl, DP, ⟨hx, trivial⟩, hT, partsOf_tm sub (ok := fun _ => True) (fun _ _ _ _ => trivial), Tm.kids_size, Tm.size_bd hn, fun DL us L H1 s1 t1 hDL0 hDL hus _ hpost hlen => ?_⟩
    refine ⟨_, rfl, DL, rfl, ⟨_, sq_l hDL⟩, fun D hD => ?_⟩
    have hul := hus.length
    have hsz := Tm.size_bd hn
    have big : (200000 : Nat) ≤ sizeLine := by decide
    refine dc_go (walk_list (xs := us)) (fun i H' => ExtN H1 H' ∧ Tabs T H' ∧ H' D = some (.dK (kt (Tm.uni [] ((L.take i).flatMap Tm.nm))))) ⟨extn_new hD, tabs_new hD t1, upd_same⟩ (fun i H' _ z => sq_l (z.1 _ _ hDL fun ps z => by cases z)) ?_ ?_
    · rintro i x _ H' hi ⟨sE, tE, hd⟩ ⟨rfl, hx'⟩
      obtain ⟨c, hc⟩ : ∃ c, L[i]? = some c := ⟨_, List.getElem?_eq_getElem (by omega)⟩
      have et : L.take (i + 1) = L.take i ++ [c] := by rw [List.take_add_one, hc]; rfl
      obtain ⟨a, xs, us2, rfl, _, ha, h1, h2⟩ := term_at sub (each_get hus hx' hc).1
      have ha' : H' a = some (.tup (.str c.tag :: (xs ++ us2))) := sE _ _ (s1 _ _ ha fun ps z => by cases z) fun ps z => by cases z
      refine ⟨rfl, _, rfl, a, _, 0, _, rfl, rfl, sq_t ha', atI_nat (j := 0) rfl, (by show 3 ≤ sizeLine; decide), fun p hp => ?_⟩
      have sp := extn_new (o := .tup [V.str "old", .str "change", .str "new"]) hp
      refine ⟨p, _, rfl, .inr (sq_t upd_same), rfl, rfl, _, rfl, ?_⟩
      have hd2 : upd H' p (.tup [V.str "old", .str "change", .str "new"]) D = some (.dK (kt (Tm.uni [] ((L.take i).flatMap Tm.nm)))) := sp _ _ hd fun ps z => by cases z
      rw [if_neg Bool.false_ne_true, name_tag]
      cases hN : c.isName with
      | true =>
        cases c with
        | name k n =>
          obtain ⟨y, r, rfl, h3, h4⟩ := dpa_cons h1
          obtain rfl := dp_strV h3
          refine iteT ⟨_, rfl, a, _, 1, _, rfl, rfl, sq_t (sp _ _ ha' fun ps z => by cases z), atI_nat (j := 1) rfl, _, .inr n, rfl, hd2, ?_, extn_mut (sE.trans sp) hD, ?_, ?_⟩
          · have l1 := Tm.uni_len ((L.take i).flatMap Tm.nm) []
            have l2 := Tm.nm_len (L.take i)
            have l3 := List.length_take_le i L
            unfold kt
            rw [List.length_map]
            rw [List.length_nil] at l1
            omega
          · exact tabs_off hd2 (fun ps z => by cases z) (fun φ z => by cases z) (Off.upd _ _ _) (tabs_new hp tE)
          · rw [et, List.flatMap_append, Tm.uni_app, kt_put]
            exact upd_same
        | _ => cases hN
      | false =>
        refine iteF ⟨sE.trans sp, tabs_new hp tE, ?_⟩
        have e0 : Tm.nm c = [] := by cases c <;> first | rfl | cases hN
        rw [et, List.flatMap_append, show [c].flatMap Tm.nm = [] by simp [e0], List.append_nil]
        exact hd2
    · rintro H' ⟨sE, tE, hd⟩
      rw [List.take_of_length_le (by omega), Tm.order_names hpost] at hd
      refine ⟨D, _, rfl, hd, fun l hl => ?_⟩
      refine q l _ ((s1.trans sE).trans (extn_new hl)) (tabs_new hl tE) ?_
      unfold StrsAt
      rw [upd_same, show (kt t.names).map (fun kv => kV kv.1) = t.names.map V.str by unfold kt; rw [List.map_map]; rfl]
end
end KA
set_option Elab.async false
set_option linter.all false
set_option maxRecDepth 100000
set_option maxHeartbeats 8000000
/-! sorted(items, key=f) of any items, f any callable whose answers are keys of rows -/
namespace KA
open PySem PySem.Spec PyProof.Rows L2
open PySem.W (EachIs SortsAt KeepsBut sorted_of_sort copyHeap copyHeap_at copyHeap_old keyH_end sortVals)
open PySem.Calls
section
variable {X : Cx}
/-- what a call f(item) does, from the heap H0 on -/
def KeyAt (X : Cx) (IR : Hp → V → Row → Prop) (E : Row → PyData) (f : Addr) (H0 : Hp) (pins : List (Addr × Obj)) : Prop :=
  ∀ (s : Shared) (σ : L2.St) (H : Hp) (x : V) (u : Value) (r : Row), Inv X pins σ H s → Same H0 H → RelV x u → IR H x r → r.length ≤ 1000 →
    wpAny (model X.prog X.w) X.A.in1.in1 (call (.ref f) [u]) (fun u s' => ∃ v H', Inv X pins σ H' s' ∧ Same H H' ∧ RelV v u ∧ Dp X.K H' v (E r)) (fun _ _ => False) s
def rSortG (X : Cx) (IR : Hp → V → Row → Prop) (E : Row → PyData) : List V → List V → Hp → VK → Prop := fun vs zs H Q => ∃ (l f : Addr) (xs : List V) (rows : List Row), vs = [.ref l] ∧ zs = [.ref f] ∧ SqL X.K H l xs ∧ EachIs (IR H) xs rows ∧
  (∀ r ∈ rows, r.length ≤ 1000) ∧ (∀ pins, KeyAt X IR E f H pins) ∧ (∀ p, H p = none → X.H_0 p = none) ∧ ∀ (p : Addr) (H' : Hp) (ys : List V), Same H H' → H p = none → H' p = some (.lst ys) → EachIs (IR H') ys (sortRows rows) → Q (.ref p) H'
theorem vals_get {xs : List V} {us : List Value} : ∀ {i : Nat} {u : Value}, Vals xs us → us[i]? = some u → ∃ x, xs[i]? = some x ∧ RelV x u := by
  intro i u h
  induction h generalizing i with
  | nil => intro q; simp at q
  | @cons x w xs us r t ih =>
    intro q
    cases i with
    | zero =>
      simp at q
      subst q
      exact ⟨x, rfl, r⟩
    | succ i =>
      obtain ⟨y, h1, h2⟩ := ih (i := i) (by simpa using q)
      exact ⟨y, by simpa using h1, h2⟩
theorem each_rel {IR : V → Row → Prop} : ∀ {xs : List V} {us : List Value} {rows : List Row}, Vals xs us → EachIs IR xs rows → EachIs (fun u r => ∃ x, RelV x u ∧ IR x r) us rows
  | _, _, _, .nil, h => by cases h; exact .nil
  | _, _, _, .cons r t, h => by
    cases h with
    | cons h1 h2 => exact .cons ⟨_, r, h1⟩ (each_rel t h2)
theorem each_unrel {IR : V → Row → Prop} : ∀ {us : List Value} {rows : List Row}, EachIs (fun u r => ∃ x, RelV x u ∧ IR x r) us rows → ∃ xs, Vals xs us ∧ EachIs IR xs rows
  | _, _, .nil => ⟨[], .nil, .nil⟩
  | _, _, .cons ⟨x, r, h⟩ t => by
    obtain ⟨xs, h1, h2⟩ := each_unrel t
    exact ⟨x :: xs, .cons r h1, .cons h h2⟩
theorem sort_run {E : Row → PyData} {IR : Hp → V → Row → Prop} (hIR : ∀ H H' x r, Same H H' → IR H x r → IR H' x r) (T : Tells E)
    (hS : ∀ (prog : Program) (w : World) (A : Around) (s : Shared) (ks : List Value) (rows : List Row), EachIs (KeyIs1 s.heap E) ks rows → A.units + 12 < cLine → SortsAt prog w A s (rowKind s.heap E) ks)
    (hu : X.A.units + 64 < cLine) (hx : X.ex = []) {pins : List (Addr × Obj)} {s : Shared} {σ : L2.St} {H : Hp} {Q : VK} {l f : Addr} {xs : List V} {rows : List Row} (I : Inv X pins σ H s) (hs : SqL X.K H l xs) (hrow : EachIs (IR H) xs rows) (hrl : ∀ r ∈ rows, r.length ≤ 1000)
    (hc : KeyAt X IR E f H pins) (h0 : ∀ p, H p = none → X.H_0 p = none) (q : ∀ (p : Addr) (H' : Hp) (ys : List V), Same H H' → H p = none → H' p = some (.lst ys) → EachIs (IR H') ys (sortRows rows) → Q (.ref p) H') :
    wpAny (model X.prog X.w) X.A (call (.builtin "sorted") [.ref l] [(Str.ofString "key", .ref f)]) (EP X pins σ Q) X.xe s := by
  obtain ⟨its, rv, hl, hz⟩ := I.list hs
  have hxl : its.length = xs.length := rv.length.symm
  have hzi : its.length ≤ sizeLine := by
    have hz' := hz
    omega
  refine sorted_of_sort (vs := its) hl.isList hzi (ksk_s1 _ _) (fun x => ksk_l1 _ _) fun E' => ?_
  rw [ksk_t1]
  obtain ⟨a, ea⟩ : ∃ a, a = s.heap.objs.size + 1 := ⟨_, rfl⟩
  rw [← ea]
  have ho := copyHeap_at s.heap its
  rw [← ea] at ho
  have hHa : H a = none := I.hok.fresh (by rw [ea]; exact Nat.le_succ _)
  obtain ⟨e1, ho1⟩ : ∃ e1, ((copyHeap s.heap its).update a (Obj.mapSeq fun _ => (#[] : Array Value))).get? a = some (seqObj "list" #[] e1) := ⟨_, get?_update_seq ho fun _ => #[]⟩
  have s1 := Heap.SameBut.update (copyHeap s.heap its) a (Obj.mapSeq fun _ => (#[] : Array Value))
  have k1 : ∀ b u, s.heap.get? b = some u → ((copyHeap s.heap its).update a (Obj.mapSeq fun _ => (#[] : Array Value))).get? b = some u := fun b u z =>
    (s1.2 b (by rw [ea]; exact Nat.ne_of_lt (Nat.lt_succ_of_lt (Heap.lt_size z)))).trans (copyHeap_old z)
  unfold ksk_tree
  refine wpAny_bind (listItems_at ho rfl ?_)
  refine wpAny_bind (listUpdate_at ho rfl ?_ (by rw [List.size_toArray]; exact hzi) (Nat.zero_le _))
  refine wpAny_bind (seqEpoch_at ho1 rfl ?_)
  refine wpAny_bind (wpAny_newTuple ?_ (by show its.toArray.toList.length ≤ _; simpa using hzi))
  refine wpAny_bind (wpAny_newList ?_ (Nat.zero_le _))
  refine wpAny_holding ?_
  have I1 : Inv X pins σ (upd H a (nilO a e1)) { s with heap := (copyHeap s.heap its).update a (Obj.mapSeq fun _ => (#[] : Array Value)) } :=
    I.laid (t' := s.toks) k1 (by rw [ea]; exact Nat.le_succ _) (nilO_ok ho1)
  obtain ⟨hT, ehT⟩ : ∃ hT, hT = ((copyHeap s.heap its).update a (Obj.mapSeq fun _ => (#[] : Array Value))).push (seqObj "tuple" its.toArray 0) := ⟨_, rfl⟩
  have I2 : Inv X pins σ (upd H a (nilO a e1)) { s with heap := hT } := I1.kept (t' := s.toks) fun b u z => by rw [ehT]; exact Heap.get?_push_of_some _ z
  obtain ⟨kS, ekS⟩ : ∃ kS, kS = hT.objs.size := ⟨_, rfl⟩
  have hk0 : (upd H a (nilO a e1)) kS = none := I2.hok.fresh (by rw [ekS]; exact Nat.le_refl _)
  have hka : kS ≠ a := fun z => by
    rw [z, upd_same] at hk0
    cases hk0
  have hHk : H kS = none := by
    rw [upd_ne hka] at hk0
    exact hk0
  have nk0 : (hT.push (seqObj "list" #[] 0)).get? kS = some (seqObj "list" #[] 0) := by
    rw [ekS]
    exact Heap.get?_push_size _ rfl
  have I3 : Inv X pins σ (upd (upd H a (nilO a e1)) kS (keysO kS [])) { s with heap := hT.push (seqObj "list" #[] 0) } :=
    I2.laid (t' := s.toks) (fun b u z => Heap.get?_push_of_some _ z) (by rw [ekS]; exact Nat.le_refl _) (keysO_ok (arr := #[]) .nil nk0)
  rw [← ehT]
  show wpAny _ X.A.in1.in1 (ksk_rest a (.ref f) false its.toArray e1 (.ref hT.objs.size)) _ _ { s with heap := hT.push (seqObj "list" #[] 0) }
  rw [← ekS]
  unfold ksk_rest
  refine wpAny_bind (wpAny_rule ?_)
  rw [List.forIn_toArray]
  refine wpAny_bind (ksk_fold (fun i s' => ∃ H' kvs, Inv X pins σ H' s' ∧ Same H H' ∧ H' a = some (nilO a e1) ∧ H' kS = some (keysO kS kvs) ∧ EachIs (fun v r => Dp X.K H' v (E r)) kvs (rows.take i)) its 0 _
    ⟨_, [], I3, same_mut (same_mut (Same.refl H) hHa) hHk, by rw [upd_ne hka.symm, upd_same], upd_same, by rw [List.take_zero]; exact .nil⟩ ?step ?done)
  case step =>
    rintro j x s' hxj ⟨H', kvs, I', sm, na, nk, hd⟩
    simp only [Nat.zero_add] at hd ⊢
    · obtain ⟨xv, haj, rxv⟩ := vals_get rv hxj
      obtain ⟨r, hrj, hrp⟩ := each_at hrow haj
      have hj : j < rows.length := (List.getElem?_eq_some_iff.mp hrj).1
      refine wpAny_bind (wpAny_attempt (wpAny_mono (hc s' σ H' xv x r I' sm rxv (hIR _ _ _ _ sm hrp) (hrl r (List.mem_of_getElem? hrj))) (fun v s'' he => ?_) fun _ _ hF => hF.elim))
      obtain ⟨kv, H2, I4, sm2, rkv, hdp⟩ := he
      try dsimp only
      obtain ⟨⟨arr, e, va, gk⟩, _, _⟩ := I4.hok kS _ (sm2 _ _ nk)
      have la : arr.size ≤ its.length := by
        have q1 := va.length
        have q2 := hd.length
        rw [List.length_take] at q2
        have q3 := hrow.length
        have q4 : arr.toList.length = arr.size := Array.length_toList
        omega
      obtain ⟨c2, hc2⟩ : ∃ c2, (s''.heap.update kS (Obj.mapSeq (·.push v))).get? kS = some (seqObj "list" (arr.push v) c2) := ⟨_, get?_update_seq gk (·.push v)⟩
      have s3 := Heap.SameBut.update s''.heap kS (Obj.mapSeq (·.push v))
      refine wpAny_bind (listUpdate_at gk rfl ?_ (Nat.le_trans la hzi) (Nat.le_trans (Nat.le_of_eq (Array.size_push ..)) (Nat.succ_le_succ (Nat.le_trans la hzi))))
      have nk2 : H2 kS = some (keysO kS kvs) := sm2 _ _ nk
      have I5 : Inv X pins σ (upd H2 kS (keysO kS (kvs ++ [kv]))) { s'' with heap := s''.heap.update kS (Obj.mapSeq (·.push v)) } :=
        I4.write (t' := s''.toks) (by rw [nk2]; trivial) (.inl rfl) (fun b u hb z => (s3.2 b hb).trans z) ⟨_, hc2⟩ (keysO_ok (arr := arr.push v) (by rw [Array.toList_push]; exact vals_snoc rkv va) hc2)
      have sd : SameD H2 (upd H2 kS (keysO kS (kvs ++ [kv]))) := upd_ext nk2
      refine wpAny_pure ⟨rfl, _, kvs ++ [kv], I5, same_mut (sm.trans sm2) hHk, by rw [upd_ne hka.symm]; exact sm2 _ _ na, upd_same, ?_⟩
      rw [List.take_add_one, hrj]
      exact each_snoc1 (R := fun v r => Dp X.K (upd H2 kS (keysO kS (kvs ++ [kv]))) v (E r)) (Dp.monoD sd _ _ hdp) (hd.mono fun v r z => Dp.monoD sd _ _ (Dp.mono sm2 z))
  case done =>
    rintro s' ⟨H', kvs, I', sm, na, nk, hd⟩
    have et : rows.take (0 + its.length) = rows := List.take_of_length_le (by have := hrow.length; omega)
    rw [et] at hd
    obtain ⟨⟨arr, e, va, gk⟩, _, _⟩ := I'.hok kS _ nk
    have ga : s'.heap.get? a = some (seqObj "list" #[] e1) := (I'.hok a _ na).1
    try dsimp only
    refine wpAny_bind (listItems_at gk rfl ?_)
    have hks : EachIs (KeyIs1 s'.heap E) arr.toList rows := dps_reads I' hd va
    have hsz : arr.size = its.length := by
      have q1 := hks.length
      rw [Array.length_toList] at q1
      have := hrow.length
      omega
    obtain ⟨G, gs, gn, J⟩ := I'.untrack nk (fr0_none (h0 kS hHk)) hx
    refine keyH_end (κ := rowKind s'.heap E) (h₁ := G) (fun b o _ z => gs b o z) gn gk ga hka (hS _ _ _ _ _ _ hks (by show X.A.units + 1 + 1 + 12 < _; omega)) hsz hzi fun h3 tk c k3 n3 => ⟨rfl, ?_⟩
    have hout : EachIs (fun u r => ∃ x, RelV x u ∧ IR H x r) (sortVals (rowKind s'.heap E) false arr.toList its) (sortRows rows) :=
      PySem.W.sortVals_each (κ := rowKind s'.heap E) (rev := false) (fun r => r) (each_rel rv hrow) (hks.mono fun v r z => rowKind_some T z)
    obtain ⟨ys, hy1, hy2⟩ := each_unrel hout
    have nka : (delH H' kS) a = some (nilO a e1) := by
      rw [delH_ne hka.symm]
      exact na
    have yl : ys.length ≤ sizeLine := by
      have h1 := hy2.length
      rw [(sortRows_perm rows).length_eq, ← hrow.length] at h1
      omega
    have J2 : Inv X pins σ (upd (delH H' kS) a (.lst ys)) { s' with heap := h3, toks := tk } :=
      J.write (t' := tk) (by rw [nka]; trivial) (.inl rfl) (fun b u hbn z => k3 b u hbn z) ⟨_, n3⟩ ⟨yl, _, c, hy1, by simpa using n3⟩
    have sf : Same H (upd (delH H' kS) a (.lst ys)) := by
      refine same_mut (fun b o z => ?_) hHa
      rw [delH_ne (ne_of_none z hHk)]
      exact sm b o z
    exact ⟨.ref a, _, J2, rfl, q a _ ys sf hHa upd_same (hy2.mono fun x r z => hIR _ _ _ _ sf z)⟩
theorem cr_sortKeyG {E : Row → PyData} {IR : Hp → V → Row → Prop} (hIR : ∀ H H' x r, Same H H' → IR H x r → IR H' x r) (T : Tells E)
    (hS : ∀ (prog : Program) (w : World) (A : Around) (s : Shared) (ks : List Value) (rows : List Row), EachIs (KeyIs1 s.heap E) ks rows → A.units + 12 < cLine → SortsAt prog w A s (rowKind s.heap E) ks)
    (hu : X.A.units + 64 < cLine) (hx : X.ex = []) : CallRK X (.builtin "sorted") [Str.ofString "key"] (rSortG X IR E) := by
  intro pins s σ H vs zs us ws Q I r rz h
  obtain ⟨l, f, xs, rows, rfl, rfl, hs, hrow, hrl, hc, h0, q⟩ := h
  obtain rfl := Vals.ref1 r
  obtain ⟨w1, rfl, e1⟩ := vals1 rz
  obtain rfl : w1 = Value.ref f := e1
  exact sort_run hIR T hS hu hx I hs hrow hrl (hc pins) h0 q
end
end KA
set_option Elab.async false
set_option linter.all false
set_option maxRecDepth 100000
set_option maxHeartbeats 8000000
/-! sorted(values, key=rank) -/
namespace KA
open PySem PySem.W PySem.Spec PySem.Calls PyProof.Rows L2
open PySem.SeqAt (RcLt)
open PySem.W (EachIs SortsAt KeepsBut sorted_of_sort copyHeap copyHeap_at copyHeap_old keyH_end sortVals)
def KeyIsV (h : Heap) (v : Value) (x : Key) : Prop := ∃ as, Reads h v (rankD x) as
noncomputable def valKind (h : Heap) : PyProof.Rows.KeyKind where
  α := Key
  blt := oneLt
  irrefl := oneLt_irrefl
  trans := fun _ _ _ => oneLt_trans
  negTrans := fun a b c h1 => by
    by_cases e : a = b
    · subst e; exact .inr h1
    · cases q : oneLt a b with
      | true => exact .inl rfl
      | false => exact .inr (oneLt_trans (oneLt_total e q) h1)
  total := fun a b h1 h2 => by
    by_cases e : a = b
    · exact e
    · rw [oneLt_total e h1] at h2; cases h2
  keyOf := fun v => open Classical in if q : ∃ x, KeyIsV h v x then some q.choose else none
  dflt := .inl 0
theorem valKind_some {h : Heap} {v : Value} {x : Key} (k : KeyIsV h v x) : (valKind h).keyOf v = some x := by
  have q : ∃ x, KeyIsV h v x := ⟨x, k⟩
  have e : (valKind h).keyOf v = some q.choose := by
    show (open Classical in if q : ∃ x, KeyIsV h v x then some q.choose else none) = _
    rw [dif_pos q]
  obtain ⟨as, r1⟩ := q.choose_spec
  obtain ⟨bs, r2⟩ := k
  rw [e, rank_inj _ _ (SeqAt.plain_unique _ _ _ _ _ (rank_plain _) r1 r2)]
theorem valKind_inv {h : Heap} {v : Value} {x : Key} (e : (valKind h).keyOf v = some x) : KeyIsV h v x := by
  by_cases q : ∃ x, KeyIsV h v x
  · have e' : (valKind h).keyOf v = some q.choose := by
      show (open Classical in if q : ∃ x, KeyIsV h v x then some q.choose else none) = _
      rw [dif_pos q]
    rw [e'] at e
    rw [← Option.some.inj e]
    exact q.choose_spec
  · have e' : (valKind h).keyOf v = none := by
      show (open Classical in if q : ∃ x, KeyIsV h v x then some q.choose else none) = _
      rw [dif_neg q]
      rfl
    rw [e'] at e
    cases e
def sortKeys (l : List Key) : List Key := l.mergeSort fun a b => !oneLt b a
theorem sortKeys_perm (l : List Key) : (sortKeys l).Perm l := List.mergeSort_perm l _
/-- the number in front of a rank -/
def tagOf : Key → Int
  | .inl _ => 0
  | .inr _ => 1
theorem rank_split (x : Key) : rankD x = .tuple [.int (tagOf x), keyD x] := by cases x <;> rfl
section
variable {M : Model} {A : Around} {E : Value → Shared → Prop} {s : Shared}
theorem rank_items {v : Value} {x : Key} (k : KeyIsV s.heap v x) : ∃ (l : Addr) (t : Tok) (u : Value) (as : List Addr), v = .ref l ∧ s.heap.IsTuple l #[.int (tagOf x) t, u] ∧ Reads s.heap u (keyD x) as := by
  obtain ⟨as, k⟩ := k
  rw [rank_split] at k
  obtain ⟨l, xs, rfl, hl, ra⟩ := tup_items k
  obtain ⟨z0, bs, cs, r1, ra1⟩ := all1 (i := 0) (show ReadsAll s.heap (xs.toList.drop 0) _ as from ra)
  obtain ⟨z1, bs2, cs2, r2, ra2⟩ := all1 (i := 1) ra1
  obtain ⟨t, e1⟩ := int_back r1
  have n := SeqAt.ReadsAll.length _ _ _ ra
  simp only [Array.length_toList, List.length_cons, List.length_nil] at n
  have e : xs = #[.int (tagOf x) t, xs[1]] := by
    apply Array.ext
    · simp [n]
    · intro i h1 h2
      have : i = 0 ∨ i = 1 := by
        simp at h2
        omega
      rcases this with rfl | rfl
      · simp [e1]
      · simp
  exact ⟨l, t, xs[1], bs2, rfl, by rw [← e]; exact hl, r2⟩
theorem firsts_val : ∀ (vs : List Value) (xs : List Key), EachIs (KeyIsV s.heap) vs xs → ∃ fs : List Value, fs.length = vs.length ∧ (∀ v ∈ fs, ∃ i t, v = .int i t) ∧ ∀ Q : List (Option Value) → Shared → Prop, Q (fs.map some) s → wpAny M A (vs.mapM firstOfTuple') Q E s
  | [], [], _ => by
    refine ⟨[], rfl, fun v hv => (List.not_mem_nil hv).elim, fun Q hq => ?_⟩
    rw [List.mapM_nil]
    exact wpAny_pure hq
  | [], _ :: _, h => by cases h
  | _ :: _, [], h => by cases h
  | v :: vs, x :: xs, h => by
    cases h with
    | cons h1 h2 =>
      obtain ⟨fs, f1, f2, f3⟩ := firsts_val vs xs h2
      obtain ⟨l, t, u, as, rfl, ⟨o, o1, o2, n, o3⟩, _⟩ := rank_items h1
      refine ⟨.int (tagOf x) t :: fs, by simp [f1], fun v hv => ?_, fun Q hq => ?_⟩
      · rcases List.mem_cons.mp hv with rfl | hv
        · exact ⟨_, _, rfl⟩
        · exact f2 v hv
      · rw [List.mapM_cons]
        refine wpAny_bind ?_
        rw [kas_first_eq]
        refine wpAny_bind (Looks.here (show Looks M s.heap (typeOf (.ref l)) o.cls from (Looks.ld o1).andThen .now) ?_)
        rw [o2, if_neg (by first | decide | simp)]
        refine wpAny_bind (listItems_at o1 o3 (wpAny_pure ?_))
        exact wpAny_bind (f3 (fun bs s' => wpAny M A (pure (#[Value.int (tagOf x) t, u][0]? :: bs)) Q E s') (wpAny_pure hq))
end
section
variable {prog : Program} {w : World} {A : Around} {s : Shared}
theorem key_plainD (x : Key) : (keyD x).plain = true := by cases x <;> rfl
theorem key_depthD (x : Key) : (keyD x).depth ≤ 1 := by cases x <;> simp [keyD, PyData.depth]
theorem sorts_val {ks : List Value} {xs : List Key} (e : EachIs (KeyIsV s.heap) ks xs) (hu : A.units + 12 < cLine) : SortsAt prog w A s (valKind s.heap) ks := by
  refine ⟨fun v hv => ?_, tuples' true, fun E v u (a b : Key) Q ha hb hq => ?_, fun h2 E Q hq => ?_⟩
  · obtain ⟨r, k⟩ := each_left e hv
    exact ⟨r, valKind_some k⟩
  · obtain ⟨l, t, p, as, rfl, ⟨o, o1, o2, n, o3⟩, r1⟩ := rank_items (valKind_inv ha)
    obtain ⟨m, t', q, bs, rfl, ⟨o', p1, p2, n', p3⟩, r2⟩ := rank_items (valKind_inv hb)
    have hq' : Q (oneLt a b) s := hq
    refine kat_lt o1 o3 p1 p3 ?_
    show KatLex prog w A true (decide (2 < 2)) Q [(Value.int (tagOf a) t, Value.int (tagOf b) t'), (p, q)] 0 s
    refine kat_cons (wpAny_eqBool_int ?_)
    by_cases h : tagOf a = tagOf b
    · rw [show (tagOf a == tagOf b) = true by simp [h]]
      refine kat_yes (kat_cons (SeqAt.eqAt_plain (keyD a) (keyD b) A s _ _ _ _ r1 r2 (key_plainD a) (key_plainD b) (by have h1 := key_depthD a; have h2 : min (keyD a).depth (keyD b).depth ≤ (keyD a).depth := Nat.min_le_left _ _; omega) prog w _ _ ?_))
      rw [eqv_key]
      by_cases h2 : a = b
      · subst h2
        rw [decide_eq_true rfl]
        refine kat_yes (kat_nil ?_)
        rw [oneLt_irrefl] at hq'
        exact hq'
      · rw [decide_eq_false h2]
        refine kat_no ?_
        rcases key_back r1 with ⟨i, t1, rfl, rfl⟩ | ⟨z, t1, rfl, rfl⟩
        · rcases key_back r2 with ⟨j, t2, rfl, rfl⟩ | ⟨z2, t2, rfl, rfl⟩
          · exact one_gen rc_int hq'
          · cases (show (0 : Int) = 1 from h)
        · rcases key_back r2 with ⟨j, t2, rfl, rfl⟩ | ⟨z2, t2, rfl, rfl⟩
          · cases (show (1 : Int) = 0 from h)
          · exact one_gen rc_str hq'
    · rw [show (tagOf a == tagOf b) = false by simp [h]]
      refine kat_no (oneLt_int ?_)
      have e1 : decide (tagOf a < tagOf b) = oneLt a b := by
        cases a <;> cases b <;> first | exact absurd rfl h | rfl
      rw [e1]
      exact hq'
  · obtain ⟨fs, f1, f2, f3⟩ := firsts_val (M := model prog w) (A := A) (E := E) ks xs e
    rw [keyKind'_eq, List.mapM_toArray, map_eq_pure_bind]
    refine wpAny_bind (wpAny_bind (f3 _ (wpAny_pure ?_)))
    rw [if_pos (show ((fs.map some).toArray.all fun x => x.isSome) = true by simp)]
    refine wpAny_bind (wpAny_rule ?_)
    rw [show (fs.map some).toArray.filterMap id = fs.toArray by simp]
    refine wpAny_bind (one_type (T := .type "int") (by omega) (fun v hv => ?_) (by simp) (wpAny_pure ?_))
    · obtain ⟨i, t, rfl⟩ := f2 v hv
      exact looks_reads (show Reads s.heap (.int i t) (.int i) [] from .int i t)
    · have e2 : (some (Value.type "int")).any (· != Value.type "tuple") = true := by decide
      rw [e2]
      exact hq
end
section
variable {X : Cx}
theorem dps_readsK {pins : List (Addr × Obj)} {s : Shared} {σ : L2.St} {H : Hp} (I : Inv X pins σ H s) : ∀ {kvs : List V} {rows : List Key} {ks : List Value}, EachIs (fun v r => Dp X.K H v (rankD r)) kvs rows → Vals kvs ks → EachIs (KeyIsV s.heap) ks rows
  | _, _, _, .nil, h => by cases h; exact .nil
  | _, _, _, .cons h t, q => by
    cases q with
    | cons q1 q2 =>
      obtain ⟨as, r⟩ := Dp.reads I _ _ _ h q1
      exact .cons ⟨as, r⟩ (dps_readsK I t q2)
def KeyAtK (X : Cx) (f : Addr) (H0 : Hp) (pins : List (Addr × Obj)) : Prop :=
  ∀ (s : Shared) (σ : L2.St) (H : Hp) (x : V) (u : Value) (r : Key), Inv X pins σ H s → Same H0 H → RelV x u → x = kV r →
    wpAny (model X.prog X.w) X.A.in1.in1 (call (.ref f) [u]) (fun u s' => ∃ v H', Inv X pins σ H' s' ∧ Same H H' ∧ RelV v u ∧ Dp X.K H' v (rankD r)) (fun _ _ => False) s
theorem each_relK : ∀ {xs : List V} {us : List Value} {rows : List Key}, Vals xs us → EachIs (fun v x => v = kV x) xs rows → EachIs (fun u r => ∃ x, RelV x u ∧ x = kV r) us rows
  | _, _, _, .nil, h => by cases h; exact .nil
  | _, _, _, .cons r t, h => by
    cases h with
    | cons h1 h2 => exact .cons ⟨_, r, h1⟩ (each_relK t h2)
theorem each_unrelK : ∀ {us : List Value} {rows : List Key}, EachIs (fun u r => ∃ x, RelV x u ∧ x = kV r) us rows → ∃ xs, Vals xs us ∧ EachIs (fun v x => v = kV x) xs rows
  | _, _, .nil => ⟨[], .nil, .nil⟩
  | _, _, .cons ⟨x, r, h⟩ t => by
    obtain ⟨xs, h1, h2⟩ := each_unrelK t
    exact ⟨x :: xs, .cons r h1, .cons h h2⟩
theorem sort_runK
    (hu : X.A.units + 64 < cLine) (hx : X.ex = []) {pins : List (Addr × Obj)} {s : Shared} {σ : L2.St} {H : Hp} {Q : VK} {l f : Addr} {xs : List V} {rows : List Key} (I : Inv X pins σ H s) (hs : SqL X.K H l xs) (hrow : EachIs (fun v x => v = kV x) xs rows)
    (hc : KeyAtK X f H pins) (h0 : ∀ p, H p = none → X.H_0 p = none) (q : ∀ (p : Addr) (H' : Hp) (ys : List V), Same H H' → H p = none → H' p = some (.lst ys) → EachIs (fun v x => v = kV x) ys (sortKeys rows) → Q (.ref p) H') :
    wpAny (model X.prog X.w) X.A (call (.builtin "sorted") [.ref l] [(Str.ofString "key", .ref f)]) (EP X pins σ Q) X.xe s := by
  obtain ⟨its, rv, hl, hz⟩ := I.list hs
  have hxl : its.length = xs.length := rv.length.symm
  have hzi : its.length ≤ sizeLine := by
    have hz' := hz
    omega
  refine sorted_of_sort (vs := its) hl.isList hzi (ksk_s1 _ _) (fun x => ksk_l1 _ _) fun E' => ?_
  rw [ksk_t1]
  obtain ⟨a, ea⟩ : ∃ a, a = s.heap.objs.size + 1 := ⟨_, rfl⟩
  rw [← ea]
  have ho := copyHeap_at s.heap its
  rw [← ea] at ho
  have hHa : H a = none := I.hok.fresh (by rw [ea]; exact Nat.le_succ _)
  obtain ⟨e1, ho1⟩ : ∃ e1, ((copyHeap s.heap its).update a (Obj.mapSeq fun _ => (#[] : Array Value))).get? a = some (seqObj "list" #[] e1) := ⟨_, get?_update_seq ho fun _ => #[]⟩
  have s1 := Heap.SameBut.update (copyHeap s.heap its) a (Obj.mapSeq fun _ => (#[] : Array Value))
  have k1 : ∀ b u, s.heap.get? b = some u → ((copyHeap s.heap its).update a (Obj.mapSeq fun _ => (#[] : Array Value))).get? b = some u := fun b u z =>
    (s1.2 b (by rw [ea]; exact Nat.ne_of_lt (Nat.lt_succ_of_lt (Heap.lt_size z)))).trans (copyHeap_old z)
  unfold ksk_tree
  refine wpAny_bind (listItems_at ho rfl ?_)
  refine wpAny_bind (listUpdate_at ho rfl ?_ (by rw [List.size_toArray]; exact hzi) (Nat.zero_le _))
  refine wpAny_bind (seqEpoch_at ho1 rfl ?_)
  refine wpAny_bind (wpAny_newTuple ?_ (by show its.toArray.toList.length ≤ _; simpa using hzi))
  refine wpAny_bind (wpAny_newList ?_ (Nat.zero_le _))
  refine wpAny_holding ?_
  have I1 : Inv X pins σ (upd H a (nilO a e1)) { s with heap := (copyHeap s.heap its).update a (Obj.mapSeq fun _ => (#[] : Array Value)) } :=
    I.laid (t' := s.toks) k1 (by rw [ea]; exact Nat.le_succ _) (nilO_ok ho1)
  obtain ⟨hT, ehT⟩ : ∃ hT, hT = ((copyHeap s.heap its).update a (Obj.mapSeq fun _ => (#[] : Array Value))).push (seqObj "tuple" its.toArray 0) := ⟨_, rfl⟩
  have I2 : Inv X pins σ (upd H a (nilO a e1)) { s with heap := hT } := I1.kept (t' := s.toks) fun b u z => by rw [ehT]; exact Heap.get?_push_of_some _ z
  obtain ⟨kS, ekS⟩ : ∃ kS, kS = hT.objs.size := ⟨_, rfl⟩
  have hk0 : (upd H a (nilO a e1)) kS = none := I2.hok.fresh (by rw [ekS]; exact Nat.le_refl _)
  have hka : kS ≠ a := fun z => by
    rw [z, upd_same] at hk0
    cases hk0
  have hHk : H kS = none := by
    rw [upd_ne hka] at hk0
    exact hk0
  have nk0 : (hT.push (seqObj "list" #[] 0)).get? kS = some (seqObj "list" #[] 0) := by
    rw [ekS]
    exact Heap.get?_push_size _ rfl
  have I3 : Inv X pins σ (upd (upd H a (nilO a e1)) kS (keysO kS [])) { s with heap := hT.push (seqObj "list" #[] 0) } :=
    I2.laid (t' := s.toks) (fun b u z => Heap.get?_push_of_some _ z) (by rw [ekS]; exact Nat.le_refl _) (keysO_ok (arr := #[]) .nil nk0)
  rw [← ehT]
  show wpAny _ X.A.in1.in1 (ksk_rest a (.ref f) false its.toArray e1 (.ref hT.objs.size)) _ _ { s with heap := hT.push (seqObj "list" #[] 0) }
  rw [← ekS]
  unfold ksk_rest
  refine wpAny_bind (wpAny_rule ?_)
  rw [List.forIn_toArray]
  refine wpAny_bind (ksk_fold (fun i s' => ∃ H' kvs, Inv X pins σ H' s' ∧ Same H H' ∧ H' a = some (nilO a e1) ∧ H' kS = some (keysO kS kvs) ∧ EachIs (fun v r => Dp X.K H' v (rankD r)) kvs (rows.take i)) its 0 _
    ⟨_, [], I3, same_mut (same_mut (Same.refl H) hHa) hHk, by rw [upd_ne hka.symm, upd_same], upd_same, by rw [List.take_zero]; exact .nil⟩ ?step ?done)
  case step =>
    rintro j x s' hxj ⟨H', kvs, I', sm, na, nk, hd⟩
    simp only [Nat.zero_add] at hd ⊢
    · obtain ⟨xv, haj, rxv⟩ := vals_get rv hxj
      obtain ⟨r, hrj, hrp⟩ := each_at hrow haj
      have hj : j < rows.length := (List.getElem?_eq_some_iff.mp hrj).1
      refine wpAny_bind (wpAny_attempt (wpAny_mono (hc s' σ H' xv x r I' sm rxv hrp) (fun v s'' he => ?_) fun _ _ hF => hF.elim))
      obtain ⟨kv, H2, I4, sm2, rkv, hdp⟩ := he
      try dsimp only
      obtain ⟨⟨arr, e, va, gk⟩, _, _⟩ := I4.hok kS _ (sm2 _ _ nk)
      have la : arr.size ≤ its.length := by
        have q1 := va.length
        have q2 := hd.length
        rw [List.length_take] at q2
        have q3 := hrow.length
        have q4 : arr.toList.length = arr.size := Array.length_toList
        omega
      obtain ⟨c2, hc2⟩ : ∃ c2, (s''.heap.update kS (Obj.mapSeq (·.push v))).get? kS = some (seqObj "list" (arr.push v) c2) := ⟨_, get?_update_seq gk (·.push v)⟩
      have s3 := Heap.SameBut.update s''.heap kS (Obj.mapSeq (·.push v))
      refine wpAny_bind (listUpdate_at gk rfl ?_ (Nat.le_trans la hzi) (Nat.le_trans (Nat.le_of_eq (Array.size_push ..)) (Nat.succ_le_succ (Nat.le_trans la hzi))))
      have nk2 : H2 kS = some (keysO kS kvs) := sm2 _ _ nk
      have I5 : Inv X pins σ (upd H2 kS (keysO kS (kvs ++ [kv]))) { s'' with heap := s''.heap.update kS (Obj.mapSeq (·.push v)) } :=
        I4.write (t' := s''.toks) (by rw [nk2]; trivial) (.inl rfl) (fun b u hb z => (s3.2 b hb).trans z) ⟨_, hc2⟩ (keysO_ok (arr := arr.push v) (by rw [Array.toList_push]; exact vals_snoc rkv va) hc2)
      have sd : SameD H2 (upd H2 kS (keysO kS (kvs ++ [kv]))) := upd_ext nk2
      refine wpAny_pure ⟨rfl, _, kvs ++ [kv], I5, same_mut (sm.trans sm2) hHk, by rw [upd_ne hka.symm]; exact sm2 _ _ na, upd_same, ?_⟩
      rw [List.take_add_one, hrj]
      exact each_snoc1 (R := fun v r => Dp X.K (upd H2 kS (keysO kS (kvs ++ [kv]))) v (rankD r)) (Dp.monoD sd _ _ hdp) (hd.mono fun v r z => Dp.monoD sd _ _ (Dp.mono sm2 z))
  case done =>
    rintro s' ⟨H', kvs, I', sm, na, nk, hd⟩
    have et : rows.take (0 + its.length) = rows := List.take_of_length_le (by have := hrow.length; omega)
    rw [et] at hd
    obtain ⟨⟨arr, e, va, gk⟩, _, _⟩ := I'.hok kS _ nk
    have ga : s'.heap.get? a = some (seqObj "list" #[] e1) := (I'.hok a _ na).1
    try dsimp only
    refine wpAny_bind (listItems_at gk rfl ?_)
    have hks : EachIs (KeyIsV s'.heap) arr.toList rows := dps_readsK I' hd va
    have hsz : arr.size = its.length := by
      have q1 := hks.length
      rw [Array.length_toList] at q1
      have := hrow.length
      omega
    obtain ⟨G, gs, gn, J⟩ := I'.untrack nk (fr0_none (h0 kS hHk)) hx
    refine keyH_end (κ := valKind s'.heap) (h₁ := G) (fun b o _ z => gs b o z) gn gk ga hka (sorts_val hks (by show X.A.units + 1 + 1 + 12 < _; omega)) hsz hzi fun h3 tk c k3 n3 => ⟨rfl, ?_⟩
    have hout : EachIs (fun u r => ∃ x, RelV x u ∧ x = kV r) (sortVals (valKind s'.heap) false arr.toList its) (sortKeys rows) :=
      PySem.W.sortVals_each (κ := valKind s'.heap) (rev := false) (fun r => r) (each_relK rv hrow) (hks.mono fun v r z => valKind_some z)
    obtain ⟨ys, hy1, hy2⟩ := each_unrelK hout
    have nka : (delH H' kS) a = some (nilO a e1) := by
      rw [delH_ne hka.symm]
      exact na
    have yl : ys.length ≤ sizeLine := by
      have h1 := hy2.length
      rw [(sortKeys_perm rows).length_eq, ← hrow.length] at h1
      omega
    have J2 : Inv X pins σ (upd (delH H' kS) a (.lst ys)) { s' with heap := h3, toks := tk } :=
      J.write (t' := tk) (by rw [nka]; trivial) (.inl rfl) (fun b u hbn z => k3 b u hbn z) ⟨_, n3⟩ ⟨yl, _, c, hy1, by simpa using n3⟩
    have sf : Same H (upd (delH H' kS) a (.lst ys)) := by
      refine same_mut (fun b o z => ?_) hHa
      rw [delH_ne (ne_of_none z hHk)]
      exact sm b o z
    exact ⟨.ref a, _, J2, rfl, q a _ ys sf hHa upd_same hy2⟩
end
end KA
set_option Elab.async false
set_option linter.all false
set_option maxRecDepth 100000
set_option maxHeartbeats 4000000
/-! sorted(values, key=rank), as a rule -/
namespace KA
open PySem PySem.Spec PyProof.Rows L2 LamX
open PySem.W (EachIs)
section
variable {X : Cx}
theorem keyAtK_of {f : Addr} {fd : FuncData} {k : Nat} {x : Str} (G : FnOk X.prog X.w X.K X.mg X.base CX0 k f fd [x] (spRank X.K)) (hb : Binds X.K fd [x] []) (hr : Room (k + 2) X.A) (H0 : Hp) (pins : List (Addr × Obj)) : KeyAtK X f H0 pins := by
  intro s σ H xv u r I _ rx hx
  subst hx
  have e0 := (I.env0.in1).in1
  refine wpAny_call (codeAny_mono (G.run X.A.in1.in1 X.stack s H ⟨[u], []⟩ [u] [kV r] (fun v H' => Same H H' ∧ Dp X.K H' v (rankD r)) E0 (hr.in1).in1 e0 (hb s [u] I.kIn rfl) (.cons rx .nil) ⟨r, rfl, fun v H' s1 d => ⟨s1, d.dp⟩⟩) fun z s' hz => ?_)
  cases z with
  | error e => exact False.elim hz
  | ok fl =>
    cases fl with
    | ret u =>
      obtain ⟨v, H', I', rv, s1, d⟩ := I.after hz
      exact ⟨v, H', I', s1, rv, d⟩
    | next => exact False.elim hz
    | brk => exact False.elim hz
    | cont => exact False.elim hz
def rSortK (X : Cx) (f : Addr) : List V → List V → Hp → VK → Prop := fun vs zs H Q => ∃ (l : Addr) (xs : List V) (keys : List Key), vs = [.ref l] ∧ zs = [.ref f] ∧ SqL X.K H l xs ∧ EachIs (fun v x => v = kV x) xs keys ∧ ExtN X.H_0 H ∧
  ∀ (p : Addr) (H' : Hp), Same H H' → H p = none → H' p = some (.lst ((sortKeys keys).map kV)) → Q (.ref p) H'
theorem each_kV : ∀ {ys : List V} {keys : List Key}, EachIs (fun v x => v = kV x) ys keys → ys = keys.map kV
  | _, _, .nil => rfl
  | _, _, .cons h t => by rw [List.map_cons, h, each_kV t]
theorem cr_sortK {f : Addr} (hc : ∀ H0 pins, KeyAtK X f H0 pins) (hu : X.A.units + 64 < cLine) (hx : X.ex = []) : CallRK X (.builtin "sorted") [Str.ofString "key"] (rSortK X f) := by
  intro pins s σ H vs zs us ws Q I r rz h
  obtain ⟨l, xs, keys, rfl, rfl, hs, hrow, eN, q⟩ := h
  obtain rfl := Vals.ref1 r
  obtain ⟨w1, rfl, e1⟩ := vals1 rz
  obtain rfl : w1 = Value.ref f := e1
  refine sort_runK hu hx I hs hrow (hc H pins) (fun p hp => ?_) fun p H' ys s' hp hl hy => q p H' s' hp (by rw [hl, each_kV hy])
  cases e1 : X.H_0 p with
  | none => rfl
  | some o =>
    exfalso
    by_cases ht : ∃ ps, o = .tbl ps
    · obtain ⟨ps, rfl⟩ := ht
      obtain ⟨more, e2⟩ := I.base.tbls p ps e1
      rw [hp] at e2
      cases e2
    · rw [eN p o e1 fun ps z => ht ⟨ps, z⟩] at hp
      cases hp
end
end KA
set_option Elab.async false
set_option linter.all false
set_option maxRecDepth 100000
set_option maxHeartbeats 8000000
/-! _law_value, where tables of code objects may grow -/
namespace KA
open PySem PySem.Spec PyProof.Rows L2 LamX
open PySem.W (EachIs)
theorem Tm.kid_ok {t c : Tm} (h : c ∈ t.kids) (hs : t.Ok) : c.Ok := by
  cases t with
  | name k n => cases h
  | bag b => cases h
  | map es t => rcases List.mem_cons.mp h with rfl | h; exact hs.2; cases h
  | keep e t => rcases List.mem_cons.mp h with rfl | h; exact hs.2; cases h
  | neg t => rcases List.mem_cons.mp h with rfl | h; exact hs; cases h
  | once t => rcases List.mem_cons.mp h with rfl | h; exact hs; cases h
  | fold keys k e t => rcases List.mem_cons.mp h with rfl | h; exact hs.2.2; cases h
  | plus a b =>
    rcases List.mem_cons.mp h with rfl | h
    · exact hs.1
    · rcases List.mem_cons.mp h with rfl | h
      · exact hs.2
      · cases h
  | join l r es a b =>
    rcases List.mem_cons.mp h with rfl | h
    · exact hs.2.2.2.1
    · rcases List.mem_cons.mp h with rfl | h
      · exact hs.2.2.2.2
      · cases h
theorem Tm.kid_fits {o cc : Str → Bag} {t c : Tm} (h : c ∈ t.kids) (hs : t.Fits o cc) : c.Fits o cc := by
  cases t with
  | name k n => cases h
  | bag b => cases h
  | plus a b =>
    rcases List.mem_cons.mp h with rfl | h
    · exact hs.1
    · rcases List.mem_cons.mp h with rfl | h
      · exact hs.2.1
      · cases h
  | join l r es a b =>
    rcases List.mem_cons.mp h with rfl | h
    · exact hs.1
    · rcases List.mem_cons.mp h with rfl | h
      · exact hs.2.1
      · cases h
  | _ => rcases List.mem_cons.mp h with rfl | h; exact hs.1; cases h
theorem join_s {l r es : List Ex} {a b : Bag} (ol : ExsOk 1 l) (or_ : ExsOk 1 r) (oes : ExsOk 1 es) (ha : RowsS a) (hb : RowsS b) : RowsS (joinP l r es a b) := fun e he => by
  obtain ⟨x, hx, h1⟩ := List.mem_flatMap.mp he
  obtain ⟨y, hy, h2⟩ := List.mem_flatMap.mp h1
  split at h2
  · rw [List.mem_singleton.mp h2]
    exact rowOf_s oes ((ha x hx).cat (hb y hy))
  · cases h2
theorem flat_map1 (f : Row × Int → Row × Int) (b : Bag) : b.flatMap (fun e => [f e]) = b.map f := by
  induction b with
  | nil => rfl
  | cons e t ih => rw [List.flatMap_cons, ih]; rfl
theorem exs_b {n : Nat} {es : List Ex} (h : ExsOk 1 es) (hn : 2 ≤ n) : ExsB n es := ⟨Nat.le_trans h.1 (by decide), fun e he => ⟨(h.2 e he).1, by have := (h.2 e he).2; omega⟩⟩
theorem ex_off {K : PySem.W.Frag} {X H H' : Hp} {d : Addr} {kvs : List (List Key × V)} (hd : H d = some (.dT kvs)) (k : Off d H H') (sub : Sub X H) {v : V} {dd : PyData} (h : Dp [] X v dd) : Dp K H' v dd := by
  refine dp_any dd v (Dp.mono (fun a o q => ?_) h)
  have q2 := sub_at sub q
  refine k a o (fun z => ?_) q2
  rw [z] at q q2
  rw [hd] at q2
  cases q2
  rcases frm_is (sub _ _ q) with ⟨_, e, _⟩ | ⟨_, e, _⟩ <;> cases e
theorem exs_off {K : PySem.W.Frag} {X H H' : Hp} {d : Addr} {kvs : List (List Key × V)} (hd : H d = some (.dT kvs)) (k : Off d H H') (sub : Sub X H) {v : V} {es : List Ex} (h : Dp [] X v (exsD es)) : ∃ p, v = .ref p ∧ ExsD K H' p es := by
  obtain ⟨p, ts, rfl, hx, hp, ha⟩ := dx_lst sub h
  have mv : Same X H' := fun a o q => by
    have q2 := sub_at sub q
    refine k a o (fun z => ?_) q2
    rw [z] at q q2
    rw [hd] at q2
    cases q2
    rcases frm_is (sub _ _ q) with ⟨_, e, _⟩ | ⟨_, e, _⟩ <;> cases e
  exact ⟨p, rfl, _, sq_l (mv _ _ hx), dpa_any _ _ (DpAll.mono mv ha)⟩
section
variable {P : Program} {w : World} {K : PySem.W.Frag} {mg : Str → Option Value} {base : Heap} {f : Addr} {fd : FuncData}
def spFolded (T : List (Addr × Str)) : Sp := fun vs H Q _ => ∃ (v : V) (pb : Addr) (keys : List Ex) (k : Fk) (e : Ex) (t : Tm) (b : Bag) (X : Hp), vs = [v, .ref pb] ∧ Sub X H ∧ Dp [] X v (Tm.fold keys k e t).d ∧ ExsOk 1 keys ∧ e.Ok ∧ e.depth ≤ 1 ∧ BagAt H pb b ∧ b.length ≤ 20000 ∧ RowsS b ∧ Tabs T H ∧
  ∀ q H', ExtN H H' → Tabs T H' → (∀ xs, H q ≠ some (.lst xs)) → BagAt H' q (mk (foldP keys k e b)) → Q (.ref q) H'
structure ValIn (H : Hp) (o c : Str → Bag) (po pc : Addr) : Prop where
  ho : BagsAt H po o
  hc : BagsAt H pc c
  oo : BagsOk o
  oc : BagsOk c
  so : ∀ n, RowsS (o n)
  sc : ∀ n, RowsS (c n)
theorem ValIn.mono {H H' : Hp} (s : ExtN H H') {o c : Str → Bag} {po pc : Addr} (h : ValIn H o c po pc) : ValIn H' o c po pc := ⟨h.ho.extn s, h.hc.extn s, h.oo, h.oc, h.so, h.sc⟩
def spValue (T : List (Addr × Str)) (n : Nat) : Sp := fun vs H Q _ => ∃ (v : V) (po pc : Addr) (t : Tm) (o c : Str → Bag) (X : Hp), vs = [v, .ref po, .ref pc] ∧ Sub X H ∧ Dp [] X v t.d ∧ t.depth < n ∧ t.Ok ∧ t.Fits o c ∧ ValIn H o c po pc ∧ Tabs T H ∧
  ∀ v' H', ExtN H H' → Tabs T H' → Dp [] (Mx H X H') v' (bagD (t.value o c)) → Q v' H'
theorem ok_value0 {T : List (Addr × Str)} (F : FnP K "_law_value" s__law_value f fd) : FnOk P w K mg base CX0 1 f fd ["term", "olds", "changes"] (spValue T 0) := by
  refine F.ok sc__law_value (fun vs H Q E h => ?_) (fun cdv A outer s H vs Q E hr h => ?_)
  · obtain ⟨v, po, pc, t, o, c, X, rfl, _⟩ := h
    rfl
  · obtain ⟨v, po, pc, t, o, c, X, rfl, _, _, h, _⟩ := h
    omega
theorem ok_valueS {T : List (Addr × Str)} {k n : Nat} (hk : 8 ≤ k) (F : FnP K "_law_value" s__law_value f fd) (gL : mg "len" = none) (gI : mg "int" = none) (CA : AddC P w K mg base) (CC : Cal P w K mg base "_law_canon" 4 ["counts"] spCanon) (CB : Cal P w K mg base "_law_below" 1 ["term"] spBelow)
    (CN : Cal P w K mg base "_law_named" 5 ["term", "olds", "changes"] spNamed) (CO : Cal P w K mg base "_law_of" 5 ["e", "row"] (spOf K 4)) (CR : Cal P w K mg base "_law_rowed" 6 ["exprs", "row"] (spRowed K 4))
    (CL : Cal P w K mg base "_law_folded" 8 ["term", "bag"] (spFolded T)) (CV : Cal P w K mg base "_law_value" k ["term", "olds", "changes"] (spValue T n)) : FnOk P w K mg base CX0 (k + 1) f fd ["term", "olds", "changes"] (spValue T (n + 1)) := by
  refine F.ok sc__law_value (fun vs H Q E h => ?_) (fun cdv A outer s H vs Q E hr h => ?_)
  · obtain ⟨v, po, pc, t, o, c, X, rfl, _⟩ := h
    rfl
  · obtain ⟨v, po, pc, t, o, cc, X, rfl, sub, hx, hn, tok, tf, vi, tb0, q⟩ := h
    have r8 := hr.mono hk
    refine ⟨_, PSs.nox (pss_cons (ps_setLc (i := 3) (own := [("part", 4)]) (g := (gName 4)) (tt := tYes) (by rfl) sc__law_value.nd rfl rfl (sw_true rfl rfl rfl (by decide +kernel)) (pi_list (pe_cal CB r8.lt (pa_cons (pv 0) pa_nil))) (blkOk_by (own := [("part", 4)]) (N := ["term", "olds", "changes", "bags", "part", "counts", "row", "count", "other", "times"]) (sc := defScope s__law_value) (by decide +kernel)) (fun _ _ _ _ _ => (pg_name (i := 4) sc__law_value.nd rfl (Or.inl rfl))) (fun _ _ _ _ _ => pts_nil) (fun _ _ _ _ _ => (pe_cal CV hr (pa_cons (pv 4) (pa_cons (pv 1) (pa_cons (pv 2) pa_nil))))))
      (pss_cons (ps_set (i := 5) sc__law_value.nd rfl (Or.inl rfl) pe_dnewT)
      (pss_cons (ps_if (pt_cmpR op_eq (pe_callB call_len_seq (by rfl) gL PySem.boot_len (pa_cons (pv 3) pa_nil)) pe_int (nomark _))
        (pss_one (ps_ret (pe_cal CN r8.lt (pa_cons (pv 0) (pa_cons (pv 1) (pa_cons (pv 2) pa_nil)))))) pss_nil)
      (pss_cons (ps_if (pt_cmpR op_eq (pe_ix ix_tup (pv 0) pe_int (fun _ _ => rfl)) pe_str (nomark _))
        (pss_one (ps_ret (pe_cal CL r8 (pa_cons (pv 0) (pa_cons (pe_ix ix_list (pv 3) pe_int (fun _ _ => rfl)) pa_nil))))) pss_nil)
      (pss_cons (ps_if (pt_cmpR op_eq (pe_ix ix_tup (pv 0) pe_int (fun _ _ => rfl)) pe_str (nomark _))
        (pss_cons (ps_for PassesOwn.never rfl (pi_list (pe_ix ix_list (pv 3) pe_int (fun _ _ => rfl))) (pg_tup rfl (pgs_cons (pg_name (i := 6) sc__law_value.nd rfl (Or.inl rfl)) (pgs_cons (pg_name (i := 7) sc__law_value.nd rfl (Or.inl rfl)) pgs_nil)))
          (pss_one (ps_for PassesOwn.never rfl (pi_list (pe_ix ix_list (pv 3) pe_int (fun _ _ => rfl))) (pg_tup rfl (pgs_cons (pg_name (i := 8) sc__law_value.nd rfl (Or.inl rfl)) (pgs_cons (pg_name (i := 9) sc__law_value.nd rfl (Or.inl rfl)) pgs_nil)))
            (pss_one (ps_if (pt_cmpR (op_eqP hr.u64) (pe_cal CR r8.lt (pa_cons (pe_ix ix_tup (pv 0) pe_int (fun _ _ => rfl)) (pa_cons (pv 6) pa_nil))) (pe_cal CR r8.lt (pa_cons (pe_ix ix_tup (pv 0) pe_int (fun _ _ => rfl)) (pa_cons (pv 8) pa_nil))) (nomark _))
              (pss_one (ps_expr (pe_cal CA r8.lt (pa_cons (pv 5) (pa_cons (pe_cal CR r8.lt (pa_cons (pe_ix ix_tup (pv 0) pe_int (fun _ _ => rfl)) (pa_cons (pe_op op_catA (pv 6) (pv 8)) pa_nil))) (pa_cons (pe_op op_mul (pv 7) (pv 9)) pa_nil)))))) pss_nil)))))
        (pss_one (ps_ret (pe_cal CC r8.lt (pa_cons (pv 5) pa_nil))))) pss_nil)
      (pss_cons (ps_for PassesOwn.never rfl (pi_list (pe_ix ix_list (pv 3) pe_int (fun _ _ => rfl))) (pg_tup rfl (pgs_cons (pg_name (i := 6) sc__law_value.nd rfl (Or.inl rfl)) (pgs_cons (pg_name (i := 7) sc__law_value.nd rfl (Or.inl rfl)) pgs_nil)))
        (pss_one (ps_if (pt_cmpR op_eq (pe_ix ix_tup (pv 0) pe_int (fun _ _ => rfl)) pe_str (nomark _))
          (pss_one (ps_expr (pe_cal CA r8.lt (pa_cons (pv 5) (pa_cons (pe_cal CR r8.lt (pa_cons (pe_ix ix_tup (pv 0) pe_int (fun _ _ => rfl)) (pa_cons (pv 6) pa_nil))) (pa_cons (pv 7) pa_nil)))))) (pss_one (ps_if (pt_cmpR op_eq (pe_ix ix_tup (pv 0) pe_int (fun _ _ => rfl)) pe_str (nomark _))
            (pss_one (ps_expr (pe_cal CA r8.lt (pa_cons (pv 5) (pa_cons (pv 6) (pa_cons (pe_ifExp (pt_cmpR (op_neP hr.u64) (pe_cal CO r8.lt (pa_cons (pe_ix ix_tup (pv 0) pe_int (fun _ _ => rfl)) (pa_cons (pv 6) pa_nil))) pe_int (nomark _)) (pv 7) pe_int) pa_nil)))))) (pss_one (ps_if (pt_cmpR op_eq (pe_ix ix_tup (pv 0) pe_int (fun _ _ => rfl)) pe_str (nomark _))
              (pss_one (ps_expr (pe_cal CA r8.lt (pa_cons (pv 5) (pa_cons (pv 6) (pa_cons (pe_op op_sub pe_int (pv 7)) pa_nil)))))) (pss_one (ps_if (pt_cmpR op_eq (pe_ix ix_tup (pv 0) pe_int (fun _ _ => rfl)) pe_str (nomark _))
                (pss_one (ps_expr (pe_cal CA r8.lt (pa_cons (pv 5) (pa_cons (pv 6) (pa_cons (pv 7) pa_nil)))))) (pss_one (ps_expr (pe_cal CA r8.lt (pa_cons (pv 5) (pa_cons (pv 6) (pa_cons (pe_callTy call_int1 (by rfl) gI (by decide +kernel) (pa_cons (pe_cmpR op_gt (pv 7) pe_int (nomark _)) pa_nil)) pa_nil)))))))))))))))
      (pss_cons (ps_if (pt_cmpR op_eq (pe_ix ix_tup (pv 0) pe_int (fun _ _ => rfl)) pe_str (nomark _))
        (pss_one (ps_for PassesOwn.never rfl (pi_list (pe_ix ix_list (pv 3) pe_int (fun _ _ => rfl))) (pg_tup rfl (pgs_cons (pg_name (i := 6) sc__law_value.nd rfl (Or.inl rfl)) (pgs_cons (pg_name (i := 7) sc__law_value.nd rfl (Or.inl rfl)) pgs_nil)))
          (pss_one (ps_expr (pe_cal CA r8.lt (pa_cons (pv 5) (pa_cons (pv 6) (pa_cons (pv 7) pa_nil)))))))) pss_nil)
      (pss_one (ps_ret (pe_cal CC r8.lt (pa_cons (pv 5) pa_nil))))))))))), ?_⟩
    obtain ⟨a, xs, us, rfl, hX, ha, h1, h2⟩ := term_at sub hx
    refine ⟨_, rfl, _, t, X, rfl, sub, hx, fun Db us' H1 s1 _ hDb hus => ?_⟩
    have hl : us'.length = t.kids.length := by
      have := dpAll_len hus
      rw [List.length_map] at this
      exact this
    refine ⟨Db, rfl, ⟨_, sq_l hDb⟩, fun D hD => ?_⟩
    refine lc_offX (T := T) (walk_list (xs := us')) t.kids hl.symm (D := D) (fun H' v c => Dp [] (off D (Mx H X H')) v (bagD (c.value o cc))) (fun _ _ _ _ kp h => Dp.mono (off_mxX kp) h) hD (tb0.ext s1) (fun H' s' => sq_l (s' _ _ hDb fun ps z => by cases z)) (by rw [hl]; have := t.kids_len; omega) ?_ ?_
    · rintro i y c H2 _ hi hc s2 tb2 ⟨acc, hacc⟩ ⟨rfl, hy⟩ Q' Qn k1
      have hm := List.mem_of_getElem? hc
      have hdc : Dp [] X y c.d := dpAll_get hus hy (by rw [List.getElem?_map, hc]; rfl)
      have s02 := ExtN.trans (ExtN.of s1) s2
      refine ⟨rfl, yes_in ⟨_, rfl, _, rfl, _, rfl, y, po, pc, c, o, cc, X, rfl, sub.trans (extn_frm s02), hdc, by have := Tm.kid_depth hm; omega, Tm.kid_ok hm tok, Tm.kid_fits hm tf, vi.mono s02, tb2, fun v' H3 s3 tb3 hv => k1 _ _ s3 tb3 ?_⟩⟩
      refine Dp.mono ((off_none ?_).trans (off_same fun a o _ h => mx_stepX s02 a o h)) hv
      have hXD : X D = none := by
        cases e : X D with
        | none => rfl
        | some o =>
          have := (s1 _ _ (sub_at sub e))
          rw [hD] at this
          cases this
      unfold Mx
      rw [if_pos ⟨⟨acc, hacc⟩, hXD⟩]
    · intro H2 acc s2 tb2 hacc he
      have s02 := ExtN.trans (ExtN.of s1) s2
      have kid : ∀ (i : Nat) (c : Tm), t.kids[i]? = some c → ∃ p, acc[i]? = some (.ref p) ∧ BagAt H2 p (c.value o cc) := fun i c hc => by
        have hlt : i < acc.length := by
          rw [he.length]
          exact (List.getElem?_eq_some_iff.mp hc).1
        have h3 : acc[i]? = some acc[i] := List.getElem?_eq_getElem hlt
        have h4 := each_get he h3 hc
        obtain ⟨p, e1, hb⟩ := dx_bag ((off_sub D _).trans (mx_sub H X H2)) h4
        exact ⟨p, by rw [h3, e1], hb⟩
      have ha2 := s02 _ _ ha fun ps z => by cases z
      have hla : acc.length = t.kids.length := he.length
      clear he
      refine fun d hd => ?_
      have s3 := same_new (o := .dT []) hd
      have hd0 : upd H2 d (.dT []) d = some (.dT (vk (tally []))) := upd_same
      have hacc3 := s3 _ _ hacc
      have ha3 := s3 _ _ ha2
      have kid3 : ∀ (i : Nat) (c : Tm), t.kids[i]? = some c → ∃ p, acc[i]? = some (.ref p) ∧ BagAt (upd H2 d (.dT [])) p (c.value o cc) := fun i c hc => let ⟨p, h1, h2⟩ := kid i c hc; ⟨p, h1, h2.mono s3⟩
      have vi3 := vi.mono (ExtN.trans s02 (ExtN.of s3))
      have tb3 := tb2.ext s3
      clear kid
      generalize upd H2 d (.dT []) = H3 at s3 hd0 hacc3 ha3 kid3 vi3 tb3 ⊢
      have s03 := ExtN.trans s02 (ExtN.of s3)
      have hdL : ∀ o, H d = some o → ∃ ps, o = .tbl ps := fun o ho => Classical.byContradiction fun hn => by
        rw [s02 d o ho fun ps z => hn ⟨ps, z⟩] at hd
        cases hd
      refine ⟨_, rfl, D, _, rfl, .inl (sq_l hacc3), rfl, _, rfl, ?_⟩
      -- what is returned at the end
      have tabs5 : ∀ {H5 : Hp}, Off d H3 H5 → Tabs T H5 := fun k => tabs_off hd0 (fun ps z => by cases z) (fun φ z => by cases z) k tb3
      have ext5 : ∀ {H5 : Hp}, Off d H3 H5 → ExtN H H5 := fun k5 b u h nt => k5 b u (fun z => by
        rw [z] at h
        obtain ⟨ps, e⟩ := hdL u h
        exact nt ps e) (s03 b u h nt)
      have fin : ∀ (ps : Bag) (H5 : Hp), Off d H3 H5 → t.value o cc = mk ps → ∀ qr H6, Same H5 H6 → H5 qr = none → BagAt H6 qr (mk ps) → Q (.ref qr) H6 := fun ps H5 k5 e5 qr H6 s6 hq hb => by
        have s06 := ExtN.trans (ext5 k5) (ExtN.of s6)
        refine q _ _ s06 ((tabs5 k5).ext s6) ?_
        rw [e5]
        exact bag_mxX s06 (extn_lst (ext5 k5) hq) hb
      have had : a ≠ d := fun z => by rw [z, hd0] at ha3; cases ha3
      have hDd : D ≠ d := fun z => by rw [z, hd0] at hacc3; cases hacc3
      have val := Tm.value_s vi.so vi.sc
      refine ite2 (fun h0 => ?_) fun h0 => ?_
      · have hk0 : t.kids = [] := by
          have h0' := of_decide_eq_true h0
          injection h0' with h0'
          exact List.eq_nil_of_length_eq_zero (by omega)
        refine ⟨_, rfl, _, rfl, _, rfl, _, po, pc, t, o, cc, X, rfl, sub.trans (extn_frm s03), hx, hk0, vi3.ho, vi3.hc, vi3.oo, vi3.oc, fun v' H5 s5 hv => ?_⟩
        refine q v' H5 (ExtN.trans s03 (ExtN.of s5)) (tb3.ext s5) (Dp.mono (mx_stepX s03) ?_)
        have e : t.value o cc = leafB o cc t := by
          cases t with
          | name k n => rfl
          | bag b => rfl
          | _ => cases hk0
        rw [e]
        exact hv
      -- the loops' states
      have st : ∀ {H' : Hp}, Off d H3 H' → H' a = some (.tup (.str t.tag :: (xs ++ us))) ∧ H' D = some (.lst acc) := fun k => ⟨k _ _ had ha3, k _ _ hDd hacc3⟩
      cases t with
      | name k n => exact absurd (decide_eq_true (by rw [hla]; rfl)) h0
      | bag b => exact absurd (decide_eq_true (by rw [hla]; rfl)) h0
      | fold keys kd e t =>
        obtain ⟨p0, ip0, hb0⟩ := kid3 0 t rfl
        refine tag_yes rfl (sq_t ha3) (iteT ?_)
        refine ⟨_, rfl, _, rfl, D, _, 0, _, rfl, rfl, sq_l hacc3, atI_nat (j := 0) ip0, _, p0, keys, kd, e, t, t.value o cc, X, rfl, sub.trans (extn_frm s03), hx, tok.1, tok.2.1.1, tok.2.1.2, hb0, tf.2, val t tok.2.2, tb3, fun qr H6 s6 tb6 hq hb => ?_⟩
        refine q _ _ (ExtN.trans s03 s6) tb6 (bag_mxX (ExtN.trans s03 s6) (fun xs' z => hq xs' (s03 _ _ z fun ps y => by cases y)) hb)
      | join l r es ta tb =>
        have ha3 : H3 a = some (.tup (.str "join" :: (xs ++ us))) := ha3
        have st : ∀ {H' : Hp}, Off d H3 H' → H' a = some (.tup (.str "join" :: (xs ++ us))) ∧ H' D = some (.lst acc) := st
        obtain ⟨p0, ip0, hb0⟩ := kid3 0 ta rfl
        obtain ⟨p1, ip1, hb1⟩ := kid3 1 tb rfl
        obtain ⟨ts0, ht0, _⟩ := id hb0
        obtain ⟨_, _, tl1, tl2, tbd⟩ := tf
        obtain ⟨ol, or_, oes, oa, ob⟩ := tok
        obtain ⟨y0, r0, e0, g1, h4⟩ := dpa_cons h1
        obtain ⟨y1, r1, e1, g2, h5⟩ := dpa_cons h4
        obtain ⟨y2, r2, e2, g3, h6⟩ := dpa_cons h5
        obtain rfl := dpa_nil h6
        subst e2
        subst e1
        subst e0
        have sub3 := sub.trans (extn_frm s03)
        refine tag_no rfl (sq_t ha3) (iteF (tag_yes rfl (sq_t ha3) (iteT ?_)))
        refine ⟨_, rfl, D, _, 0, _, rfl, rfl, sq_l hacc3, atI_nat (j := 0) ip0, p0, rfl, ⟨_, sq_l ht0⟩, ?_⟩
        have ilen : ∀ e : Row × Int, ((tb.value o cc).flatMap fun y => if rowOf l e.1 = rowOf r y.1 then [(rowOf es (e.1 ++ y.1), e.2 * y.2)] else []).length ≤ (tb.value o cc).length := fun e => by
          have := flat_le (g := fun y : Row × Int => if rowOf l e.1 = rowOf r y.1 then [(rowOf es (e.1 ++ y.1), e.2 * y.2)] else []) (m := 1) (b := tb.value o cc) fun y _ => by split <;> simp
          omega
        refine bag_loop (K := K) (ps0 := []) (m := (tb.value o cc).length) (fun σ' => ∃ x y z u, σ' = [some (.ref a), some (.ref po), some (.ref pc), some (.ref D), none, some (.ref d), x, y, z, u]) (fun e => (tb.value o cc).flatMap fun y => if rowOf l e.1 = rowOf r y.1 then [(rowOf es (e.1 ++ y.1), e.2 * y.2)] else []) hb0 hd0 ⟨none, none, none, none, rfl⟩ (fun e _ => ilen e) ?_ ?_
        · rintro e qa σ' H4 ps he ⟨x, y, z, u, rfl⟩ k4 hd4 hq4 hl4 N hN
          obtain ⟨ha4, hacc4⟩ := st k4
          have hb4 := hb1.off hd0 k4
          obtain ⟨ts1, ht1, _⟩ := id hb4
          have re := val ta oa e he
          have be := tbd e he
          have hl5 : ps.length ≤ 10000 := by
            simp at hl4
            omega
          refine ⟨_, rfl, D, _, 1, _, rfl, rfl, sq_l hacc4, atI_nat (j := 1) ip1, p1, rfl, ⟨_, sq_l ht1⟩, ?_⟩
          refine bag_loop (K := K) (ps0 := ps) (m := 1) (fun σ' => ∃ z u, σ' = [some (.ref a), some (.ref po), some (.ref pc), some (.ref D), none, some (.ref d), some (.ref qa), some (.int e.2), z, u]) (fun y => if rowOf l e.1 = rowOf r y.1 then [(rowOf es (e.1 ++ y.1), e.2 * y.2)] else []) hb4 hd4 ⟨_, _, rfl⟩ (fun y _ => by split <;> simp) ?_ ?_
          · rintro e2 q2 σ' H5 ps2 he2 ⟨z, u, rfl⟩ k5 hd5 hq5 hl6 N2 hN2
            have k35 := k4.trans k5
            obtain ⟨ha5, _⟩ := st k35
            have hqa5 := hq4.off hd4 k5
            have re2 := val tb ob e2 he2
            obtain ⟨pl, rfl, hel⟩ := exs_off (K := K) hd0 k35 sub3 g1
            obtain ⟨pr, rfl, her⟩ := exs_off (K := K) hd0 k35 sub3 g2
            obtain ⟨pes, rfl, hees⟩ := exs_off (K := K) hd0 k35 sub3 g3
            refine ⟨_, rfl, a, _, 1, _, rfl, rfl, sq_t ha5, atI_nat (j := 1) rfl, _, rfl, pl, qa, l, e.1, rfl, hel, exs_b ol (by decide), hqa5, re.v, fun t1 H6 s6 hr6 => ?_⟩
            refine ⟨_, rfl, a, _, 2, _, rfl, rfl, sq_t (s6 _ _ ha5), atI_nat (j := 2) rfl, _, rfl, pr, q2, r, e2.1, rfl, her.mono s6, exs_b or_ (by decide), hq5.mono s6, re2.v, fun t2 H7 s7 hr7 => ?_⟩
            have s57 := s6.trans s7
            refine ⟨_, _, dp_row (hr6.mono s7), dp_row hr7, row_plain _, row_plain _, Nat.le_trans (row_depth _) (by decide), _, rfl, ?_⟩
            rw [eqv_row]
            by_cases c0 : rowOf l e.1 = rowOf r e2.1
            · rw [decide_eq_true c0]
              rw [if_pos c0] at hN2
              refine iteT ?_
              refine ⟨_, rfl, _, rfl, a, _, 3, _, rfl, rfl, sq_t (s57 _ _ ha5), atI_nat (j := 3) rfl, _, rfl, _, rfl, qa, q2, _, _, rfl, rfl, sq_t (s57 _ _ hqa5), sq_t (hq5.mono s57), ?_, fun z0 => ?_, fun z0 z1 => ?_, fun z0 z1 px hpx => ?_⟩
              · rw [List.length_map, List.length_map]
                have l1 := re.1
                have l2 := re2.1
                exact Nat.le_trans (show _ ≤ 16 by omega) (by decide)
              · have e0 : e.1 = [] := List.map_eq_nil_iff.mp z0
                have hrow : RowAt H7 q2 (e.1 ++ e2.1) := by
                  rw [e0]
                  exact hq5.mono s57
                exact ⟨pes, q2, es, _, rfl, hees.mono s57, exs_b oes (by decide), hrow, re.cat re2, fun t3 H9 s9 hr9 => ⟨_, rfl, _, rfl, _, _, rfl, rfl, .inl ⟨by omega, by omega⟩, d, t3, ps2, _, _, rfl, (s57.trans s9) _ _ hd5, hr9, by omega, hN2 _ _ ⟨_, _, rfl⟩ (((s57.trans s9).off).trans (Off.upd _ _ _)) upd_same⟩⟩
              · have e0 : e2.1 = [] := List.map_eq_nil_iff.mp z1
                have hrow : RowAt H7 qa (e.1 ++ e2.1) := by
                  rw [e0, List.append_nil]
                  exact hqa5.mono s57
                exact ⟨pes, qa, es, _, rfl, hees.mono s57, exs_b oes (by decide), hrow, re.cat re2, fun t3 H9 s9 hr9 => ⟨_, rfl, _, rfl, _, _, rfl, rfl, .inl ⟨by omega, by omega⟩, d, t3, ps2, _, _, rfl, (s57.trans s9) _ _ hd5, hr9, by omega, hN2 _ _ ⟨_, _, rfl⟩ (((s57.trans s9).off).trans (Off.upd _ _ _)) upd_same⟩⟩
              · have s8 := same_new (o := .tup (e.1.map kV ++ e2.1.map kV)) hpx
                have hrow : RowAt (upd H7 px (.tup (e.1.map kV ++ e2.1.map kV))) px (e.1 ++ e2.1) := by
                  unfold RowAt
                  rw [List.map_append]
                  exact upd_same
                exact ⟨pes, px, es, _, rfl, (hees.mono s57).mono s8, exs_b oes (by decide), hrow, re.cat re2, fun t3 H9 s9 hr9 => ⟨_, rfl, _, rfl, _, _, rfl, rfl, .inl ⟨by omega, by omega⟩, d, t3, ps2, _, _, rfl, ((s57.trans s8).trans s9) _ _ hd5, hr9, by omega, hN2 _ _ ⟨_, _, rfl⟩ ((((s57.trans s8).trans s9).off).trans (Off.upd _ _ _)) upd_same⟩⟩
            · rw [decide_eq_false c0]
              rw [if_neg c0] at hN2
              exact iteF (hN2 _ _ ⟨_, _, rfl⟩ s57.off (by rw [List.append_nil]; exact s57 _ _ hd5))
          · rintro σ' H5 ⟨z, u, rfl⟩ k5 hd5
            exact hN _ _ ⟨_, _, _, _, rfl⟩ k5 hd5
        · rintro σ' H5 ⟨x, y, z, u, rfl⟩ k5 hd5
          rw [List.nil_append] at hd5
          have hjl : (joinP l r es (ta.value o cc) (tb.value o cc)).length ≤ 10000 := Nat.le_trans (flat_le (fun e _ => ilen e)) tl1
          exact ⟨_, rfl, d, joinP l r es (ta.value o cc) (tb.value o cc), rfl, hd5, by omega, RowsS.rowB (join_s ol or_ oes (val ta oa) (val tb ob)), fin _ H5 k5 rfl⟩
      | map es t =>
        have ha3 : H3 a = some (.tup (.str "map" :: (xs ++ us))) := ha3
        have st : ∀ {H' : Hp}, Off d H3 H' → H' a = some (.tup (.str "map" :: (xs ++ us))) ∧ H' D = some (.lst acc) := st
        obtain ⟨p0, ip0, hb0⟩ := kid3 0 t rfl
        obtain ⟨ts0, ht0, _⟩ := id hb0
        refine tag_no rfl (sq_t ha3) (iteF (tag_no rfl (sq_t ha3) (iteF ?_)))
        refine ⟨_, rfl, D, _, 0, _, rfl, rfl, sq_l hacc3, atI_nat (j := 0) ip0, p0, rfl, ⟨_, sq_l ht0⟩, ?_⟩
        refine bag_loop (K := K) (ps0 := []) (m := 1) (fun σ' => ∃ x y, σ' = [some (.ref a), some (.ref po), some (.ref pc), some (.ref D), none, some (.ref d), x, y, none, none]) (fun e => [(rowOf es e.1, e.2)]) hb0 hd0 ⟨none, none, rfl⟩ (fun _ _ => Nat.le_refl _) ?_ ?_
        · rintro e qa σ' H4 ps he ⟨x, y, rfl⟩ k4 hd4 hq4 hl4 N hN
          obtain ⟨ha4, _⟩ := st k4
          have hl5 : ps.length ≤ 20000 := by
            have := tf.2
            simp at hl4
            omega
          obtain ⟨y0, r0, e0, h3, h4⟩ := dpa_cons h1
          obtain rfl := dpa_nil h4
          subst e0
          obtain ⟨pe, rfl, hes4⟩ := exs_off (K := K) hd0 k4 (sub.trans (extn_frm s03)) h3
          refine tag_yes rfl (sq_t ha4) (iteT ?_)
          refine ⟨_, rfl, _, rfl, a, _, 1, _, rfl, rfl, sq_t ha4, atI_nat (j := 1) rfl, _, rfl, pe, qa, es, e.1, rfl, hes4, exs_b tok.1 (by decide), hq4, (val t tok.2 e he).v, fun t2 H6 s6 hr6 => ?_⟩
          exact ⟨_, rfl, d, t2, ps, _, _, rfl, s6 _ _ hd4, hr6, hl5, hN _ _ ⟨_, _, rfl⟩ ((s6.off).trans (Off.upd _ _ _)) upd_same⟩
        · rintro σ' H5 ⟨x, y, rfl⟩ k5 hd5
          obtain ⟨ha5, _⟩ := st k5
          rw [List.nil_append, flat_map1 (fun e : Row × Int => (rowOf es e.1, e.2))] at hd5
          refine tag_no rfl (sq_t ha5) (iteF ?_)
          refine ⟨_, rfl, d, _, rfl, hd5, by rw [List.length_map]; exact tf.2, RowsS.rowB ?_, fin _ H5 k5 rfl⟩
          intro z hz
          obtain ⟨e, he, rfl⟩ := List.mem_map.mp hz
          exact rowOf_s tok.1 (val t tok.2 e he).v
      | keep x0 t =>
        have ha3 : H3 a = some (.tup (.str "keep" :: (xs ++ us))) := ha3
        have st : ∀ {H' : Hp}, Off d H3 H' → H' a = some (.tup (.str "keep" :: (xs ++ us))) ∧ H' D = some (.lst acc) := st
        obtain ⟨p0, ip0, hb0⟩ := kid3 0 t rfl
        obtain ⟨ts0, ht0, _⟩ := id hb0
        refine tag_no rfl (sq_t ha3) (iteF (tag_no rfl (sq_t ha3) (iteF ?_)))
        refine ⟨_, rfl, D, _, 0, _, rfl, rfl, sq_l hacc3, atI_nat (j := 0) ip0, p0, rfl, ⟨_, sq_l ht0⟩, ?_⟩
        refine bag_loop (K := K) (ps0 := []) (m := 1) (fun σ' => ∃ x y, σ' = [some (.ref a), some (.ref po), some (.ref pc), some (.ref D), none, some (.ref d), x, y, none, none]) (fun e => [(e.1, if x0.val e.1 = .inl 0 then 0 else e.2)]) hb0 hd0 ⟨none, none, rfl⟩ (fun _ _ => Nat.le_refl _) ?_ ?_
        · rintro e qa σ' H4 ps he ⟨x, y, rfl⟩ k4 hd4 hq4 hl4 N hN
          obtain ⟨ha4, _⟩ := st k4
          have hl5 : ps.length ≤ 20000 := by
            have := tf.2
            simp at hl4
            omega
          obtain ⟨y0, r0, e0, h3, h4⟩ := dpa_cons h1
          obtain rfl := dpa_nil h4
          subst e0
          have hxd : Dp K H4 y0 x0.d := ex_off hd0 k4 (sub.trans (extn_frm s03)) h3
          refine tag_no rfl (sq_t ha4) (iteF (tag_yes rfl (sq_t ha4) (iteT ?_)))
          refine ⟨_, rfl, _, rfl, _, rfl, a, _, 1, _, rfl, rfl, sq_t ha4, atI_nat (j := 1) rfl, _, rfl, y0, x0, qa, e.1, rfl, hxd, tok.1.1, by have := tok.1.2; omega, hq4, (val t tok.2 e he).v, fun H6 s6 => ?_⟩
          obtain ⟨pl, dp⟩ := key_plain (x0.val e.1)
          refine ⟨_, _, dp_key (x0.val e.1), dp_key (.inl 0), pl, rfl, dp, _, rfl, ?_⟩
          rw [eqv_key]
          by_cases c0 : x0.val e.1 = .inl 0
          · rw [decide_eq_true c0]
            refine iteF ⟨d, qa, ps, _, _, rfl, s6 _ _ hd4, hq4.mono s6, hl5, hN _ _ ⟨_, _, rfl⟩ ((s6.off).trans (Off.upd _ _ _)) ?_⟩
            rw [if_pos c0]
            exact upd_same
          · rw [decide_eq_false c0]
            refine iteT ⟨_, rfl, d, qa, ps, _, _, rfl, s6 _ _ hd4, hq4.mono s6, hl5, hN _ _ ⟨_, _, rfl⟩ ((s6.off).trans (Off.upd _ _ _)) ?_⟩
            rw [if_neg c0]
            exact upd_same
        · rintro σ' H5 ⟨x, y, rfl⟩ k5 hd5
          obtain ⟨ha5, _⟩ := st k5
          rw [List.nil_append, flat_map1 (fun e : Row × Int => (e.1, if x0.val e.1 = .inl 0 then 0 else e.2))] at hd5
          refine tag_no rfl (sq_t ha5) (iteF ?_)
          refine ⟨_, rfl, d, _, rfl, hd5, by rw [List.length_map]; exact tf.2, RowsS.rowB ?_, fin _ H5 k5 rfl⟩
          intro z hz
          obtain ⟨e, he, rfl⟩ := List.mem_map.mp hz
          exact val t tok.2 e he
      | neg t =>
        have ha3 : H3 a = some (.tup (.str "neg" :: (xs ++ us))) := ha3
        have st : ∀ {H' : Hp}, Off d H3 H' → H' a = some (.tup (.str "neg" :: (xs ++ us))) ∧ H' D = some (.lst acc) := st
        obtain ⟨p0, ip0, hb0⟩ := kid3 0 t rfl
        obtain ⟨ts0, ht0, _⟩ := id hb0
        refine tag_no rfl (sq_t ha3) (iteF (tag_no rfl (sq_t ha3) (iteF ?_)))
        refine ⟨_, rfl, D, _, 0, _, rfl, rfl, sq_l hacc3, atI_nat (j := 0) ip0, p0, rfl, ⟨_, sq_l ht0⟩, ?_⟩
        refine bag_loop (K := K) (ps0 := []) (m := 1) (fun σ' => ∃ x y, σ' = [some (.ref a), some (.ref po), some (.ref pc), some (.ref D), none, some (.ref d), x, y, none, none]) (fun e => [(e.1, 0 - e.2)]) hb0 hd0 ⟨none, none, rfl⟩ (fun _ _ => Nat.le_refl _) ?_ ?_
        · rintro e qa σ' H4 ps he ⟨x, y, rfl⟩ k4 hd4 hq4 hl4 N hN
          obtain ⟨ha4, _⟩ := st k4
          have hl5 : ps.length ≤ 20000 := by
            have := tf.2
            simp at hl4
            omega
          refine tag_no rfl (sq_t ha4) (iteF (tag_no rfl (sq_t ha4) (iteF (tag_yes rfl (sq_t ha4) (iteT ?_)))))
          exact ⟨_, rfl, _, rfl, _, rfl, _, _, rfl, rfl, d, qa, ps, _, _, rfl, hd4, hq4, hl5, hN _ _ ⟨_, _, rfl⟩ (Off.upd _ _ _) upd_same⟩
        · rintro σ' H5 ⟨x, y, rfl⟩ k5 hd5
          obtain ⟨ha5, _⟩ := st k5
          rw [List.nil_append, flat_map1 (fun e : Row × Int => (e.1, 0 - e.2))] at hd5
          refine tag_no rfl (sq_t ha5) (iteF ?_)
          refine ⟨_, rfl, d, _, rfl, hd5, by rw [List.length_map]; exact tf.2, RowsS.rowB ?_, fin _ H5 k5 rfl⟩
          intro z hz
          obtain ⟨e, he, rfl⟩ := List.mem_map.mp hz
          exact val t tok e he
      | once t =>
        have ha3 : H3 a = some (.tup (.str "once" :: (xs ++ us))) := ha3
        have st : ∀ {H' : Hp}, Off d H3 H' → H' a = some (.tup (.str "once" :: (xs ++ us))) ∧ H' D = some (.lst acc) := st
        obtain ⟨p0, ip0, hb0⟩ := kid3 0 t rfl
        obtain ⟨ts0, ht0, _⟩ := id hb0
        refine tag_no rfl (sq_t ha3) (iteF (tag_no rfl (sq_t ha3) (iteF ?_)))
        refine ⟨_, rfl, D, _, 0, _, rfl, rfl, sq_l hacc3, atI_nat (j := 0) ip0, p0, rfl, ⟨_, sq_l ht0⟩, ?_⟩
        refine bag_loop (K := K) (ps0 := []) (m := 1) (fun σ' => ∃ x y, σ' = [some (.ref a), some (.ref po), some (.ref pc), some (.ref D), none, some (.ref d), x, y, none, none]) (fun e => [(e.1, b2z (decide (e.2 > 0)))]) hb0 hd0 ⟨none, none, rfl⟩ (fun _ _ => Nat.le_refl _) ?_ ?_
        · rintro e qa σ' H4 ps he ⟨x, y, rfl⟩ k4 hd4 hq4 hl4 N hN
          obtain ⟨ha4, _⟩ := st k4
          have hl5 : ps.length ≤ 20000 := by
            have := tf.2
            simp at hl4
            omega
          refine tag_no rfl (sq_t ha4) (iteF (tag_no rfl (sq_t ha4) (iteF (tag_no rfl (sq_t ha4) (iteF (tag_no rfl (sq_t ha4) (iteF ?_)))))))
          exact ⟨_, rfl, _, rfl, _, rfl, _, _, rfl, rfl, .inr ⟨_, rfl, d, qa, ps, _, _, rfl, hd4, hq4, hl5, hN _ _ ⟨_, _, rfl⟩ (Off.upd _ _ _) upd_same⟩⟩
        · rintro σ' H5 ⟨x, y, rfl⟩ k5 hd5
          obtain ⟨ha5, _⟩ := st k5
          rw [List.nil_append, flat_map1 (fun e : Row × Int => (e.1, b2z (decide (e.2 > 0))))] at hd5
          refine tag_no rfl (sq_t ha5) (iteF ?_)
          refine ⟨_, rfl, d, _, rfl, hd5, by rw [List.length_map]; exact tf.2, RowsS.rowB ?_, fin _ H5 k5 rfl⟩
          intro z hz
          obtain ⟨e, he, rfl⟩ := List.mem_map.mp hz
          exact val t tok e he
      | plus ta tb =>
        have ha3 : H3 a = some (.tup (.str "plus" :: (xs ++ us))) := ha3
        have st : ∀ {H' : Hp}, Off d H3 H' → H' a = some (.tup (.str "plus" :: (xs ++ us))) ∧ H' D = some (.lst acc) := st
        obtain ⟨p0, ip0, hb0⟩ := kid3 0 ta rfl
        obtain ⟨p1, ip1, hb1⟩ := kid3 1 tb rfl
        obtain ⟨ts0, ht0, _⟩ := id hb0
        have tlen : (ta.value o cc).length + (tb.value o cc).length ≤ 20000 := tf.2.2
        refine tag_no rfl (sq_t ha3) (iteF (tag_no rfl (sq_t ha3) (iteF ?_)))
        refine ⟨_, rfl, D, _, 0, _, rfl, rfl, sq_l hacc3, atI_nat (j := 0) ip0, p0, rfl, ⟨_, sq_l ht0⟩, ?_⟩
        refine bag_loop (K := K) (ps0 := []) (m := 1) (fun σ' => ∃ x y, σ' = [some (.ref a), some (.ref po), some (.ref pc), some (.ref D), none, some (.ref d), x, y, none, none]) (fun e => [e]) hb0 hd0 ⟨none, none, rfl⟩ (fun _ _ => Nat.le_refl _) ?_ ?_
        · rintro e qa σ' H4 ps he ⟨x, y, rfl⟩ k4 hd4 hq4 hl4 N hN
          obtain ⟨ha4, _⟩ := st k4
          have hl5 : ps.length ≤ 20000 := by
            simp at hl4
            omega
          refine tag_no rfl (sq_t ha4) (iteF (tag_no rfl (sq_t ha4) (iteF (tag_no rfl (sq_t ha4) (iteF (tag_yes rfl (sq_t ha4) (iteT ?_)))))))
          exact ⟨_, rfl, _, rfl, _, rfl, d, qa, ps, _, _, rfl, hd4, hq4, hl5, hN _ _ ⟨_, _, rfl⟩ (Off.upd _ _ _) upd_same⟩
        · rintro σ' H5 ⟨x, y, rfl⟩ k5 hd5
          obtain ⟨ha5, hacc5⟩ := st k5
          rw [List.nil_append, flat_id] at hd5
          have hb5 := hb1.off hd0 k5
          obtain ⟨ts1, ht1, _⟩ := id hb5
          refine tag_yes rfl (sq_t ha5) (iteT ?_)
          refine ⟨_, rfl, D, _, 1, _, rfl, rfl, sq_l hacc5, atI_nat (j := 1) ip1, p1, rfl, ⟨_, sq_l ht1⟩, ?_⟩
          refine bag_loop (K := K) (ps0 := ta.value o cc) (m := 1) (fun σ' => ∃ x y, σ' = [some (.ref a), some (.ref po), some (.ref pc), some (.ref D), none, some (.ref d), x, y, none, none]) (fun e => [e]) hb5 hd5 ⟨_, _, rfl⟩ (fun _ _ => Nat.le_refl _) ?_ ?_
          · rintro e qa σ' H6 ps he ⟨x, y, rfl⟩ k6 hd6 hq6 hl6 N hN
            exact ⟨_, rfl, _, rfl, _, rfl, d, qa, ps, _, _, rfl, hd6, hq6, by omega, hN _ _ ⟨_, _, rfl⟩ (Off.upd _ _ _) upd_same⟩
          · rintro σ' H7 ⟨x, y, rfl⟩ k7 hd7
            rw [flat_id] at hd7
            exact ⟨_, rfl, d, _, rfl, hd7, by rw [List.length_append]; exact tlen, RowsS.rowB ((val ta tok.1).app (val tb tok.2)), fin _ H7 (k5.trans k7) rfl⟩
end
end KA
set_option Elab.async false
set_option linter.all false
set_option maxRecDepth 100000
set_option maxHeartbeats 4000000
/-! group_result -/
namespace KA
open PySem PySem.Spec PyProof.Rows L2 LamX
open PySem.W (EachIs)
def optV : Option Key → V
  | none => .non
  | some x => kV x
def valsOf (e : Ex) (ps : Bag) : List Key := (posRows ps).map e.val
theorem had_sort (e : Ex) (ps : Bag) : hadOf e ps = (sortKeys (valsOf e ps)).map fun x => [x] := by
  unfold hadOf sortKeys sortRows valsOf posRows
  rw [List.map_mergeSort (s := rowLe) (fun a _ b _ => by
    show (!oneLt b a) = !rowLt [b] [a]
    rw [rowLt1]), List.map_map, List.map_map]
  rfl
theorem fold_least (e : Ex) (ps : Bag) : foldOne .least e ps = (sortKeys (valsOf e ps)).head? := by
  unfold foldOne
  rw [had_sort]
  cases sortKeys (valsOf e ps) <;> rfl
theorem fold_most (e : Ex) (ps : Bag) : foldOne .most e ps = (sortKeys (valsOf e ps)).getLast? := by
  unfold foldOne
  rw [had_sort, List.getLast?_map]
  cases (sortKeys (valsOf e ps)).getLast? <;> rfl
theorem fold_sum (e : Ex) (ps : Bag) : foldOne .sum e ps = some (.inl (wrapZ (ps.map fun p => p.2 * numZ (e.val p.1)).sum)) := by
  unfold foldOne
  rw [show (ps.map fun p => numZ (e.val p.1) * p.2) = ps.map fun p => p.2 * numZ (e.val p.1) from List.map_congr_left fun p _ => Int.mul_comm _ _]
theorem last_at {xs : List V} {x : V} (h : xs.getLast? = some x) : atI xs (-1) = some x := by
  obtain ⟨ys, rfl⟩ := List.getLast?_eq_some_iff.mp h
  unfold atI
  rw [show ixN (ys ++ [x]).length (-1) = some ys.length from by
    unfold ixN
    rw [List.length_append, List.length_singleton, if_neg (by omega), if_pos (by omega)]
    congr 1
    omega]
  simp
section
variable {P : Program} {w : World} {K : PySem.W.Frag} {mg : Str → Option Value} {base : Heap} {f : Addr} {fd : FuncData}
def spGroup1 (K : PySem.W.Frag) (T : List (Addr × Str)) : Sp := fun vs H Q _ => ∃ (k : Fk) (v : V) (p : Addr) (e : Ex) (ps : Bag), vs = [.str k.sign, v, .ref p] ∧ Dp K H v e.d ∧ e.Ok ∧ e.depth < 8 ∧ BagAt H p ps ∧ ps.length ≤ 20000 ∧ (∀ x ∈ ps, RowV x.1) ∧ Tabs T H ∧ ∀ H', ExtN H H' → Tabs T H' → Q (optV (foldOne k e ps)) H'
theorem ok_group1 {T : List (Addr × Str)} (F : FnP K "group_result" s_group_result f fd) (gM : mg "sum" = none) (gS : mg "sorted" = none) (CW : Cal P w K mg base "wrap" 1 ["n"] spWrap) (CN : Cal P w K mg base "number" 1 ["value"] spNumber) (CK : Cal P w K mg base "rank" 1 ["value"] (spRank K))
    (CR : Cal P w K mg base "rows_of" 1 ["bag"] spRowsOfN) (CE : Cal P w K mg base "evaluate" 7 ["e", "row"] (spEval K T)) : FnOk P w K mg base CX0 8 f fd ["kind", "e", "group"] (spGroup1 K T) := by
  obtain ⟨fR, fdR, gR, kR, bR, GR⟩ := CK
  refine F.ok sc_group_result (fun vs H Q E h => ?_) (fun cdv A outer s H vs Q E hr h => ?_)
  · obtain ⟨k, v, p, e, ps, rfl, _⟩ := h
    rfl
  · obtain ⟨k, v, p, e, ps, rfl, hd, ho, hn, hb, hl, hrow, hT, q⟩ := h
    have hcall : ∀ (E0 : XK) H0 pins, KeyAtK (cxOf CX0 P w K mg base ["kind", "e", "group", "_", "count", "row", "found"] "group_result" (defScope s_group_result) f cdv A outer s H E0).nox fR H0 pins := fun _ => keyAtK_of GR bR hr.lt
    refine ⟨_, PSs.nox (pss_cons (ps_if (pt_cmpR op_eq (pv 0) pe_str (nomark _))
        (pss_one (ps_ret (pe_cal CW hr.lt (pa_cons (pe_callB (cr_sum rfl) (by rfl) gM (by decide +kernel) (pa_cons (pe_lc (own := [("_", 3), ("count", 4)]) (g := gP2 K 3 4) (tt := tYes) (by rfl) sc_group_result.nd (pi_list (pv 2))
          (blkOk_by (own := [("_", 3), ("count", 4)]) (N := ["kind", "e", "group", "_", "count", "row", "found"]) (sc := defScope s_group_result) (by decide +kernel))
          (fun _ _ _ _ _ => pg_tup rfl (pgs_cons (pg_name (i := 3) sc_group_result.nd rfl (Or.inl rfl)) (pgs_cons (pg_name (i := 4) sc_group_result.nd rfl (Or.inl rfl)) pgs_nil))) (fun _ _ _ _ _ => pts_nil) (fun _ _ _ _ _ => pv 4)) pa_nil)) pa_nil)))) pss_nil)
      (pss_cons (ps_if (pt_cmpR op_eq (pv 0) pe_str (nomark _))
        (pss_one (ps_ret (pe_cal CW hr.lt (pa_cons (pe_callB (cr_sum rfl) (by rfl) gM (by decide +kernel) (pa_cons (pe_lc (own := [("row", 5), ("count", 4)]) (g := gP2 K 5 4) (tt := tYes) (by rfl) sc_group_result.nd (pi_list (pv 2))
          (blkOk_by (own := [("row", 5), ("count", 4)]) (N := ["kind", "e", "group", "_", "count", "row", "found"]) (sc := defScope s_group_result) (by decide +kernel))
          (fun _ _ _ _ _ => pg_tup rfl (pgs_cons (pg_name (i := 5) sc_group_result.nd rfl (Or.inl rfl)) (pgs_cons (pg_name (i := 4) sc_group_result.nd rfl (Or.inl rfl)) pgs_nil))) (fun _ _ _ _ _ => pts_nil)
          (fun _ _ _ _ _ => pe_op op_mul (pv 4) (pe_cal CN hr.lt (pa_cons (pe_cal CE hr (pa_cons (pv 1) (pa_cons (pv 5) pa_nil))) pa_nil)))) pa_nil)) pa_nil)))) pss_nil)
      (pss_cons (ps_set (i := 6) sc_group_result.nd rfl (Or.inl rfl) (pe_callBK (cr_sortK (hcall _) hr.u64 rfl) (by rfl) gS (by decide +kernel) (pa_cons (pe_lc (own := [("row", 5)]) (g := gName 5) (tt := tYes) (by rfl) sc_group_result.nd (pi_list (pe_cal CR hr.lt (pa_cons (pv 2) pa_nil)))
          (blkOk_by (own := [("row", 5)]) (N := ["kind", "e", "group", "_", "count", "row", "found"]) (sc := defScope s_group_result) (by decide +kernel)) (fun _ _ _ _ _ => pg_name (i := 5) sc_group_result.nd rfl (Or.inl rfl)) (fun _ _ _ _ _ => pts_nil)
          (fun _ _ _ _ _ => pe_cal CE hr (pa_cons (pv 1) (pa_cons (pv 5) pa_nil)))) pa_nil) (pk_cons (pe_glob (v := .ref fR) rfl gR rfl) pk_nil)))
      (pss_cons (ps_if (pt_not (pt_truth (pv 6) (fun _ => rfl))) (pss_one (ps_ret pe_non)) pss_nil)
      (pss_one (ps_ret (pe_ifExp (pt_cmpR op_eq (pv 0) pe_str (nomark _)) (pe_ix ix_list (pv 6) pe_int (fun _ _ => rfl)) (pe_ix ix_list (pv 6) (pe_un un_neg pe_int) (fun _ _ => rfl))))))))), ?_⟩
    obtain ⟨ts, h1, h2⟩ := id hb
    have hnl : ps.length = ts.length := h2.length.symm
    by_cases kc : k = .count
    · subst kc
      refine is_yes rfl (iteT ⟨_, rfl, p, rfl, ⟨_, sq_l h1⟩, fun D hD => ?_⟩)
      refine lc_offX (T := T) (walk_list (xs := ts.map V.ref)) ps (by rw [List.length_map, hnl]) (fun _ v e => v = .int e.2) (fun _ _ _ _ _ z => z) hD hT (fun H' s' => sqL_extn s' (sq_l h1)) (by rw [List.length_map]; omega) ?_ ?_
      · rintro i x b H1 _ hi he s1 t1 _ ⟨rfl, hx⟩ Q' Qn k1
        obtain ⟨t, ht, rfl⟩ := ref_at hx
        obtain ⟨qa, p1, p2⟩ := (each_get h2 ht he).extn s1
        exact gp2 p1 ⟨rfl, yes_in ⟨_, rfl, k1 _ _ (ExtN.refl _) t1 rfl⟩⟩
      · intro H1 acc s1 t1 ha he
        have e1 : acc = (ps.map fun e => e.2).map V.int := by rw [each_map_eq he, List.map_map]; rfl
        rw [e1] at ha
        exact ⟨D, _, rfl, sq_l ha, _, rfl, q _ s1 t1⟩
    refine is_no rfl (show k.sign ≠ "count" by cases k <;> first | exact absurd rfl kc | decide +kernel) (iteF ?_)
    by_cases ks : k = .sum
    · subst ks
      refine is_yes rfl (iteT ⟨_, rfl, p, rfl, ⟨_, sq_l h1⟩, fun D hD => ?_⟩)
      refine lc_offX (T := T) (walk_list (xs := ts.map V.ref)) ps (by rw [List.length_map, hnl]) (fun _ v x => v = .int (x.2 * numZ (e.val x.1))) (fun _ _ _ _ _ z => z) hD hT (fun H' s' => sqL_extn s' (sq_l h1)) (by rw [List.length_map]; omega) ?_ ?_
      · rintro i x b H1 _ hi he s1 t1 _ ⟨rfl, hx⟩ Q' Qn k1
        obtain ⟨t, ht, rfl⟩ := ref_at hx
        obtain ⟨qa, p1, p2⟩ := (each_get h2 ht he).extn s1
        have hrv := hrow b (List.mem_of_getElem? he)
        have bd := num_bd (val_ok (e := e) ho hrv)
        refine gp2 p1 ⟨rfl, yes_in ⟨_, rfl, _, rfl, _, rfl, v, qa, e, b.1, rfl, Dp.extn s1 _ _ hd, ho, hn, p2, hrv, t1, fun H2 s2 t2 => ⟨_, rfl, _, _, rfl, rfl, .inr ⟨by omega, by omega⟩, k1 _ _ s2 t2 rfl⟩⟩⟩
      · intro H1 acc s1 t1 ha he
        have e1 : acc = (ps.map fun x => x.2 * numZ (e.val x.1)).map V.int := by rw [each_map_eq he, List.map_map]; rfl
        rw [e1] at ha
        refine ⟨D, _, rfl, sq_l ha, _, rfl, ?_⟩
        have := q _ s1 t1
        rw [fold_sum] at this
        exact this
    refine is_no rfl (show k.sign ≠ "sum" by cases k <;> first | exact absurd rfl kc | exact absurd rfl ks | decide +kernel) (iteF ?_)
    refine ⟨_, rfl, p, ps, rfl, hb, hl, fun pr H0 s0 _ hrw => ?_⟩
    obtain ⟨rs, r1, r2⟩ := id hrw
    have hrl : (posRows ps).length ≤ ps.length := by
      unfold posRows
      rw [List.length_map]
      exact List.length_filter_le ..
    have hnr : (posRows ps).length = rs.length := r2.length.symm
    refine ⟨pr, rfl, ⟨_, sq_l r1⟩, fun D hD => ?_⟩
    refine lc_offX (T := T) (walk_list (xs := rs.map V.ref)) (posRows ps) (by rw [List.length_map, hnr]) (fun _ v x => v = kV (e.val x)) (fun _ _ _ _ _ z => z) hD (hT.ext s0) (fun H' s' => sqL_extn s' (sq_l r1)) (by rw [List.length_map]; omega) ?_ ?_
    · rintro i x b H1 _ hi he s1 t1 _ ⟨rfl, hx⟩ Q' Qn k1
      obtain ⟨t, ht, rfl⟩ := ref_at hx
      have p2 := (each_get r2 ht he).extn s1
      have hrv : RowV b := by
        obtain ⟨x, hx, rfl⟩ := List.mem_map.mp (List.mem_of_getElem? he)
        exact hrow x (List.mem_filter.mp hx).1
      exact ⟨rfl, yes_in ⟨_, rfl, _, rfl, v, t, e, b, rfl, Dp.extn ((ExtN.of s0).trans s1) _ _ hd, ho, hn, p2, hrv, t1, fun H2 s2 t2 => k1 _ _ s2 t2 rfl⟩⟩
    · intro H1 acc s1 t1 ha he
      have s01 := (ExtN.of s0).trans s1
      have ek : EachIs (fun v x => v = kV x) acc (valsOf e ps) := each_map_r (R := fun v x => v = kV x) e.val he
      refine ⟨D, acc, valsOf e ps, rfl, rfl, sq_l ha, ek, s01, fun pf H2 s2 hpf hf => ?_⟩
      have fin := q H2 (s01.trans (ExtN.of s2)) (t1.ext s2)
      refine ⟨_, rfl, _, .inl ⟨_, sq_l hf, rfl⟩, ?_⟩
      have kk : k = .least ∨ k = .most := by cases k <;> first | exact absurd rfl kc | exact absurd rfl ks | exact .inl rfl | exact .inr rfl
      cases hz : sortKeys (valsOf e ps) with
      | nil =>
        refine iteT ?_
        rcases kk with rfl | rfl
        · rw [fold_least, hz] at fin
          exact fin
        · rw [fold_most, hz] at fin
          exact fin
      | cons y ys =>
        rw [hz] at hf
        refine iteF ?_
        rcases kk with rfl | rfl
        · rw [fold_least, hz] at fin
          exact is_yes rfl (iteT ⟨_, rfl, pf, _, 0, _, rfl, rfl, sq_l hf, atI_nat (j := 0) rfl, fin⟩)
        · rw [fold_most, hz] at fin
          obtain ⟨z, hz2⟩ : ∃ z, (y :: ys).getLast? = some z := ⟨_, List.getLast?_eq_some_getLast (by simp)⟩
          rw [hz2] at fin
          refine is_no rfl (show ("most" : Str) ≠ "least" by decide +kernel) (iteF ⟨_, rfl, _, rfl, pf, _, -1, _, rfl, rfl, sq_l hf, last_at ?_, fin⟩)
          rw [List.getLast?_map, hz2]
          rfl
end
end KA
set_option Elab.async false
set_option linter.all false
set_option maxRecDepth 100000
set_option maxHeartbeats 4000000
/-! d.setdefault(t, x) of a dict whose keys are rows -/
namespace KA
open PySem PySem.Spec PyProof.Rows L2
/-- d.setdefault(t, z), t a row -/
def tDSetT (td ty tx : TE) : TE := fun σ H Q => td σ H fun x H1 => ∃ a, x = .ref a ∧ IsD H1 a ∧ ty σ H1 fun y H2 => tx σ H2 fun z H3 => ∃ (kvs : List (Row × V)) (k : Row) (b : Addr), H3 a = some (.dT kvs) ∧ y = .ref b ∧ H3 b = some (.tup (k.map kV)) ∧ kvs.length < sizeLine ∧
  (∀ v, valV kvs k = some v → Q v H3) ∧ (valV kvs k = none → Q z (upd H3 a (.dT (putK kvs k z))))
section
variable {X : Cx} {pins : List (Addr × Obj)} {σ : L2.St} {H : Hp} {s : Shared} {a b : Addr} {r : Value} {d : V} {k : Row} {A : Around} {E : Value → Shared → Prop}
theorem setd_rows {kvs : List (Row × V)} {Q : Value → Shared → Prop} (hu : A.units + 1 < cLine) (I : Inv X pins σ H s) (e : H a = some (.dT kvs)) (eb : H b = some (.tup (k.map kV))) (rd : RelV d r) (hl : kvs.length < sizeLine)
    (h1 : ∀ v, valV kvs k = some v → ∀ (w' : Value) (s' : Shared), Inv X pins σ H s' → RelV v w' → Q w' s') (h2 : valV kvs k = none → ∀ (w' : Value) (s' : Shared), Inv X pins σ (upd H a (.dT (putK kvs k d))) s' → RelV d w' → Q w' s') :
    wpAny (model X.prog X.w) A (call (.builtin "dict.setdefault") [.ref a, .ref b, r]) Q E s := by
  obtain ⟨z, hd, xs, rel, dd⟩ := dt_of I.hok e
  have hz : xs.length ≤ sizeLine := by
    rw [← Paired.length rel]
    exact z
  have rv := KT.val rel k
  refine call_meetsIn PySem.F.slot_dict_setdefault dd.typeIs PySem.F.entry_dict_setdefault (PySem.F.args_dict_setdefault_3 _ _ _) (meetsH_dict_setdefault (tupleKind (mixKind X.prog X.w)) a b hd r)
    ⟨tupleKind_room_in1 hu, k, xs, key_of I.hok eb, dd, hz, fun p hp => ?_, fun hn h' dd' hs => ?_⟩
  · rw [hp] at rv
    cases q0 : valV kvs k with
    | none =>
      rw [q0] at rv
      exact (show False from rv).elim
    | some v0 =>
      rw [q0] at rv
      exact h1 v0 q0 _ _ (I.tok _) rv
  · rw [hn] at rv
    cases q0 : valV kvs k with
    | some v0 =>
      rw [q0] at rv
      exact (show False from rv).elim
    | none =>
      have hl2 : (putK kvs k d).length ≤ sizeLine := by
        have := length_putK kvs k d
        omega
      obtain ⟨q, es, ep, hq, g2, g3, g4, _, g5⟩ := dd'
      refine h2 q0 _ _ (d_write I (by rw [e]; exact True.intro) hs ⟨q, hq⟩ ⟨hl2, hd, _, (KT.put rel k eb rd).keeps fun c ys ec => ?_, q, es, ep, hq, g2, g3, g4, g5⟩) rd
      rw [upd_ne (ne_of ec e (fun z => nomatch z))]
      exact ec
end
section
variable {X : Cx} {o e f : Expr} {td ty tx : TE} {apos cpos : Pos}
theorem pe_dsetT (hu : X.A.units + 64 < cLine) (ho : PE X o td) (he : PE X e ty) (hf : PE X f tx) (m : M2 X o "setdefault" apos e f cpos) : PE X (.Call (.Attribute o "setdefault" apos) [e, f] [] cpos) (tDSetT td ty tx) := by
  refine ⟨fun pins s σ H Q I h => ?_⟩
  refine wpAny_Call_method m.base m.few m.line PySem.F.plainAttrs_dict PySem.F.slot_dict_setdefault PySem.F.type_dict_setdefault (thn (ho.run pins s σ H _ I h) fun u s1 ⟨x, H1, I1, rx, a, ex, dd, q1⟩ => ?_)
  subst ex
  obtain rfl : u = Value.ref a := rx
  obtain ⟨t1, t2, _⟩ := isD_at I1 dd
  refine ⟨t1, t2, ?_⟩
  rw [m.trees]
  refine Calls.callWith_builtin rfl (Calls.evalArgs_plain (Calls.spliced_cons (thn (he.run pins s1 σ H1 _ I1 q1) fun iv s2 ⟨y, H2, I2, ry, q2⟩ =>
    Calls.spliced_cons (thn (hf.run pins s2 σ H2 _ I2 q2) fun fv s3 ⟨z, H3, I3, rz, kvs, k, b, ea, ey, eb, hl, q3, q4⟩ => Calls.spliced_nil ?_))))
  subst ey
  obtain rfl : iv = Value.ref b := ry
  exact setd_rows (by omega) I3 ea eb rz hl (fun v hv w' s4 I4 rw' => ⟨v, _, I4, rw', q3 v hv⟩) fun hn w' s4 I4 rw' => ⟨z, _, I4, rw', q4 hn⟩
end
end KA
set_option Elab.async false
set_option linter.all false
set_option maxRecDepth 100000
set_option maxHeartbeats 4000000
/-! a lambda of one parameter that captures nothing: its call -/
namespace KA
open PySem PySem.Spec PyProof.Rows L2 LamX
open PySem.W (EachIs SortsAt)
section
variable {P : Program} {w : World} {K : PySem.W.Frag} {mg : Str → Option Value} {base : Heap} {CX : CXT}
theorem lam_run {A : Around} {outer : List Env} {s : Shared} {H : Hp} {N : List Str} {x q : Str} {params : Arguments} {body : Expr} {scope : Scope} {pm ctv : Value} {f c' : Addr} {k : Nat} {u : Value} {v : V} {Q : VK} {E : XK} {t : TE}
    (S : FnScope N [x] scope) (hr : Room (k + 1) A) (e0 : Env0 P w K mg base A outer s H) (at_f : s.heap.get? f = some (PySem.W.kla_obj "<lambda>" q params body scope [] pm c' ctv)) (at_c : H c' = some (CodeO c' q))
    (bd : bindArgs (PySem.W.kla_fn "<lambda>" q params body scope [] pm (.ref c') ctv) ⟨[u], []⟩ = pure [(x, u)]) (rv : RelV v u) (hbody : PE (cxOf CX P w K mg base N q scope f (.ref c') A outer s H E) body t) (ht : t (start N [v]) H Q) :
    codeAny (model P w) A (.call (.ref f) ⟨[u], []⟩) (CR CX outer P w H s Q E) s := by
  have nolim : s.heap.NoLimit := e0.mod.nolimit.keeps fun b o z => (e0.bs b o z).1
  obtain ⟨⟨oc, vs, tq, g1, g2, g3⟩, _, _⟩ := e0.hok c' _ at_c
  refine PySem.W.kla_callFunE hr.depth at_f rfl S.co S.gen rfl ⟨c', oc, vs, tq, rfl, g1, g2, g3⟩ ?_
  rw [bd]
  refine wpAny_pure (wpAny_newFunctionEnv_cells S.kind (fun y hy => ?_) fun env henv s1 born => ?_)
  · obtain ⟨n, z⟩ := y
    have hm := (List.of_mem_zip (show (n, z) ∈ ([x] : List Str).zip [u] from hy)).1
    rcases S.par n hm with h | h
    · exact .inl h
    · exact .inr ⟨h, PySem.W.cellsFrom_some _ _ _ (.inl h)⟩
  · subst henv
    refine ⟨nolim.keeps born.toInCall.keep, ?_⟩
    have I := inv_start (CX := CX) (E := E) (qual := q) (f := f) (cd := .ref c') (vs := [v]) (us := [u]) S hr.hd e0 rfl (.cons rv .nil) born
    refine PySem.W.kla_codeExpr (wpAny_mono (hbody.run [] s1 _ H _ I ht) (fun z s' hq => ?_) fun e s' hq => hq)
    obtain ⟨y, H', J, r, qq⟩ := hq
    exact ⟨y, H', J.os, J.bare, J.base, J.hok, r, qq⟩
end
/-- sorted(xs, key=lambda x: ..) -/
def tSortLam (X : Cx) (T : List (Addr × Str)) (IR : Hp → V → Row → Prop) (t : TA) : TE := fun σ H Q => t σ H fun vs H1 => Tabs T H1 ∧ ∃ (l : Addr) (xs : List V) (rows : List Row), vs = [.ref l] ∧ SqL X.K H1 l xs ∧ EachIs (IR H1) xs rows ∧
  (∀ r ∈ rows, r.length ≤ 1000) ∧ (∀ p o, X.H_0 p = some o → (∀ ps, o ≠ .tbl ps) → ∃ o', H1 p = some o' ∧ ∀ ps, o' ≠ .tbl ps) ∧
  ∀ (p : Addr) (H' : Hp) (ys : List V), ExtN H1 H' → Tabs T H' → (∀ o, H1 p = some o → ∃ ps, o = .tbl ps) → H' p = some (.lst ys) → EachIs (IR H') ys (sortRows rows) → Q (.ref p) H'
section
variable {X : Cx} {E : Row → PyData} {IR : Hp → V → Row → Prop}
theorem pe_sortLam {T : List (Addr × Str)} {c P : Addr} {y z : Str} {p pos kpos lpos : Pos} {e : Expr} {t : TA} {N : List Str} {params : Arguments} {body : Expr} {scope : Scope} {k : Nat} {tb : TE}
    (hIR : ∀ H H' x r, ExtN H H' → IR H x r → IR H' x r) (TE1 : Tells E)
    (hS : ∀ (prog : Program) (w : World) (A : Around) (s : Shared) (ks : List Value) (rows : List Row), EachIs (KeyIs1 s.heap E) ks rows → A.units + 12 < cLine → SortsAt prog w A s (rowKind s.heap E) ks)
    (hr : Room (k + 3) X.A) (hx : X.ex = []) (hst : X.stack = X.env :: X.outer) (hg : Gl X "sorted") (hm : X.mg "sorted" = none) (ha : PA X [e] t) (TB : TabB X.base X.mg c P) (hcode : X.env.code = .ref c)
    (hmT : (P, X.env.qual ++ "<lambda>") ∈ T) (hu : ∀ p ∈ T, p.1 = P → p.2 = X.env.qual ++ "<lambda>") (hdef : defaultsOf params X.env = ([], [])) (hnf : ∀ y ∈ scope.names, y.2 ≠ .free)
    (S : FnScope N [z] scope) (hbind : ∀ (q : Str) (pm cv ctv u : Value), bindArgs (PySem.W.kla_fn "<lambda>" q params body scope [] pm cv ctv) ⟨[u], []⟩ = pure [(z, u)])
    (hbody : ∀ (A : Around) (outer : List Env) (s : Shared) (H : Hp) (E0 : XK) (f c' : Addr), Room k (A.deeper (envOfC (X.env.qual ++ "<lambda>") scope s.heap.objs.size f (.ref c'))) → PE (cxOf CX0 X.prog X.w X.K X.mg X.base N (X.env.qual ++ "<lambda>") scope f (.ref c') A outer s H E0) body tb)
    (sem : ∀ (H : Hp) (x : V) (r : Row) (Q : VK), IR H x r → r.length ≤ 1000 → (∀ v H', Same H H' → Dp X.K H' v (E r) → Q v H') → tb (start N [x]) H Q)
    (he : backTo pos (starEach [e] X.env) = (false, eval e X.env) :: backTo pos (starEach [] X.env) := by rfl) (hpl : (backTo pos (starEach [e] X.env)).any (·.1) = false := by rfl) :
    PE X (.Call (.Name "sorted" p) [e] [⟨some "key", .Lambda params body scope lpos, kpos⟩] pos) (tSortLam X T IR t) := by
  refine ⟨fun pins s σ H Q I h => ?_⟩
  refine wpAny_Call_Name_kw (ld_blt I hg hm (show bootBuiltins "sorted" = some (.builtin "sorted") by decide +kernel) ?_ (by decide) (by decide))
  refine PyProof.Rows.callWith_kw (thn (ha.run pos pins s σ H _ I h) fun us s1 ⟨vs, H1, I1, r1, hT, l, xs, rows, evs, hs, hrow, hrl, h0, q⟩ => ?_) he hpl (by rfl) (by rfl)
  subst evs
  obtain rfl := Vals.ref1 r1
  have clos : cloFrom X.env.cells scope.names [] = [] := by
    have key : ∀ (ns : List (Str × NameKind)) (cs : List (Str × Addr)), (∀ y ∈ ns, y.2 ≠ .free) → cloFrom X.env.cells ns cs = cs := by
      intro ns
      induction ns with
      | nil => exact fun cs _ => rfl
      | cons a ns ih =>
        intro cs hns
        obtain ⟨n, kd⟩ := a
        have h1 := hns (n, kd) List.mem_cons_self
        have h2 := ih cs fun y hy => hns y (List.mem_cons_of_mem _ hy)
        cases kd with
        | free => exact absurd rfl h1
        | _ => exact h2
    exact key _ _ hnf
  show wpAny _ _ (evalAll ((do let v ← eval (.Lambda params body scope lpos) X.env; standAt pos; pure v) :: [])) _ _ s1
  refine wpAny_evalAll_cons (wpAny_bind ?_)
  refine lam_make2 (T := T) I1 TB hcode hmT hu hT hdef (fun y hy hf => absurd hf (hnf y hy)) fun f c' pm ctv H2 s2 I2 hE hT2 at_f hfn hfr at_c => ?_
  refine wpAny_bind (wpAny_standAt (wpAny_pure (wpAny_evalAll_nil ?_)))
  rw [clos] at at_f
  -- the lambda's object is pinned
  have fL : f ≠ X.env.locals := fun h => by
    obtain ⟨m, ⟨o, es, ep, g1, g2, _⟩, _⟩ := I2.loc
    rw [← h, at_f] at g1
    cases g1
    cases g2
  have I3 : Inv X (pins ++ [(f, PySem.W.kla_obj "<lambda>" (X.env.qual ++ "<lambda>") params body scope [] pm c' ctv)]) σ H2 s2 := I2.pins_of fun g hg => by
    rcases List.mem_append.mp hg with h | h
    · exact I2.pin g (List.mem_append_right _ h)
    · rw [List.mem_singleton.mp h]
      exact ⟨at_f, hfn, fL, fun z => hfr (by
        rw [hst]
        obtain ⟨ev, e1, e2⟩ := List.mem_filterMap.mp z
        exact List.mem_filterMap.mpr ⟨ev, List.mem_cons_of_mem _ e1, e2⟩), fun v hv => by cases hv⟩
  have key : KeyAt X IR E f H2 (pins ++ [(f, PySem.W.kla_obj "<lambda>" (X.env.qual ++ "<lambda>") params body scope [] pm c' ctv)]) := by
    intro s4 σ4 H4 x4 u4 r4 I4 sm rx hx4 hl4
    have at4 : s4.heap.get? f = some (PySem.W.kla_obj "<lambda>" (X.env.qual ++ "<lambda>") params body scope [] pm c' ctv) := (I4.pin _ (List.mem_append_right _ (List.mem_append_right _ (List.mem_singleton.mpr rfl)))).1
    have e0 := (I4.env0.in1).in1
    have hr1 : Room (k + 1) X.A.in1.in1 := (hr.in1).in1
    refine wpAny_call (codeAny_mono (lam_run (CX := CX0) (E := E0) (Q := fun v H' => Same H4 H' ∧ Dp X.K H' v (E r4)) S hr1 e0 at4 (sm _ _ at_c) (hbind _ _ _ _ _) rx (hbody _ _ _ _ _ _ _ (hr1.deeper _)) (sem H4 x4 r4 _ hx4 hl4 fun v H' s' d => ⟨s', d⟩)) fun w' s' hz => ?_)
    cases w' with
    | error e => exact hz.elim
    | ok fl =>
      cases fl with
      | ret u =>
        obtain ⟨v, H', J, rv, sm2, d⟩ := I4.after hz
        exact ⟨v, H', J, sm2, rv, d⟩
      | next => exact hz.elim
      | brk => exact hz.elim
      | cont => exact hz.elim
  have hs2 : SqL X.K H2 l xs := by
    rcases hs with (h | ⟨o, h⟩) | h
    · exact .inl (.inl (hE _ _ h fun ps z => by cases z))
    · exact .inl (.inr ⟨o, hE _ _ h fun ps z => by cases z⟩)
    · exact .inr h
  refine wpAny_mono (sort_run (fun H H' x r s' => hIR H H' x r (ExtN.of s')) TE1 hS hr.u64 hx I3 hs2 (hrow.mono fun x r z => hIR _ _ _ _ hE z) hrl key (fun p hp => ?_) fun p H' ys s' hp hl hy => ?_) (fun u s' ⟨v, H', J, rv, qq⟩ => ⟨v, H', J.unpinned, rv, qq⟩) fun _ _ h => h
  · cases e1 : X.H_0 p with
    | none => rfl
    | some o =>
      exfalso
      by_cases ht : ∃ ps, o = .tbl ps
      · obtain ⟨ps, rfl⟩ := ht
        obtain ⟨more, e2⟩ := I2.base.tbls p ps e1
        rw [hp] at e2
        cases e2
      · obtain ⟨o', e2, e3⟩ := h0 p o e1 fun ps z => ht ⟨ps, z⟩
        rw [hE p o' e2 e3] at hp
        cases hp
  · refine q p H' ys (ExtN.trans hE (ExtN.of s')) (hT2.ext s') (fun o ho => ?_) hl hy
    apply Classical.byContradiction
    intro ht
    rw [hE p o ho fun ps z => ht ⟨ps, z⟩] at hp
    cases hp
end
end KA
set_option Elab.async false
set_option linter.all false
set_option maxRecDepth 100000
set_option maxHeartbeats 4000000
/-! the groups of a fold -/
namespace KA
open PySem PySem.Spec PyProof.Rows L2 LamX
open PySem.W (EachIs)
/-- groups: a dict from rows to lists of pairs, all of them different lists -/
def GroupsAt (H : Hp) (g : Addr) (gs : List (Row × Bag)) : Prop := ∃ ps : List (Row × Addr), H g = some (.dT (ps.map fun p => (p.1, V.ref p.2))) ∧ (ps.map (·.2)).Nodup ∧ EachIs (fun (p : Row × Addr) (e : Row × Bag) => p.1 = e.1 ∧ BagAt H p.2 e.2) ps gs
theorem grp_val (ps : List (Row × Addr)) (k : Row) : valV (ps.map fun p => (p.1, V.ref p.2)) k = (ps.find? fun p => decide (p.1 = k)).map fun p => V.ref p.2 := by
  induction ps with
  | nil => rfl
  | cons p t ih =>
    unfold valV at ih ⊢
    rw [List.map_cons, List.find?_cons, List.find?_cons]
    by_cases c : p.1 = k
    · simp [c]
    · simp only [decide_eq_false c]
      exact ih
theorem grp_any {R : Row × Addr → Row × Bag → Prop} (hR : ∀ p e, R p e → p.1 = e.1) (k : Row) : ∀ {ps : List (Row × Addr)} {gs : List (Row × Bag)}, EachIs R ps gs → (ps.find? fun p => decide (p.1 = k)).isSome = gs.any fun e => decide (e.1 = k)
  | _, _, .nil => rfl
  | _, _, .cons h t => by
    rw [List.find?_cons, List.any_cons, ← hR _ _ h, ← grp_any hR k t]
    split
    · rename_i c
      simp [c]
    · rename_i c
      simp [c]
/-- a pair is put into its group: the list of the group is at a -/
theorem grp_put {H H' : Hp} {a t : Addr} {k : Row} {e : Row × Int} (ht : PairAt H' t e) (keep : ∀ b o, b ≠ a → H b = some o → H' b = some o) (hta : ∀ b, (∃ xs, H b = some (.tup xs)) → b ≠ a) : ∀ {ps : List (Row × Addr)} {gs : List (Row × Bag)},
    (ps.map (·.2)).Nodup → EachIs (fun (p : Row × Addr) (x : Row × Bag) => p.1 = x.1 ∧ BagAt H p.2 x.2) ps gs → (ps.find? fun p => decide (p.1 = k)) = some (k, a) → (∀ ts : List Addr, H a = some (.lst (ts.map V.ref)) → H' a = some (.lst ((ts ++ [t]).map V.ref))) → (∀ x y, (x, a) ∈ ps → (y, a) ∈ ps → x = y) → (ps.map (·.1)).Nodup →
    EachIs (fun (p : Row × Addr) (x : Row × Bag) => p.1 = x.1 ∧ BagAt H' p.2 x.2) ps (gs.map fun g => if g.1 = k then (g.1, g.2 ++ [e]) else g) := by
  have keepP : ∀ {b : Addr} {y : Row × Int}, PairAt H b y → PairAt H' b y := fun {b y} ⟨q, p1, p2⟩ => ⟨q, keep _ _ (hta b ⟨_, p1⟩) p1, keep _ _ (hta q ⟨_, p2⟩) p2⟩
  have keepB : ∀ {b : Addr} {y : Bag}, b ≠ a → BagAt H b y → BagAt H' b y := fun {b y} n ⟨ts, b1, b2⟩ => ⟨ts, keep _ _ n b1, b2.mono fun _ _ z => keepP z⟩
  intro ps
  induction ps with
  | nil => intro gs _ h hf; cases hf
  | cons p ps ih =>
    intro gs hn h hf hw huniq hkn
    cases h with
    | cons h1 h2 =>
      rename_i x gs
      rw [List.map_cons, List.nodup_cons] at hn hkn
      rw [List.map_cons]
      by_cases c : p.1 = k
      · rw [List.find?_cons] at hf
        simp only [c, decide_true] at hf
        have hp : p = (k, a) := Option.some.inj hf
        subst hp
        have hx : x.1 = k := h1.1.symm
        rw [if_pos hx]
        obtain ⟨ts, b1, b2⟩ := h1.2
        refine .cons ⟨hx.symm, ts ++ [t], hw ts b1, each_snoc1 ht (b2.mono fun _ _ z => keepP z)⟩ ?_
        -- no other group has this key, nor this list
        have rest : ∀ {qs : List (Row × Addr)} {hs : List (Row × Bag)}, EachIs (fun (p : Row × Addr) (x : Row × Bag) => p.1 = x.1 ∧ BagAt H p.2 x.2) qs hs → a ∉ qs.map (·.2) → k ∉ qs.map (·.1) → EachIs (fun (p : Row × Addr) (x : Row × Bag) => p.1 = x.1 ∧ BagAt H' p.2 x.2) qs (hs.map fun g => if g.1 = k then (g.1, g.2 ++ [e]) else g) := by
          intro qs hs h
          induction h with
          | nil => exact fun _ _ => .nil
          | @cons q y qs hs h t ih2 =>
            intro n1 n2
            rw [List.map_cons, List.mem_cons, not_or] at n1 n2
            rw [List.map_cons]
            have hy : y.1 ≠ k := fun z => n2.1 (by rw [← z]; exact h.1.symm)
            rw [if_neg hy]
            exact .cons ⟨h.1, keepB (fun z => n1.1 z.symm) h.2⟩ (ih2 n1.2 n2.2)
        exact rest h2 hn.1 hkn.1
      · have hx : x.1 ≠ k := fun z => c (by rw [h1.1, z])
        rw [if_neg hx]
        rw [List.find?_cons] at hf
        simp only [c, decide_false] at hf
        have hm : (k, a) ∈ ps := List.mem_of_find?_eq_some hf
        have hpa : p.2 ≠ a := fun z => hn.1 (by rw [z]; exact List.mem_map.mpr ⟨(k, a), hm, rfl⟩)
        exact .cons ⟨h1.1, keepB hpa h1.2⟩ (ih hn.2 h2 hf hw (fun x y h3 h4 => huniq x y (List.mem_cons_of_mem _ h3) (List.mem_cons_of_mem _ h4)) hkn.2)
end KA
set_option Elab.async false
set_option linter.all false
set_option maxRecDepth 100000
set_option maxHeartbeats 4000000
/-! the loop that makes the groups of a fold -/
namespace KA
open PySem PySem.Spec PyProof.Rows L2 LamX
open PySem.W (EachIs)
/-- the groups at g, their lists all newer than H0 -/
structure Grps (H0 H : Hp) (g : Addr) (gs : List (Row × Bag)) (ps : List (Row × Addr)) : Prop where
  hg : H g = some (.dT (ps.map fun p => (p.1, V.ref p.2)))
  nd : (ps.map (·.2)).Nodup
  kn : (ps.map (·.1)).Nodup
  at_ : EachIs (fun (p : Row × Addr) (e : Row × Bag) => p.1 = e.1 ∧ BagAt H p.2 e.2) ps gs
  new : ∀ p ∈ ps, H0 p.2 = none
theorem Grps.same {H0 H H' : Hp} {g : Addr} {gs : List (Row × Bag)} {ps : List (Row × Addr)} (s : Same H H') (h : Grps H0 H g gs ps) : Grps H0 H' g gs ps := ⟨s _ _ h.hg, h.nd, h.kn, h.at_.mono fun _ _ ⟨a, b⟩ => ⟨a, b.mono s⟩, h.new⟩
theorem find_pair {ps : List (Row × Addr)} {k : Row} {p : Row × Addr} (h : (ps.find? fun p => decide (p.1 = k)) = some p) : p = (k, p.2) ∧ p ∈ ps := by
  have h1 := List.find?_some h
  simp only [decide_eq_true_eq] at h1
  exact ⟨by rw [← h1], List.mem_of_find?_eq_some h⟩
theorem groups_len (keys : List Ex) : ∀ (b : Bag) (gs : List (Row × Bag)) (n : Nat), (∀ x ∈ gs, x.2.length ≤ n) → ∀ x ∈ b.foldl (fun gs e => putG gs (rowOf keys e.1) e) gs, x.2.length ≤ n + b.length
  | [], gs, n, h, x, hx => h x hx
  | e :: b, gs, n, h, x, hx => by
    have h1 : ∀ g ∈ putG gs (rowOf keys e.1) e, g.2.length ≤ n + 1 := fun g hg => by
      unfold putG at hg
      split at hg
      · obtain ⟨g0, h0, rfl⟩ := List.mem_map.mp hg
        have := h g0 h0
        split
        · rw [List.length_append]
          simp
          omega
        · omega
      · rcases List.mem_append.mp hg with h3 | h3
        · exact Nat.le_succ_of_le (h g h3)
        · rw [List.mem_singleton.mp h3]
          simp
    have h2 := groups_len keys b (putG gs (rowOf keys e.1) e) (n + 1) h1 x hx
    rw [List.length_cons]
    omega
theorem upd_bag {H : Hp} {p q : Addr} {o : HO} {b : Bag} (hq : ∀ u, H q = some u → (∀ xs, u ≠ .tup xs)) (hpq : p ≠ q) (h : BagAt H p b) : BagAt (upd H q o) p b := by
  obtain ⟨ts, h1, h2⟩ := h
  have tup : ∀ {c : Addr} {xs : List V}, H c = some (.tup xs) → upd H q o c = some (.tup xs) := fun {c xs} z => by
    rw [upd_ne (fun y => hq (.tup xs) (by rw [← y]; exact z) xs rfl)]
    exact z
  exact ⟨ts, by rw [upd_ne hpq]; exact h1, h2.mono fun _ _ ⟨r, p1, p2⟩ => ⟨r, tup p1, tup p2⟩⟩
def tGrp (K : PySem.W.Frag) : TS := tDrop (tBM K "list" rAppend (tDSetT (tVar 2) (tCall (spRowed K 4) [] E0 (tCons (tOp (rIxT K) (tVar 0) (tC (.int 1))) (tCons (tVar 3) tNil))) (tLst tNil)) (tCons (tTup (tCons (tVar 3) (tCons (tVar 4) tNil))) tNil))
theorem groups_loop {K : PySem.W.Frag} {a pb g pe : Addr} {b : Bag} {keys : List Ex} {H0 : Hp} {D : Ends} {xs rest : List V} {tail : L2.St} (hb : BagAt H0 pb b) (hl : b.length ≤ 20000) (hrs : RowsS b) (hg : H0 g = some (.dT [])) (ha : H0 a = some (.tup (.str "fold" :: .ref pe :: xs))) (hk : ExsOk 1 keys)
    (hes : ∀ H', Off g H0 H' → ExsD K H' pe keys) (x0 y0 : Option V)
    (done : ∀ x y H' ps, Off g H0 H' → Grps H0 H' g (groupsOf keys b) ps → D.nx ([some (.ref a), some (.ref pb), some (.ref g), x, y] ++ tail) H') :
    ∃ W : Nat → Nat → L2.St → Hp → Prop, (∃ m, W 0 m ([some (.ref a), some (.ref pb), some (.ref g), x0, y0] ++ tail) H0) ∧ ∀ i m σ H, W i m σ H →
      ((Itl K pb).stop i H ∧ D.nx σ H) ∨ ((Itl K pb).go i H ∧ ∃ N : L2.St → Hp → Prop, (∀ σ' H', N σ' H' → ∃ m', m' < m ∧ W (i + 1) m' σ' H') ∧ ∀ x H', (Itl K pb).yld i H x H' → gP2 K 3 4 x σ H' fun σ2 H2 => tGrp K { D with nx := N, ct := N, bk := D.nx } σ2 H2) := by
  obtain ⟨ts, h1, h2⟩ := id hb
  have hga : a ≠ g := fun z => by rw [z, hg] at ha; cases ha
  have hgp : pb ≠ g := fun z => by rw [z, hg] at h1; cases h1
  refine for_it (walk_list (xs := ts.map V.ref)) (fun i σ H' => (∃ x y, σ = [some (.ref a), some (.ref pb), some (.ref g), x, y] ++ tail) ∧ Off g H0 H' ∧ ∃ ps, Grps H0 H' g (groupsOf keys (b.take i)) ps ∧ ps.length ≤ i)
    ⟨⟨_, _, rfl⟩, Off.refl _ _, [], ⟨hg, List.nodup_nil, List.nodup_nil, .nil, fun p hp => (List.not_mem_nil hp).elim⟩, Nat.le_refl _⟩ (fun i σ H' _ ⟨_, k, _⟩ => sq_l (k _ _ hgp h1)) ?_ ?_
  · rintro i x σ H' _ hi ⟨⟨x1, y1, rfl⟩, k, ps, G, pl⟩ ⟨rfl, hx⟩
    obtain ⟨t, ht, rfl⟩ := ref_at hx
    have hlen : i < b.length := by
      rw [← h2.length]
      simpa using hi
    obtain ⟨e, he⟩ : ∃ e, b[i]? = some e := ⟨_, List.getElem?_eq_getElem hlen⟩
    obtain ⟨qa, p1, p2⟩ := (each_get h2 ht he).off hg k
    have hm := List.mem_of_getElem? he
    have eg : groupsOf keys (b.take (i + 1)) = putG (groupsOf keys (b.take i)) (rowOf keys e.1) e := by
      rw [show b.take (i + 1) = b.take i ++ [e] by rw [List.take_add_one, he]; rfl]
      unfold groupsOf
      rw [List.foldl_append]
      rfl
    refine gp2 p1 ?_
    have ha' := k _ _ hga ha
    refine ⟨_, rfl, g, rfl, .inr ⟨_, .inl G.hg⟩, ?_⟩
    refine ⟨_, rfl, a, _, 1, _, rfl, rfl, sq_t ha', atI_nat (j := 1) rfl, _, rfl, pe, qa, keys, e.1, rfl, hes _ k, exs_b hk (by decide), p2, (hrs e hm).v, fun t2 H1 s1 hr1 => ?_⟩
    have G1 := G.same s1
    refine ⟨Nat.zero_le _, fun z hz => ?_⟩
    have sz := same_new (o := .lst []) hz
    have G2 := G1.same sz
    have k2 : Off g H0 (upd H1 z (.lst [])) := k.trans (s1.trans sz).off
    have hz0 : H0 z = none := by
      cases q : H0 z with
      | none => rfl
      | some o =>
        exfalso
        by_cases c : z = g
        · have := (G1.hg)
          rw [← c, hz] at this
          cases this
        · have := s1 _ _ (k _ _ c q)
          rw [hz] at this
          cases this
    have p2' := (p2.mono s1).mono sz
    have hsl : (ps.map fun p => (p.1, V.ref p.2)).length < sizeLine := by
      rw [List.length_map]
      exact Nat.lt_of_lt_of_le (show ps.length < 30000 by omega) (by decide)
    refine ⟨ps.map fun p => (p.1, V.ref p.2), rowOf keys e.1, t2, G2.hg, rfl, hr1.mono sz, hsl, fun v hv => ?_, fun hv => ?_⟩
    · rw [grp_val] at hv
      obtain ⟨p, hf, rfl⟩ := Option.map_eq_some_iff.mp hv
      obtain ⟨ep, pm⟩ := find_pair hf
      obtain ⟨eb, hem, _, hbl⟩ := G2.at_.left p pm
      obtain ⟨ts2, l1, l2⟩ := id hbl
      have hel : eb.2.length ≤ 20000 := by
        have := groups_len keys (b.take i) [] 0 (fun x hx => (List.not_mem_nil hx).elim) eb hem
        rw [List.length_take] at this
        have := Nat.min_le_right i b.length
        omega
      refine ⟨.inl ⟨rfl, _, sq_l l1⟩, _, rfl, _, rfl, (by show 2 ≤ sizeLine; decide), fun pt hpt => ?_⟩
      have sp := same_new (o := .tup [.ref qa, .int e.2]) hpt
      have G3 := G2.same sp
      have l1' := sp _ _ l1
      refine ⟨p.2, _, _, rfl, rfl, l1', ?_, ⟨_, _, rfl⟩, ?_, ps, ?_, Nat.le_succ_of_le pl⟩
      · rw [List.length_map, l2.length]
        exact Nat.lt_of_le_of_lt hel (by decide)
      · intro c o n q
        have n2 : c ≠ p.2 := ne_of_none q (G.new p pm)
        rw [upd_ne n2]
        exact sp _ _ (k2 c o n q)
      · have hgp2 : g ≠ p.2 := fun z => by
          have := G3.hg
          rw [z, l1'] at this
          cases this
        refine ⟨by rw [upd_ne hgp2]; exact G3.hg, G.nd, G.kn, ?_, G.new⟩
        rw [eg]
        unfold putG
        rw [if_pos (by rw [← grp_any (fun _ _ h => h.1) (rowOf keys e.1) G2.at_, hf]; rfl)]
        refine grp_put (H := upd (upd H1 z (.lst [])) pt (.tup [.ref qa, .int e.2])) (a := p.2) (t := pt) ?_ (fun c o n q => by rw [upd_ne n]; exact q) (fun c ⟨xs, q⟩ z => by rw [z, l1'] at q; cases q) G.nd G3.at_ (by rw [hf, ← ep]) (fun ts3 q => ?_) (fun x y h3 h4 => ?_) G.kn
        · have hpn : pt ≠ p.2 := fun z => by rw [z, l1] at hpt; cases hpt
          have hqn : qa ≠ p.2 := fun z => by
            have h5 : H1 qa = some (.tup (e.1.map kV)) := p2.mono s1
            have h6 := sz _ _ h5
            rw [z, l1] at h6
            cases h6
          exact ⟨qa, by rw [upd_ne hpn]; exact upd_same, by
            have h5 := p2'.mono sp
            unfold RowAt at h5 ⊢
            rw [upd_ne hqn]
            exact h5⟩
        · rw [upd_same]
          rw [l1'] at q
          have q2 : ts2.map V.ref = ts3.map V.ref := by injection (Option.some.inj q)
          rw [List.map_append, ← q2]
          rfl
        · have nd2 := G.nd
          have : (x, p.2) = (y, p.2) := by
            obtain ⟨m, hm1, hm2⟩ := List.mem_iff_getElem.mp h3
            obtain ⟨m2, hm3, hm4⟩ := List.mem_iff_getElem.mp h4
            have e1 : (ps.map (·.2))[m]'(by simpa using hm1) = (ps.map (·.2))[m2]'(by simpa using hm3) := by simp [hm2, hm4]
            have e2 := (List.getElem_inj nd2).mp e1
            subst e2
            rw [← hm2, ← hm4]
          injection this
    · rw [grp_val] at hv
      have hf : (ps.find? fun p => decide (p.1 = rowOf keys e.1)) = none := by
        cases q : ps.find? fun p => decide (p.1 = rowOf keys e.1) with
        | none => rfl
        | some p => rw [q] at hv; cases hv
      have hkn : rowOf keys e.1 ∉ ps.map (·.1) := fun h => by
        obtain ⟨p, hp, e1⟩ := List.mem_map.mp h
        exact absurd (List.find?_eq_none.mp hf p hp) (by simp [e1])
      have hany : ((ps.map fun p => (p.1, V.ref p.2)).any fun kv => decide (kv.1 = rowOf keys e.1)) = false := by
        rw [List.any_map, List.any_eq_false]
        intro p hp
        simp only [Function.comp, decide_eq_true_eq]
        exact fun h => hkn (List.mem_map.mpr ⟨p, hp, h⟩)
      have hput : putK (ps.map fun p => (p.1, V.ref p.2)) (rowOf keys e.1) (V.ref z) = (ps ++ [(rowOf keys e.1, z)]).map fun p => (p.1, V.ref p.2) := by
        unfold putK
        rw [if_neg (by rw [hany]; exact Bool.false_ne_true), List.map_append]
        rfl
      rw [hput]
      have hzg : z ≠ g := fun y => by
        have := G1.hg
        rw [← y, hz] at this
        cases this
      have hzl : upd (upd H1 z (.lst [])) g (.dT ((ps ++ [(rowOf keys e.1, z)]).map fun p => (p.1, V.ref p.2))) z = some (.lst []) := by rw [upd_ne hzg, upd_same]
      refine ⟨.inl ⟨rfl, [], sq_l hzl⟩, _, rfl, _, rfl, (by show 2 ≤ sizeLine; decide), fun pt hpt => ?_⟩
      have sp := same_new (o := .tup [.ref qa, .int e.2]) hpt
      refine ⟨z, [], _, rfl, rfl, sp _ _ hzl, (by show 0 < sizeLine; decide), ⟨_, _, rfl⟩, ?_, ps ++ [(rowOf keys e.1, z)], ?_, by rw [List.length_append]; simp; omega⟩
      · intro c o n q
        rw [upd_ne (ne_of_none q hz0)]
        exact sp _ _ (by rw [upd_ne n]; exact k2 c o n q)
      · have hgt : ∀ u, (upd H1 z (.lst [])) g = some u → ∀ xs, u ≠ .tup xs := fun u hu xs y => by
          rw [G2.hg] at hu
          rw [← Option.some.inj hu] at y
          cases y
        have hzt : ∀ u, (upd (upd (upd H1 z (.lst [])) g (.dT ((ps ++ [(rowOf keys e.1, z)]).map fun p => (p.1, V.ref p.2)))) pt (.tup [.ref qa, .int e.2])) z = some u → ∀ xs, u ≠ .tup xs := fun u hu xs y => by
          rw [sp _ _ hzl] at hu
          rw [← Option.some.inj hu] at y
          cases y
        have hpz : pt ≠ z := fun y => by rw [y, hzl] at hpt; cases hpt
        have oldz : ∀ p ∈ ps, p.2 ≠ z := fun p hp y => by
          obtain ⟨eb, _, _, ts2, l1, _⟩ := G1.at_.left p hp
          rw [y, hz] at l1
          cases l1
        have oldg : ∀ p ∈ ps, p.2 ≠ g := fun p hp y => by
          obtain ⟨eb, _, _, ts2, l1, _⟩ := G1.at_.left p hp
          rw [y, G1.hg] at l1
          cases l1
        have hgpt : g ≠ pt := fun y => by
          rw [← y, upd_same] at hpt
          cases hpt
        refine ⟨by rw [upd_ne hzg.symm, upd_ne hgpt, upd_same], ?_, ?_, ?_, fun p hp => ?_⟩
        · rw [List.map_append, List.nodup_append]
          exact ⟨G.nd, by simp, fun x hx y hy q => by
            obtain ⟨p, hp, rfl⟩ := List.mem_map.mp hx
            obtain rfl : y = z := by simpa using hy
            exact oldz p hp q⟩
        · rw [List.map_append, List.nodup_append]
          exact ⟨G.kn, by simp, fun x hx y hy q => by
            obtain rfl : y = rowOf keys e.1 := by simpa using hy
            exact hkn (by rw [← q]; exact hx)⟩
        · rw [eg]
          unfold putG
          rw [if_neg (by rw [← grp_any (fun _ _ h => h.1) (rowOf keys e.1) G2.at_, hf]; exact Bool.false_ne_true)]
          have old : ∀ {qs : List (Row × Addr)} {hs : List (Row × Bag)}, EachIs (fun (p : Row × Addr) (x : Row × Bag) => p.1 = x.1 ∧ BagAt (upd H1 z (.lst [])) p.2 x.2) qs hs → (∀ p ∈ qs, p ∈ ps) →
              EachIs (fun (p : Row × Addr) (x : Row × Bag) => p.1 = x.1 ∧ BagAt (upd (upd (upd (upd H1 z (.lst [])) g (.dT ((ps ++ [(rowOf keys e.1, z)]).map fun p => (p.1, V.ref p.2)))) pt (.tup [.ref qa, .int e.2])) z (.lst ([] ++ [V.ref pt]))) p.2 x.2) qs hs := by
            intro qs hs h
            induction h with
            | nil => exact fun _ => .nil
            | @cons p x qs hs h t ih =>
              intro hin
              have hp := hin p List.mem_cons_self
              exact .cons ⟨h.1, upd_bag hzt (oldz p hp) ((upd_bag hgt (oldg p hp) h.2).mono sp)⟩ (ih fun p hp => hin p (List.mem_cons_of_mem _ hp))
          refine each_snoc1 ⟨rfl, [pt], upd_same, .cons ⟨qa, by rw [upd_ne hpz]; exact upd_same, ?_⟩ .nil⟩ (old G2.at_ fun p hp => hp)
          have h5 : (upd H1 z (.lst [])) qa = some (.tup (e.1.map kV)) := p2'
          have hqg : qa ≠ g := fun y => by rw [y, G2.hg] at h5; cases h5
          have hqz : qa ≠ z := fun y => by rw [y, upd_same] at h5; cases h5
          unfold RowAt
          rw [upd_ne hqz]
          exact sp _ _ (by rw [upd_ne hqg]; exact h5)
        · rcases List.mem_append.mp hp with h | h
          · exact G.new p h
          · rw [List.mem_singleton.mp h]
            exact hz0
  · rintro σ H' ⟨⟨x, y, rfl⟩, k, ps, G, _⟩
    rw [List.take_of_length_le (by rw [List.length_map, h2.length]; exact Nat.le_refl _)] at G
    exact done x y H' ps k G
end KA
set_option Elab.async false
set_option linter.all false
set_option maxRecDepth 100000
set_option maxHeartbeats 4000000
/-! grouped -/
namespace KA
open PySem PySem.Spec PyProof.Rows L2 LamX
open PySem.W (EachIs)
/-- all but the object at D and the tables is kept -/
def OffN (D : Addr) (H H' : Hp) : Prop := ∀ a o, a ≠ D → H a = some o → (∀ ps, o ≠ .tbl ps) → H' a = some o
theorem OffN.refl (D : Addr) (H : Hp) : OffN D H H := fun _ _ _ h _ => h
theorem OffN.trans {D : Addr} {H H1 H2 : Hp} (a : OffN D H H1) (b : OffN D H1 H2) : OffN D H H2 := fun c o n h nt => b c o n (a c o n h nt) nt
theorem OffN.of {D : Addr} {H H' : Hp} (s : ExtN H H') : OffN D H H' := fun c o _ h nt => s c o h nt
theorem RowAt.offN {d : Addr} {kvs : List (List Key × V)} {H H' : Hp} (hd : H d = some (.dT kvs)) (k : OffN d H H') {q : Addr} {r : Row} (h : RowAt H q r) : RowAt H' q r := k _ _ (fun z => by
  unfold RowAt at h
  rw [z, hd] at h
  cases h) h fun ps z => by cases z
theorem PairAt.offN {d : Addr} {kvs : List (List Key × V)} {H H' : Hp} (hd : H d = some (.dT kvs)) (k : OffN d H H') {t : Addr} {e : Row × Int} (h : PairAt H t e) : PairAt H' t e := by
  obtain ⟨q, h1, h2⟩ := h
  exact ⟨q, k _ _ (fun z => by rw [z, hd] at h1; cases h1) h1 (fun ps z => by cases z), h2.offN hd k⟩
structure GrpsN (H0 H : Hp) (g : Addr) (gs : List (Row × Bag)) (ps : List (Row × Addr)) : Prop where
  hg : H g = some (.dT (ps.map fun p => (p.1, V.ref p.2)))
  nd : (ps.map (·.2)).Nodup
  kn : (ps.map (·.1)).Nodup
  at_ : EachIs (fun (p : Row × Addr) (e : Row × Bag) => p.1 = e.1 ∧ BagAt H p.2 e.2) ps gs
  new : ∀ p ∈ ps, ∀ o, H0 p.2 = some o → ∃ ps, o = .tbl ps
theorem GrpsN.extn {H0 H H' : Hp} {g : Addr} {gs : List (Row × Bag)} {ps : List (Row × Addr)} (s : ExtN H H') (h : GrpsN H0 H g gs ps) : GrpsN H0 H' g gs ps := ⟨s _ _ h.hg (fun ps z => by cases z), h.nd, h.kn, h.at_.mono fun _ _ ⟨a, b⟩ => ⟨a, b.extn s⟩, h.new⟩
theorem GrpsN.same {H0 H H' : Hp} {g : Addr} {gs : List (Row × Bag)} {ps : List (Row × Addr)} (s : Same H H') (h : GrpsN H0 H g gs ps) : GrpsN H0 H' g gs ps := h.extn (ExtN.of s)
def tGrpN (K : PySem.W.Frag) (T : List (Addr × Str)) : TS := tDrop (tBM K "list" rAppend (tDSetT (tVar 2) (tCall (spMapped K T) [] E0 (tCons (tVar 0) (tCons (tVar 3) tNil))) (tLst tNil)) (tCons (tTup (tCons (tVar 3) (tCons (tVar 4) tNil))) tNil))
theorem groups_loopN {K : PySem.W.Frag} {T : List (Addr × Str)} {pb g pe : Addr} {b : Bag} {keys : List Ex} {H0 : Hp} {D : Ends} (hb : BagAt H0 pb b) (hl : b.length ≤ 20000) (hrs : ∀ e ∈ b, RowV e.1) (hg : H0 g = some (.dT [])) (hk : ExsB 8 keys) (hT0 : Tabs T H0)
    (hes : ∀ H', OffN g H0 H' → ExsD K H' pe keys) (x0 y0 : Option V)
    (done : ∀ x y H' ps, OffN g H0 H' → Tabs T H' → GrpsN H0 H' g (groupsOf keys b) ps → D.nx [some (.ref pe), some (.ref pb), some (.ref g), x, y] H') :
    ∃ W : Nat → Nat → L2.St → Hp → Prop, (∃ m, W 0 m [some (.ref pe), some (.ref pb), some (.ref g), x0, y0] H0) ∧ ∀ i m σ H, W i m σ H →
      ((Itl K pb).stop i H ∧ D.nx σ H) ∨ ((Itl K pb).go i H ∧ ∃ N : L2.St → Hp → Prop, (∀ σ' H', N σ' H' → ∃ m', m' < m ∧ W (i + 1) m' σ' H') ∧ ∀ x H', (Itl K pb).yld i H x H' → gP2 K 3 4 x σ H' fun σ2 H2 => tGrpN K T { D with nx := N, ct := N, bk := D.nx } σ2 H2) := by
  obtain ⟨ts, h1, h2⟩ := id hb
  have hgp : pb ≠ g := fun z => by rw [z, hg] at h1; cases h1
  refine for_it (walk_list (xs := ts.map V.ref)) (fun i σ H' => (∃ x y, σ = [some (.ref pe), some (.ref pb), some (.ref g), x, y]) ∧ OffN g H0 H' ∧ Tabs T H' ∧ ∃ ps, GrpsN H0 H' g (groupsOf keys (b.take i)) ps ∧ ps.length ≤ i)
    ⟨⟨_, _, rfl⟩, OffN.refl _ _, hT0, [], ⟨hg, List.nodup_nil, List.nodup_nil, .nil, fun p hp => (List.not_mem_nil hp).elim⟩, Nat.le_refl _⟩ (fun i σ H' _ ⟨_, k, _⟩ => sq_l (k _ _ hgp h1 fun ps z => by cases z)) ?_ ?_
  · rintro i x σ H' _ hi ⟨⟨x1, y1, rfl⟩, k, tt, ps, G, pl⟩ ⟨rfl, hx⟩
    obtain ⟨t, ht, rfl⟩ := ref_at hx
    have hlen : i < b.length := by
      rw [← h2.length]
      simpa using hi
    obtain ⟨e, he⟩ : ∃ e, b[i]? = some e := ⟨_, List.getElem?_eq_getElem hlen⟩
    obtain ⟨qa, p1, p2⟩ := (each_get h2 ht he).offN hg k
    have hm := List.mem_of_getElem? he
    have eg : groupsOf keys (b.take (i + 1)) = putG (groupsOf keys (b.take i)) (rowOf keys e.1) e := by
      rw [show b.take (i + 1) = b.take i ++ [e] by rw [List.take_add_one, he]; rfl]
      unfold groupsOf
      rw [List.foldl_append]
      rfl
    refine gp2 p1 ?_
    refine ⟨_, rfl, g, rfl, .inr ⟨_, .inl G.hg⟩, ?_⟩
    refine ⟨_, rfl, _, rfl, pe, qa, keys, e.1, rfl, hes _ k, hk, p2, hrs e hm, tt, fun t2 H1 s1 t1 hr1 => ?_⟩
    have G1 := G.extn s1
    refine ⟨Nat.zero_le _, fun z hz => ?_⟩
    have sz := same_new (o := .lst []) hz
    have G2 := G1.same sz
    have t1z : Tabs T (upd H1 z (.lst [])) := t1.ext sz
    have k2 : OffN g H0 (upd H1 z (.lst [])) := k.trans (OffN.of (s1.trans (ExtN.of sz)))
    have hz0 : ∀ o, H0 z = some o → ∃ ps, o = .tbl ps := fun o q => by
      apply Classical.byContradiction
      intro ht
      have nt : ∀ ps, o ≠ .tbl ps := fun ps y => ht ⟨ps, y⟩
      by_cases c : z = g
      · have := (G1.hg)
        rw [← c, hz] at this
        cases this
      · have := s1 _ _ (k _ _ c q nt) nt
        rw [hz] at this
        cases this
    have p2' := (p2.extn s1).mono sz
    have hsl : (ps.map fun p => (p.1, V.ref p.2)).length < sizeLine := by
      rw [List.length_map]
      exact Nat.lt_of_lt_of_le (show ps.length < 30000 by omega) (by decide)
    refine ⟨ps.map fun p => (p.1, V.ref p.2), rowOf keys e.1, t2, G2.hg, rfl, hr1.mono sz, hsl, fun v hv => ?_, fun hv => ?_⟩
    · rw [grp_val] at hv
      obtain ⟨p, hf, rfl⟩ := Option.map_eq_some_iff.mp hv
      obtain ⟨ep, pm⟩ := find_pair hf
      obtain ⟨eb, hem, _, hbl⟩ := G2.at_.left p pm
      obtain ⟨ts2, l1, l2⟩ := id hbl
      have hel : eb.2.length ≤ 20000 := by
        have := groups_len keys (b.take i) [] 0 (fun x hx => (List.not_mem_nil hx).elim) eb hem
        rw [List.length_take] at this
        have := Nat.min_le_right i b.length
        omega
      refine ⟨.inl ⟨rfl, _, sq_l l1⟩, _, rfl, _, rfl, (by show 2 ≤ sizeLine; decide), fun pt hpt => ?_⟩
      have sp := same_new (o := .tup [.ref qa, .int e.2]) hpt
      have G3 := G2.same sp
      have l1' := sp _ _ l1
      refine ⟨p.2, _, _, rfl, rfl, l1', ?_, ⟨_, _, rfl⟩, ?_, ?_, ps, ?_, Nat.le_succ_of_le pl⟩
      · rw [List.length_map, l2.length]
        exact Nat.lt_of_le_of_lt hel (by decide)
      · intro c o n q nt
        have n2 : c ≠ p.2 := fun y => by
          rw [y] at q
          obtain ⟨ps', e⟩ := G.new p pm o q
          exact nt ps' e
        rw [upd_ne n2]
        exact sp _ _ (k2 c o n q nt)
      · exact tabs_lst l1' (t1z.ext sp)
      · have hgp2 : g ≠ p.2 := fun z => by
          have := G3.hg
          rw [z, l1'] at this
          cases this
        refine ⟨by rw [upd_ne hgp2]; exact G3.hg, G.nd, G.kn, ?_, G.new⟩
        rw [eg]
        unfold putG
        rw [if_pos (by rw [← grp_any (fun _ _ h => h.1) (rowOf keys e.1) G2.at_, hf]; rfl)]
        refine grp_put (H := upd (upd H1 z (.lst [])) pt (.tup [.ref qa, .int e.2])) (a := p.2) (t := pt) ?_ (fun c o n q => by rw [upd_ne n]; exact q) (fun c ⟨xs, q⟩ z => by rw [z, l1'] at q; cases q) G.nd G3.at_ (by rw [hf, ← ep]) (fun ts3 q => ?_) (fun x y h3 h4 => ?_) G.kn
        · have hpn : pt ≠ p.2 := fun z => by rw [z, l1] at hpt; cases hpt
          have hqn : qa ≠ p.2 := fun z => by
            have h5 : H1 qa = some (.tup (e.1.map kV)) := p2.extn s1
            have h6 := sz _ _ h5
            rw [z, l1] at h6
            cases h6
          exact ⟨qa, by rw [upd_ne hpn]; exact upd_same, by
            have h5 := p2'.mono sp
            unfold RowAt at h5 ⊢
            rw [upd_ne hqn]
            exact h5⟩
        · rw [upd_same]
          rw [l1'] at q
          have q2 : ts2.map V.ref = ts3.map V.ref := by injection (Option.some.inj q)
          rw [List.map_append, ← q2]
          rfl
        · have nd2 := G.nd
          have : (x, p.2) = (y, p.2) := by
            obtain ⟨m, hm1, hm2⟩ := List.mem_iff_getElem.mp h3
            obtain ⟨m2, hm3, hm4⟩ := List.mem_iff_getElem.mp h4
            have e1 : (ps.map (·.2))[m]'(by simpa using hm1) = (ps.map (·.2))[m2]'(by simpa using hm3) := by simp [hm2, hm4]
            have e2 := (List.getElem_inj nd2).mp e1
            subst e2
            rw [← hm2, ← hm4]
          injection this
    · rw [grp_val] at hv
      have hf : (ps.find? fun p => decide (p.1 = rowOf keys e.1)) = none := by
        cases q : ps.find? fun p => decide (p.1 = rowOf keys e.1) with
        | none => rfl
        | some p => rw [q] at hv; cases hv
      have hkn : rowOf keys e.1 ∉ ps.map (·.1) := fun h => by
        obtain ⟨p, hp, e1⟩ := List.mem_map.mp h
        exact absurd (List.find?_eq_none.mp hf p hp) (by simp [e1])
      have hany : ((ps.map fun p => (p.1, V.ref p.2)).any fun kv => decide (kv.1 = rowOf keys e.1)) = false := by
        rw [List.any_map, List.any_eq_false]
        intro p hp
        simp only [Function.comp, decide_eq_true_eq]
        exact fun h => hkn (List.mem_map.mpr ⟨p, hp, h⟩)
      have hput : putK (ps.map fun p => (p.1, V.ref p.2)) (rowOf keys e.1) (V.ref z) = (ps ++ [(rowOf keys e.1, z)]).map fun p => (p.1, V.ref p.2) := by
        unfold putK
        rw [if_neg (by rw [hany]; exact Bool.false_ne_true), List.map_append]
        rfl
      rw [hput]
      have hzg : z ≠ g := fun y => by
        have := G1.hg
        rw [← y, hz] at this
        cases this
      have hzl : upd (upd H1 z (.lst [])) g (.dT ((ps ++ [(rowOf keys e.1, z)]).map fun p => (p.1, V.ref p.2))) z = some (.lst []) := by rw [upd_ne hzg, upd_same]
      refine ⟨.inl ⟨rfl, [], sq_l hzl⟩, _, rfl, _, rfl, (by show 2 ≤ sizeLine; decide), fun pt hpt => ?_⟩
      have sp := same_new (o := .tup [.ref qa, .int e.2]) hpt
      refine ⟨z, [], _, rfl, rfl, sp _ _ hzl, (by show 0 < sizeLine; decide), ⟨_, _, rfl⟩, ?_, ?_, ps ++ [(rowOf keys e.1, z)], ?_, by rw [List.length_append]; simp; omega⟩
      · intro c o n q nt
        have n2 : c ≠ z := fun y => by
          rw [y] at q
          obtain ⟨ps', e⟩ := hz0 o q
          exact nt ps' e
        rw [upd_ne n2]
        exact sp _ _ (by rw [upd_ne n]; exact k2 c o n q nt)
      · exact tabs_lst (sp _ _ hzl) ((tabs_off G2.hg (fun ps y => by cases y) (fun φ y => by cases y) (Off.upd _ _ _) t1z).ext sp)
      · have hgt : ∀ u, (upd H1 z (.lst [])) g = some u → ∀ xs, u ≠ .tup xs := fun u hu xs y => by
          rw [G2.hg] at hu
          rw [← Option.some.inj hu] at y
          cases y
        have hzt : ∀ u, (upd (upd (upd H1 z (.lst [])) g (.dT ((ps ++ [(rowOf keys e.1, z)]).map fun p => (p.1, V.ref p.2)))) pt (.tup [.ref qa, .int e.2])) z = some u → ∀ xs, u ≠ .tup xs := fun u hu xs y => by
          rw [sp _ _ hzl] at hu
          rw [← Option.some.inj hu] at y
          cases y
        have hpz : pt ≠ z := fun y => by rw [y, hzl] at hpt; cases hpt
        have oldz : ∀ p ∈ ps, p.2 ≠ z := fun p hp y => by
          obtain ⟨eb, _, _, ts2, l1, _⟩ := G1.at_.left p hp
          rw [y, hz] at l1
          cases l1
        have oldg : ∀ p ∈ ps, p.2 ≠ g := fun p hp y => by
          obtain ⟨eb, _, _, ts2, l1, _⟩ := G1.at_.left p hp
          rw [y, G1.hg] at l1
          cases l1
        have hgpt : g ≠ pt := fun y => by
          rw [← y, upd_same] at hpt
          cases hpt
        refine ⟨by rw [upd_ne hzg.symm, upd_ne hgpt, upd_same], ?_, ?_, ?_, fun p hp => ?_⟩
        · rw [List.map_append, List.nodup_append]
          exact ⟨G.nd, by simp, fun x hx y hy q => by
            obtain ⟨p, hp, rfl⟩ := List.mem_map.mp hx
            obtain rfl : y = z := by simpa using hy
            exact oldz p hp q⟩
        · rw [List.map_append, List.nodup_append]
          exact ⟨G.kn, by simp, fun x hx y hy q => by
            obtain rfl : y = rowOf keys e.1 := by simpa using hy
            exact hkn (by rw [← q]; exact hx)⟩
        · rw [eg]
          unfold putG
          rw [if_neg (by rw [← grp_any (fun _ _ h => h.1) (rowOf keys e.1) G2.at_, hf]; exact Bool.false_ne_true)]
          have old : ∀ {qs : List (Row × Addr)} {hs : List (Row × Bag)}, EachIs (fun (p : Row × Addr) (x : Row × Bag) => p.1 = x.1 ∧ BagAt (upd H1 z (.lst [])) p.2 x.2) qs hs → (∀ p ∈ qs, p ∈ ps) →
              EachIs (fun (p : Row × Addr) (x : Row × Bag) => p.1 = x.1 ∧ BagAt (upd (upd (upd (upd H1 z (.lst [])) g (.dT ((ps ++ [(rowOf keys e.1, z)]).map fun p => (p.1, V.ref p.2)))) pt (.tup [.ref qa, .int e.2])) z (.lst ([] ++ [V.ref pt]))) p.2 x.2) qs hs := by
            intro qs hs h
            induction h with
            | nil => exact fun _ => .nil
            | @cons p x qs hs h t ih =>
              intro hin
              have hp := hin p List.mem_cons_self
              exact .cons ⟨h.1, upd_bag hzt (oldz p hp) ((upd_bag hgt (oldg p hp) h.2).mono sp)⟩ (ih fun p hp => hin p (List.mem_cons_of_mem _ hp))
          refine each_snoc1 ⟨rfl, [pt], upd_same, .cons ⟨qa, by rw [upd_ne hpz]; exact upd_same, ?_⟩ .nil⟩ (old G2.at_ fun p hp => hp)
          have h5 : (upd H1 z (.lst [])) qa = some (.tup (e.1.map kV)) := p2'
          have hqg : qa ≠ g := fun y => by rw [y, G2.hg] at h5; cases h5
          have hqz : qa ≠ z := fun y => by rw [y, upd_same] at h5; cases h5
          unfold RowAt
          rw [upd_ne hqz]
          exact sp _ _ (by rw [upd_ne hqg]; exact h5)
        · rcases List.mem_append.mp hp with h | h
          · exact G.new p h
          · rw [List.mem_singleton.mp h]
            exact hz0
  · rintro σ H' ⟨⟨x, y, rfl⟩, k, tt, ps, G, _⟩
    rw [List.take_of_length_le (by rw [List.length_map, h2.length]; exact Nat.le_refl _)] at G
    exact done x y H' ps k tt G
section
variable {P : Program} {w : World} {K : PySem.W.Frag} {mg : Str → Option Value} {base : Heap} {f : Addr} {fd : FuncData}
def spGrouped (K : PySem.W.Frag) (T : List (Addr × Str)) : Sp := fun vs H Q _ => ∃ (pe pb : Addr) (keys : List Ex) (b : Bag), vs = [.ref pe, .ref pb] ∧ ExsD K H pe keys ∧ ExsB 8 keys ∧ BagAt H pb b ∧ b.length ≤ 20000 ∧ (∀ e ∈ b, RowV e.1) ∧ Tabs T H ∧
  ∀ g ps H', ExtN H H' → Tabs T H' → H g = none → GrpsN H H' g (groupsOf keys b) ps → Q (.ref g) H'
theorem ok_grouped {T : List (Addr × Str)} (F : FnP K "grouped" s_grouped f fd) (CM : Cal P w K mg base "mapped" 8 ["exprs", "row"] (spMapped K T)) : FnOk P w K mg base CX0 9 f fd ["keys", "bag"] (spGrouped K T) := by
  refine F.ok sc_grouped (fun vs H Q E h => ?_) (fun cdv A outer s H vs Q E hr h => ?_)
  · obtain ⟨pe, pb, keys, b, rfl, _⟩ := h
    rfl
  · obtain ⟨pe, pb, keys, b, rfl, he, hk, hb, hl, hrow, hT, q⟩ := h
    refine ⟨_, PSs.nox (pss_cons (ps_set (i := 2) sc_grouped.nd rfl (Or.inl rfl) pe_dnewT)
      (pss_cons (ps_for PassesOwn.never rfl (pi_list (pv 1)) (pg_tup rfl (pgs_cons (pg_name (i := 3) sc_grouped.nd rfl (Or.inl rfl)) (pgs_cons (pg_name (i := 4) sc_grouped.nd rfl (Or.inl rfl)) pgs_nil)))
        (pss_one (ps_expr (pe_bm PySem.F.plainAttrs_list PySem.F.slot_list_append PySem.F.type_list_append mt_append (pe_dsetT hr.u64 (pv 2) (pe_cal CM hr (pa_cons (pv 0) (pa_cons (pv 3) pa_nil))) (pe_lst pa_nil) ⟨rfl, rfl, rfl, rfl⟩) (pa_cons (pe_tup (pa_cons (pv 3) (pa_cons (pv 4) pa_nil))) pa_nil)))))
      (pss_one (ps_ret (pv 2))))), ?_⟩
    intro g hg
    have s1 := same_new (o := .dT []) hg
    refine ⟨_, rfl, pb, rfl, ⟨_, sq_l (s1 _ _ hb.choose_spec.1)⟩, groups_loopN (hb.mono s1) hl hrow upd_same hk (hT.ext s1) (fun H' k => he.extn fun a o h nt => k a o (ne_of_none h hg) (s1 _ _ h) nt) none none fun x y H' ps k tt G => ?_⟩
    refine ⟨_, rfl, q g ps H' (fun a o h nt => k a o (ne_of_none h hg) (s1 _ _ h) nt) tt hg ⟨G.hg, G.nd, G.kn, G.at_, fun p hp o ho => G.new p hp o ?_⟩⟩
    exact s1 _ _ ho
end
end KA
set_option Elab.async false
set_option linter.all false
set_option maxRecDepth 100000
set_option maxHeartbeats 4000000
/-! joined, folded -/
namespace KA
open PySem PySem.Spec PyProof.Rows L2 LamX
open PySem.W (EachIs)
/-! ### groups and filters -/
theorem find_put (gs : List (Row × Bag)) (k : Row) (e : Row × Int) (r : Row) : ((putG gs k e).find? fun g => decide (g.1 = r)).map (·.2) = if k = r then some ((((gs.find? fun g => decide (g.1 = r)).map (·.2)).getD []) ++ [e]) else (gs.find? fun g => decide (g.1 = r)).map (·.2) := by
  unfold putG
  by_cases h : gs.any (fun g => decide (g.1 = k)) = true
  · rw [if_pos h]
    induction gs with
    | nil => cases h
    | cons g gs ih =>
      rw [List.map_cons, List.find?_cons, List.find?_cons]
      by_cases c : g.1 = k
      · rw [if_pos c]
        by_cases c2 : k = r
        · rw [if_pos c2]
          simp [c, c2]
        · rw [if_neg c2]
          have c3 : ¬ g.1 = r := fun z => c2 (c.symm.trans z)
          simp only [c3, decide_false]
          by_cases h2 : gs.any (fun g => decide (g.1 = k)) = true
          · have := ih h2
            rw [if_neg c2] at this
            exact this
          · have e1 : gs.map (fun g => if g.1 = k then (g.1, g.2 ++ [e]) else g) = gs := by
              conv => rhs; rw [← List.map_id gs]
              refine List.map_congr_left fun x hx => ?_
              rw [if_neg fun z => h2 (List.any_eq_true.mpr ⟨x, hx, by simpa using z⟩)]
              rfl
            rw [e1]
      · rw [if_neg c]
        have h2 : gs.any (fun g => decide (g.1 = k)) = true := by simpa [c] using h
        by_cases c3 : g.1 = r
        · have c2 : ¬ k = r := fun z => c (c3.trans z.symm)
          rw [if_neg c2]
          simp [c3]
        · simp only [c3, decide_false]
          exact ih h2
  · rw [if_neg h, List.find?_append]
    have hn : (gs.find? fun g => decide (g.1 = k)) = none := by
      rw [List.find?_eq_none]
      intro x hx z
      exact h (List.any_eq_true.mpr ⟨x, hx, z⟩)
    by_cases c2 : k = r
    · subst c2
      rw [if_pos rfl, hn]
      simp
    · rw [if_neg c2]
      cases z : gs.find? fun g => decide (g.1 = r) with
      | none => simp [c2]
      | some x => simp
theorem groups_snoc (keys : List Ex) (b : Bag) (e : Row × Int) : groupsOf keys (b ++ [e]) = putG (groupsOf keys b) (rowOf keys e.1) e := by
  unfold groupsOf
  rw [List.foldl_append]
  rfl
/-- the group of a key -/
theorem group_at (keys : List Ex) (r : Row) : ∀ n (b : Bag), b.length = n → (((groupsOf keys b).find? fun g => decide (g.1 = r)).map (·.2)).getD [] = b.filter fun e => decide (rowOf keys e.1 = r)
  | 0, b, h => by
    rw [List.eq_nil_of_length_eq_zero h]
    rfl
  | n + 1, b, h => by
    obtain ⟨b', e, rfl⟩ : ∃ l x, b = l ++ [x] := ⟨_, _, (List.dropLast_concat_getLast (l := b) (fun z => by rw [z] at h; cases h)).symm⟩
    have ih := group_at keys r n b' (by rw [List.length_append] at h; simpa using h)
    rw [groups_snoc, find_put, List.filter_append, ← ih]
    by_cases c : rowOf keys e.1 = r
    · rw [if_pos c]
      simp [c]
    · rw [if_neg c]
      simp [c]
theorem join_filter (l r es : List Ex) (x : Row × Int) (b : Bag) : (b.flatMap fun y => if rowOf l x.1 = rowOf r y.1 then [(rowOf es (x.1 ++ y.1), x.2 * y.2)] else []) = (b.filter fun y => decide (rowOf r y.1 = rowOf l x.1)).map fun y => (rowOf es (x.1 ++ y.1), x.2 * y.2) := by
  induction b with
  | nil => rfl
  | cons y b ih =>
    rw [List.flatMap_cons, ih]
    by_cases c : rowOf r y.1 = rowOf l x.1
    · rw [if_pos c.symm, List.filter_cons_of_pos (by simpa using c)]
      rfl
    · rw [if_neg fun z => c z.symm, List.filter_cons_of_neg (by simpa using c)]
      rfl
/-- two rows, one behind the other -/
theorem cat_two {K : PySem.W.Frag} {σ : L2.St} {H : Hp} {Q : VK} {i j : Nat} {qa q2 : Addr} {r t : Row} (h1 : σ[i]? = some (some (.ref qa))) (h2 : σ[j]? = some (some (.ref q2))) (hq : RowAt H qa r) (ht : RowAt H q2 t) (l1 : r.length ≤ 1000) (l2 : t.length ≤ 1000)
    (h : ∀ p H', Same H H' → RowAt H' p (r ++ t) → Q (.ref p) H') : tOp (rCatA K) (tVar i) (tVar j) σ H Q := by
  refine ⟨_, h1, _, h2, qa, q2, _, _, rfl, rfl, sq_t hq, sq_t ht, ?_, fun z0 => ?_, fun z0 z1 => ?_, fun z0 z1 px hpx => ?_⟩
  · rw [List.length_map, List.length_map]
    exact Nat.le_trans (show _ ≤ 2000 by omega) (by decide)
  · have e0 : r = [] := List.map_eq_nil_iff.mp z0
    refine h q2 H (Same.refl _) ?_
    rw [e0]
    exact ht
  · have e0 : t = [] := List.map_eq_nil_iff.mp z1
    refine h qa H (Same.refl _) ?_
    rw [e0, List.append_nil]
    exact hq
  · refine h px _ (same_new hpx) ?_
    unfold RowAt
    rw [List.map_append]
    exact upd_same
end KA
set_option Elab.async false
set_option linter.all false
set_option maxRecDepth 100000
set_option maxHeartbeats 8000000
/-! joined -/
namespace KA
open PySem PySem.Spec PyProof.Rows L2 LamX
open PySem.W (EachIs)
/-- nothing but a table stood there -/
def NewN (H : Hp) (q : Addr) : Prop := ∀ o, H q = some o → ∃ ps, o = .tbl ps
theorem NewN.of {H H' : Hp} (s : ExtN H H') {q : Addr} (h : H' q = none) : NewN H q := fun o ho => by
  apply Classical.byContradiction
  intro ht
  rw [s _ _ ho fun ps y => ht ⟨ps, y⟩] at h
  cases h
theorem NewN.back {H H' : Hp} (s : ExtN H H') {q : Addr} (h : NewN H' q) : NewN H q := fun o ho => by
  apply Classical.byContradiction
  intro ht
  have nt : ∀ ps, o ≠ .tbl ps := fun ps y => ht ⟨ps, y⟩
  obtain ⟨ps, e⟩ := h o (s _ _ ho nt)
  exact nt ps e
theorem NewN.lst {H : Hp} {q : Addr} (h : NewN H q) : ∀ xs, H q ≠ some (.lst xs) := fun xs z => by
  obtain ⟨ps, e⟩ := h _ z
  cases e
theorem pair_upd {H : Hp} {P : Addr} {xs : List V} {o : HO} (hP : H P = some (.lst xs)) {t : Addr} {e : Row × Int} (h : PairAt H t e) : PairAt (upd H P o) t e := h.tk (tk_lst hP)
theorem bag_upd {H : Hp} {P q : Addr} {xs : List V} {o : HO} (hP : H P = some (.lst xs)) (n : q ≠ P) {b : Bag} (h : BagAt H q b) : BagAt (upd H P o) q b := by
  obtain ⟨ts, h1, h2⟩ := h
  exact ⟨ts, by rw [upd_ne n]; exact h1, h2.mono fun _ _ z => pair_upd hP z⟩
section
variable {P : Program} {w : World} {K : PySem.W.Frag} {mg : Str → Option Value} {base : Heap} {f : Addr} {fd : FuncData}
def spJoined (K : PySem.W.Frag) (T : List (Addr × Str)) : Sp := fun vs H Q _ => ∃ (lt p1 p2 pl pr pe : Addr) (l r es : List Ex) (a b : Bag), vs = [.ref lt, .ref p1, .ref p2] ∧ SqT K H lt [.ref pl, .ref pr, .ref pe] ∧ (ExsD K H pl l ∧ ExsD K H pr r ∧ ExsD K H pe es) ∧ (ExsB 8 l ∧ ExsB 8 r ∧ ExsB 8 es) ∧
  (BagAt H p1 a ∧ BagAt H p2 b) ∧ a.length * b.length ≤ 10000 ∧ b.length ≤ 10000 ∧ BdB (2 ^ 60) a ∧ RowsS a ∧ RowsS b ∧ Tabs T H ∧ ∀ q H', ExtN H H' → Tabs T H' → NewN H q → BagAt H' q (mk (joinP l r es a b)) → Q (.ref q) H'
theorem ok_joined {T : List (Addr × Str)} (F : FnP K "joined" s_joined f fd) (CG : Cal P w K mg base "grouped" 9 ["keys", "bag"] (spGrouped K T)) (CM : Cal P w K mg base "mapped" 8 ["exprs", "row"] (spMapped K T)) (CB : Cal P w K mg base "make_bag" 5 ["pairs"] spMakeBagN) :
    FnOk P w K mg base CX0 10 f fd ["lists", "first", "second"] (spJoined K T) := by
  refine F.ok sc_joined (fun vs H Q E h => ?_) (fun cdv A outer s H vs Q E hr h => ?_)
  · obtain ⟨lt, p1, p2, pl, pr, pe, l, r, es, a, b, rfl, _⟩ := h
    rfl
  · obtain ⟨lt, p1, p2, pl, pr, pe, l, r, es, a, b, rfl, hlt, ⟨hl, hr', he⟩, ⟨bl, br, be⟩, ⟨ha, hb⟩, hab, hbl, hbd, rsa, rsb, hT, q⟩ := h
    refine ⟨_, PSs.nox (pss_cons (ps_asg (pv 0) (pg_tup rfl (pgs_cons (pg_name (i := 3) sc_joined.nd rfl (Or.inl rfl)) (pgs_cons (pg_name (i := 4) sc_joined.nd rfl (Or.inl rfl)) (pgs_cons (pg_name (i := 5) sc_joined.nd rfl (Or.inl rfl)) pgs_nil)))))
      (pss_cons (ps_set (i := 6) sc_joined.nd rfl (Or.inl rfl) (pe_cal CG hr (pa_cons (pv 4) (pa_cons (pv 2) pa_nil))))
      (pss_cons (ps_set (i := 7) sc_joined.nd rfl (Or.inl rfl) (pe_lst pa_nil))
      (pss_cons (ps_for PassesOwn.never rfl (pi_list (pv 1)) (pg_tup rfl (pgs_cons (pg_name (i := 8) sc_joined.nd rfl (Or.inl rfl)) (pgs_cons (pg_name (i := 9) sc_joined.nd rfl (Or.inl rfl)) pgs_nil)))
        (pss_one (ps_for PassesOwn.never rfl (pi_list (pe_dget2 hr.u1 (pv 6) (pe_cal CM hr.lt (pa_cons (pv 3) (pa_cons (pv 8) pa_nil))) (pe_lst pa_nil) ⟨rfl, rfl, rfl, rfl⟩)) (pg_tup rfl (pgs_cons (pg_name (i := 10) sc_joined.nd rfl (Or.inl rfl)) (pgs_cons (pg_name (i := 11) sc_joined.nd rfl (Or.inl rfl)) pgs_nil)))
          (pss_one (ps_expr (pe_bm PySem.F.plainAttrs_list PySem.F.slot_list_append PySem.F.type_list_append mt_append (pv 7) (pa_cons (pe_tup (pa_cons (pe_cal CM hr.lt (pa_cons (pv 5) (pa_cons (pe_op op_catA (pv 8) (pv 10)) pa_nil))) (pa_cons (pe_op op_mul (pv 9) (pv 11)) pa_nil))) pa_nil)))))))
      (pss_one (ps_ret (pe_cal CB hr.lt (pa_cons (pv 7) pa_nil)))))))), ?_⟩
    refine ⟨_, rfl, lt, _, rfl, hlt, rfl, _, _, rfl, _, _, rfl, _, _, rfl, rfl, ?_⟩
    refine ⟨_, rfl, _, rfl, pr, p2, r, b, rfl, hr', br, hb, by omega, fun e h => (rsb e h).v, hT, fun g ps H1 s1 t1 _ G => ⟨Nat.zero_le _, fun Pl hPl => ?_⟩⟩
    have big : (100000 : Nat) ≤ sizeLine := by decide
    have ha1 := ha.extn s1
    have he1 := he.extn s1
    have hl1 := hl.extn s1
    obtain ⟨ts, a1, a2⟩ := id ha1
    have npl : p1 ≠ Pl := fun z => by rw [z, hPl] at a1; cases a1
    have jlen : ∀ i, (joinP l r es (a.take i) b).length ≤ 10000 := fun i => by
      have h1 := flat_le (b := a.take i) (m := b.length) (g := fun x => b.flatMap fun y => if rowOf l x.1 = rowOf r y.1 then [(rowOf es (x.1 ++ y.1), x.2 * y.2)] else []) fun x _ => by
        have := flat_le (g := fun y : Row × Int => if rowOf l x.1 = rowOf r y.1 then [(rowOf es (x.1 ++ y.1), x.2 * y.2)] else []) (m := 1) (b := b) fun y _ => by split <;> simp
        omega
      have h2 : (a.take i).length ≤ a.length := by rw [List.length_take]; exact Nat.min_le_right _ _
      exact Nat.le_trans h1 (Nat.le_trans (Nat.mul_le_mul_right _ h2) hab)
    refine ⟨_, rfl, p1, rfl, ⟨_, sq_l (by rw [upd_ne npl]; exact a1)⟩, for_it (walk_list (xs := ts.map V.ref)) (fun i σ H' => (∃ x8 x9 x10 x11, σ = [some (.ref lt), some (.ref p1), some (.ref p2), some (.ref pl), some (.ref pr), some (.ref pe), some (.ref g), some (.ref Pl), x8, x9, x10, x11]) ∧
      ExtN H1 H' ∧ Tabs T H' ∧ BagAt H' Pl (joinP l r es (a.take i) b)) ⟨⟨none, none, none, none, rfl⟩, extn_new hPl, tabs_new hPl t1, [], upd_same, .nil⟩ (fun i σ H' _ z => sq_l (z.2.1 _ _ a1 fun ps y => by cases y)) ?_ ?_⟩
    · rintro i x σ _ H' hi ⟨⟨x8, x9, x10, x11, rfl⟩, sE, tE, hpr⟩ ⟨rfl, hx⟩
      obtain ⟨t, ht, rfl⟩ := ref_at hx
      have hli : i < a.length := by
        rw [← a2.length]
        simpa using hi
      obtain ⟨x, he0⟩ : ∃ x, a[i]? = some x := ⟨_, List.getElem?_eq_getElem hli⟩
      obtain ⟨qa, q1, q2⟩ := (each_get a2 ht he0).extn sE
      have q20 : RowAt H1 qa x.1 := by
        obtain ⟨qa', z1, z2⟩ := each_get a2 ht he0
        have := sE _ _ z1 fun ps y => by cases y
        rw [q1] at this
        cases this
        exact z2
      have hm := List.mem_of_getElem? he0
      have et : joinP l r es (a.take (i + 1)) b = joinP l r es (a.take i) b ++ (b.filter fun y => decide (rowOf r y.1 = rowOf l x.1)).map fun y => (rowOf es (x.1 ++ y.1), x.2 * y.2) := by
        rw [show a.take (i + 1) = a.take i ++ [x] by rw [List.take_add_one, he0]; rfl]
        unfold joinP
        rw [List.flatMap_append, List.flatMap_singleton, join_filter]
      refine gp2 q1 ?_
      have GE := G.extn sE
      refine ⟨_, rfl, g, rfl, .inr ⟨_, .inl GE.hg⟩, _, rfl, _, rfl, pl, qa, l, x.1, rfl, hl1.extn sE, bl, q2, (rsa x hm).v, tE, fun t2 H2 s2 tt2 hr2 => ⟨Nat.zero_le _, fun z hz => ?_⟩⟩
      have G2 := GE.extn (s2.trans (extn_new (o := .lst []) hz))
      have sE2 : ExtN H1 (upd H2 z (.lst [])) := sE.trans (s2.trans (extn_new hz))
      have hpr2 : BagAt (upd H2 z (.lst [])) Pl (joinP l r es (a.take i) b) := (hpr.extn s2).extn (extn_new hz)
      -- the inner loop over the list at u, which holds the group
      have inner : ∀ u, u ≠ Pl → BagAt (upd H2 z (.lst [])) u (b.filter fun y => decide (rowOf r y.1 = rowOf l x.1)) → ∀ (v : V), v = .ref u → ∀ (D : Ends), (∀ σ' H', (∃ x8 x9 x10 x11, σ' = [some (.ref lt), some (.ref p1), some (.ref p2), some (.ref pl), some (.ref pr), some (.ref pe), some (.ref g), some (.ref Pl), x8, x9, x10, x11]) → ExtN H1 H' → Tabs T H' → BagAt H' Pl (joinP l r es (a.take (i + 1)) b) → D.nx σ' H') →
          ∃ W : Nat → Nat → L2.St → Hp → Prop, (∃ m, W 0 m [some (.ref lt), some (.ref p1), some (.ref p2), some (.ref pl), some (.ref pr), some (.ref pe), some (.ref g), some (.ref Pl), some (.ref qa), some (.int x.2), x10, x11] (upd H2 z (.lst []))) ∧ ∀ i m σ H, W i m σ H →
            ((Itl K u).stop i H ∧ D.nx σ H) ∨ ((Itl K u).go i H ∧ ∃ N : L2.St → Hp → Prop, (∀ σ' H', N σ' H' → ∃ m', m' < m ∧ W (i + 1) m' σ' H') ∧ ∀ x H', (Itl K u).yld i H x H' → gP2 K 10 11 x σ H' fun σ2 H2 =>
              tDrop (tBM K "list" rAppend (tVar 7) (tCons (tTup (tCons (tCall (spMapped K T) [] E0 (tCons (tVar 5) (tCons (tOp (rCatA K) (tVar 8) (tVar 10)) tNil))) (tCons (tOp (rI CMul fun i j => .int (i * j)) (tVar 9) (tVar 11)) tNil))) tNil)) { D with nx := N, ct := N, bk := D.nx } σ2 H2) := by
        intro u nu hu v hv D fin
        obtain ⟨us, u1, u2⟩ := id hu
        refine for_it (walk_list (xs := us.map V.ref)) (fun j σ H' => (∃ x10 x11, σ = [some (.ref lt), some (.ref p1), some (.ref p2), some (.ref pl), some (.ref pr), some (.ref pe), some (.ref g), some (.ref Pl), some (.ref qa), some (.int x.2), x10, x11]) ∧ ExtN H1 H' ∧ Tabs T H' ∧
          H' u = some (.lst (us.map V.ref)) ∧ EachIs (PairAt H') us (b.filter fun y => decide (rowOf r y.1 = rowOf l x.1)) ∧ BagAt H' Pl (joinP l r es (a.take i) b ++ ((b.filter fun y => decide (rowOf r y.1 = rowOf l x.1)).take j).map fun y => (rowOf es (x.1 ++ y.1), x.2 * y.2)))
          ⟨⟨_, _, rfl⟩, sE2, tabs_new hz tt2, u1, u2, by rw [List.take_zero, List.map_nil, List.append_nil]; exact hpr2⟩ (fun j σ H' _ h => sq_l h.2.2.2.1) ?_ ?_
        · rintro j y σ' _ H5 hj ⟨⟨y10, y11, rfl⟩, s5, t5, hu5, hes5, hp5⟩ ⟨rfl, hy⟩
          obtain ⟨t6, ht6, rfl⟩ := ref_at hy
          have hlj : j < (b.filter fun y => decide (rowOf r y.1 = rowOf l x.1)).length := by
            rw [← u2.length]
            simpa using hj
          obtain ⟨e2, he2⟩ : ∃ e2, (b.filter fun y => decide (rowOf r y.1 = rowOf l x.1))[j]? = some e2 := ⟨_, List.getElem?_eq_getElem hlj⟩
          obtain ⟨qb, w1, w2⟩ := each_get hes5 ht6 he2
          have re := rsa x hm
          have re2 := rsb e2 (List.mem_filter.mp (List.mem_of_getElem? he2)).1
          have be2 := hbd x hm
          obtain ⟨ps5, c1, c2⟩ := id hp5
          have e8 := re.1
          have e9 := re2.1
          have qa5 := q20.extn s5
          have lj : ((b.filter fun y => decide (rowOf r y.1 = rowOf l x.1)).take j).length ≤ 10000 := by
            rw [List.length_take]
            have h1 := List.length_filter_le (fun y : Row × Int => decide (rowOf r y.1 = rowOf l x.1)) b
            have h2 := Nat.min_le_right j (b.filter fun y => decide (rowOf r y.1 = rowOf l x.1)).length
            omega
          have lps : ps5.length ≤ 20000 := by
            rw [c2.length, List.length_append, List.length_map]
            have := jlen i
            omega
          refine gp2 w1 ⟨_, rfl, .inl ⟨rfl, _, sq_l c1⟩, _, rfl, ?_⟩
          refine cat_two rfl rfl qa5 w2 (by omega) (by omega) fun pc H6 s6 hpc => ?_
          refine ⟨pe, pc, es, x.1 ++ e2.1, rfl, (he1.extn s5).mono s6, be, hpc, re.cat re2, t5.ext s6, fun t7 H7 s7 tt7 hr7 => ?_⟩
          refine ⟨_, rfl, _, rfl, _, _, rfl, rfl, .inl ⟨by omega, by omega⟩, (by show 2 ≤ sizeLine; decide), fun pt hpt => ?_⟩
          have s58 : ExtN H5 (upd H7 pt (.tup [.ref t7, .int (x.2 * e2.2)])) := (ExtN.of s6).trans (s7.trans (extn_new hpt))
          have c8 := s58 _ _ c1 fun ps y => by cases y
          refine ⟨Pl, _, _, rfl, rfl, c8, by rw [List.length_map]; omega, ⟨_, _, rfl⟩, extn_mut (s5.trans s58) hPl, tabs_lst c8 (tabs_new hpt tt7), ?_, hes5.mono fun _ _ y => pair_upd c8 (y.extn s58), ?_⟩
          · rw [upd_ne nu]
            exact s58 _ _ hu5 fun ps y => by cases y
          · refine ⟨ps5 ++ [pt], by rw [upd_same, List.map_append]; rfl, ?_⟩
            rw [show (b.filter fun y => decide (rowOf r y.1 = rowOf l x.1)).take (j + 1) = (b.filter fun y => decide (rowOf r y.1 = rowOf l x.1)).take j ++ [e2] by rw [List.take_add_one, he2]; rfl, List.map_append, ← List.append_assoc]
            exact each_snoc1 (pair_upd c8 ⟨t7, upd_same, hr7.mono (same_new hpt)⟩) (c2.mono fun _ _ y => pair_upd c8 (y.extn s58))
        · rintro σ' H5 ⟨⟨y10, y11, rfl⟩, s5, t5, hu5, hes5, hp5⟩
          have e0 : (b.filter fun y => decide (rowOf r y.1 = rowOf l x.1)).take (us.map V.ref).length = b.filter fun y => decide (rowOf r y.1 = rowOf l x.1) := List.take_of_length_le (by rw [List.length_map, u2.length]; exact Nat.le_refl _)
          rw [e0, ← et] at hp5
          exact fin _ _ ⟨_, _, _, _, rfl⟩ s5 t5 hp5
      have hzP : z ≠ Pl := fun y => by
        obtain ⟨ts2, c1, _⟩ := hpr.extn s2
        rw [y] at hz
        rw [hz] at c1
        cases c1
      have ga := group_at r (rowOf l x.1) _ b rfl
      refine ⟨_, .inr ⟨_, rowOf l x.1, t2, .inl G2.hg, rfl, hr2.mono (same_new hz), rfl⟩, ?_⟩
      have hfind := grp_any (fun _ _ h => h.1) (rowOf l x.1) G2.at_
      cases hf : ps.find? fun p => decide (p.1 = rowOf l x.1) with
      | none =>
        have e0 : (groupsOf r b).find? (fun g => decide (g.1 = rowOf l x.1)) = none := by
          rw [hf] at hfind
          cases e1 : (groupsOf r b).find? (fun g => decide (g.1 = rowOf l x.1)) with
          | none => rfl
          | some y =>
            have : (groupsOf r b).any (fun g => decide (g.1 = rowOf l x.1)) = true := List.any_eq_true.mpr ⟨y, List.mem_of_find?_eq_some e1, by simpa using List.find?_some e1⟩
            rw [this] at hfind
            cases hfind
        rw [e0] at ga
        have hnil : BagAt (upd H2 z (.lst [])) z (b.filter fun y => decide (rowOf r y.1 = rowOf l x.1)) := by
          rw [← ga]
          exact ⟨[], upd_same, .nil⟩
        rw [grp_val, hf]
        exact ⟨z, rfl, ⟨_, sq_l upd_same⟩, inner z hzP hnil _ rfl _ fun σ' H' h1 h2 h3 h4 => ⟨h1, h2, h3, h4⟩⟩
      | some p =>
        obtain ⟨ep, pm⟩ := find_pair hf
        -- the group that stands at p
        have key : ∀ {qs : List (Row × Addr)} {hs : List (Row × Bag)}, EachIs (fun (p : Row × Addr) (e : Row × Bag) => p.1 = e.1 ∧ BagAt (upd H2 z (.lst [])) p.2 e.2) qs hs → (qs.find? fun p => decide (p.1 = rowOf l x.1)) = some p → ∃ e, (hs.find? fun g => decide (g.1 = rowOf l x.1)) = some e ∧ BagAt (upd H2 z (.lst [])) p.2 e.2 := by
          intro qs hs h
          induction h with
          | nil => intro z; cases z
          | @cons q0 y qs hs h t ih =>
            intro hf
            rw [List.find?_cons] at hf ⊢
            by_cases c : q0.1 = rowOf l x.1
            · simp only [c, decide_true] at hf
              have c2 : y.1 = rowOf l x.1 := h.1.symm.trans c
              simp only [c2, decide_true]
              cases hf
              exact ⟨y, rfl, h.2⟩
            · simp only [c, decide_false] at hf
              have c2 : ¬ y.1 = rowOf l x.1 := fun z => c (h.1.trans z)
              simp only [c2, decide_false]
              exact ih hf
        obtain ⟨e, e1, e2⟩ := key G2.at_ hf
        rw [e1] at ga
        have ga' : e.2 = b.filter fun y => decide (rowOf r y.1 = rowOf l x.1) := ga
        rw [ga'] at e2
        obtain ⟨us, u1, _⟩ := id e2
        have hpP : p.2 ≠ Pl := fun y => by
          have := G.at_.left p pm
          obtain ⟨eb, _, _, ts3, l1, _⟩ := this
          rw [y, hPl] at l1
          cases l1
        rw [grp_val, hf]
        exact ⟨p.2, rfl, ⟨_, sq_l u1⟩, inner p.2 hpP e2 _ rfl _ fun σ' H' h1 h2 h3 h4 => ⟨h1, h2, h3, h4⟩⟩
    · rintro σ H' ⟨⟨x8, x9, x10, x11, rfl⟩, sE, tE, hpr⟩
      rw [List.take_of_length_le (by rw [List.length_map, a2.length]; exact Nat.le_refl _)] at hpr
      have jl := jlen a.length
      rw [List.take_of_length_le (Nat.le_refl _)] at jl
      refine ⟨_, rfl, Pl, _, rfl, hpr, by omega, fun e h => ?_, fun qr H6 s6 hq hb6 => ?_⟩
      · obtain ⟨x, hx, h1⟩ := List.mem_flatMap.mp h
        obtain ⟨y, hy, h2⟩ := List.mem_flatMap.mp h1
        split at h2
        · rw [List.mem_singleton.mp h2]
          unfold rowOf
          rw [List.length_map]
          exact be.1
        · cases h2
      · have s16 := s1.trans (sE.trans (ExtN.of s6))
        exact q qr H6 s16 (tE.ext s6) (NewN.of (s1.trans sE) hq) hb6
end
end KA
set_option Elab.async false
set_option linter.all false
set_option maxRecDepth 100000
set_option maxHeartbeats 8000000
/-! folded -/
namespace KA
open PySem PySem.Spec PyProof.Rows L2 LamX
open PySem.W (EachIs)
theorem groups_le (keys : List Ex) : ∀ n (b : Bag), b.length = n → (groupsOf keys b).length ≤ n ∧ ∀ g ∈ groupsOf keys b, g.1.length = keys.length ∧ g.2.length ≤ n ∧ ∀ x ∈ g.2, x ∈ b
  | 0, b, h => by
    rw [List.eq_nil_of_length_eq_zero h]
    exact ⟨Nat.le_refl _, fun g hg => (List.not_mem_nil hg).elim⟩
  | n + 1, b, h => by
    obtain ⟨b', e, rfl⟩ : ∃ l x, b = l ++ [x] := ⟨_, _, (List.dropLast_concat_getLast (l := b) (fun z => by rw [z] at h; cases h)).symm⟩
    obtain ⟨i1, i2⟩ := groups_le keys n b' (by rw [List.length_append] at h; simpa using h)
    rw [groups_snoc]
    unfold putG
    have kl : (rowOf keys e.1).length = keys.length := by unfold rowOf; rw [List.length_map]
    split
    · rw [List.length_map]
      refine ⟨by omega, fun g hg => ?_⟩
      obtain ⟨g0, h0, rfl⟩ := List.mem_map.mp hg
      obtain ⟨j0, j1, j2⟩ := i2 g0 h0
      by_cases c : g0.1 = rowOf keys e.1
      · rw [if_pos c]
        refine ⟨j0, by simp; omega, fun x hx => ?_⟩
        rcases List.mem_append.mp hx with h1 | h1
        · exact List.mem_append_left _ (j2 x h1)
        · exact List.mem_append_right _ h1
      · rw [if_neg c]
        exact ⟨j0, by omega, fun x hx => List.mem_append_left _ (j2 x hx)⟩
    · refine ⟨by simp; omega, fun g hg => ?_⟩
      rcases List.mem_append.mp hg with h1 | h1
      · obtain ⟨j0, j1, j2⟩ := i2 g h1
        exact ⟨j0, by omega, fun x hx => List.mem_append_left _ (j2 x hx)⟩
      · rw [List.mem_singleton.mp h1]
        exact ⟨kl, by simp, fun x hx => List.mem_append_right _ hx⟩
theorem grp_find {ps : List (Row × Addr)} (nd : (ps.map (·.1)).Nodup) {i : Nat} {p : Row × Addr} (h : ps[i]? = some p) : (ps.find? fun q => decide (q.1 = p.1)) = some p := by
  induction ps generalizing i with
  | nil => cases h
  | cons q ps ih =>
    rw [List.map_cons, List.nodup_cons] at nd
    rw [List.find?_cons]
    cases i with
    | zero =>
      have e : q = p := by simpa using h
      rw [e]
      simp
    | succ j =>
      have h' : ps[j]? = some p := by simpa using h
      have n : ¬ q.1 = p.1 := fun z => nd.1 (by rw [z]; exact List.mem_map_of_mem (List.mem_of_getElem? h'))
      simp only [n, decide_false]
      exact ih nd.2 h'
theorem cat_ref {K : PySem.W.Frag} {H : Hp} {Q : VK} {qa q2 : Addr} {r t : Row} (hq : RowAt H qa r) (ht : RowAt H q2 t) (l1 : r.length ≤ 1000) (l2 : t.length ≤ 1000)
    (h : ∀ p H', Same H H' → RowAt H' p (r ++ t) → Q (.ref p) H') : rCatA K (.ref qa) (.ref q2) H Q := by
  refine ⟨qa, q2, _, _, rfl, rfl, sq_t hq, sq_t ht, ?_, fun z0 => ?_, fun z0 z1 => ?_, fun z0 z1 px hpx => ?_⟩
  · rw [List.length_map, List.length_map]
    exact Nat.le_trans (show _ ≤ 2000 by omega) (by decide)
  · have e0 : r = [] := List.map_eq_nil_iff.mp z0
    refine h q2 H (Same.refl _) ?_
    rw [e0]
    exact ht
  · have e0 : t = [] := List.map_eq_nil_iff.mp z1
    refine h qa H (Same.refl _) ?_
    rw [e0, List.append_nil]
    exact hq
  · refine h px _ (same_new hpx) ?_
    unfold RowAt
    rw [List.map_append]
    exact upd_same
theorem each_memb {α β : Type} {R R' : α → β → Prop} : ∀ {as : List α} {bs : List β}, EachIs R as bs → (∀ a ∈ as, ∀ b, R a b → R' a b) → EachIs R' as bs
  | _, _, .nil, _ => .nil
  | _, _, .cons h t, k => .cons (k _ List.mem_cons_self _ h) (each_memb t fun a ha b hb => k a (List.mem_cons_of_mem _ ha) b hb)
theorem pair_frz {H : Hp} {g : Addr} {o : HO} {kvs : List (List Key × V)} (hg : H g = some (.dT kvs)) {t : Addr} {e : Row × Int} (h : PairAt H t e) : PairAt (upd H g o) t e := by
  obtain ⟨q, h1, h2⟩ := h
  unfold RowAt at h2
  refine ⟨q, by rw [upd_ne (fun z => by rw [z, hg] at h1; cases h1)]; exact h1, ?_⟩
  unfold RowAt
  rw [upd_ne (fun z => by rw [z, hg] at h2; cases h2)]
  exact h2
/-- the key and the value of a group, a pair -/
def FoundAt (k : Fk) (e : Ex) (H : Hp) (v : V) (g : Row × Bag) : Prop := ∃ t q, v = .ref t ∧ H t = some (.tup [.ref q, optV (foldOne k e g.2)]) ∧ RowAt H q g.1
section
variable {P : Program} {w : World} {K : PySem.W.Frag} {mg : Str → Option Value} {base : Heap} {f : Addr} {fd : FuncData}
def spFold1 (K : PySem.W.Frag) (T : List (Addr × Str)) : Sp := fun vs H Q _ => ∃ (pe pb : Addr) (k : Fk) (v : V) (keys : List Ex) (e : Ex) (b : Bag), vs = [.ref pe, .str k.sign, v, .ref pb] ∧ ExsD K H pe keys ∧ ExsB 8 keys ∧ Dp K H v e.d ∧ e.Ok ∧ e.depth < 8 ∧ keys.length ≤ 900 ∧
  BagAt H pb b ∧ b.length ≤ 20000 ∧ (∀ x ∈ b, RowV x.1) ∧ Tabs T H ∧ ∀ q H', ExtN H H' → Tabs T H' → NewN H q → BagAt H' q (mk (foldP keys k e b)) → Q (.ref q) H'
theorem ok_fold1 {T : List (Addr × Str)} (F : FnP K "folded" s_folded f fd) (CG : Cal P w K mg base "grouped" 9 ["keys", "bag"] (spGrouped K T)) (CR : Cal P w K mg base "group_result" 8 ["kind", "e", "group"] (spGroup1 K T)) (CB : Cal P w K mg base "make_bag" 5 ["pairs"] spMakeBagN) :
    FnOk P w K mg base CX0 10 f fd ["keys", "kind", "e", "bag"] (spFold1 K T) := by
  refine F.ok sc_folded (fun vs H Q E h => ?_) (fun cdv A outer s H vs Q E hr h => ?_)
  · obtain ⟨pe, pb, k, v, keys, e, b, rfl, _⟩ := h
    rfl
  · obtain ⟨pe, pb, k, v, keys, e, b, rfl, hks, bk, hd, eo, el, kl, hb, bl, rv, hT, q⟩ := h
    refine ⟨_, PSs.nox (pss_cons (ps_set (i := 4) sc_folded.nd rfl (Or.inr rfl) (pe_cal CG hr (pa_cons (pv 0) (pa_cons (pv 3) pa_nil))))
      (pss_cons (ps_lock (ps_setLc (i := 5) (own := [("key", 6)]) (g := gName 6) (tt := tYes) (by rfl) sc_folded.nd rfl rfl (sw_true rfl rfl rfl (by decide +kernel)) (pi_keys (pv 4))
          (blkOk_by (own := [("key", 6)]) (N := ["keys", "kind", "e", "bag", "groups", "results", "key", "found"]) (sc := defScope s_folded) (by decide +kernel)) (fun _ _ _ _ _ => pg_name (i := 6) sc_folded.nd rfl (Or.inl rfl)) (fun _ _ _ _ _ => pts_nil)
          (fun _ _ _ _ _ => pe_tup (pa_cons (pv 6) (pa_cons (pe_cal CR hr.lt (pa_cons (pv 1) (pa_cons (pv 2) (pa_cons (pe_dget hr.u1 (pv 4) (pv 6) (fun _ _ => rfl)) pa_nil)))) pa_nil)))))
      (pss_one (ps_ret (pe_cal CB hr.lt (pa_cons (pe_lc (own := [("key", 6), ("found", 7)]) (g := gP2 K 6 7) (tt := tTest (tOp (fun x y H Q => y = V.non ∧ Q (.bl (!decide (x = V.non))) H) (tVar 7) (tC .non))) (te := tTup (tCons (tOp (rCatA K) (tVar 6) (tTup (tCons (tVar 7) tNil))) (tCons (tC (.int 1)) tNil))) (by rfl) sc_folded.nd (pi_list (pv 5))
          (blkOk_by (own := [("key", 6), ("found", 7)]) (N := ["keys", "kind", "e", "bag", "groups", "results", "key", "found"]) (sc := defScope s_folded) (by decide +kernel))
          (fun _ _ _ _ _ => pg_tup rfl (pgs_cons (pg_name (i := 6) sc_folded.nd rfl (Or.inl rfl)) (pgs_cons (pg_name (i := 7) sc_folded.nd rfl (Or.inl rfl)) pgs_nil))) (fun _ _ _ _ _ => pts_one (pt_cmpR op_notN (pv 7) pe_non (nomark _)))
          (fun _ _ _ _ _ => pe_tup (pa_cons (pe_op (r := rCatA K) op_catA (pv 6) (pe_tup (pa_cons (pv 7) pa_nil))) (pa_cons pe_int pa_nil)))) pa_nil)))))), ?_⟩
    obtain ⟨gl, gm⟩ := groups_le keys _ b rfl
    refine ⟨_, rfl, _, rfl, pe, pb, keys, b, rfl, hks, bk, hb, bl, rv, hT, fun g ps H1 s1 t1 hgn G => ?_⟩
    have npg : ∀ p ∈ ps, p.2 ≠ g := fun p hp z => by
      obtain ⟨eb, _, _, ts3, l1, _⟩ := G.at_.left p hp
      rw [z, G.hg] at l1
      cases l1
    refine ⟨g, _, G.hg, trivial, fun od => ?_⟩
    -- the dict is locked
    have s1f : ExtN H (upd H1 g (.frz od (.dT (ps.map fun p => (p.1, V.ref p.2))))) := fun a o h nt => by
      rw [upd_ne (ne_of_none h hgn)]
      exact s1 a o h nt
    have tf1 : Tabs T (upd H1 g (.frz od (.dT (ps.map fun p => (p.1, V.ref p.2))))) := tabs_off G.hg (fun ps z => by cases z) (fun φ z => by cases z) (Off.upd _ _ _) t1
    have hfg : (upd H1 g (.frz od (.dT (ps.map fun p => (p.1, V.ref p.2))))) g = some (.frz od (.dT (ps.map fun p => (p.1, V.ref p.2)))) := upd_same
    have bags : EachIs (fun (p : Row × Addr) (e : Row × Bag) => p.1 = e.1 ∧ BagAt (upd H1 g (.frz od (.dT (ps.map fun p => (p.1, V.ref p.2))))) p.2 e.2) ps (groupsOf keys b) := by
      refine each_memb G.at_ fun p hp e h => ⟨h.1, ?_⟩
      obtain ⟨ts, h1, h2⟩ := h.2
      exact ⟨ts, by rw [upd_ne (npg p hp)]; exact h1, h2.mono fun _ _ y => pair_frz G.hg y⟩
    refine ⟨_, rfl, g, od, rfl, .inr ⟨_, hfg, fun D hD => ?_⟩⟩
    refine lc_offX (T := T) walk_keysT (groupsOf keys b) (by rw [List.length_map, G.at_.length]) (fun H v y => ∃ t q, v = .ref t ∧ t ≠ D ∧ q ≠ D ∧ H t = some (.tup [.ref q, optV (foldOne k e y.2)]) ∧ RowAt H q y.1) ?_ hD tf1 (fun H' s' => s' _ _ hfg fun ps z => by cases z) (by rw [List.length_map, G.at_.length]; omega) ?_ ?_
    · rintro Ha Hb v y kk ⟨t, q', rfl, nt, nq, h1, h2⟩
      exact ⟨t, q', rfl, nt, nq, kk _ _ nt h1 (fun ps z => by cases z), kk _ _ nq h2 (fun ps z => by cases z)⟩
    · rintro i x y H2 _ hi hy s2 t2 ⟨acc, hacc⟩ ⟨rfl, key, v', q', hk, rfl, hq⟩ Q' Qn k1
      obtain ⟨p, hp, hpe⟩ : ∃ p, ps[i]? = some p ∧ (p.1, V.ref p.2) = (key, v') := by
        rw [List.getElem?_map] at hk
        cases hz : ps[i]? with
        | none => rw [hz] at hk; cases hk
        | some p => rw [hz] at hk; exact ⟨p, rfl, Option.some.inj hk⟩
      cases hpe
      obtain ⟨e1, e2⟩ := each_get bags hp hy
      obtain ⟨l0, l1, l2⟩ := gm y (List.mem_of_getElem? hy)
      have hval : valV (ps.map fun p => (p.1, V.ref p.2)) p.1 = some (.ref p.2) := by
        rw [grp_val, grp_find G.kn hp]
        rfl
      refine ⟨rfl, yes_in ⟨_, rfl, _, rfl, _, rfl, _, rfl, _, rfl, g, _, rfl, .inr ⟨_, p.1, q', .inr ⟨od, s2 _ _ hfg fun ps z => by cases z⟩, rfl, hq, hval.symm⟩, k, v, p.2, e, y.2, rfl, Dp.extn (s1f.trans s2) _ _ hd, eo, el, e2.extn s2, by omega, fun x hx => rv x (l2 x hx), t2, fun H3 s3 t3 => ⟨by show 2 ≤ sizeLine; decide, fun pt hpt => ?_⟩⟩⟩
      have hq3 := s3 _ _ hq fun ps z => by cases z
      have nn : ∀ a, H3 a ≠ some (.lst acc) → a ≠ D := fun a h z => h (by rw [z]; exact s3 _ _ hacc fun ps z => by cases z)
      refine k1 _ _ (s3.trans (extn_new hpt)) (tabs_new hpt t3) ⟨pt, q', rfl, nn pt (by rw [hpt]; exact fun z => by cases z), nn q' (by rw [hq3]; exact fun z => by cases z), upd_same, ?_⟩
      unfold RowAt
      rw [upd_ne (fun z => by rw [z, hpt] at hq3; cases hq3), ← e1]
      exact hq3
    · intro H5 acc s5 t5 hacc hea
      have hg5 := s5 _ _ hfg fun ps z => by cases z
      refine ⟨hg5, ?_⟩
      have s6 : ExtN H (upd H5 g (.dT (ps.map fun p => (p.1, V.ref p.2)))) := extn_mut (s1f.trans s5) hgn
      have t6 : Tabs T (upd H5 g (.dT (ps.map fun p => (p.1, V.ref p.2)))) := tabs_off hg5 (fun ps z => by cases z) (fun φ z => by cases z) (Off.upd _ _ _) t5
      have nDg : D ≠ g := fun z => by rw [z, hg5] at hacc; cases hacc
      have hea6 : EachIs (FoundAt k e (upd H5 g (.dT (ps.map fun p => (p.1, V.ref p.2))))) acc (groupsOf keys b) := hea.mono fun v y h => by
        obtain ⟨t, q', rfl, _, _, h1, h2⟩ := h
        refine ⟨t, q', rfl, ?_, ?_⟩
        · rw [upd_ne (fun z => by rw [z, hg5] at h1; cases h1)]
          exact h1
        · unfold RowAt at h2 ⊢
          rw [upd_ne (fun z => by rw [z, hg5] at h2; cases h2)]
          exact h2
      have hacc6 : (upd H5 g (.dT (ps.map fun p => (p.1, V.ref p.2)))) D = some (.lst acc) := by rw [upd_ne nDg]; exact hacc
      have al : acc.length = (groupsOf keys b).length := hea6.length
      refine ⟨_, rfl, D, rfl, ⟨_, sq_l hacc6⟩, fun D2 hD2 => ?_⟩
      have et : ∀ i y, (groupsOf keys b)[i]? = some y → ((groupsOf keys b).take (i + 1)).filterMap (fun g => (foldOne k e g.2).map fun v => (g.1 ++ [v], (1 : Int))) = ((groupsOf keys b).take i).filterMap (fun g => (foldOne k e g.2).map fun v => (g.1 ++ [v], (1 : Int))) ++ ((foldOne k e y.2).map fun v => (y.1 ++ [v], (1 : Int))).toList := fun i y hy => by
        rw [show (groupsOf keys b).take (i + 1) = (groupsOf keys b).take i ++ [y] by rw [List.take_add_one, hy]; rfl, List.filterMap_append]
        congr 1
      refine lc_it (walk_list (xs := acc)) (fun i H' => ExtN (upd H5 g (.dT (ps.map fun p => (p.1, V.ref p.2)))) H' ∧ Tabs T H' ∧ BagAt H' D2 (((groupsOf keys b).take i).filterMap fun g => (foldOne k e g.2).map fun v => (g.1 ++ [v], (1 : Int)))) ⟨extn_new hD2, tabs_new hD2 t6, [], upd_same, .nil⟩ (fun i H' _ z => sq_l (z.1 _ _ hacc6 fun ps y => by cases y)) ?_ ?_
      · rintro i x _ H7 hi ⟨s7, t7, hbg⟩ ⟨rfl, hx⟩
        obtain ⟨y, hy⟩ : ∃ y, (groupsOf keys b)[i]? = some y := ⟨_, List.getElem?_eq_getElem (by omega)⟩
        obtain ⟨t, q', rfl, h1, h2⟩ := each_get hea6 hx hy
        have h17 := s7 _ _ h1 fun ps z => by cases z
        have h27 : RowAt H7 q' y.1 := s7 _ _ h2 fun ps z => by cases z
        obtain ⟨l0, l1, l2⟩ := gm y (List.mem_of_getElem? hy)
        refine gp2 h17 ⟨rfl, ?_⟩
        cases hz : foldOne k e y.2 with
        | none =>
          refine if_in (c := false) (fun Q h => ⟨_, rfl, rfl, _, rfl, h⟩) (fun z => by cases z) fun _ => ⟨s7, t7, ?_⟩
          · rw [et i y hy, hz]
            show BagAt H7 D2 (_ ++ [])
            rw [List.append_nil]
            exact hbg
        | some z =>
          have nz : (!decide (kV z = V.non)) = true := by cases z <;> rfl
          refine if_in (c := true) (fun Q h => ⟨_, rfl, rfl, true, congrArg V.bl nz, h⟩) (fun _ => ?_) fun z => by cases z
          refine ⟨_, rfl, _, rfl, (by show 1 ≤ sizeLine; decide), fun p1 hp1 => cat_ref (r := y.1) (t := [z]) ?_ upd_same (by omega) (by simp) fun pc H8 s8 hpc => ⟨(by show 2 ≤ sizeLine; decide), fun pt hpt => ?_⟩⟩
          · unfold RowAt at h27 ⊢
            rw [upd_ne (fun z => by rw [z, hp1] at h27; cases h27)]
            exact h27
          · have s78 : ExtN H7 (upd H8 pt (.tup [.ref pc, .int 1])) := (extn_new hp1).trans ((ExtN.of s8).trans (extn_new hpt))
            obtain ⟨us, b1, b2⟩ := hbg
            have c8 := s78 _ _ b1 fun ps z => by cases z
            have ul : us.length ≤ i := by
              rw [b2.length]
              refine Nat.le_trans (List.length_filterMap_le ..) ?_
              rw [List.length_take]
              exact Nat.min_le_left ..
            have big : (100000 : Nat) ≤ sizeLine := by decide
            refine ⟨_, c8, by rw [List.length_map]; omega, extn_mut (s7.trans s78) hD2, tabs_lst c8 (tabs_new hpt ((tabs_new hp1 t7).ext s8)), us ++ [pt], by rw [upd_same, List.map_append]; rfl, ?_⟩
            rw [et i y hy, hz]
            refine each_snoc1 (pair_upd c8 ⟨pc, upd_same, hpc.mono (same_new hpt)⟩) (b2.mono fun _ _ y => pair_upd c8 (y.extn s78))
      · rintro H7 ⟨s7, t7, hbg⟩
        rw [al, List.take_length] at hbg
        have fl : (foldP keys k e b).length ≤ (groupsOf keys b).length := List.length_filterMap_le ..
        refine ⟨D2, _, rfl, hbg, Nat.le_trans fl (by omega), fun x hx => ?_, fun qr H8 s8 hq hb8 => ?_⟩
        · obtain ⟨y, hy, h1⟩ := List.mem_filterMap.mp hx
          obtain ⟨z, _, rfl⟩ := Option.map_eq_some_iff.mp h1
          rw [List.length_append, (gm y hy).1]
          simp
          omega
        · have sa := s6.trans (s7.trans (ExtN.of s8))
          exact q qr H8 sa (t7.ext s8) (NewN.of (s6.trans s7) hq) hb8
end
end KA
set_option Elab.async false
set_option linter.all false
set_option maxRecDepth 100000
set_option maxHeartbeats 4000000
/-! sums over bags; the derivative of a term (points 11 and 12) -/
namespace KA
open PySem PySem.Spec PyProof.Rows L2
def lin (φ : Row → Int) (b : Bag) : Int := (b.map fun e => φ e.1 * e.2).sum
theorem lin_nil (φ : Row → Int) : lin φ [] = 0 := rfl
theorem lin_cons (φ : Row → Int) (e : Row × Int) (b : Bag) : lin φ (e :: b) = φ e.1 * e.2 + lin φ b := by
  unfold lin
  rw [List.map_cons, List.sum_cons]
theorem lin_app (φ : Row → Int) (a b : Bag) : lin φ (a ++ b) = lin φ a + lin φ b := by
  unfold lin
  rw [List.map_append, List.sum_append]
theorem sum_zero : ∀ {l : List Row} {f : Row → Int}, (∀ r ∈ l, f r = 0) → (l.map f).sum = 0
  | [], _, _ => rfl
  | r :: l, f, h => by
    rw [List.map_cons, List.sum_cons, h r List.mem_cons_self, sum_zero fun x hx => h x (List.mem_cons_of_mem _ hx)]
    rfl
theorem sum_add : ∀ (l : List Row) (f g : Row → Int), (l.map fun r => f r + g r).sum = (l.map f).sum + (l.map g).sum
  | [], _, _ => rfl
  | r :: l, f, g => by
    rw [List.map_cons, List.sum_cons, sum_add l f g, List.map_cons, List.sum_cons, List.map_cons, List.sum_cons]
    omega
theorem sum_one : ∀ {l : List Row} {q : Row} {f : Row → Int}, l.Nodup → q ∈ l → (l.map fun r => if q = r then f r else 0).sum = f q
  | r :: l, q, f, hn, hq => by
    rw [List.nodup_cons] at hn
    rw [List.map_cons, List.sum_cons]
    by_cases c : q = r
    · subst c
      rw [if_pos rfl, sum_zero fun x hx => if_neg fun z => hn.1 (by rw [z]; exact hx)]
      omega
    · rw [if_neg c, sum_one hn.2 ((List.mem_cons.mp hq).resolve_left c)]
      omega
theorem lin_rows {rows : List Row} (hn : rows.Nodup) (φ : Row → Int) : ∀ {b : Bag}, (∀ e ∈ b, e.1 ∈ rows) → lin φ b = (rows.map fun r => φ r * tot b r).sum
  | [], _ => by
    rw [lin_nil, sum_zero fun r _ => by rw [tot_nil, Int.mul_zero]]
  | e :: b, h => by
    rw [lin_cons, lin_rows hn φ (b := b) fun x hx => h x (List.mem_cons_of_mem _ hx)]
    have e1 : (rows.map fun r => φ r * tot (e :: b) r) = rows.map fun r => (if e.1 = r then φ r * e.2 else 0) + φ r * tot b r := by
      refine List.map_congr_left fun r _ => ?_
      rw [tot_cons, Int.mul_add]
      by_cases c : e.1 = r
      · rw [if_pos c, if_pos c]
      · rw [if_neg c, if_neg c, Int.mul_zero]
    rw [e1, sum_add, sum_one (f := fun r => φ r * e.2) hn (h e List.mem_cons_self)]
theorem put_has (m : Bag) (r : Row) (c : Int) : r ∈ (putI m r c).map (·.1) ∧ ∀ q ∈ m.map (·.1), q ∈ (putI m r c).map (·.1) := by
  rcases putI_keys m r c with ⟨h1, h2⟩ | ⟨h1, h2⟩
  · rw [h2]
    exact ⟨h1, fun q h => h⟩
  · rw [h2]
    exact ⟨List.mem_append.mpr (.inr (List.mem_singleton.mpr rfl)), fun q h => List.mem_append.mpr (.inl h)⟩
theorem tally_has (ps : Bag) : ∀ e ∈ ps, e.1 ∈ (tally ps).map (·.1) := by
  suffices go : ∀ (ps m : Bag), (∀ q ∈ m.map (·.1), q ∈ (ps.foldl (fun m e => putI m e.1 ((valI m e.1).getD 0 + e.2)) m).map (·.1)) ∧ ∀ e ∈ ps, e.1 ∈ (ps.foldl (fun m e => putI m e.1 ((valI m e.1).getD 0 + e.2)) m).map (·.1) from (go ps []).2
  intro ps
  induction ps with
  | nil => exact fun m => ⟨fun q h => h, fun e he => (List.not_mem_nil he).elim⟩
  | cons x ps ih =>
    intro m
    obtain ⟨h1, h2⟩ := put_has m x.1 ((valI m x.1).getD 0 + x.2)
    obtain ⟨i1, i2⟩ := ih (putI m x.1 ((valI m x.1).getD 0 + x.2))
    refine ⟨fun q hq => i1 q (h2 q hq), fun e he => ?_⟩
    rcases List.mem_cons.mp he with rfl | he
    · exact i1 _ h1
    · exact i2 e he
theorem lin_ext (φ : Row → Int) {a b : Bag} (h : ∀ r, tot a r = tot b r) : lin φ a = lin φ b := by
  have hn := tally_nodup (a ++ b)
  have has := tally_has (a ++ b)
  rw [lin_rows hn φ fun e he => has e (List.mem_append.mpr (.inl he)), lin_rows hn φ fun e he => has e (List.mem_append.mpr (.inr he))]
  congr 1
  exact List.map_congr_left fun r _ => by rw [h r]
theorem lin_mk (φ : Row → Int) (ps : Bag) : lin φ (mk ps) = lin φ ps := lin_ext φ (mk_tot ps)
theorem lin_congr {φ ψ : Row → Int} (h : ∀ r, φ r = ψ r) (b : Bag) : lin φ b = lin ψ b := by
  unfold lin
  congr 1
  exact List.map_congr_left fun e _ => by rw [h]
theorem lin_add (φ ψ : Row → Int) (b : Bag) : lin (fun r => φ r + ψ r) b = lin φ b + lin ψ b := by
  induction b with
  | nil => rfl
  | cons e t ih =>
    rw [lin_cons, lin_cons, lin_cons, ih, Int.add_mul]
    omega
/-- the count of r, as a sum -/
theorem tot_maps (b : Bag) (g : Row × Int → Row × Int) (φ : Row → Int) {r : Row} (h : ∀ e ∈ b, (if (g e).1 = r then (g e).2 else 0) = φ e.1 * e.2) : tot (b.map g) r = lin φ b := by
  induction b with
  | nil => rfl
  | cons e t ih => rw [List.map_cons, tot_cons, lin_cons, h e List.mem_cons_self, ih fun x hx => h x (List.mem_cons_of_mem _ hx)]
theorem tot_flat (b : Bag) (g : Row × Int → Bag) (φ : Row → Int) {r : Row} (h : ∀ e ∈ b, tot (g e) r = φ e.1 * e.2) : tot (b.flatMap g) r = lin φ b := by
  induction b with
  | nil => rfl
  | cons e t ih => rw [List.flatMap_cons, tot_app, lin_cons, h e List.mem_cons_self, ih fun x hx => h x (List.mem_cons_of_mem _ hx)]
theorem tot_mapEs (es : List Ex) (b : Bag) (r : Row) : tot (b.map fun e => (rowOf es e.1, e.2)) r = lin (fun x => if rowOf es x = r then 1 else 0) b := tot_maps b _ _ fun e _ => by
  show (if rowOf es e.1 = r then e.2 else 0) = _
  split <;> simp
theorem tot_keep (x : Ex) (b : Bag) (r : Row) : tot (b.map fun e => (e.1, if x.val e.1 = .inl 0 then 0 else e.2)) r = lin (fun y => if x.val y = .inl 0 then 0 else if y = r then 1 else 0) b := tot_maps b _ _ fun e _ => by
  show (if e.1 = r then (if x.val e.1 = .inl 0 then 0 else e.2) else 0) = _
  by_cases c1 : e.1 = r
  · rw [if_pos c1]
    split <;> simp [c1]
  · rw [if_neg c1]
    split <;> simp [c1]
theorem tot_neg (b : Bag) (r : Row) : tot (b.map fun e => (e.1, 0 - e.2)) r = - tot b r := by
  rw [tot_map b (fun c => 0 - c) (fun x y => by omega) (by decide)]
  omega
/-- the count of r in a join -/
def bil (l r es : List Ex) (q : Row) (a b : Bag) : Int := lin (fun x => lin (fun y => if rowOf l x = rowOf r y then (if rowOf es (x ++ y) = q then 1 else 0) else 0) b) a
theorem tot_join (l r es : List Ex) (a b : Bag) (q : Row) : tot (joinP l r es a b) q = bil l r es q a b := by
  refine tot_flat a _ _ fun e _ => ?_
  have h : ∀ b : Bag, tot (b.flatMap fun y => if rowOf l e.1 = rowOf r y.1 then [(rowOf es (e.1 ++ y.1), e.2 * y.2)] else []) q = lin (fun y => if rowOf l e.1 = rowOf r y then (if rowOf es (e.1 ++ y) = q then 1 else 0) else 0) b * e.2 := fun b => by
    induction b with
    | nil => rw [lin_nil, Int.zero_mul]; rfl
    | cons y t ih =>
      rw [List.flatMap_cons, tot_app, ih, lin_cons, Int.add_mul]
      congr 1
      by_cases c1 : rowOf l e.1 = rowOf r y.1
      · rw [if_pos c1, if_pos c1, tot_cons, tot_nil]
        show (if rowOf es (e.1 ++ y.1) = q then e.2 * y.2 else 0) + 0 = _
        split
        · rw [Int.one_mul, Int.add_zero, Int.mul_comm]
        · simp
      · rw [if_neg c1, if_neg c1]
        simp [tot_nil]
  exact h b
theorem bil_left (l r es : List Ex) (q : Row) (a a' b : Bag) : bil l r es q (a ++ a') b = bil l r es q a b + bil l r es q a' b := lin_app _ a a'
theorem bil_right (l r es : List Ex) (q : Row) (a b b' : Bag) : bil l r es q a (b ++ b') = bil l r es q a b + bil l r es q a b' := by
  unfold bil
  rw [← lin_add]
  exact lin_congr (fun x => lin_app _ b b') a
theorem bil_extL (l r es : List Ex) (q : Row) {a a' : Bag} (b : Bag) (h : ∀ x, tot a x = tot a' x) : bil l r es q a b = bil l r es q a' b := lin_ext _ h
theorem bil_extR (l r es : List Ex) (q : Row) (a : Bag) {b b' : Bag} (h : ∀ x, tot b x = tot b' x) : bil l r es q a b = bil l r es q a b' := lin_congr (fun x => lin_ext _ h) a
namespace Tm
/-- point 11 -/
def deriv : Tm → Tm
  | .name _ n => .name .change n
  | .bag _ => .bag []
  | .map es t => .map es t.deriv
  | .keep e t => .keep e t.deriv
  | .neg t => .neg t.deriv
  | .plus a b => .plus a.deriv b.deriv
  | .join l r es a b => .plus (.join l r es a b.deriv) (.plus (.join l r es a.deriv b) (.join l r es a.deriv b.deriv))
  | .once t => .plus (.once (.plus t t.deriv)) (.neg (.once t))
  | .fold keys k e t => .plus (.fold keys k e (.plus t t.deriv)) (.neg (.fold keys k e t))
/-- constant bags are bags -/
def Bags : Tm → Prop
  | .name _ _ => True
  | .bag b => Canon b
  | .map _ t => t.Bags
  | .keep _ t => t.Bags
  | .neg t => t.Bags
  | .once t => t.Bags
  | .fold _ _ _ t => t.Bags
  | .plus a b => a.Bags ∧ b.Bags
  | .join _ _ _ a b => a.Bags ∧ b.Bags
theorem value_canon (o c : Str → Bag) : ∀ t : Tm, t.Bags → Canon (t.value o c)
  | .name _ _, _ => mk_canon _
  | .bag _, h => h
  | .map _ _, _ => mk_canon _
  | .keep _ _, _ => mk_canon _
  | .neg _, _ => mk_canon _
  | .once _, _ => mk_canon _
  | .fold _ _ _ _, _ => mk_canon _
  | .plus _ _, _ => mk_canon _
  | .join _ _ _ _ _, _ => mk_canon _
theorem newf_bags : ∀ (t : Tm), t.Bags → t.newf.Bags
  | .name _ _, _ => trivial
  | .bag _, h => h
  | .map _ t, h => newf_bags t h
  | .keep _ t, h => newf_bags t h
  | .neg t, h => newf_bags t h
  | .once t, h => newf_bags t h
  | .fold _ _ _ t, h => newf_bags t h
  | .plus a b, h => ⟨newf_bags a h.1, newf_bags b h.2⟩
  | .join _ _ _ a b, h => ⟨newf_bags a h.1, newf_bags b h.2⟩
/-- POINT 12, count by count -/
theorem new_tot (o c : Str → Bag) : ∀ t : Tm, t.Simple → t.Bags → ∀ r, tot (t.newf.value o c) r = tot (t.value o c) r + tot (t.deriv.value o c) r
  | .name k n, hs, _, r => by
    obtain rfl : k = .old := hs
    show tot (mk (o n ++ c n)) r = tot (mk (o n)) r + tot (mk (c n)) r
    rw [mk_tot, mk_tot, mk_tot, tot_app]
  | .bag b, _, _, r => by
    show tot b r = tot b r + tot [] r
    rw [tot_nil, Int.add_zero]
  | .map es t, hs, hb, r => by
    show tot (mk ((t.newf.value o c).map _)) r = tot (mk ((t.value o c).map _)) r + tot (mk ((t.deriv.value o c).map _)) r
    rw [mk_tot, mk_tot, mk_tot, tot_mapEs, tot_mapEs, tot_mapEs, ← lin_app]
    exact lin_ext _ fun x => by rw [tot_app]; exact new_tot o c t hs hb x
  | .keep e t, hs, hb, r => by
    show tot (mk ((t.newf.value o c).map _)) r = tot (mk ((t.value o c).map _)) r + tot (mk ((t.deriv.value o c).map _)) r
    rw [mk_tot, mk_tot, mk_tot, tot_keep, tot_keep, tot_keep, ← lin_app]
    exact lin_ext _ fun x => by rw [tot_app]; exact new_tot o c t hs hb x
  | .neg t, hs, hb, r => by
    show tot (mk ((t.newf.value o c).map _)) r = tot (mk ((t.value o c).map _)) r + tot (mk ((t.deriv.value o c).map _)) r
    rw [mk_tot, mk_tot, mk_tot, tot_neg, tot_neg, tot_neg, new_tot o c t hs hb r]
    omega
  | .plus a b, hs, hb, r => by
    show tot (mk (a.newf.value o c ++ b.newf.value o c)) r = tot (mk (a.value o c ++ b.value o c)) r + tot (mk (a.deriv.value o c ++ b.deriv.value o c)) r
    rw [mk_tot, mk_tot, mk_tot, tot_app, tot_app, tot_app, new_tot o c a hs.1 hb.1 r, new_tot o c b hs.2 hb.2 r]
    omega
  | .join l ri es a b, hs, hb, r => by
    show tot (mk (joinP l ri es (a.newf.value o c) (b.newf.value o c))) r = tot (mk (joinP l ri es (a.value o c) (b.value o c))) r +
      tot (mk (mk (joinP l ri es (a.value o c) (b.deriv.value o c)) ++ mk (mk (joinP l ri es (a.deriv.value o c) (b.value o c)) ++ mk (joinP l ri es (a.deriv.value o c) (b.deriv.value o c))))) r
    rw [mk_tot, mk_tot, mk_tot, tot_app, mk_tot, mk_tot, tot_app, mk_tot, mk_tot, tot_join, tot_join, tot_join, tot_join, tot_join]
    rw [bil_extL l ri es r _ (a' := a.value o c ++ a.deriv.value o c) fun x => by rw [tot_app]; exact new_tot o c a hs.1 hb.1 x]
    rw [bil_extR l ri es r _ (b' := b.value o c ++ b.deriv.value o c) fun x => by rw [tot_app]; exact new_tot o c b hs.2 hb.2 x]
    rw [bil_left, bil_right, bil_right]
    omega
  | .once t, hs, hb, r => by
    have e : mk (t.value o c ++ t.deriv.value o c) = t.newf.value o c := Canon.ext (mk_canon _) (value_canon o c _ (newf_bags t hb)) fun x => by
      rw [mk_tot, tot_app]
      exact (new_tot o c t hs hb x).symm
    show tot (mk ((t.newf.value o c).map _)) r = tot (mk ((t.value o c).map _)) r + tot (mk (mk ((mk (t.value o c ++ t.deriv.value o c)).map _) ++ mk ((mk ((t.value o c).map _)).map fun e => (e.1, 0 - e.2)))) r
    rw [e, mk_tot (_ ++ _), tot_app, mk_tot (List.map (fun e : Row × Int => (e.1, 0 - e.2)) _), tot_neg]
    omega
  | .fold keys k e t, hs, hb, r => by
    have e1 : mk (t.value o c ++ t.deriv.value o c) = t.newf.value o c := Canon.ext (mk_canon _) (value_canon o c _ (newf_bags t hb)) fun x => by
      rw [mk_tot, tot_app]
      exact (new_tot o c t hs hb x).symm
    show tot (mk (foldP keys k e (t.newf.value o c))) r = tot (mk (foldP keys k e (t.value o c))) r + tot (mk (mk (foldP keys k e (mk (t.value o c ++ t.deriv.value o c))) ++ mk ((mk (foldP keys k e (t.value o c))).map fun e => (e.1, 0 - e.2)))) r
    rw [e1, mk_tot (_ ++ _), tot_app, mk_tot (List.map (fun e : Row × Int => (e.1, 0 - e.2)) _), tot_neg]
    omega
/-- POINT 12: the new form denotes the sum of what the term and its derivative denote -/
theorem new_value (o c : Str → Bag) {t : Tm} (hs : t.Simple) (hb : t.Bags) : t.newf.value o c = mk (t.value o c ++ t.deriv.value o c) :=
  Canon.ext (value_canon o c _ (newf_bags _ hb)) (mk_canon _) fun r => by
    rw [mk_tot, tot_app]
    exact new_tot o c t hs hb r
end Tm
end KA
set_option Elab.async false
set_option linter.all false
set_option maxRecDepth 100000
set_option maxHeartbeats 8000000
/-! altered -/
namespace KA
open PySem PySem.Spec PyProof.Rows L2 LamX
open PySem.W (EachIs)
theorem tot_pick (p : Row × Int → Bool) (r : Row) : ∀ b : Bag, tot (b.filter p) r = tot (b.map fun e => (e.1, if p e = true then e.2 else 0)) r
  | [] => rfl
  | e :: b => by
    rw [List.map_cons, tot_cons, ← tot_pick p r b]
    by_cases c : p e = true
    · rw [List.filter_cons_of_pos c, tot_cons]
      simp [c]
    · rw [List.filter_cons_of_neg c]
      simp [c]
theorem Canon.filter {b : Bag} (h : Canon b) (p : Row × Int → Bool) : Canon (b.filter p) := ⟨h.srt.filter _, fun e he => h.nz e (List.mem_filter.mp he).1⟩
theorem keep_law {b : Bag} (h : Canon b) (x : Ex) : (b.filter fun e => !decide (x.val e.1 = .inl 0)) = mk (b.map fun e => (e.1, if x.val e.1 = .inl 0 then 0 else e.2)) :=
  Canon.ext (h.filter _) (mk_canon _) fun r => by
    rw [mk_tot, tot_pick]
    congr 2
    funext e
    by_cases c : x.val e.1 = .inl 0 <;> simp [c]
theorem neg_law {b : Bag} (h : Canon b) : scaleB b (-1) = mk (b.map fun e => (e.1, 0 - e.2)) := by
  rw [scale_law h]
  congr 2
  funext e
  rw [show (-1 : Int) * e.2 = 0 - e.2 by omega]
theorem once_law {b : Bag} (h : Canon b) : onesB (posRows b) = mk (b.map fun e => (e.1, b2z (decide (e.2 > 0)))) := by
  have e1 : onesB (posRows b) = (b.filter fun e => decide (e.2 > 0)).map fun e => (e.1, (1 : Int)) := by
    unfold onesB posRows
    rw [List.map_map]
    rfl
  rw [e1]
  refine Canon.ext ⟨?_, fun e he => ?_⟩ (mk_canon _) fun r => ?_
  · rw [List.pairwise_map]
    exact (h.filter _).srt
  · obtain ⟨x, _, rfl⟩ := List.mem_map.mp he
    show (1 : Int) ≠ 0
    decide
  · rw [mk_tot]
    have go : ∀ b : Bag, tot ((b.filter fun e => decide (e.2 > 0)).map fun e => (e.1, (1 : Int))) r = tot (b.map fun e => (e.1, b2z (decide (e.2 > 0)))) r := fun b => by
      induction b with
      | nil => rfl
      | cons e b ih =>
        rw [List.map_cons, tot_cons, ← ih]
        by_cases c : e.2 > 0
        · rw [List.filter_cons_of_pos (p := fun e : Row × Int => decide (e.2 > 0)) (by simpa using c), List.map_cons, tot_cons]
          simp only [c, b2z, decide_true, if_true]
        · rw [List.filter_cons_of_neg (p := fun e : Row × Int => decide (e.2 > 0)) (by simpa using c)]
          simp only [c, b2z, decide_false]
          simp
    exact go b
/-- the bag of a map, keep, neg, once or fold -/
def altB : Tm → Bag → Bag
  | .map es _, b => mk (b.map fun e => (rowOf es e.1, e.2))
  | .keep x _, b => mk (b.map fun e => (e.1, if x.val e.1 = .inl 0 then 0 else e.2))
  | .neg _, b => mk (b.map fun e => (e.1, 0 - e.2))
  | .once _, b => mk (b.map fun e => (e.1, b2z (decide (e.2 > 0))))
  | .fold keys k e _, b => mk (foldP keys k e b)
  | _, b => b
def isAlt : Tm → Bool
  | .map _ _ => true
  | .keep _ _ => true
  | .neg _ => true
  | .once _ => true
  | .fold _ _ _ _ => true
  | _ => false
theorem key_zero (x : Key) : decide (kV x = V.int 0) = decide (x = .inl 0) := by
  cases x with
  | inl i => simp [kV]
  | inr z => simp [kV]
theorem scal_key (x : Key) (i : Int) : scal (kV x) (.int i) = true := by cases x <;> rfl
section
variable {P : Program} {w : World} {K : PySem.W.Frag} {mg : Str → Option Value} {base : Heap} {f : Addr} {fd : FuncData}
def spAlt (K : PySem.W.Frag) (T : List (Addr × Str)) : Sp := fun vs H Q _ => ∃ (v : V) (pb : Addr) (t : Tm) (b : Bag) (X : Hp), vs = [v, .ref pb] ∧ Sub X H ∧ Dp [] X v t.d ∧ isAlt t = true ∧ t.Ok ∧ BagAt H pb b ∧ b.length ≤ 20000 ∧ RowsS b ∧ Canon b ∧ Tabs T H ∧
  ∀ q H', ExtN H H' → Tabs T H' → NewN H q → BagAt H' q (altB t b) → Q (.ref q) H'
theorem ok_altered {T : List (Addr × Str)} (F : FnP K "altered" s_altered f fd) (CB : Cal P w K mg base "make_bag" 5 ["pairs"] spMakeBagN) (CM : Cal P w K mg base "mapped" 8 ["exprs", "row"] (spMapped K T)) (CE : Cal P w K mg base "evaluate" 7 ["e", "row"] (spEval K T))
    (CS : Cal P w K mg base "scaled" 1 ["bag", "factor"] spScaledN) (CU : Cal P w K mg base "support" 2 ["bag"] spSupportN) (CF : Cal P w K mg base "folded" 10 ["keys", "kind", "e", "bag"] (spFold1 K T)) :
    FnOk P w K mg base CX0 11 f fd ["term", "bag"] (spAlt K T) := by
  refine F.ok sc_altered (fun vs H Q E h => ?_) (fun cdv A outer s H vs Q E hr h => ?_)
  · obtain ⟨v, pb, t, b, X, rfl, _⟩ := h
    rfl
  · obtain ⟨v, pb, t, b, X, rfl, sub, hx, hal, hok, hb, bl, rs, hc, hT, q⟩ := h
    refine ⟨_, PSs.nox (pss_cons (ps_set (i := 2) sc_altered.nd rfl (Or.inl rfl) (pe_ix ix_tup (pv 0) pe_int (fun _ _ => rfl)))
      (pss_cons (ps_if (pt_cmpR op_eq (pv 2) pe_str (nomark _)) (pss_one (ps_ret (pe_cal CB hr.lt (pa_cons (pe_lc (own := [("row", 3), ("count", 4)]) (g := gP2 K 3 4) (tt := tYes) (te := tTup (tCons (tCall (spMapped K T) [] E0 (tCons (tOp (rIxT K) (tVar 0) (tC (.int 1))) (tCons (tVar 3) tNil))) (tCons (tVar 4) tNil))) (by rfl) sc_altered.nd (pi_list (pv 1))
          (blkOk_by (own := [("row", 3), ("count", 4)]) (N := ["term", "bag", "kind", "row", "count"]) (sc := defScope s_altered) (by decide +kernel))
          (fun _ _ _ _ _ => pg_tup rfl (pgs_cons (pg_name (i := 3) sc_altered.nd rfl (Or.inl rfl)) (pgs_cons (pg_name (i := 4) sc_altered.nd rfl (Or.inl rfl)) pgs_nil))) (fun _ _ _ _ _ => pts_nil)
          (fun _ _ _ _ _ => pe_tup (pa_cons (pe_cal CM hr.lt (pa_cons (pe_ix ix_tup (pv 0) pe_int (fun _ _ => rfl)) (pa_cons (pv 3) pa_nil))) (pa_cons (pv 4) pa_nil)))) pa_nil)))) pss_nil)
      (pss_cons (ps_if (pt_cmpR op_eq (pv 2) pe_str (nomark _)) (pss_one (ps_ret (pe_lc (own := [("row", 3), ("count", 4)]) (g := gP2 K 3 4) (tt := tTest (tOp rNe (tCall (spEval K T) [] E0 (tCons (tOp (rIxT K) (tVar 0) (tC (.int 1))) (tCons (tVar 3) tNil))) (tC (.int 0)))) (by rfl) sc_altered.nd (pi_list (pv 1))
          (blkOk_by (own := [("row", 3), ("count", 4)]) (N := ["term", "bag", "kind", "row", "count"]) (sc := defScope s_altered) (by decide +kernel))
          (fun _ _ _ _ _ => pg_tup rfl (pgs_cons (pg_name (i := 3) sc_altered.nd rfl (Or.inl rfl)) (pgs_cons (pg_name (i := 4) sc_altered.nd rfl (Or.inl rfl)) pgs_nil)))
          (fun _ _ _ _ _ => pts_one (pt_cmpR op_ne (pe_cal CE hr.lt (pa_cons (pe_ix ix_tup (pv 0) pe_int (fun _ _ => rfl)) (pa_cons (pv 3) pa_nil))) pe_int (nomark _)))
          (fun _ _ _ _ _ => pe_tup (pa_cons (pv 3) (pa_cons (pv 4) pa_nil)))))) pss_nil)
      (pss_cons (ps_if (pt_cmpR op_eq (pv 2) pe_str (nomark _)) (pss_one (ps_ret (pe_cal CS hr.lt (pa_cons (pv 1) (pa_cons (pe_un un_neg pe_int) pa_nil))))) pss_nil)
      (pss_cons (ps_if (pt_cmpR op_eq (pv 2) pe_str (nomark _)) (pss_one (ps_ret (pe_cal CU hr.lt (pa_cons (pv 1) pa_nil)))) pss_nil)
      (pss_one (ps_ret (pe_cal CF hr (pa_cons (pe_ix ix_tup (pv 0) pe_int (fun _ _ => rfl)) (pa_cons (pe_ix ix_tup (pv 0) pe_int (fun _ _ => rfl)) (pa_cons (pe_ix ix_tup (pv 0) pe_int (fun _ _ => rfl)) (pa_cons (pv 1) pa_nil)))))))))))), ?_⟩
    obtain ⟨a, xs, us, rfl, hX, ha, h1, h2⟩ := term_at sub hx
    obtain ⟨ts, b1, b2⟩ := id hb
    have tl : ts.length = b.length := b2.length
    have big : (100000 : Nat) ≤ sizeLine := by decide
    refine ⟨_, rfl, a, _, 0, _, rfl, rfl, sq_t ha, atI_nat (j := 0) rfl, ?_⟩
    cases t with
    | map es t =>
      obtain ⟨y0, r0, e0, h3, h4⟩ := dpa_cons h1
      obtain rfl := dpa_nil h4
      subst e0
      obtain ⟨pe, rfl, he⟩ := dx_exs (K := K) sub h3
      have be : ExsB 8 es := ⟨Nat.le_trans hok.1.1 (by decide), fun e h => ⟨(hok.1.2 e h).1, by have := (hok.1.2 e h).2; omega⟩⟩
      refine is_yes rfl (iteT ⟨_, rfl, pb, rfl, ⟨_, sq_l b1⟩, fun D hD => ?_⟩)
      refine lc_it (walk_list (xs := ts.map V.ref)) (fun i H' => ExtN H H' ∧ Tabs T H' ∧ BagAt H' D ((b.take i).map fun e => (rowOf es e.1, e.2))) ⟨extn_new hD, tabs_new hD hT, [], upd_same, .nil⟩ (fun i H' _ z => sq_l (z.1 _ _ b1 fun ps y => by cases y)) ?_ ?_
      · rintro i x _ H7 hi ⟨s7, t7, hbg⟩ ⟨rfl, hx⟩
        obtain ⟨t0, ht, rfl⟩ := ref_at hx
        obtain ⟨e, hy⟩ : ∃ y, b[i]? = some y := ⟨_, List.getElem?_eq_getElem (by rw [List.length_map] at hi; omega)⟩
        obtain ⟨qa, p1, p2⟩ := (each_get b2 ht hy).extn s7
        have hrv := (rs e (List.mem_of_getElem? hy)).v
        have ha7 := s7 _ _ ha fun ps y => by cases y
        refine gp2 p1 ⟨rfl, yes_in ⟨_, rfl, a, _, 1, _, rfl, rfl, sq_t ha7, atI_nat (j := 1) rfl, _, rfl, pe, qa, es, e.1, rfl, he.extn s7, be, p2, hrv, t7, fun t2 H8 s8 t8 hr8 => ⟨_, rfl, by show 2 ≤ sizeLine; decide, fun pt hpt => ?_⟩⟩⟩
        obtain ⟨vs, c1, c2⟩ := hbg
        have s78 : ExtN H7 (upd H8 pt (.tup [.ref t2, .int e.2])) := s8.trans (extn_new hpt)
        have c8 := s78 _ _ c1 fun ps z => by cases z
        have ul : vs.length ≤ i := by
          rw [c2.length, List.length_map, List.length_take]
          exact Nat.min_le_left ..
        rw [List.length_map] at hi
        refine ⟨_, c8, by rw [List.length_map]; omega, extn_mut (s7.trans s78) hD, tabs_lst c8 (tabs_new hpt t8), vs ++ [pt], by rw [upd_same, List.map_append]; rfl, ?_⟩
        rw [bag_take hy, List.map_append]
        show EachIs _ (vs ++ [pt]) (((b.take i).map fun e => (rowOf es e.1, e.2)) ++ [(rowOf es e.1, e.2)])
        exact each_snoc1 (pair_upd (e := (rowOf es e.1, e.2)) c8 ⟨t2, upd_same, hr8.mono (same_new hpt)⟩) (c2.mono fun _ _ y => pair_upd c8 (y.extn s78))
      · rintro H7 ⟨s7, t7, hbg⟩
        rw [List.take_of_length_le (by rw [List.length_map]; omega)] at hbg
        refine ⟨D, _, rfl, hbg, by rw [List.length_map]; exact bl, fun y hy => ?_, fun q1 H' s' hq hb' => ?_⟩
        · obtain ⟨x, _, rfl⟩ := List.mem_map.mp hy
          show (rowOf es x.1).length ≤ 1000
          unfold rowOf
          rw [List.length_map]
          exact be.1
        · exact q q1 H' (s7.trans (ExtN.of s')) (t7.ext s') (NewN.of s7 hq) hb'
    | keep x t =>
      obtain ⟨y0, r0, e0, h3, h4⟩ := dpa_cons h1
      obtain rfl := dpa_nil h4
      subst e0
      have hxd : Dp K H y0 x.d := dx_dp sub h3
      refine is_no rfl (show ("keep" : Str) ≠ "map" by decide +kernel) (iteF (is_yes rfl (iteT ⟨_, rfl, pb, rfl, ⟨_, sq_l b1⟩, fun D hD => ?_⟩)))
      refine lc_it (walk_list (xs := ts.map V.ref)) (fun i H' => ExtN H H' ∧ Tabs T H' ∧ BagAt H' D ((b.take i).filter fun e => !decide (x.val e.1 = .inl 0))) ⟨extn_new hD, tabs_new hD hT, [], upd_same, .nil⟩ (fun i H' _ z => sq_l (z.1 _ _ b1 fun ps y => by cases y)) ?_ ?_
      · rintro i z _ H7 hi ⟨s7, t7, hbg⟩ ⟨rfl, hx⟩
        obtain ⟨t0, ht, rfl⟩ := ref_at hx
        obtain ⟨e, hy⟩ : ∃ y, b[i]? = some y := ⟨_, List.getElem?_eq_getElem (by rw [List.length_map] at hi; omega)⟩
        obtain ⟨qa, p1, p2⟩ := (each_get b2 ht hy).extn s7
        have hrv := (rs e (List.mem_of_getElem? hy)).v
        have ha7 := s7 _ _ ha fun ps y => by cases y
        rw [List.length_map] at hi
        refine gp2 p1 ⟨rfl, ?_⟩
        refine ⟨_, rfl, a, _, 1, _, rfl, rfl, sq_t ha7, atI_nat (j := 1) rfl, _, rfl, y0, qa, x, e.1, rfl, Dp.extn s7 _ _ hxd, hok.1.1, by have := hok.1.2; omega, p2, hrv, t7, fun H8 s8 t8 => ⟨scal_key _ _, _, rfl, ?_⟩⟩
        rw [key_zero]
        obtain ⟨vs, c1, c2⟩ := hbg
        have ul : vs.length ≤ i := by
          rw [c2.length]
          refine Nat.le_trans (List.length_filter_le ..) ?_
          rw [List.length_take]
          exact Nat.min_le_left ..
        by_cases c0 : x.val e.1 = .inl 0
        · rw [decide_eq_true c0]
          refine iteF ⟨s7.trans s8, t8, ?_⟩
          rw [bag_take hy, List.filter_append, show [e].filter (fun e => !decide (x.val e.1 = .inl 0)) = [] by simp [c0], List.append_nil]
          exact BagAt.extn s8 ⟨vs, c1, c2⟩
        · rw [decide_eq_false c0]
          refine iteT ⟨_, rfl, _, rfl, by show 2 ≤ sizeLine; decide, fun pt hpt => ?_⟩
          have s78 : ExtN H7 (upd H8 pt (.tup [.ref qa, .int e.2])) := s8.trans (extn_new hpt)
          have c8 := s78 _ _ c1 fun ps z => by cases z
          refine ⟨_, c8, by rw [List.length_map]; omega, extn_mut (s7.trans s78) hD, tabs_lst c8 (tabs_new hpt t8), vs ++ [pt], by rw [upd_same, List.map_append]; rfl, ?_⟩
          rw [bag_take hy, List.filter_append, show [e].filter (fun e => !decide (x.val e.1 = .inl 0)) = [e] by simp [c0]]
          exact each_snoc1 (pair_upd c8 ⟨qa, upd_same, (p2.extn s8).mono (same_new hpt)⟩) (c2.mono fun _ _ y => pair_upd c8 (y.extn s78))
      · rintro H7 ⟨s7, t7, hbg⟩
        rw [List.take_of_length_le (by rw [List.length_map]; omega), keep_law hc] at hbg
        exact q D H7 s7 t7 (fun o ho => by rw [hD] at ho; cases ho) hbg
    | neg t =>
      refine is_no rfl (show ("neg" : Str) ≠ "map" by decide +kernel) (iteF (is_no rfl (show ("neg" : Str) ≠ "keep" by decide +kernel) (iteF (is_yes rfl (iteT ?_)))))
      refine ⟨_, rfl, _, rfl, pb, b, -1, rfl, hb, bl, by decide, fun q1 H' s' hq hb' => ?_⟩
      rw [neg_law hc] at hb'
      exact q q1 H' (ExtN.of s') (hT.ext s') (fun o ho => by rw [hq] at ho; cases ho) hb'
    | once t =>
      refine is_no rfl (show ("once" : Str) ≠ "map" by decide +kernel) (iteF (is_no rfl (show ("once" : Str) ≠ "keep" by decide +kernel) (iteF (is_no rfl (show ("once" : Str) ≠ "neg" by decide +kernel) (iteF (is_yes rfl (iteT ?_)))))))
      refine ⟨_, rfl, pb, b, rfl, hb, bl, fun q1 H' s' hq hb' => ?_⟩
      rw [once_law hc] at hb'
      exact q q1 H' (ExtN.of s') (hT.ext s') (fun o ho => by rw [hq] at ho; cases ho) hb'
    | fold keys k e t =>
      obtain ⟨y0, r0, e0, h3, h4⟩ := dpa_cons h1
      obtain ⟨y1, r1, e1, h5, h6⟩ := dpa_cons h4
      obtain ⟨y2, r2, e2, h7, h8⟩ := dpa_cons h6
      obtain rfl := dpa_nil h8
      subst e2 e1 e0
      obtain rfl := dp_strV h5
      obtain ⟨pe, rfl, he⟩ := dx_exs (K := K) sub h3
      have be : ExsB 8 keys := ⟨Nat.le_trans hok.1.1 (by decide), fun e h => ⟨(hok.1.2 e h).1, by have := (hok.1.2 e h).2; omega⟩⟩
      refine is_no rfl (show ("fold" : Str) ≠ "map" by decide +kernel) (iteF (is_no rfl (show ("fold" : Str) ≠ "keep" by decide +kernel) (iteF (is_no rfl (show ("fold" : Str) ≠ "neg" by decide +kernel) (iteF (is_no rfl (show ("fold" : Str) ≠ "once" by decide +kernel) (iteF ?_)))))))
      refine ⟨_, rfl, a, _, 1, _, rfl, rfl, sq_t ha, atI_nat (j := 1) rfl, _, rfl, a, _, 2, _, rfl, rfl, sq_t ha, atI_nat (j := 2) rfl, _, rfl, a, _, 3, _, rfl, rfl, sq_t ha, atI_nat (j := 3) rfl, _, rfl, pe, pb, k, y2, keys, e, b, rfl, he, be, dx_dp sub h7, hok.2.1.1, by have := hok.2.1.2; omega, Nat.le_trans hok.1.1 (by decide), hb, bl, fun x hx => (rs x hx).v, hT, q⟩
    | _ => cases hal
end
end KA
set_option Elab.async false
set_option linter.all false
set_option maxRecDepth 100000
set_option maxHeartbeats 4000000
/-! the sizes of what terms denote -/
namespace KA
open PySem PySem.Spec PyProof.Rows L2 LamX
open PySem.W (EachIs)
structure Good2 (o c : Str → Bag) : Prop where
  o : ∀ n, GoodBag (o n)
  c : ∀ n, GoodBag (c n)
theorem ok_bags : ∀ t : Tm, t.Ok → t.Bags
  | .name _ _, _ => trivial
  | .bag _, h => GoodBag.canon h
  | .map _ t, h => ok_bags t h.2
  | .keep _ t, h => ok_bags t h.2
  | .neg t, h => ok_bags t h
  | .once t, h => ok_bags t h
  | .fold _ _ _ t, h => ok_bags t h.2.2
  | .plus a b, h => ⟨ok_bags a h.1, ok_bags b h.2⟩
  | .join _ _ _ a b, h => ⟨ok_bags a h.2.2.2.1, ok_bags b h.2.2.2.2⟩
theorem foldP_len (keys : List Ex) (k : Fk) (e : Ex) (b : Bag) : (foldP keys k e b).length ≤ b.length := Nat.le_trans (List.length_filterMap_le ..) (groups_le keys _ b rfl).1
theorem joinP_len (l r es : List Ex) (a b : Bag) : (joinP l r es a b).length ≤ a.length * b.length := by
  refine flat_le fun x _ => ?_
  have := flat_le (g := fun y : Row × Int => if rowOf l x.1 = rowOf r y.1 then [(rowOf es (x.1 ++ y.1), x.2 * y.2)] else []) (m := 1) (b := b) fun y _ => by split <;> simp
  omega
theorem map_len (g : Row × Int → Row × Int) (b : Bag) : (mk (b.map g)).length ≤ b.length := Nat.le_trans (mk_len _) (by rw [List.length_map]; exact Nat.le_refl _)
theorem both_len {o c : Str → Bag} (g : Good2 o c) (k : Nk) (n : Str) : (bothB o c n k).length ≤ 20 := by
  have h1 := (g.o n).len
  have h2 := (g.c n).len
  cases k with
  | old => show (o n).length ≤ 20; omega
  | change => show (c n).length ≤ 20; omega
  | new => show (o n ++ c n).length ≤ 20; rw [List.length_append]; omega
namespace Tm
theorem len0 {o c : Str → Bag} (g : Good2 o c) : ∀ t : Tm, t.joins = 0 → t.Ok → (t.value o c).length ≤ 20 * 2 ^ t.depth
  | .name k n, _, _ => Nat.le_trans (mk_len _) (both_len g k n)
  | .bag b, _, h => Nat.le_trans (GoodBag.len h) (show 10 ≤ 20 * 2 ^ 0 by decide)
  | .map es t, j, h => by have := len0 g t j h.2; have h2 := map_len (fun e => (rowOf es e.1, e.2)) (t.value o c); show (mk _).length ≤ 20 * 2 ^ (t.depth + 1); rw [Nat.pow_succ]; omega
  | .keep x t, j, h => by have := len0 g t j h.2; have h2 := map_len (fun e => (e.1, if x.val e.1 = .inl 0 then 0 else e.2)) (t.value o c); show (mk _).length ≤ 20 * 2 ^ (t.depth + 1); rw [Nat.pow_succ]; omega
  | .neg t, j, h => by have := len0 g t j h; have h2 := map_len (fun e => (e.1, 0 - e.2)) (t.value o c); show (mk _).length ≤ 20 * 2 ^ (t.depth + 1); rw [Nat.pow_succ]; omega
  | .once t, j, h => by have := len0 g t j h; have h2 := map_len (fun e => (e.1, b2z (decide (e.2 > 0)))) (t.value o c); show (mk _).length ≤ 20 * 2 ^ (t.depth + 1); rw [Nat.pow_succ]; omega
  | .fold keys k e t, j, h => by have := len0 g t j h.2.2; have h2 := Nat.le_trans (mk_len _) (foldP_len keys k e (t.value o c)); show (mk _).length ≤ 20 * 2 ^ (t.depth + 1); rw [Nat.pow_succ]; omega
  | .plus a b, j, h => by
    have j' : max a.joins b.joins = 0 := j
    have h1 := len0 g a (by omega) h.1
    have h2 := len0 g b (by omega) h.2
    have m1 : 2 ^ a.depth ≤ 2 ^ max a.depth b.depth := Nat.pow_le_pow_right (by decide) (by omega)
    have m2 : 2 ^ b.depth ≤ 2 ^ max a.depth b.depth := Nat.pow_le_pow_right (by decide) (by omega)
    have h3 := mk_len (a.value o c ++ b.value o c)
    rw [List.length_append] at h3
    show (mk _).length ≤ 20 * 2 ^ (max a.depth b.depth + 1)
    rw [Nat.pow_succ]
    omega
  | .join _ _ _ a b, j, _ => absurd (show max a.joins b.joins + 1 = 0 from j) (by omega)
theorem sq2 (n : Nat) : 2 ^ n * 2 ^ n = 4 ^ n := by rw [← Nat.mul_pow]
theorem join_size {o c : Str → Bag} (g : Good2 o c) {a b : Tm} (ja : a.joins = 0) (jb : b.joins = 0) (ha : a.Ok) (hb : b.Ok) : (a.value o c).length * (b.value o c).length ≤ 400 * 4 ^ max a.depth b.depth := by
  have h1 := len0 g a ja ha
  have h2 := len0 g b jb hb
  have m1 : 2 ^ a.depth ≤ 2 ^ max a.depth b.depth := Nat.pow_le_pow_right (by decide) (by omega)
  have m2 : 2 ^ b.depth ≤ 2 ^ max a.depth b.depth := Nat.pow_le_pow_right (by decide) (by omega)
  have h3 := Nat.mul_le_mul (Nat.le_trans h1 (Nat.mul_le_mul_left 20 m1)) (Nat.le_trans h2 (Nat.mul_le_mul_left 20 m2))
  have e : 20 * 2 ^ max a.depth b.depth * (20 * 2 ^ max a.depth b.depth) = 400 * 4 ^ max a.depth b.depth := by
    rw [← sq2, Nat.mul_mul_mul_comm]
  omega
theorem len1 {o c : Str → Bag} (g : Good2 o c) : ∀ t : Tm, t.joins ≤ 1 → t.Ok → (t.value o c).length ≤ 100 * 4 ^ t.depth
  | .name k n, _, _ => Nat.le_trans (Nat.le_trans (mk_len _) (both_len g k n)) (show 20 ≤ 100 * 4 ^ 0 by decide)
  | .bag b, _, h => Nat.le_trans (GoodBag.len h) (show 10 ≤ 100 * 4 ^ 0 by decide)
  | .map es t, j, h => by have := len1 g t j h.2; have h2 := map_len (fun e => (rowOf es e.1, e.2)) (t.value o c); show (mk _).length ≤ 100 * 4 ^ (t.depth + 1); rw [Nat.pow_succ]; omega
  | .keep x t, j, h => by have := len1 g t j h.2; have h2 := map_len (fun e => (e.1, if x.val e.1 = .inl 0 then 0 else e.2)) (t.value o c); show (mk _).length ≤ 100 * 4 ^ (t.depth + 1); rw [Nat.pow_succ]; omega
  | .neg t, j, h => by have := len1 g t j h; have h2 := map_len (fun e => (e.1, 0 - e.2)) (t.value o c); show (mk _).length ≤ 100 * 4 ^ (t.depth + 1); rw [Nat.pow_succ]; omega
  | .once t, j, h => by have := len1 g t j h; have h2 := map_len (fun e => (e.1, b2z (decide (e.2 > 0)))) (t.value o c); show (mk _).length ≤ 100 * 4 ^ (t.depth + 1); rw [Nat.pow_succ]; omega
  | .fold keys k e t, j, h => by have := len1 g t j h.2.2; have h2 := Nat.le_trans (mk_len _) (foldP_len keys k e (t.value o c)); show (mk _).length ≤ 100 * 4 ^ (t.depth + 1); rw [Nat.pow_succ]; omega
  | .plus a b, j, h => by
    have j' : max a.joins b.joins ≤ 1 := j
    have h1 := len1 g a (by omega) h.1
    have h2 := len1 g b (by omega) h.2
    have m1 : 4 ^ a.depth ≤ 4 ^ max a.depth b.depth := Nat.pow_le_pow_right (by decide) (by omega)
    have m2 : 4 ^ b.depth ≤ 4 ^ max a.depth b.depth := Nat.pow_le_pow_right (by decide) (by omega)
    have h3 := mk_len (a.value o c ++ b.value o c)
    rw [List.length_append] at h3
    show (mk _).length ≤ 100 * 4 ^ (max a.depth b.depth + 1)
    rw [Nat.pow_succ]
    omega
  | .join l r es a b, j, h => by
    have j' : max a.joins b.joins + 1 ≤ 1 := j
    have h1 := join_size g (a := a) (b := b) (by omega) (by omega) h.2.2.2.1 h.2.2.2.2
    have h2 := Nat.le_trans (mk_len _) (joinP_len l r es (a.value o c) (b.value o c))
    show (mk _).length ≤ 100 * 4 ^ (max a.depth b.depth + 1)
    rw [Nat.pow_succ]
    omega
theorem bd_mk {n : Nat} {b : Bag} (h : BdB n b) (hl : b.length ≤ 320) : BdB (n * 320) (mk b) := (mk_bd h).mono (by rw [Nat.mul_comm]; exact Nat.mul_le_mul_left n hl)
theorem bd0 {o c : Str → Bag} (g : Good2 o c) : ∀ t : Tm, t.joins = 0 → t.Ok → t.depth ≤ 3 → BdB (10000000000 * 320 ^ t.depth) (t.value o c)
  | .name k n, _, _, _ => by
    refine (bd_mk (n := 10000000) ?_ (Nat.le_trans (both_len g k n) (by decide))).mono (by show _ ≤ 10000000000 * 320 ^ 0; decide)
    cases k with
    | old => exact (g.o n).bd
    | change => exact (g.c n).bd
    | new => exact fun e he => (List.mem_append.mp he).elim ((g.o n).bd e) ((g.c n).bd e)
  | .bag b, _, h, _ => (GoodBag.bd h).mono (show 10000000 ≤ 10000000000 * 320 ^ 0 by decide)
  | .map es t, j, h, d => by
    have d' : t.depth + 1 ≤ 3 := d
    have h1 := bd0 g t j h.2 (by omega)
    have h2 := len0 g t j h.2
    have m1 : 2 ^ t.depth ≤ 2 ^ 2 := Nat.pow_le_pow_right (by decide) (by omega)
    show BdB (10000000000 * 320 ^ (t.depth + 1)) (mk _)
    rw [Nat.pow_succ, ← Nat.mul_assoc]
    refine bd_mk (fun e he => ?_) (by rw [List.length_map]; omega)
    obtain ⟨x, hx, rfl⟩ := List.mem_map.mp he
    exact h1 x hx
  | .keep y t, j, h, d => by
    have d' : t.depth + 1 ≤ 3 := d
    have h1 := bd0 g t j h.2 (by omega)
    have h2 := len0 g t j h.2
    have m1 : 2 ^ t.depth ≤ 2 ^ 2 := Nat.pow_le_pow_right (by decide) (by omega)
    show BdB (10000000000 * 320 ^ (t.depth + 1)) (mk _)
    rw [Nat.pow_succ, ← Nat.mul_assoc]
    refine bd_mk (fun e he => ?_) (by rw [List.length_map]; omega)
    obtain ⟨x, hx, rfl⟩ := List.mem_map.mp he
    show (if y.val x.1 = .inl 0 then (0 : Int) else x.2).natAbs ≤ _
    split
    · exact Nat.zero_le _
    · exact h1 x hx
  | .neg t, j, h, d => by
    have d' : t.depth + 1 ≤ 3 := d
    have h1 := bd0 g t j h (by omega)
    have h2 := len0 g t j h
    have m1 : 2 ^ t.depth ≤ 2 ^ 2 := Nat.pow_le_pow_right (by decide) (by omega)
    show BdB (10000000000 * 320 ^ (t.depth + 1)) (mk _)
    rw [Nat.pow_succ, ← Nat.mul_assoc]
    refine bd_mk (fun e he => ?_) (by rw [List.length_map]; omega)
    obtain ⟨x, hx, rfl⟩ := List.mem_map.mp he
    have := h1 x hx
    show (0 - x.2).natAbs ≤ _
    omega
  | .once t, j, h, d => by
    have d' : t.depth + 1 ≤ 3 := d
    have h2 := len0 g t j h
    have m1 : 2 ^ t.depth ≤ 2 ^ 2 := Nat.pow_le_pow_right (by decide) (by omega)
    have p1 : 1 ≤ 320 ^ (t.depth + 1) := Nat.one_le_pow _ _ (by decide)
    show BdB (10000000000 * 320 ^ (t.depth + 1)) (mk _)
    refine (bd_mk (n := 1) (fun e he => ?_) (by rw [List.length_map]; omega)).mono (by omega)
    obtain ⟨x, hx, rfl⟩ := List.mem_map.mp he
    show (b2z _).natAbs ≤ 1
    unfold b2z
    split <;> decide
  | .fold keys k e t, j, h, d => by
    have d' : t.depth + 1 ≤ 3 := d
    have h2 := len0 g t j h.2.2
    have m1 : 2 ^ t.depth ≤ 2 ^ 2 := Nat.pow_le_pow_right (by decide) (by omega)
    have p1 : 1 ≤ 320 ^ (t.depth + 1) := Nat.one_le_pow _ _ (by decide)
    have h3 := foldP_len keys k e (t.value o c)
    show BdB (10000000000 * 320 ^ (t.depth + 1)) (mk _)
    refine (bd_mk (n := 1) (fun e he => ?_) (by omega)).mono (by omega)
    obtain ⟨x, hx, h4⟩ := List.mem_filterMap.mp he
    obtain ⟨z, _, rfl⟩ := Option.map_eq_some_iff.mp h4
    exact Nat.le_refl 1
  | .plus a b, j, h, d => by
    have j' : max a.joins b.joins = 0 := j
    have d' : max a.depth b.depth + 1 ≤ 3 := d
    have h1 := bd0 g a (by omega) h.1 (by omega)
    have h2 := bd0 g b (by omega) h.2 (by omega)
    have l1 := len0 g a (by omega) h.1
    have l2 := len0 g b (by omega) h.2
    have m1 : 2 ^ a.depth ≤ 2 ^ 2 := Nat.pow_le_pow_right (by decide) (by omega)
    have m2 : 2 ^ b.depth ≤ 2 ^ 2 := Nat.pow_le_pow_right (by decide) (by omega)
    have n1 : 320 ^ a.depth ≤ 320 ^ max a.depth b.depth := Nat.pow_le_pow_right (by decide) (by omega)
    have n2 : 320 ^ b.depth ≤ 320 ^ max a.depth b.depth := Nat.pow_le_pow_right (by decide) (by omega)
    show BdB (10000000000 * 320 ^ (max a.depth b.depth + 1)) (mk _)
    rw [Nat.pow_succ, ← Nat.mul_assoc]
    refine bd_mk (fun e he => ?_) (by rw [List.length_append]; omega)
    rcases List.mem_append.mp he with hx | hx
    · exact Nat.le_trans (h1 e hx) (Nat.mul_le_mul_left _ n1)
    · exact Nat.le_trans (h2 e hx) (Nat.mul_le_mul_left _ n2)
  | .join _ _ _ a b, j, _, _ => absurd (show max a.joins b.joins + 1 = 0 from j) (by omega)
/-- the terms that the law draws -/
structure In (t : Tm) : Prop where
  ok : t.Ok
  dp : t.depth ≤ 3
  jn : t.joins ≤ 1
theorem In.len {o c : Str → Bag} (g : Good2 o c) {t : Tm} (h : t.In) : (t.value o c).length ≤ 6400 := by
  have h1 := len1 g t h.jn h.ok
  have m : 4 ^ t.depth ≤ 4 ^ 3 := Nat.pow_le_pow_right (by decide) h.dp
  omega
theorem In.kid {t u : Tm} (h : t.In) (hu : u ∈ t.kids) : u.In := by
  obtain ⟨ok, dp, jn⟩ := h
  cases t with
  | name k n => cases hu
  | bag b => cases hu
  | map es t => rw [List.mem_singleton.mp hu]; exact ⟨ok.2, by have : t.depth + 1 ≤ 3 := dp; omega, jn⟩
  | keep x t => rw [List.mem_singleton.mp hu]; exact ⟨ok.2, by have : t.depth + 1 ≤ 3 := dp; omega, jn⟩
  | neg t => rw [List.mem_singleton.mp hu]; exact ⟨ok, by have : t.depth + 1 ≤ 3 := dp; omega, jn⟩
  | once t => rw [List.mem_singleton.mp hu]; exact ⟨ok, by have : t.depth + 1 ≤ 3 := dp; omega, jn⟩
  | fold keys k e t => rw [List.mem_singleton.mp hu]; exact ⟨ok.2.2, by have : t.depth + 1 ≤ 3 := dp; omega, jn⟩
  | plus a b =>
    have d' : max a.depth b.depth + 1 ≤ 3 := dp
    have j' : max a.joins b.joins ≤ 1 := jn
    simp only [kids, List.mem_cons, List.not_mem_nil, or_false] at hu
    rcases hu with rfl | rfl
    · exact ⟨ok.1, by omega, by omega⟩
    · exact ⟨ok.2, by omega, by omega⟩
  | join l r es a b =>
    have d' : max a.depth b.depth + 1 ≤ 3 := dp
    have j' : max a.joins b.joins + 1 ≤ 1 := jn
    simp only [kids, List.mem_cons, List.not_mem_nil, or_false] at hu
    rcases hu with rfl | rfl
    · exact ⟨ok.2.2.2.1, by omega, by omega⟩
    · exact ⟨ok.2.2.2.2, by omega, by omega⟩
/-- what a join needs -/
theorem In.join {o c : Str → Bag} (g : Good2 o c) {l r es : List Ex} {a b : Tm} (h : (Tm.join l r es a b).In) : (a.value o c).length * (b.value o c).length ≤ 10000 ∧ (b.value o c).length ≤ 10000 ∧ BdB (2 ^ 60) (a.value o c) := by
  obtain ⟨ok, dp, jn⟩ := h
  have d' : max a.depth b.depth + 1 ≤ 3 := dp
  have j' : max a.joins b.joins + 1 ≤ 1 := jn
  have h1 := join_size g (a := a) (b := b) (by omega) (by omega) ok.2.2.2.1 ok.2.2.2.2
  have m : 4 ^ max a.depth b.depth ≤ 4 ^ 2 := Nat.pow_le_pow_right (by decide) (by omega)
  have l2 := len0 g b (by omega) ok.2.2.2.2
  have m2 : 2 ^ b.depth ≤ 2 ^ 2 := Nat.pow_le_pow_right (by decide) (by omega)
  have b1 := bd0 g a (by omega) ok.2.2.2.1 (by omega)
  have m3 : 320 ^ a.depth ≤ 320 ^ 2 := Nat.pow_le_pow_right (by decide) (by omega)
  exact ⟨by omega, by omega, b1.mono (by omega)⟩
theorem In.fits {o c : Str → Bag} (g : Good2 o c) : ∀ t : Tm, t.In → t.Fits o c
  | .name _ _, _ => trivial
  | .bag _, _ => trivial
  | .map _ t, h => ⟨fits g t (h.kid List.mem_cons_self), Nat.le_trans ((h.kid List.mem_cons_self).len g) (by decide)⟩
  | .keep _ t, h => ⟨fits g t (h.kid List.mem_cons_self), Nat.le_trans ((h.kid List.mem_cons_self).len g) (by decide)⟩
  | .neg t, h => ⟨fits g t (h.kid List.mem_cons_self), Nat.le_trans ((h.kid List.mem_cons_self).len g) (by decide)⟩
  | .once t, h => ⟨fits g t (h.kid List.mem_cons_self), Nat.le_trans ((h.kid List.mem_cons_self).len g) (by decide)⟩
  | .fold _ _ _ t, h => ⟨fits g t (h.kid List.mem_cons_self), Nat.le_trans ((h.kid List.mem_cons_self).len g) (by decide)⟩
  | .plus a b, h => by
    have ha := h.kid (u := a) List.mem_cons_self
    have hb := h.kid (u := b) (List.mem_cons_of_mem _ List.mem_cons_self)
    have := ha.len g
    have := hb.len g
    exact ⟨fits g a ha, fits g b hb, by omega⟩
  | .join l r es a b, h => by
    have ha := h.kid (u := a) List.mem_cons_self
    have hb := h.kid (u := b) (List.mem_cons_of_mem _ List.mem_cons_self)
    exact ⟨fits g a ha, fits g b hb, h.join g⟩
end Tm
end KA
set_option Elab.async false
set_option linter.all false
set_option maxRecDepth 100000
set_option maxHeartbeats 8000000
/-! denoted -/
namespace KA
open PySem PySem.Spec PyProof.Rows L2 LamX
open PySem.W (EachIs)
theorem alt_tags : ∀ x ∈ (["map", "keep", "neg", "once", "fold"] : List Str), ∀ z ∈ (["bag", "old", "change", "new", "plus", "join"] : List Str), x ≠ z := by decide +kernel
theorem alt_tag {t : Tm} (h : isAlt t = true) {z : Str} (hz : z ∈ (["bag", "old", "change", "new", "plus", "join"] : List Str)) : t.tag ≠ z := by
  have key : t.tag ∈ (["map", "keep", "neg", "once", "fold"] : List Str) := by
    cases t with
    | map es t => exact List.mem_cons_self
    | keep x t => exact List.mem_cons_of_mem _ List.mem_cons_self
    | neg t => exact List.mem_cons_of_mem _ (List.mem_cons_of_mem _ List.mem_cons_self)
    | once t => exact List.mem_cons_of_mem _ (List.mem_cons_of_mem _ (List.mem_cons_of_mem _ List.mem_cons_self))
    | fold keys k e t => exact List.mem_cons_of_mem _ (List.mem_cons_of_mem _ (List.mem_cons_of_mem _ (List.mem_cons_of_mem _ List.mem_cons_self)))
    | _ => cases h
  exact alt_tags _ key _ hz
/-- list(d.get(name, [])), read -/
theorem get_list {K : PySem.W.Frag} {H : Hp} {p : Addr} {m : Str → Bag} (h : BagsAt H p m) (n : Str) {pl : Addr} (hpl : H pl = none) {Q : VK}
    (q : ∀ l H', Same H H' → H l = none → BagAt H' l (m n) → Q (.ref l) H') : ∃ o, DGet (upd H pl (.lst [])) p (.str n) o ∧ ∃ p1 ys, [o.getD (.ref pl)] = [V.ref p1] ∧ (SqL K (upd H pl (.lst [])) p1 ys ∨ SqT K (upd H pl (.lst [])) p1 ys) ∧ ∀ l, upd H pl (.lst []) l = none → Q (.ref l) (upd (upd H pl (.lst [])) l (.lst ys)) := by
  obtain ⟨o, a, g1, g2, ts, t1, t2⟩ := get_bag h n hpl
  refine ⟨o, g1, a, ts.map V.ref, by rw [g2], .inl (sq_l t1), fun l hl => ?_⟩
  have s := same_new (o := .lst (ts.map V.ref)) hl
  have s0 := same_new (o := .lst []) hpl
  refine q l _ (s0.trans s) ?_ ⟨ts, upd_same, t2.mono fun _ _ y => y.mono s⟩
  cases e : H l with
  | none => rfl
  | some u =>
    rw [s0 _ _ e] at hl
    cases hl
section
variable {P : Program} {w : World} {K : PySem.W.Frag} {mg : Str → Option Value} {base : Heap} {f : Addr} {fd : FuncData}
def spDen (K : PySem.W.Frag) (T : List (Addr × Str)) : Sp := fun vs H Q _ => ∃ (v : V) (lp po pc : Addr) (t : Tm) (o c : Str → Bag) (X Y : Hp) (us : List V), vs = [v, .ref lp, .ref po, .ref pc] ∧ Sub X H ∧ Dp [] X v t.d ∧ t.In ∧ ValIn H o c po pc ∧ Good2 o c ∧
  H lp = some (.lst us) ∧ Sub Y H ∧ EachIs (fun v u => Dp [] Y v (bagD (Tm.value o c u))) us t.kids ∧ Tabs T H ∧ ∀ q H', ExtN H H' → Tabs T H' → NewN H q → BagAt H' q (t.value o c) → Q (.ref q) H'
theorem ok_denoted {T : List (Addr × Str)} (F : FnP K "denoted" s_denoted f fd) (gL : mg "list" = none) (CP : Cal P w K mg base "plus" 6 ["first", "second"] spPlusN) (CJ : Cal P w K mg base "joined" 10 ["lists", "first", "second"] (spJoined K T))
    (CA : Cal P w K mg base "altered" 11 ["term", "bag"] (spAlt K T)) : FnOk P w K mg base CX0 12 f fd ["term", "bags", "olds", "changes"] (spDen K T) := by
  refine F.ok sc_denoted (fun vs H Q E h => ?_) (fun cdv A outer s H vs Q E hr h => ?_)
  · obtain ⟨v, lp, po, pc, t, o, c, X, Y, us, rfl, _⟩ := h
    rfl
  · obtain ⟨v, lp, po, pc, t, o, c, X, Y, bs, rfl, sub, hx, hin, vi, g2, hlp, subY, hbs, hT, q⟩ := h
    refine ⟨_, PSs.nox (pss_cons (ps_set (i := 4) sc_denoted.nd rfl (Or.inl rfl) (pe_ix ix_tup (pv 0) pe_int (fun _ _ => rfl)))
      (pss_cons (ps_if (pt_cmpR op_eq (pv 4) pe_str (nomark _)) (pss_one (ps_ret (pe_callTy call_list_of (by rfl) gL (by decide +kernel) (pa_cons (pe_ix ix_tup (pv 0) pe_int (fun _ _ => rfl)) pa_nil)))) pss_nil)
      (pss_cons (ps_if (pt_cmpR op_eq (pv 4) pe_str (nomark _)) (pss_one (ps_ret (pe_callTy call_list_of (by rfl) gL (by decide +kernel) (pa_cons (pe_dget2 hr.u1 (pv 2) (pe_ix ix_tup (pv 0) pe_int (fun _ _ => rfl)) (pe_lst pa_nil) ⟨rfl, rfl, rfl, rfl⟩) pa_nil)))) pss_nil)
      (pss_cons (ps_if (pt_cmpR op_eq (pv 4) pe_str (nomark _)) (pss_one (ps_ret (pe_callTy call_list_of (by rfl) gL (by decide +kernel) (pa_cons (pe_dget2 hr.u1 (pv 3) (pe_ix ix_tup (pv 0) pe_int (fun _ _ => rfl)) (pe_lst pa_nil) ⟨rfl, rfl, rfl, rfl⟩) pa_nil)))) pss_nil)
      (pss_cons (ps_if (pt_cmpR op_eq (pv 4) pe_str (nomark _)) (pss_one (ps_ret (pe_cal CP hr.lt (pa_cons (pe_dget2 hr.u1 (pv 2) (pe_ix ix_tup (pv 0) pe_int (fun _ _ => rfl)) (pe_lst pa_nil) ⟨rfl, rfl, rfl, rfl⟩) (pa_cons (pe_dget2 hr.u1 (pv 3) (pe_ix ix_tup (pv 0) pe_int (fun _ _ => rfl)) (pe_lst pa_nil) ⟨rfl, rfl, rfl, rfl⟩) pa_nil))))) pss_nil)
      (pss_cons (ps_if (pt_cmpR op_eq (pv 4) pe_str (nomark _)) (pss_one (ps_ret (pe_cal CP hr.lt (pa_cons (pe_ix ix_list (pv 1) pe_int (fun _ _ => rfl)) (pa_cons (pe_ix ix_list (pv 1) pe_int (fun _ _ => rfl)) pa_nil))))) pss_nil)
      (pss_cons (ps_if (pt_cmpR op_eq (pv 4) pe_str (nomark _)) (pss_one (ps_ret (pe_cal CJ hr.lt (pa_cons (pe_slice sl_tup (pv 0) (po_some pe_int) (po_some pe_int)) (pa_cons (pe_ix ix_list (pv 1) pe_int (fun _ _ => rfl)) (pa_cons (pe_ix ix_list (pv 1) pe_int (fun _ _ => rfl)) pa_nil)))))) pss_nil)
      (pss_one (ps_ret (pe_cal CA hr (pa_cons (pv 0) (pa_cons (pe_ix ix_list (pv 1) pe_int (fun _ _ => rfl)) pa_nil)))))))))))), ?_⟩
    obtain ⟨a, xs, us, rfl, hX, ha, h1, h2⟩ := term_at sub hx
    have kid : ∀ (i : Nat) (u : Tm), t.kids[i]? = some u → ∃ p, bs[i]? = some (.ref p) ∧ BagAt H p (u.value o c) := fun i u hu => by
      have hlt : i < bs.length := by
        rw [hbs.length]
        exact (List.getElem?_eq_some_iff.mp hu).1
      have h3 : bs[i]? = some bs[i] := List.getElem?_eq_getElem hlt
      obtain ⟨p, e1, hb⟩ := dx_bag subY (each_get (R := fun v u => Dp [] Y v (bagD (Tm.value o c u))) hbs h3 hu)
      exact ⟨p, by rw [h3, e1], hb⟩
    have val := Tm.value_s vi.so vi.sc
    refine ⟨_, rfl, a, _, 0, _, rfl, rfl, sq_t ha, atI_nat (j := 0) rfl, ?_⟩
    by_cases hal : isAlt t = true
    · obtain ⟨u, hk, he⟩ : ∃ u, t.kids = [u] ∧ t.value o c = altB t (u.value o c) := by cases t <;> first | exact ⟨_, rfl, rfl⟩ | cases hal
      have n1 : t.tag ≠ "bag" := alt_tag hal (List.mem_cons_self)
      have n2 : t.tag ≠ "old" := alt_tag hal (List.mem_cons_of_mem _ (List.mem_cons_self))
      have n3 : t.tag ≠ "change" := alt_tag hal (List.mem_cons_of_mem _ (List.mem_cons_of_mem _ (List.mem_cons_self)))
      have n4 : t.tag ≠ "new" := alt_tag hal (List.mem_cons_of_mem _ (List.mem_cons_of_mem _ (List.mem_cons_of_mem _ (List.mem_cons_self))))
      have n5 : t.tag ≠ "plus" := alt_tag hal (List.mem_cons_of_mem _ (List.mem_cons_of_mem _ (List.mem_cons_of_mem _ (List.mem_cons_of_mem _ (List.mem_cons_self)))))
      have n6 : t.tag ≠ "join" := alt_tag hal (List.mem_cons_of_mem _ (List.mem_cons_of_mem _ (List.mem_cons_of_mem _ (List.mem_cons_of_mem _ (List.mem_cons_of_mem _ (List.mem_cons_self))))))
      obtain ⟨p, h3, hb⟩ := kid 0 u (by rw [hk]; rfl)
      have hu : u ∈ t.kids := by rw [hk]; exact List.mem_cons_self
      rw [he] at q
      exact is_no rfl n1 (iteF (is_no rfl n2 (iteF (is_no rfl n3 (iteF (is_no rfl n4 (iteF (is_no rfl n5 (iteF (is_no rfl n6 (iteF ⟨_, rfl, _, rfl, lp, _, 0, _, rfl, rfl, sq_l hlp, atI_nat (j := 0) h3, _, p, t, u.value o c, X, rfl, sub, hx, hal, hin.ok, hb, Nat.le_trans ((hin.kid hu).len g2) (by decide), val u (hin.kid hu).ok, Tm.value_canon o c u (ok_bags u (hin.kid hu).ok), hT, q⟩)))))))))))
    cases t with
    | bag b =>
      obtain ⟨y, r, rfl, h3, h4⟩ := dpa_cons h1
      obtain ⟨p, rfl, ts, t1, t2⟩ := dx_bag sub h3
      refine is_yes rfl (iteT ⟨_, rfl, a, _, 1, _, rfl, rfl, sq_t ha, atI_nat (j := 1) rfl, p, _, rfl, .inl (sq_l t1), fun l hl => ?_⟩)
      exact q l _ (extn_new hl) (tabs_new hl hT) (fun o ho => by rw [hl] at ho; cases ho) ⟨ts, upd_same, t2.mono fun _ _ y => y.mono (same_new hl)⟩
    | name kd nm =>
      obtain ⟨y, r, rfl, h3, h4⟩ := dpa_cons h1
      obtain rfl := dp_strV h3
      obtain rfl := dpa_nil h4
      obtain ⟨kv1, d1, _⟩ := id vi.ho
      obtain ⟨kv2, d2, _⟩ := id vi.hc
      cases kd with
      | old =>
        refine is_no rfl (show ("old" : Str) ≠ "bag" by decide +kernel) (iteF (is_yes rfl (iteT ?_)))
        refine ⟨_, rfl, po, rfl, .inl ⟨_, .inl d1⟩, _, rfl, a, _, 1, _, rfl, rfl, sq_t ha, atI_nat (j := 1) rfl, Nat.zero_le _, fun pl hpl => get_list vi.ho nm hpl fun l H' s' hl hb' => ?_⟩
        refine q l H' (ExtN.of s') (hT.ext s') (fun o ho => by rw [hl] at ho; cases ho) ?_
        show BagAt H' l (mk (o nm))
        rw [mk_of_canon (g2.o nm).canon]
        exact hb'
      | change =>
        refine is_no rfl (show ("change" : Str) ≠ "bag" by decide +kernel) (iteF (is_no rfl (show ("change" : Str) ≠ "old" by decide +kernel) (iteF (is_yes rfl (iteT ?_)))))
        refine ⟨_, rfl, pc, rfl, .inl ⟨_, .inl d2⟩, _, rfl, a, _, 1, _, rfl, rfl, sq_t ha, atI_nat (j := 1) rfl, Nat.zero_le _, fun pl hpl => get_list vi.hc nm hpl fun l H' s' hl hb' => ?_⟩
        refine q l H' (ExtN.of s') (hT.ext s') (fun o ho => by rw [hl] at ho; cases ho) ?_
        show BagAt H' l (mk (c nm))
        rw [mk_of_canon (g2.c nm).canon]
        exact hb'
      | new =>
        refine is_no rfl (show ("new" : Str) ≠ "bag" by decide +kernel) (iteF (is_no rfl (show ("new" : Str) ≠ "old" by decide +kernel) (iteF (is_no rfl (show ("new" : Str) ≠ "change" by decide +kernel) (iteF (is_yes rfl (iteT ?_)))))))
        refine ⟨_, rfl, po, rfl, .inl ⟨_, .inl d1⟩, _, rfl, a, _, 1, _, rfl, rfl, sq_t ha, atI_nat (j := 1) rfl, Nat.zero_le _, fun pl hpl => ?_⟩
        obtain ⟨o1, a1, g1, e1, b1⟩ := get_bag vi.ho nm hpl
        have s1 := same_new (o := .lst []) hpl
        refine ⟨o1, g1, _, rfl, pc, rfl, .inl ⟨_, .inl (s1 _ _ d2)⟩, _, rfl, a, _, 1, _, rfl, rfl, sq_t (s1 _ _ ha), atI_nat (j := 1) rfl, Nat.zero_le _, fun pl2 hpl2 => ?_⟩
        obtain ⟨o2, a2, g3, e2, b2⟩ := get_bag (vi.hc.mono s1) nm hpl2
        have s2 := same_new (o := .lst []) hpl2
        have l1 := (g2.o nm).len
        have l2 := (g2.c nm).len
        refine ⟨o2, g3, a1, a2, o nm, c nm, by rw [e1, e2]; rfl, b1.mono s2, b2, by omega, by omega, (vi.so nm).rowB, (vi.sc nm).rowB, fun q1 H' s' hq hb' => ?_⟩
        have sa := (s1.trans s2).trans s'
        refine q q1 H' (ExtN.of sa) (hT.ext sa) (NewN.of (ExtN.of (s1.trans s2)) hq) hb'
    | plus t1 t2 =>
      obtain ⟨p1, k1, b1⟩ := kid 0 t1 rfl
      obtain ⟨p2, k2, b2⟩ := kid 1 t2 rfl
      have i1 := hin.kid (u := t1) List.mem_cons_self
      have i2 := hin.kid (u := t2) (List.mem_cons_of_mem _ List.mem_cons_self)
      refine is_no rfl (show ("plus" : Str) ≠ "bag" by decide +kernel) (iteF (is_no rfl (show ("plus" : Str) ≠ "old" by decide +kernel) (iteF (is_no rfl (show ("plus" : Str) ≠ "change" by decide +kernel) (iteF (is_no rfl (show ("plus" : Str) ≠ "new" by decide +kernel) (iteF (is_yes rfl (iteT ?_)))))))))
      refine ⟨_, rfl, lp, _, 0, _, rfl, rfl, sq_l hlp, atI_nat (j := 0) k1, _, rfl, lp, _, 1, _, rfl, rfl, sq_l hlp, atI_nat (j := 1) k2, p1, p2, _, _, rfl, b1, b2, Nat.le_trans (i1.len g2) (by decide), Nat.le_trans (i2.len g2) (by decide), (val t1 i1.ok).rowB, (val t2 i2.ok).rowB, fun q1 H' s' hq hb' => ?_⟩
      exact q q1 H' (ExtN.of s') (hT.ext s') (fun o ho => by rw [hq] at ho; cases ho) hb'
    | join l r es t1 t2 =>
      obtain ⟨y0, r0, e0, h3, h4⟩ := dpa_cons h1
      obtain ⟨y1, r1, e1, h5, h6⟩ := dpa_cons h4
      obtain ⟨y2, r2, e2, h7, h8⟩ := dpa_cons h6
      obtain rfl := dpa_nil h8
      subst e2 e1 e0
      obtain ⟨u1, s1, e3, h9, h10⟩ := dpa_cons h2
      obtain ⟨u2, s2, e4, h11, h12⟩ := dpa_cons h10
      obtain rfl := dpa_nil h12
      subst e4 e3
      obtain ⟨pl, rfl, hl⟩ := dx_exs (K := K) sub h3
      obtain ⟨pr, rfl, hr'⟩ := dx_exs (K := K) sub h5
      obtain ⟨pe, rfl, he⟩ := dx_exs (K := K) sub h7
      have be : ∀ {es : List Ex}, ExsOk 1 es → ExsB 8 es := fun h => ⟨Nat.le_trans h.1 (by decide), fun e z => ⟨(h.2 e z).1, by have := (h.2 e z).2; omega⟩⟩
      obtain ⟨p1, k1, b1⟩ := kid 0 t1 rfl
      obtain ⟨p2, k2, b2⟩ := kid 1 t2 rfl
      have i1 := hin.kid (u := t1) List.mem_cons_self
      have i2 := hin.kid (u := t2) (List.mem_cons_of_mem _ List.mem_cons_self)
      obtain ⟨j1, j2, j3⟩ := hin.join g2
      refine is_no rfl (show ("join" : Str) ≠ "bag" by decide +kernel) (iteF (is_no rfl (show ("join" : Str) ≠ "old" by decide +kernel) (iteF (is_no rfl (show ("join" : Str) ≠ "change" by decide +kernel) (iteF (is_no rfl (show ("join" : Str) ≠ "new" by decide +kernel) (iteF (is_no rfl (show ("join" : Str) ≠ "plus" by decide +kernel) (iteF (is_yes rfl (iteT ?_)))))))))))
      refine ⟨_, rfl, _, rfl, _, rfl, a, _, rfl, sq_t ha, (fun z => by simp [HT.sIx] at z), fun pt hpt => ?_⟩
      have e0 := extn_new (o := .tup (cutV [.str "join", .ref pl, .ref pr, .ref pe, u1, u2] (some 1) (some 4))) hpt
      have s0 := same_new (o := .tup (cutV [.str "join", .ref pl, .ref pr, .ref pe, u1, u2] (some 1) (some 4))) hpt
      have hlp' := s0 _ _ hlp
      refine ⟨_, rfl, lp, _, 0, _, rfl, rfl, sq_l hlp', atI_nat (j := 0) k1, _, rfl, lp, _, 1, _, rfl, rfl, sq_l hlp', atI_nat (j := 1) k2, pt, p1, p2, pl, pr, pe, l, r, es, _, _, rfl, sq_t upd_same, ⟨hl.extn e0, hr'.extn e0, he.extn e0⟩, ⟨be hin.ok.1, be hin.ok.2.1, be hin.ok.2.2.1⟩, ⟨b1.extn e0, b2.extn e0⟩, j1, j2, j3, val t1 i1.ok, val t2 i2.ok, tabs_new hpt hT, fun q1 H' s' t' hq hb' => ?_⟩
      exact q q1 H' (e0.trans s') t' (NewN.back e0 hq) hb'
    | _ => exact absurd rfl hal
end
end KA
set_option Elab.async false
set_option linter.all false
set_option maxRecDepth 100000
set_option maxHeartbeats 8000000
/-! value -/
namespace KA
open PySem PySem.Spec PyProof.Rows L2 LamX NdefX
open PySem.W (EachIs)
abbrev lamV : Str := ("value" ++ ".<locals>." : Str) ++ "<lambda>"
section
variable {P : Program} {w : World} {K : PySem.W.Frag} {mg : Str → Option Value} {base : Heap} {f : Addr} {fd : FuncData}
def spVal1 (K : PySem.W.Frag) (T : List (Addr × Str)) : Sp := fun vs H Q _ => ∃ (v : V) (po pc : Addr) (t : Tm) (o c : Str → Bag) (X : Hp), vs = [v, .ref po, .ref pc] ∧ Sub X H ∧ Dp [] X v t.d ∧ t.In ∧ ValIn H o c po pc ∧ Good2 o c ∧ Tabs T H ∧
  ∀ v' H', ExtN H H' → Tabs T H' → Dp [] (Mx H (fun _ => none) H') v' (bagD (t.value o c)) → Q v' H'
theorem ok_value {T : List (Addr × Str)} {c Pt fo : Addr} (F : FnP K "value" s_value f fd) (hc : fd.code = .ref c) (TB : TabB base mg c Pt) (hmT : (Pt, lamV) ∈ T) (hu : ∀ p ∈ T, p.1 = Pt → p.2 = lamV)
    (gO : mg "parts_of" = some (.ref fo)) (DO : DefClo P w K mg base fo 1 (spParts K)) (CW : CalC P w K mg base "worked_out" 14 (spWorked K 1 13)) (CR : Cal P w K mg base "denoted" 12 ["term", "bags", "olds", "changes"] (spDen K T)) :
    FnOk P w K mg base CX0 15 f fd ["term", "olds", "changes"] (spVal1 K T) := by
  refine okC F sc_value (fun vs H Q E h => ?_) (fun cdv A outer s H vs Q E hcd hr h => ?_)
  · obtain ⟨v, po, pc, t, o, c, X, rfl, _⟩ := h
    rfl
  · obtain ⟨v, po, pc, t, o, cc, X, rfl, sub, hx, hin, vi, g2, hT, q⟩ := h
    obtain rfl : cdv = .ref c := hcd.symm.trans hc
    refine ⟨_, PSs.nox (pss_one (ps_ret (pe_lam3 (sp := spWorked K 1 13) (j := 12) (T := T) (N := ["part", "bags", "olds", "changes"]) (ps := ["part", "bags"]) (fr := ["olds", "changes"]) (js := [1, 2]) CW spWorked_mono hr (pv 0) (pe_glob (v := .ref fo) rfl gO rfl) TB rfl hmT hu rfl
      (nscope_by (by decide +kernel)) (show ndefB (defScope s_value) _ ["olds", "changes"] = true from by decide +kernel) rfl (fun _ _ _ _ _ us hl => match us, hl with | [_, _], _ => rfl) (fun _ _ _ _ _ _ _ _ hr' => pe_cal CR hr' (pa_cons (pv 0) (pa_cons (pv 1) (pa_cons (pv 2) (pa_cons (pv 3) pa_nil)))))))), ?_⟩
    refine ⟨_, rfl, hT, fun g H3 e3 t3 hg => ?_⟩
    have sub3 := sub.trans (extn_frm e3)
    refine ⟨Tm, Tm.kids, Tm.size, fun v t => Dp [] X v t.d ∧ t.In, fun Y v t => Dp [] Y v (bagD (t.value o cc)), T, fun _ => none, v, t, fo, g, spParts K, fun vs H1 Q1 _ => ∃ v1 p1, vs = [v1, .ref p1] ∧ ExtN H3 H1 ∧ spDen K T [v1, .ref p1, .ref po, .ref pc] H1 Q1 XF, rfl, .inr DO,
      .inl ⟨rfl, rfl, fun vs H1 Q1 h => ?_⟩, ⟨hx, hin⟩, t3, partsOf_tm sub3 (fun t c hc ho => Tm.In.kid ho hc), ?_, fun Y Y' v t s h => Dp.mono s h, Tm.kids_size, ?_, fun v' H' e' t' hv' => ?_⟩
    · obtain ⟨v1, p1, rfl, eE, h⟩ := h
      exact ⟨rfl, eE, _, rfl, _, rfl, _, rfl, _, rfl, h⟩
    · intro v1 t1 p1 us Y H1 Q1 ⟨hd1, hi1⟩ eE t1' hp subY he k
      exact ⟨v1, p1, rfl, eE, v1, p1, po, pc, t1, o, cc, X, Y, us, rfl, sub3.trans (extn_frm eE), hd1, hi1, (vi.mono e3).mono eE, g2, hp, subY, he, t1', fun q1 H' s' t' hn hb => k _ H' s' t' (bag_mxX s' hn.lst hb)⟩
    · exact Tm.size_bd (by have := hin.dp; omega)
    · exact q _ _ (e3.trans e') t' (Dp.mono (mx_stepX e3) hv')
end
end KA
set_option Elab.async false
set_option linter.all false
set_option maxRecDepth 100000
set_option maxHeartbeats 16000000
/-! _law_folded -/
namespace KA
open PySem PySem.Spec PyProof.Rows L2 LamX NdefX
open PySem.W (EachIs)
abbrev lamF : Str := ("_law_folded" ++ ".<locals>." : Str) ++ "<lambda>"
theorem ix_str {K : PySem.W.Frag} {σ : L2.St} {H : Hp} {i j : Nat} {a : Addr} {xs : List V} {x z : Str} {Qt : Bool → Hp → Prop} (hv : σ[i]? = some (some (.ref a))) (hs : SqT K H a xs) (hx : xs[j]? = some (.str x)) (h : Qt (decide (x = z)) H) :
    tTest (tOp rEq (tOp (rIxT K) (tVar i) (tC (.int j))) (tC (.str z))) σ H Qt := by
  refine ⟨_, hv, a, _, j, _, rfl, rfl, hs, atI_nat (j := j) hx, rfl, _, rfl, ?_⟩
  rw [show decide (V.str x = V.str z) = decide (x = z) from by
    by_cases e : x = z
    · rw [decide_eq_true e, decide_eq_true (congrArg V.str e)]
    · rw [decide_eq_false e, decide_eq_false fun q => e (by injection q)]]
  exact h
theorem each_maps {α β γ : Type} {R : α → β → Prop} {f : γ → α} {g : γ → β} (h : ∀ x, R (f x) (g x)) : ∀ l : List γ, EachIs R (l.map f) (l.map g)
  | [] => .nil
  | x :: l => .cons (h x) (each_maps h l)
theorem BagAt.offN {d : Addr} {kvs : List (List Key × V)} {H H' : Hp} (hd : H d = some (.dT kvs)) (k : OffN d H H') {q : Addr} {b : Bag} (h : BagAt H q b) : BagAt H' q b := by
  obtain ⟨ts, h1, h2⟩ := h
  exact ⟨ts, k _ _ (fun z => by rw [z, hd] at h1; cases h1) h1 (fun ps z => by cases z), h2.mono fun _ _ y => y.offN hd k⟩
def OneAt (H : Hp) (x : V) (r : Row) : Prop := ∃ k, x = kV k ∧ r = [k]
theorem ones_at {H : Hp} : ∀ {xs : List V} {rows : List Row}, EachIs (OneAt H) xs rows → ∃ ks : List Key, xs = ks.map kV ∧ rows = ks.map fun k => [k]
  | _, _, .nil => ⟨[], rfl, rfl⟩
  | _, _, .cons ⟨k, h1, h2⟩ t => by
    obtain ⟨ks, e1, e2⟩ := ones_at t
    exact ⟨k :: ks, by rw [h1, e1]; rfl, by rw [h2, e2]; rfl⟩
section
variable {P : Program} {w : World} {K : PySem.W.Frag} {mg : Str → Option Value} {base : Heap} {f : Addr} {fd : FuncData}
theorem ok_lfolded {T : List (Addr × Str)} {c Pt : Addr} (F : FnP K "_law_folded" s__law_folded f fd) (hc : fd.code = .ref c) (TB : TabB base mg c Pt) (hmT : (Pt, lamF) ∈ T) (hu : ∀ p ∈ T, p.1 = Pt → p.2 = lamF)
    (gS : mg "sum" = none) (gO : mg "sorted" = none) (gL : mg "len" = none) (CR : Cal P w K mg base "_law_rowed" 6 ["exprs", "row"] (spRowed K 4)) (CO : Cal P w K mg base "_law_of" 5 ["e", "row"] (spOf K 4)) (CK : Cal P w K mg base "_law_key" 1 ["row"] (spLawKey K))
    (CA : AddC P w K mg base) (CW : Cal P w K mg base "_law_wrapped" 1 ["n"] spWrap) (CN : Cal P w K mg base "_law_number" 1 ["one"] spNumber) (CC : Cal P w K mg base "_law_canon" 4 ["counts"] spCanon) :
    FnOk P w K mg base CX0 8 f fd ["term", "bag"] (spFolded T) := by
  refine okC F sc__law_folded (fun vs H Q E h => ?_) (fun cdv A outer s H vs Q E hcd hr h => ?_)
  · obtain ⟨v, pb, keys, k, e, t, b, X, rfl, _⟩ := h
    rfl
  · obtain ⟨v, pb, keys, k, e, t, b, X, rfl, sub, hx, hks, eo, ed, hb, bl, rs, hT, q⟩ := h
    obtain rfl : cdv = .ref c := hcd.symm.trans hc
    refine ⟨_, PSs.nox (pss_cons (ps_set (i := 2) sc__law_folded.nd rfl (Or.inl rfl) pe_dnewT)
      (pss_cons (ps_for PassesOwn.never rfl (pi_list (pv 1)) (pg_tup rfl (pgs_cons (pg_name (i := 3) sc__law_folded.nd rfl (Or.inl rfl)) (pgs_cons (pg_name (i := 4) sc__law_folded.nd rfl (Or.inl rfl)) pgs_nil)))
        (pss_one (ps_expr (pe_bm PySem.F.plainAttrs_list PySem.F.slot_list_append PySem.F.type_list_append mt_append (pe_dsetT hr.u64 (pv 2) (pe_cal CR (hr.mono (by decide)) (pa_cons (pe_ix ix_tup (pv 0) pe_int (fun _ _ => rfl)) (pa_cons (pv 3) pa_nil))) (pe_lst pa_nil) ⟨rfl, rfl, rfl, rfl⟩) (pa_cons (pe_tup (pa_cons (pv 3) (pa_cons (pv 4) pa_nil))) pa_nil)))))
      (pss_cons (ps_set (i := 5) sc__law_folded.nd rfl (Or.inl rfl) pe_dnewT)
      (pss_cons (ps_lock (ps_for PassesOwn.never rfl (pi_keys (pv 2)) (pg_name (i := 6) sc__law_folded.nd rfl (Or.inl rfl))
        (pss_cons (ps_set (i := 7) sc__law_folded.nd rfl (Or.inl rfl) (pe_dget hr.u1 (pv 2) (pv 6) (fun _ _ => rfl)))
        (pss_cons (ps_set (i := 8) sc__law_folded.nd rfl (Or.inl rfl) (pe_sortLam (y := "one") (E := lawRow) (IR := OneAt) (T := T) (c := c) (P := Pt) (N := ["one"]) (z := "one") (k := 1) (tb := tCall (spLawKey K) [] E0 (tCons (tLst (tCons (tVar 0) tNil)) tNil)) (fun _ _ _ _ _ h => h) tells_law (fun _ _ _ _ _ _ e u => sorts_law e u) (hr.mono (by decide)) rfl rfl rfl gO
            (pa_cons (pe_lc (own := [("row", 3), ("count", 4)]) (g := gP2 K 3 4) (tt := tTest (tOp (rI0 fun i j => .bl (decide (i > j))) (tVar 4) (tC (.int 0)))) (te := tCall (spOf K 4) [] E0 (tCons (tOp (rIxT K) (tVar 0) (tC (.int 3))) (tCons (tVar 3) tNil))) (by rfl) sc__law_folded.nd (pi_list (pv 7))
              (blkOk_by (own := [("row", 3), ("count", 4)]) (N := ["term", "bag", "groups", "row", "count", "counts", "key", "pairs", "had", "total"]) (sc := defScope s__law_folded) (by decide +kernel))
              (fun _ _ _ _ _ => pg_tup rfl (pgs_cons (pg_name (i := 3) sc__law_folded.nd rfl (Or.inl rfl)) (pgs_cons (pg_name (i := 4) sc__law_folded.nd rfl (Or.inl rfl)) pgs_nil)))
              (fun _ _ _ _ _ => pts_one (pt_cmpR op_gt (pv 4) pe_int (nomark _)))
              (fun _ _ _ _ _ => pe_cal CO (hr.mono (by decide)) (pa_cons (pe_ix ix_tup (pv 0) pe_int (fun _ _ => rfl)) (pa_cons (pv 3) pa_nil)))) pa_nil)
            TB rfl hmT hu rfl (by decide +kernel) ⟨rfl, rfl, rfl, by decide +kernel, rfl, by decide +kernel, by decide +kernel⟩ (fun _ _ _ _ _ => rfl)
            (fun _ _ _ _ _ _ _ hr' => pe_cal CK hr' (pa_cons (pe_lst (pa_cons (pv 0) pa_nil)) pa_nil)) ?_))
        (pss_one (ps_if (pt_cmpR op_eq (pe_ix ix_tup (pv 0) pe_int (fun _ _ => rfl)) pe_str (nomark _))
          (pss_one (ps_expr (pe_cal CA (hr.mono (by decide)) (pa_cons (pv 5) (pa_cons (pe_op op_catA (pv 6) (pe_tup (pa_cons (pe_cal CW (hr.mono (by decide)) (pa_cons (pe_callB (cr_sum rfl) (by rfl) gS (by decide +kernel) (pa_cons (pe_lc (own := [("row", 3), ("count", 4)]) (g := gP2 K 3 4) (tt := tYes) (te := tVar 4) (by rfl) sc__law_folded.nd (pi_list (pv 7))
              (blkOk_by (own := [("row", 3), ("count", 4)]) (N := ["term", "bag", "groups", "row", "count", "counts", "key", "pairs", "had", "total"]) (sc := defScope s__law_folded) (by decide +kernel))
              (fun _ _ _ _ _ => pg_tup rfl (pgs_cons (pg_name (i := 3) sc__law_folded.nd rfl (Or.inl rfl)) (pgs_cons (pg_name (i := 4) sc__law_folded.nd rfl (Or.inl rfl)) pgs_nil))) (fun _ _ _ _ _ => pts_nil) (fun _ _ _ _ _ => pv 4)) pa_nil)) pa_nil)) pa_nil))) (pa_cons pe_int pa_nil))))))
          (pss_one (ps_if (pt_cmpR op_eq (pe_ix ix_tup (pv 0) pe_int (fun _ _ => rfl)) pe_str (nomark _))
            (pss_cons (ps_set (i := 9) sc__law_folded.nd rfl (Or.inl rfl) (pe_callB (cr_sum rfl) (by rfl) gS (by decide +kernel) (pa_cons (pe_lc (own := [("row", 3), ("count", 4)]) (g := gP2 K 3 4) (tt := tYes) (te := tOp (rI CMul fun i j => .int (i * j)) (tCall spNumber [] E0 (tCons (tCall (spOf K 4) [] E0 (tCons (tOp (rIxT K) (tVar 0) (tC (.int 3))) (tCons (tVar 3) tNil))) tNil)) (tVar 4)) (by rfl) sc__law_folded.nd (pi_list (pv 7))
              (blkOk_by (own := [("row", 3), ("count", 4)]) (N := ["term", "bag", "groups", "row", "count", "counts", "key", "pairs", "had", "total"]) (sc := defScope s__law_folded) (by decide +kernel))
              (fun _ _ _ _ _ => pg_tup rfl (pgs_cons (pg_name (i := 3) sc__law_folded.nd rfl (Or.inl rfl)) (pgs_cons (pg_name (i := 4) sc__law_folded.nd rfl (Or.inl rfl)) pgs_nil))) (fun _ _ _ _ _ => pts_nil)
              (fun _ _ _ _ _ => pe_op op_mul (pe_cal CN (hr.mono (by decide)) (pa_cons (pe_cal CO (hr.mono (by decide)) (pa_cons (pe_ix ix_tup (pv 0) pe_int (fun _ _ => rfl)) (pa_cons (pv 3) pa_nil))) pa_nil)) (pv 4))) pa_nil)))
            (pss_one (ps_expr (pe_cal CA (hr.mono (by decide)) (pa_cons (pv 5) (pa_cons (pe_op op_catA (pv 6) (pe_tup (pa_cons (pe_cal CW (hr.mono (by decide)) (pa_cons (pv 9) pa_nil)) pa_nil))) (pa_cons pe_int pa_nil)))))))
            (pss_one (ps_if (pt_cmpR op_gt (pe_callB call_len_seq (by rfl) gL PySem.boot_len (pa_cons (pv 8) pa_nil)) pe_int (nomark _))
              (pss_one (ps_expr (pe_cal CA (hr.mono (by decide)) (pa_cons (pv 5) (pa_cons (pe_op op_catA (pv 6) (pe_tup (pa_cons (pe_ix ix_list (pv 8) (pe_ifExp (pt_cmpR op_eq (pe_ix ix_tup (pv 0) pe_int (fun _ _ => rfl)) pe_str (nomark _)) pe_int (pe_un un_neg pe_int)) (fun _ _ => rfl)) pa_nil))) (pa_cons pe_int pa_nil)))))) pss_nil))))))))))
      (pss_one (ps_ret (pe_cal CC (hr.mono (by decide)) (pa_cons (pv 5) pa_nil)))))))), ?_⟩
    · rintro H1 x r Q1 ⟨k1, rfl, rfl⟩ _ q1
      exact ⟨_, rfl, by show 1 ≤ sizeLine; decide, fun p hp => ⟨p, [k1], rfl, .inr upd_same, by simp, fun v H' s' d => q1 v H' ((same_new hp).trans s') d⟩⟩
    · obtain ⟨a, xs, us, rfl, hX, ha, h1, h2⟩ := term_at sub hx
      obtain ⟨y0, r0, e0, h3, h4⟩ := dpa_cons h1
      obtain ⟨y1, r1, e1, h5, h6⟩ := dpa_cons h4
      obtain ⟨y2, r2, e2, h7, h8⟩ := dpa_cons h6
      obtain rfl := dpa_nil h8
      subst e2 e1 e0
      obtain rfl := dp_strV h5
      obtain ⟨pe, rfl, he⟩ := dx_exs (K := K) sub h3
      have hxd : Dp K H y2 e.d := dx_dp sub h7
      obtain ⟨gl, gm⟩ := groups_le keys _ b rfl
      intro g hg
      have sg := same_new (o := .dT []) hg
      obtain ⟨bts, bt1, bt2⟩ := id hb
      refine ⟨_, rfl, pb, rfl, ⟨_, sq_l (sg _ _ bt1)⟩, groups_loop (rest := ([] : List V)) (tail := [none, none, none, none, none]) (hb.mono sg) bl rs upd_same (sg _ _ ha) hks (fun H' k' => he.extn fun a o h nt => k' a o (ne_of_none h hg) (sg _ _ h)) none none fun x y H1 ps k1 G => ?_⟩
      have s1 : Same H H1 := fun a o h => k1 a o (ne_of_none h hg) (sg _ _ h)
      have t1 : Tabs T H1 := hT.ext s1
      intro d hd
      have sd := same_new (o := .dT []) hd
      have G2 := G.same sd
      have s2 := s1.trans sd
      have t2 := t1.ext sd
      have hd2 : upd H1 d (.dT []) d = some (.dT (vk (tally []))) := upd_same
      generalize upd H1 d (.dT []) = H2 at sd G2 s2 t2 hd2 ⊢
      have hdH : H d = none := by
        cases e : H d with
        | none => rfl
        | some o => rw [s1 _ _ e] at hd; cases hd
      have hgd : g ≠ d := fun z => by
        have := G.hg
        rw [z, hd] at this
        cases this
      have npg : ∀ p ∈ ps, p.2 ≠ g := fun p hp z => by
        obtain ⟨eb, _, _, ts3, l1, _⟩ := G2.at_.left p hp
        rw [z, G2.hg] at l1
        cases l1
      have npd : ∀ p ∈ ps, p.2 ≠ d := fun p hp z => by
        obtain ⟨eb, _, _, ts3, l1, _⟩ := G2.at_.left p hp
        rw [z, hd2] at l1
        cases l1
      refine ⟨g, _, G2.hg, trivial, fun od => ?_⟩
      have hfg : (upd H2 g (.frz od (.dT (ps.map fun p => (p.1, V.ref p.2))))) g = some (.frz od (.dT (ps.map fun p => (p.1, V.ref p.2)))) := upd_same
      have sf : ExtN H (upd H2 g (.frz od (.dT (ps.map fun p => (p.1, V.ref p.2))))) := extn_mut (ExtN.of s2) hg
      have tf : Tabs T (upd H2 g (.frz od (.dT (ps.map fun p => (p.1, V.ref p.2))))) := tabs_off G2.hg (fun ps z => by cases z) (fun φ z => by cases z) (Off.upd _ _ _) t2
      have hdf : (upd H2 g (.frz od (.dT (ps.map fun p => (p.1, V.ref p.2))))) d = some (.dT (vk (tally []))) := by rw [upd_ne hgd.symm]; exact hd2
      have bags : EachIs (fun (p : Row × Addr) (e : Row × Bag) => p.1 = e.1 ∧ BagAt (upd H2 g (.frz od (.dT (ps.map fun p => (p.1, V.ref p.2))))) p.2 e.2) ps (groupsOf keys b) := by
        refine each_memb G2.at_ fun p hp e h => ⟨h.1, ?_⟩
        obtain ⟨ts, h1, h2⟩ := h.2
        exact ⟨ts, by rw [upd_ne (npg p hp)]; exact h1, h2.mono fun _ _ y => pair_frz G2.hg y⟩
      generalize upd H2 g (.frz od (.dT (ps.map fun p => (p.1, V.ref p.2)))) = Hf at hfg sf tf hdf bags ⊢
      refine ⟨_, rfl, g, od, rfl, .inr ⟨_, hfg, ?_⟩⟩
      have big : (100000 : Nat) ≤ sizeLine := by decide
      have et : ∀ i y, (groupsOf keys b)[i]? = some y → ((groupsOf keys b).take (i + 1)).filterMap (fun g => (foldOne k e g.2).map fun v => (g.1 ++ [v], (1 : Int))) = ((groupsOf keys b).take i).filterMap (fun g => (foldOne k e g.2).map fun v => (g.1 ++ [v], (1 : Int))) ++ ((foldOne k e y.2).map fun v => (y.1 ++ [v], (1 : Int))).toList := fun i y hy => by
        rw [show (groupsOf keys b).take (i + 1) = (groupsOf keys b).take i ++ [y] by rw [List.take_add_one, hy]; rfl, List.filterMap_append]
        congr 1
      refine for_it walk_keysT (fun i σ H' => (∃ x3 x4 x6 x7 x8 x9, σ = [some (.ref a), some (.ref pb), some (.ref g), x3, x4, some (.ref d), x6, x7, x8, x9]) ∧ OffN d Hf H' ∧ Tabs T H' ∧
        H' d = some (.dT (vk (tally (((groupsOf keys b).take i).filterMap fun g => (foldOne k e g.2).map fun v => (g.1 ++ [v], (1 : Int))))))) ⟨⟨_, _, none, none, none, none, rfl⟩, OffN.refl _ _, tf, hdf⟩ (fun i σ H' _ z => z.2.1 _ _ hgd hfg fun ps y => by cases y) ?_ ?_
      · rintro i x' σ _ H' hi ⟨⟨x3, x4, x6, x7, x8, x9, rfl⟩, kO, tO, hdO⟩ ⟨rfl, key, v', q', hk, rfl, hq⟩
        obtain ⟨p, hp, hpe⟩ : ∃ p, ps[i]? = some p ∧ (p.1, V.ref p.2) = (key, v') := by
          rw [List.getElem?_map] at hk
          cases hz : ps[i]? with
          | none => rw [hz] at hk; cases hk
          | some p => rw [hz] at hk; exact ⟨p, rfl, Option.some.inj hk⟩
        cases hpe
        have il : i < (groupsOf keys b).length := by
          rw [List.length_map] at hi
          rw [← bags.length]
          exact hi
        obtain ⟨y, hy⟩ : ∃ y, (groupsOf keys b)[i]? = some y := ⟨_, List.getElem?_eq_getElem il⟩
        obtain ⟨e1, e2⟩ := each_get bags hp hy
        obtain ⟨l0, l1, l2⟩ := gm y (List.mem_of_getElem? hy)
        have hval : valV (ps.map fun p => (p.1, V.ref p.2)) p.1 = some (.ref p.2) := by
          rw [grp_val, grp_find G.kn hp]
          rfl
        have hfg' := kO _ _ hgd hfg fun ps z => by cases z
        have sO : ExtN H H' := fun a o h nt => kO a o (fun z => by rw [z, hdH] at h; cases h) (sf a o h nt) nt
        have ha' : H' a = some (.tup (.str "fold" :: ([V.ref pe, .str k.sign, y2] ++ us))) := sO _ _ ha fun ps z => by cases z
        obtain ⟨yts, b1, b2⟩ := e2.offN hdf kO
        have ytl : yts.length = y.2.length := b2.length
        rw [e1] at hq
        have hq : RowAt H' q' y.1 := hq
        refine ⟨_, rfl, _, rfl, g, _, rfl, .inr ⟨_, p.1, q', .inr ⟨od, hfg'⟩, rfl, by rw [e1]; exact hq, hval.symm⟩, ?_⟩
        refine ⟨_, rfl, p.2, rfl, ⟨_, sq_l b1⟩, fun D hD => ?_⟩
        refine lc_it (walk_list (xs := yts.map V.ref)) (fun j H'' => ExtN H' H'' ∧ Tabs T H'' ∧ H'' D = some (.lst (((y.2.take j).filter fun p => decide (p.2 > 0)).map fun p => kV (e.val p.1)))) ⟨extn_new hD, tabs_new hD tO, upd_same⟩ (fun j H'' _ z => sq_l (z.1 _ _ b1 fun ps y => by cases y)) ?_ ?_
        · rintro j x' _ H3 hj ⟨s3, t3, hacc⟩ ⟨rfl, hx'⟩
          obtain ⟨t0, ht, rfl⟩ := ref_at hx'
          rw [List.length_map] at hj
          obtain ⟨z, hz⟩ : ∃ z, y.2[j]? = some z := ⟨_, List.getElem?_eq_getElem (by omega)⟩
          obtain ⟨qa, p1, p2⟩ := (each_get b2 ht hz).extn s3
          have hrv := (rs z (l2 z (List.mem_of_getElem? hz))).v
          have ha3 := s3 _ _ ha' fun ps z => by cases z
          refine gp2 p1 ⟨rfl, if_in (c := decide (z.2 > 0)) (fun Q h => ⟨_, rfl, _, _, rfl, rfl, _, rfl, h⟩) (fun hc => ?_) fun hc => ⟨s3, t3, ?_⟩⟩
          · refine ⟨_, rfl, a, _, 3, _, rfl, rfl, sq_t ha3, atI_nat (j := 3) rfl, _, rfl, y2, e, qa, z.1, rfl, Dp.extn (sO.trans s3) _ _ hxd, eo, by omega, p2, hrv, fun H4 s4 => ?_⟩
            have h4 := s4 _ _ hacc
            have ll : (((y.2.take j).filter fun p => decide (p.2 > 0)).map fun p => kV (e.val p.1)).length ≤ j := by
              rw [List.length_map]
              exact Nat.le_trans (List.length_filter_le ..) (by rw [List.length_take]; exact Nat.min_le_left ..)
            refine ⟨_, h4, by omega, extn_mut (s3.trans (ExtN.of s4)) hD, tabs_lst h4 (t3.ext s4), ?_⟩
            rw [bag_take hz, List.filter_append, show [z].filter (fun p => decide (p.2 > 0)) = [z] by simp [show z.2 > 0 from of_decide_eq_true hc], List.map_append]
            exact upd_same
          · rw [bag_take hz, List.filter_append, show [z].filter (fun p => decide (p.2 > 0)) = [] by simp [show ¬ z.2 > 0 from of_decide_eq_false hc], List.append_nil]
            exact hacc
        · rintro H4 ⟨s4, t4, hacc⟩
          rw [List.take_of_length_le (by rw [List.length_map, ytl]; exact Nat.le_refl _)] at hacc
          refine ⟨t4, D, _, (y.2.filter fun p => decide (p.2 > 0)).map fun p => [e.val p.1], rfl, sq_l hacc, each_maps (fun p => ⟨_, rfl, rfl⟩) _, fun r hr => ?_, fun p o h nt => ⟨o, s4 _ _ (sO _ _ h nt) nt, nt⟩, fun pf H5 ys s5 t5 _ hpf hys => ?_⟩
          · obtain ⟨z, _, rfl⟩ := List.mem_map.mp hr
            simp
          have s45 := s4.trans s5
          have ha5 := s45 _ _ ha' fun ps z => by cases z
          have hd5 := s45 _ _ hdO fun ps z => by cases z
          have hq5 : RowAt H5 q' y.1 := s45 _ _ hq fun ps z => by cases z
          have b15 := s45 _ _ b1 fun ps z => by cases z
          have b25 := b2.mono fun _ _ z => z.extn s45
          have hys : EachIs (OneAt H5) ys (hadOf e y.2) := hys
          have tl : (((groupsOf keys b).take i).filterMap fun g => (foldOne k e g.2).map fun v => (g.1 ++ [v], (1 : Int))).length ≤ i := by
            refine Nat.le_trans (List.length_filterMap_le ..) ?_
            rw [List.length_take]
            exact Nat.min_le_left ..
          -- the value is added
          have fin : ∀ (H6 : Hp) (z : Key) (W : VK), ExtN H5 H6 → Tabs T H6 → ∀ p1, H6 p1 = none → (∀ pc H7, ExtN H5 H7 → Tabs T H7 → RowAt H7 pc (y.1 ++ [z]) → W (.ref pc) H7) → rCatA K (.ref q') (.ref p1) (upd H6 p1 (.tup [kV z])) W := fun H6 z W s6 t6 p1 hp1 hW => by
            have hq6 : RowAt H6 q' y.1 := s6 _ _ hq5 fun ps z => by cases z
            exact cat_ref (r := y.1) (t := [z]) (RowAt.mono (same_new hp1) hq6) upd_same (by have := hks.1; omega) (by simp) fun pc H7 s7 hpc => hW pc H7 (s6.trans ((extn_new hp1).trans (ExtN.of s7))) ((tabs_new hp1 t6).ext s7) hpc
          have add : ∀ (H7 : Hp) (z : Key), ExtN H5 H7 → Tabs T H7 → foldOne k e y.2 = some z →
              OffN d Hf (upd H7 d (.dT (vk (tally ((((groupsOf keys b).take i).filterMap fun g => (foldOne k e g.2).map fun v => (g.1 ++ [v], (1 : Int))) ++ [(y.1 ++ [z], 1)]))))) ∧ Tabs T (upd H7 d (.dT (vk (tally ((((groupsOf keys b).take i).filterMap fun g => (foldOne k e g.2).map fun v => (g.1 ++ [v], (1 : Int))) ++ [(y.1 ++ [z], 1)]))))) ∧
              (upd H7 d (.dT (vk (tally ((((groupsOf keys b).take i).filterMap fun g => (foldOne k e g.2).map fun v => (g.1 ++ [v], (1 : Int))) ++ [(y.1 ++ [z], 1)]))))) d = some (.dT (vk (tally (((groupsOf keys b).take (i + 1)).filterMap fun g => (foldOne k e g.2).map fun v => (g.1 ++ [v], (1 : Int)))))) := fun H7 z s57 t7 hz => by
            have hd7 := s57 _ _ hd5 fun ps z => by cases z
            refine ⟨fun c o n h nt => ?_, ?_, ?_⟩
            · rw [upd_ne n]
              exact s57 _ _ (s45 _ _ (kO c o n h nt) nt) nt
            · exact tabs_off hd7 (fun ps z => by cases z) (fun φ z => by cases z) (Off.upd _ _ _) t7
            · rw [et i y hy, hz]
              exact upd_same
          refine ix_str (j := 2) rfl (sq_t ha5) rfl ?_
          by_cases kc : k = .count
          · subst kc
            rw [decide_eq_true (show Fk.count.sign = "count" from rfl)]
            refine iteT ⟨_, rfl, _, rfl, _, rfl, p.2, rfl, ⟨_, sq_l b15⟩, fun D2 hD2 => ?_⟩
            refine lc_offX (T := T) (walk_list (xs := yts.map V.ref)) y.2 (by rw [List.length_map, ytl]) (fun _ v e => v = .int e.2) (fun _ _ _ _ _ z => z) hD2 t5 (fun H' s' => sqL_extn s' (sq_l b15)) (by rw [List.length_map]; omega) ?_ ?_
            · rintro j x' z H6 _ hj hz s6 t6 _ ⟨rfl, hx'⟩ Q' Qn k6
              obtain ⟨t0, ht, rfl⟩ := ref_at hx'
              obtain ⟨qa, p1, p2⟩ := (each_get b25 ht hz).extn s6
              exact gp2 p1 ⟨rfl, yes_in ⟨_, rfl, k6 _ _ (ExtN.refl _) t6 rfl⟩⟩
            · intro H6 acc s6 t6 hacc6 heach
              have ea : acc = (y.2.map fun e => e.2).map V.int := by rw [each_map_eq heach, List.map_map]; rfl
              rw [ea] at hacc6
              refine ⟨D2, _, rfl, sq_l hacc6, _, rfl, by show 1 ≤ sizeLine; decide, fun p1 hp1 => ?_⟩
              refine fin H6 (.inl (wrapZ (y.2.map Prod.snd).sum)) _ s6 t6 p1 hp1 fun pc H7 s57 t7 hpc => ?_
              exact ⟨d, pc, _, _, 1, rfl, s57 _ _ hd5 (fun ps z => by cases z), hpc, by omega, ⟨_, _, _, _, _, _, rfl⟩, add H7 _ s57 t7 rfl⟩
          rw [decide_eq_false (show k.sign ≠ "count" by cases k <;> first | exact absurd rfl kc | decide +kernel)]
          refine iteF (ix_str (j := 2) rfl (sq_t ha5) rfl ?_)
          by_cases ks : k = .sum
          · subst ks
            rw [decide_eq_true (show Fk.sum.sign = "sum" from rfl)]
            refine iteT ⟨_, rfl, p.2, rfl, ⟨_, sq_l b15⟩, fun D2 hD2 => ?_⟩
            refine lc_offX (T := T) (walk_list (xs := yts.map V.ref)) y.2 (by rw [List.length_map, ytl]) (fun _ v x => v = .int (numZ (e.val x.1) * x.2)) (fun _ _ _ _ _ z => z) hD2 t5 (fun H' s' => sqL_extn s' (sq_l b15)) (by rw [List.length_map]; omega) ?_ ?_
            · rintro j x' z H6 _ hj hz s6 t6 _ ⟨rfl, hx'⟩ Q' Qn k6
              obtain ⟨t0, ht, rfl⟩ := ref_at hx'
              obtain ⟨qa, p1, p2⟩ := (each_get b25 ht hz).extn s6
              have hrv := (rs z (l2 z (List.mem_of_getElem? hz))).v
              have bd := num_bd (val_ok (e := e) eo hrv)
              have ha6 := s6 _ _ ha5 fun ps z => by cases z
              exact gp2 p1 ⟨rfl, yes_in ⟨_, rfl, a, _, 3, _, rfl, rfl, sq_t ha6, atI_nat (j := 3) rfl, _, rfl, y2, e, qa, z.1, rfl, Dp.extn (sO.trans (s45.trans s6)) _ _ hxd, eo, by omega, p2, hrv, fun H8 s8 => ⟨_, rfl, _, rfl, _, _, rfl, rfl, .inl ⟨by omega, by omega⟩, k6 _ _ (ExtN.of s8) (t6.ext s8) rfl⟩⟩⟩
            · intro H6 acc s6 t6 hacc6 heach
              have ea : acc = (y.2.map fun x => numZ (e.val x.1) * x.2).map V.int := by rw [each_map_eq heach, List.map_map]; rfl
              rw [ea] at hacc6
              refine ⟨D2, _, rfl, sq_l hacc6, ?_⟩
              refine ⟨_, rfl, _, rfl, _, rfl, _, rfl, by show 1 ≤ sizeLine; decide, fun p1 hp1 => ?_⟩
              refine fin H6 (.inl (wrapZ (y.2.map fun x : Row × Int => numZ (e.val x.1) * x.2).sum)) _ s6 t6 p1 hp1 fun pc H7 s57 t7 hpc => ?_
              exact ⟨d, pc, _, _, 1, rfl, s57 _ _ hd5 (fun ps z => by cases z), hpc, by omega, ⟨_, _, _, _, _, _, rfl⟩, add H7 _ s57 t7 rfl⟩
          rw [decide_eq_false (show k.sign ≠ "sum" by cases k <;> first | exact absurd rfl kc | exact absurd rfl ks | decide +kernel)]
          refine iteF ⟨_, rfl, pf, _, rfl, .inl (sq_l hpf), _, _, rfl, rfl, _, rfl, ?_⟩
          obtain ⟨zs, rfl, hz2⟩ := ones_at hys
          have kk : k = .least ∨ k = .most := by cases k <;> first | exact absurd rfl kc | exact absurd rfl ks | exact .inl rfl | exact .inr rfl
          cases zs with
          | nil =>
            refine iteF ⟨⟨_, _, _, _, _, _, rfl⟩, fun c o n h nt => s45 _ _ (kO c o n h nt) nt, t5, ?_⟩
            have fn : foldOne k e y.2 = none := by
              have hh : hadOf e y.2 = [] := hz2
              rcases kk with rfl | rfl <;> · unfold foldOne; rw [hh]; rfl
            rw [et i y hy, fn]
            show H5 d = some (.dT (vk (tally (_ ++ []))))
            rw [List.append_nil]
            exact hd5
          | cons z0 zs =>
            refine ite2 (fun _ => ?_) fun hn => absurd (decide_eq_true (by simp)) hn
            refine ⟨_, rfl, _, rfl, _, rfl, ix_str (j := 2) rfl (sq_t ha5) rfl ?_⟩
            rcases kk with rfl | rfl
            · rw [decide_eq_true (show Fk.least.sign = "least" from rfl)]
              refine iteT ⟨pf, _, 0, _, rfl, rfl, sq_l hpf, atI_nat (j := 0) rfl, by show 1 ≤ sizeLine; decide, fun p1 hp1 => ?_⟩
              refine fin H5 z0 _ (ExtN.refl _) t5 p1 hp1 fun pc H7 s57 t7 hpc => ?_
              exact ⟨d, pc, _, _, 1, rfl, s57 _ _ hd5 (fun ps z => by cases z), hpc, by omega, ⟨_, _, _, _, _, _, rfl⟩, add H7 _ s57 t7 (by unfold foldOne; rw [hz2]; rfl)⟩
            · obtain ⟨zl, hzl⟩ : ∃ zl, (z0 :: zs).getLast? = some zl := ⟨_, List.getLast?_eq_some_getLast (by simp)⟩
              rw [decide_eq_false (show ¬ Fk.most.sign = "least" by decide +kernel)]
              refine iteF ⟨_, rfl, pf, _, -1, _, rfl, rfl, sq_l hpf, last_at (by rw [List.getLast?_map, hzl]; rfl), by show 1 ≤ sizeLine; decide, fun p1 hp1 => ?_⟩
              refine fin H5 zl _ (ExtN.refl _) t5 p1 hp1 fun pc H7 s57 t7 hpc => ?_
              exact ⟨d, pc, _, _, 1, rfl, s57 _ _ hd5 (fun ps z => by cases z), hpc, by omega, ⟨_, _, _, _, _, _, rfl⟩, add H7 _ s57 t7 (by unfold foldOne; rw [hz2]; simp only [List.getLast?_map, hzl]; rfl)⟩
      · rintro σ H' ⟨⟨x3, x4, x6, x7, x8, x9, rfl⟩, kO, tO, hdO⟩
        have gll : (ps.map fun p => (p.1, V.ref p.2)).length = (groupsOf keys b).length := by rw [List.length_map, bags.length]
        rw [gll, List.take_length] at hdO
        have hg' := kO _ _ hgd hfg fun ps z => by cases z
        refine ⟨hg', ?_⟩
        have sO : ExtN H H' := fun a o h nt => kO a o (fun z => by rw [z, hdH] at h; cases h) (sf a o h nt) nt
        have hdU : (upd H' g (.dT (ps.map fun p => (p.1, V.ref p.2)))) d = some (.dT (vk (tally (foldP keys k e b)))) := by
          rw [upd_ne hgd.symm]
          exact hdO
        have sU : ExtN H (upd H' g (.dT (ps.map fun p => (p.1, V.ref p.2)))) := extn_mut sO hg
        have tU : Tabs T (upd H' g (.dT (ps.map fun p => (p.1, V.ref p.2)))) := tabs_off hg' (fun ps z => by cases z) (fun φ z => by cases z) (Off.upd _ _ _) tO
        have fl := foldP_len keys k e b
        refine ⟨_, rfl, d, _, rfl, hdU, by omega, (foldP_s hks eo rs).rowB, fun qr H6 s6 hq hb6 => ?_⟩
        exact q qr H6 (sU.trans (ExtN.of s6)) (tU.ext s6) (extn_lst sU hq) hb6
end
end KA
set_option Elab.async false
set_option linter.all false
set_option maxRecDepth 100000
set_option maxHeartbeats 4000000
/-! repr of data: how long its text is, the call -/
namespace KA
open PySem PySem.Spec PyProof.Rows L2
open PySem.W (EachIs)
theorem textFrom_le : ∀ (ts : List Str) (k : Nat) (acc : Str) (M : Nat), (∀ t ∈ ts, t.length ≤ M) → (textFrom k acc ts).length ≤ acc.length + ts.length * (M + 2)
  | [], k, acc, M, _ => by
    show acc.length ≤ _
    omega
  | t :: ts, k, acc, M, h => by
    have ih := textFrom_le ts (k + 1) (acc ++ (if k > 0 then ", " else "" : String) ++ t) M fun x hx => h x (List.mem_cons_of_mem _ hx)
    have ht := h t List.mem_cons_self
    have e : (acc ++ (if k > 0 then ", " else "" : String) ++ t).length ≤ acc.length + 2 + t.length := by
      rw [strLen_append, strLen_append]
      split
      · exact Nat.le_refl _
      · show acc.length + 0 + t.length ≤ _
        omega
    rw [List.length_cons, Nat.succ_mul]
    show (textFrom (k + 1) (acc ++ (if k > 0 then ", " else "" : String) ++ t) ts).length ≤ _
    omega
theorem listText_le {ts : List Str} {M : Nat} (h : ∀ t ∈ ts, t.length ≤ M) : (listText ts).length ≤ ts.length * (M + 2) + 2 := by
  unfold listText
  rw [strLen_append]
  have h1 := textFrom_le ts 0 "[" M h
  have e1 : (("[" : String) : Str).length = 1 := rfl
  have e2 : (("]" : String) : Str).length = 1 := rfl
  omega
theorem piled_le : ∀ {ts : List Str} {M : Nat}, (∀ t ∈ ts, t.length ≤ M) → piled ts ≤ ts.length * (M + 2)
  | [], M, _ => by simp [piled]
  | t :: ts, M, h => by
    have ih := piled_le (ts := ts) fun x hx => h x (List.mem_cons_of_mem _ hx)
    have ht := h t List.mem_cons_self
    rw [List.length_cons, Nat.succ_mul]
    simp only [piled] at ih ⊢
    simp only [List.map_cons, List.sum_cons] at ih ⊢
    omega
theorem tupleText_le {ts : List Str} {M : Nat} (h : ∀ t ∈ ts, t.length ≤ M) : (tupleText ts).length ≤ ts.length * (M + 2) + 3 := by
  unfold tupleText
  rw [strLen_append, strLen_append]
  have e1 : (("(" : String) : Str).length = 1 := rfl
  have e2 : ((if ts.length == 1 then ",)" else ")" : String) : Str).length ≤ 2 := by
    split
    · exact Nat.le_refl _
    · show 1 ≤ 2
      omega
  have h2 : (Str.join ", " ts).length ≤ ts.length * (M + 2) := by
    by_cases e : ts = []
    · subst e
      exact Nat.zero_le _
    · have h3 := join_length_add ts e
      have h4 := piled_le h
      omega
  have e3 : (("(" : Str)).length = 1 := rfl
  omega
theorem int_len {i : Int} (h : i.natAbs ≤ 2 ^ 40) : (PyData.int i).shown.length ≤ 50 := by
  show (Str.ofString (toString i)).length ≤ 50
  have hl : i.natAbs.log2 < 41 := by
    by_cases e : i.natAbs = 0
    · rw [e]; decide
    · exact (Nat.log2_lt e).mpr (Nat.lt_of_le_of_lt h (by decide))
  have e := int_text_length_le (k := 41) (by decide) hl
  rw [PySem.ofString_length]
  omega
theorem int_show {i : Int} (h : i.natAbs ≤ 2 ^ 40) : (PyData.int i).showable = true := by
  simp only [PyData.showable, decide_eq_true_eq]
  by_cases e : i.natAbs = 0
  · rw [e]; decide
  · exact Nat.lt_of_lt_of_le ((Nat.log2_lt e).mpr (Nat.lt_of_le_of_lt h (show 2 ^ 40 < 2 ^ 41 by decide))) (by decide)
theorem key_len {x : Key} (h : KeyOk x) : (keyD x).shown.length ≤ 50 ∧ (keyD x).showable = true ∧ (keyD x).hasDict = false := by
  cases x with
  | inl i =>
    have h' : i.natAbs ≤ 2 ^ 33 := h
    have h2 : i.natAbs ≤ 2 ^ 40 := Nat.le_trans h' (by decide)
    exact ⟨int_len h2, int_show h2, rfl⟩
  | inr x =>
    refine ⟨?_, rfl, rfl⟩
    show (reprText x).length ≤ 50
    rcases h with rfl | rfl | rfl | rfl <;> decide +kernel
theorem all_show {α : Type} {D : α → PyData} : ∀ {xs : List α}, (∀ x ∈ xs, (D x).showable = true ∧ (D x).hasDict = false) → PyData.showableAll (xs.map D) = true ∧ PyData.hasDictAll (xs.map D) = false
  | [], _ => ⟨rfl, rfl⟩
  | x :: xs, h => by
    obtain ⟨h1, h2⟩ := all_show (D := D) (xs := xs) fun y hy => h y (List.mem_cons_of_mem _ hy)
    obtain ⟨h3, h4⟩ := h x List.mem_cons_self
    exact ⟨by simp [PyData.showableAll, h1, h3], by simp [PyData.hasDictAll, h2, h4]⟩
theorem mem_shown {α : Type} {D : α → PyData} {xs : List α} {t : Str} (h : t ∈ PyData.shownAll (xs.map D)) : ∃ x ∈ xs, t = (D x).shown := by
  rw [shownAll_eq_map, List.map_map] at h
  obtain ⟨x, hx, e⟩ := List.mem_map.mp h
  exact ⟨x, hx, e.symm⟩
theorem len_shown {α : Type} {D : α → PyData} (xs : List α) : (PyData.shownAll (xs.map D)).length = xs.length := by
  rw [shownAll_eq_map, List.length_map, List.length_map]
structure Prints (d : PyData) (n : Nat) : Prop where
  len : d.shown.length ≤ n
  sh : d.showable = true
  nd : d.hasDict = false
theorem tup_prints {α : Type} {D : α → PyData} {xs : List α} {n k : Nat} (h : ∀ x ∈ xs, Prints (D x) n) (hk : xs.length ≤ k) : Prints (.tuple (xs.map D)) (k * (n + 2) + 3) := by
  obtain ⟨h1, h2⟩ := all_show (D := D) (xs := xs) fun x hx => ⟨(h x hx).sh, (h x hx).nd⟩
  refine ⟨?_, by simpa [PyData.showable] using h1, by simpa [PyData.hasDict] using h2⟩
  have h3 := tupleText_le (ts := PyData.shownAll (xs.map D)) (M := n) fun t ht => by
    obtain ⟨x, hx, rfl⟩ := mem_shown ht
    exact (h x hx).len
  rw [len_shown] at h3
  simp only [PyData.shown]
  exact Nat.le_trans h3 (Nat.add_le_add_right (Nat.mul_le_mul_right _ hk) 3)
theorem lst_prints {α : Type} {D : α → PyData} {xs : List α} {n k : Nat} (h : ∀ x ∈ xs, Prints (D x) n) (hk : xs.length ≤ k) : Prints (.list (xs.map D)) (k * (n + 2) + 2) := by
  obtain ⟨h1, h2⟩ := all_show (D := D) (xs := xs) fun x hx => ⟨(h x hx).sh, (h x hx).nd⟩
  refine ⟨?_, by simpa [PyData.showable] using h1, by simpa [PyData.hasDict] using h2⟩
  have h3 := listText_le (ts := PyData.shownAll (xs.map D)) (M := n) fun t ht => by
    obtain ⟨x, hx, rfl⟩ := mem_shown ht
    exact (h x hx).len
  rw [len_shown] at h3
  simp only [PyData.shown]
  exact Nat.le_trans h3 (Nat.add_le_add_right (Nat.mul_le_mul_right _ hk) 2)
theorem row_prints {r : Row} (h : RowOk r) : Prints (rowD r) 420 := by
  have q := tup_prints (D := keyD) (xs := r) (n := 50) (k := 8) (fun x hx => let z := key_len (h.2 x hx); ⟨z.1, z.2.1, z.2.2⟩) h.1
  exact ⟨Nat.le_trans q.len (by decide), q.sh, q.nd⟩
theorem pair_prints {e : Row × Int} (h : RowOk e.1) (hb : e.2.natAbs ≤ 2 ^ 40) : Prints (pairD e) 850 := by
  have q := tup_prints (D := fun d : PyData => d) (xs := [rowD e.1, .int e.2]) (n := 420) (k := 2) (fun d hd => by
    rcases List.mem_cons.mp hd with rfl | hd
    · exact row_prints h
    · rw [List.mem_singleton.mp hd]
      exact ⟨Nat.le_trans (int_len hb) (by decide), int_show hb, rfl⟩) (by simp)
  exact ⟨Nat.le_trans q.len (by decide), q.sh, q.nd⟩
theorem bag_prints {b : Bag} (hl : b.length ≤ 40) (hr : RowsOk b) (hb : BdB (2 ^ 40) b) : Prints (bagD b) 35000 := by
  have q := lst_prints (D := pairD) (xs := b) (n := 850) (k := 40) (fun e he => pair_prints (hr e he) (hb e he)) hl
  exact ⟨Nat.le_trans q.len (by decide), q.sh, q.nd⟩
/-- a def's own heap: what was tracked then is a table or held -/
def HeldOnly (H : Hp) : Prop := ∀ b u, H b = some u → (∃ ps, u = .tbl ps) ∨ ∃ o x, u = .frz o x
/-- v reads as d; none of its lists and dicts is sys.modules -/
def Readable (X : Cx) (H : Hp) (v : V) (d : PyData) : Prop := ∀ (pins : List (Addr × Obj)) (σ : L2.St) (s : Shared) (u : Value), Inv X pins σ H s → RelV v u → ∃ as, Reads s.heap u d as ∧ sysModules ∉ as
theorem sys_not {X : Cx} {pins : List (Addr × Obj)} {σ : L2.St} {H : Hp} {s : Shared} (I : Inv X pins σ H s) (hex : X.ex = []) (h0 : HeldOnly X.H_0) {o0 : Obj} (hb : X.s_0.heap.get? sysModules = some o0) {a : Addr} {xs : List V} (ha : H a = some (.lst xs)) : a ≠ sysModules := fun e => by
  subst e
  cases q : X.H_0 sysModules with
  | some u =>
    rcases h0 _ _ q with ⟨ps, rfl⟩ | ⟨o, x, rfl⟩
    · obtain ⟨more, z⟩ := I.base.tbls _ _ q
      rw [ha] at z
      cases z
    · have z := I.base.frzs _ _ _ q
      rw [ha] at z
      cases z
  | none =>
    have z := I.base.free _ _ hb q (by rw [hex]; exact fun z => List.not_mem_nil z)
    rw [ha] at z
    cases z
section
variable {X : Cx} (hex : X.ex = []) (h0 : HeldOnly X.H_0) {o0 : Obj} (hb : X.s_0.heap.get? sysModules = some o0) {H : Hp}
include hex h0 hb
mutual
theorem rd_reads {pins : List (Addr × Obj)} {σ : L2.St} {s : Shared} (I : Inv X pins σ H s) : ∀ (d : PyData) (v : V) (u : Value), Dp [] (frm H) v d → RelV v u → ∃ as, Reads s.heap u d as ∧ sysModules ∉ as
  | .none, _, _, h, r => by
    cases h
    cases r
    exact ⟨_, Reads.none, fun z => by cases z⟩
  | .bool b, _, _, h, r => by
    cases h
    cases r
    exact ⟨_, Reads.bool b, fun z => by cases z⟩
  | .int i, _, _, h, r => by
    cases h
    obtain ⟨t, rfl⟩ := r
    exact ⟨_, Reads.int i t, fun z => by cases z⟩
  | .str x, _, _, h, r => by
    cases h
    obtain ⟨t, rfl⟩ := r
    exact ⟨_, Reads.str x t, fun z => by cases z⟩
  | .list ds, v, _, h, r => by
    obtain ⟨a, ts, rfl, hx, hl, ha⟩ := dx_lst (X := frm H) (H := H) (fun a o q => q) h
    cases r
    obtain ⟨its, rv, ⟨o, n, ho, hc, _, hd⟩, _⟩ := I.list (sq_l hl)
    obtain ⟨as, hr, hs⟩ := rd_all I ds _ its ha rv
    refine ⟨_, Reads.list ho hc hd hr, fun z => ?_⟩
    rcases List.mem_cons.mp z with e | z
    · exact sys_not I hex h0 hb hl e.symm
    · exact hs z
  | .tuple ds, v, _, h, r => by
    obtain ⟨a, vs, rfl, hx, hl, ha⟩ := dx_tup (X := frm H) (H := H) (fun a o q => q) h
    cases r
    obtain ⟨its, rv, ⟨o, ho, hc, n, hd⟩, _⟩ := I.tuple (sq_t hl)
    obtain ⟨as, hr, hs⟩ := rd_all I ds _ its ha rv
    exact ⟨_, Reads.tuple ho hc hd hr, hs⟩
  | .dict _, _, _, h, _ => by cases h
theorem rd_all {pins : List (Addr × Obj)} {σ : L2.St} {s : Shared} (I : Inv X pins σ H s) : ∀ (ds : List PyData) (vs : List V) (us : List Value), DpAll [] (frm H) vs ds → Vals vs us → ∃ as, ReadsAll s.heap us ds as ∧ sysModules ∉ as
  | [], _, _, h, r => by
    cases h
    cases r
    exact ⟨_, ReadsAll.nil, fun z => by cases z⟩
  | d :: ds, _, _, h, r => by
    cases h with
    | cons h1 h2 =>
      cases r with
      | cons r1 r2 =>
        obtain ⟨as, q1, s1⟩ := rd_reads I d _ _ h1 r1
        obtain ⟨bs, q2, s2⟩ := rd_all I ds _ _ h2 r2
        exact ⟨_, ReadsAll.cons q1 q2, fun z => (List.mem_append.mp z).elim s1 s2⟩
end
theorem rd_fd {v : V} {d : PyData} (h : Fd [] H v d) : Readable X H v d := fun _ _ _ _ I r => rd_reads hex h0 hb I d v _ h r
end
/-- many of them -/
def ReadAll (X : Cx) (H : Hp) (vs : List V) (ds : List PyData) : Prop := ∀ (pins : List (Addr × Obj)) (σ : L2.St) (s : Shared) (us : List Value), Inv X pins σ H s → Vals vs us → ∃ as, ReadsAll s.heap us ds as ∧ sysModules ∉ as
theorem ra_nil {X : Cx} {H : Hp} : ReadAll X H [] [] := fun _ _ _ _ _ r => by
  cases r
  exact ⟨_, ReadsAll.nil, fun z => by cases z⟩
theorem ra_cons {X : Cx} {H : Hp} {v : V} {vs : List V} {d : PyData} {ds : List PyData} (h : Readable X H v d) (t : ReadAll X H vs ds) : ReadAll X H (v :: vs) (d :: ds) := fun _ _ _ _ I r => by
  cases r with
  | cons r1 r2 =>
    obtain ⟨as, q1, s1⟩ := h _ _ _ _ I r1
    obtain ⟨bs, q2, s2⟩ := t _ _ _ _ I r2
    exact ⟨_, ReadsAll.cons q1 q2, fun z => (List.mem_append.mp z).elim s1 s2⟩
theorem rd_lst {X : Cx} (hex : X.ex = []) (h0 : HeldOnly X.H_0) {o0 : Obj} (hb : X.s_0.heap.get? sysModules = some o0) {H : Hp} {a : Addr} {vs : List V} {ds : List PyData} (ha : H a = some (.lst vs)) (h : ReadAll X H vs ds) : Readable X H (.ref a) (.list ds) := fun _ _ _ _ I r => by
  cases r
  obtain ⟨its, rv, ⟨o, n, ho, hc, _, hd⟩, _⟩ := I.list (sq_l ha)
  obtain ⟨as, hr, hs⟩ := h _ _ _ _ I rv
  refine ⟨_, Reads.list ho hc hd hr, fun z => ?_⟩
  rcases List.mem_cons.mp z with e | z
  · exact sys_not I hex h0 hb ha e.symm
  · exact hs z
/-- a dict from names -/
theorem rd_dict {X : Cx} {H : Hp} {a : Addr} {kvs : List (Key × V)} {ds : List PyData} (ha : H a = some (.dK kvs)) (h : ReadAll X H (kvs.map (·.2)) ds) (hl : ds.length = kvs.length) : Readable X H (.ref a) (.dict ((kvs.map fun kv => keyD kv.1).zip ds)) := fun _ _ _ _ I r => by
  cases r
  obtain ⟨_, hn, us, kv, dd⟩ := dk_of I.hok ha
  have vals : ∀ {kvs : List (Key × V)} {us : List (Key × Value)}, KV kvs us → Vals (kvs.map (·.2)) (us.map (·.2)) := by
    intro kvs us h
    induction h with
    | nil => exact .nil
    | cons h t ih => exact .cons h.2 ih
  obtain ⟨as, hr, hs⟩ := h _ _ _ _ I (vals kv)
  have pairs : ∀ {kvs : List (Key × V)} {us : List (Key × Value)} {ds : List PyData} {as : List Addr} {h : Heap}, KV kvs us → ReadsAll h (us.map (·.2)) ds as → PyProof.V.PairsRead h keyD us ((kvs.map fun kv => keyD kv.1).zip ds) as := by
    intro kvs us ds as h kv
    induction kv generalizing ds as with
    | nil =>
      intro r
      cases r
      exact .nil
    | @cons p q kvs us h1 t ih =>
      intro r
      cases r with
      | cons r1 r2 =>
        obtain ⟨k, v⟩ := p
        obtain ⟨k', u⟩ := q
        obtain rfl : k = k' := h1.1
        exact .cons r1 (ih r2)
  refine ⟨_, PyProof.V.reads_dictOf (fun k key hk => ?_) dd (pairs kv hr), fun z => ?_⟩
  · rcases keyIs_shape hk with ⟨i, t, rfl, rfl⟩ | ⟨x, t, rfl, rfl⟩
    · exact Reads.int i t
    · exact Reads.str x t
  · rcases List.mem_cons.mp z with e | z
    · rw [← e] at hn
      cases hn
    · exact hs z
/-- repr(x), x an object that reads as data, with dicts in it -/
def rReprX (X : Cx) : List V → Hp → VK → Prop := fun xs H Q => ∃ (a : Addr) (d : PyData), xs = [.ref a] ∧ Readable X H (.ref a) d ∧ d.showable = true ∧ d.shown.length ≤ sizeLine ∧ d.depth ≤ 50 ∧ Q (.str d.shown) H
theorem call_reprX {X : Cx} (hg : X.A.guards = some []) (hu : X.A.units + 64 < cLine) : CallR X (.builtin "repr") (rReprX X) := by
  intro pins s σ H xs us Q I r h
  obtain ⟨a, d, rfl, hd, sh, ln, dd, q⟩ := h
  obtain rfl := Vals.ref1 r
  obtain ⟨as, rd, hs⟩ := hd _ _ _ _ I rfl
  refine PySem.repr_of_reads' rd sh (fun _ => hs) hg (by omega) (fun _ _ z => z) (fun h' u tk hk => ?_) ln
  exact ⟨.str d.shown, H, I.kept (t' := tk) hk, ⟨u, rfl⟩, q⟩
end KA
set_option Elab.async false
set_option linter.all false
set_option maxRecDepth 100000
set_option maxHeartbeats 4000000
/-! how long the texts of terms are -/
namespace KA
open PySem PySem.Spec PyProof.Rows L2
open PySem.W (EachIs)
/-- a text that is short enough -/
structure Pr (d : PyData) (n : Nat) : Prop where
  len : d.shown.length ≤ n
  sh : d.showable = true
theorem Pr.mono {d : PyData} {n m : Nat} (h : Pr d n) (k : n ≤ m) : Pr d m := ⟨Nat.le_trans h.len k, h.sh⟩
theorem Prints.pr {d : PyData} {n : Nat} (h : Prints d n) : Pr d n := ⟨h.len, h.sh⟩
theorem sh_all : ∀ {ds : List PyData}, (∀ d ∈ ds, d.showable = true) → PyData.showableAll ds = true
  | [], _ => rfl
  | d :: ds, h => by simp [PyData.showableAll, h d List.mem_cons_self, sh_all fun x hx => h x (List.mem_cons_of_mem _ hx)]
theorem tup_pr {ds : List PyData} {n k : Nat} (h : ∀ d ∈ ds, Pr d n) (hk : ds.length ≤ k) : Pr (.tuple ds) (k * (n + 2) + 3) := by
  refine ⟨?_, sh_all fun d hd => (h d hd).sh⟩
  have h3 := tupleText_le (ts := PyData.shownAll ds) (M := n) fun t ht => by
    rw [shownAll_eq_map] at ht
    obtain ⟨x, hx, rfl⟩ := List.mem_map.mp ht
    exact (h x hx).len
  rw [shownAll_eq_map, List.length_map] at h3
  simp only [PyData.shown]
  rw [shownAll_eq_map]
  exact Nat.le_trans h3 (Nat.add_le_add_right (Nat.mul_le_mul_right _ hk) 3)
theorem lst_pr {ds : List PyData} {n k : Nat} (h : ∀ d ∈ ds, Pr d n) (hk : ds.length ≤ k) : Pr (.list ds) (k * (n + 2) + 2) := by
  refine ⟨?_, sh_all fun d hd => (h d hd).sh⟩
  have h3 := listText_le (ts := PyData.shownAll ds) (M := n) fun t ht => by
    rw [shownAll_eq_map] at ht
    obtain ⟨x, hx, rfl⟩ := List.mem_map.mp ht
    exact (h x hx).len
  rw [shownAll_eq_map, List.length_map] at h3
  simp only [PyData.shown]
  rw [shownAll_eq_map]
  exact Nat.le_trans h3 (Nat.add_le_add_right (Nat.mul_le_mul_right _ hk) 2)
theorem sh_kv : ∀ {ps : List (PyData × PyData)}, (∀ p ∈ ps, p.1.showable = true ∧ p.2.showable = true) → PyData.showableKv ps = true
  | [], _ => rfl
  | (k, v) :: ps, h => by
    have := h _ List.mem_cons_self
    simp [PyData.showableKv, this.1, this.2, sh_kv fun x hx => h x (List.mem_cons_of_mem _ hx)]
theorem kv_len {n : Nat} : ∀ {ps : List (PyData × PyData)}, (∀ p ∈ ps, p.1.shown.length ≤ 50 ∧ p.2.shown.length ≤ n) → ∀ t ∈ PyData.shownKv ps, t.length ≤ n + 52
  | [], _, t, ht => by cases ht
  | (k, v) :: ps, h, t, ht => by
    simp only [PyData.shownKv] at ht
    rcases List.mem_cons.mp ht with rfl | ht
    · have := h _ List.mem_cons_self
      rw [strLen_append, strLen_append]
      have e1 : ((": " : Str)).length = 2 := rfl
      have h1 := this.1
      have h2 := this.2
      simp only at h1 h2
      omega
    · exact kv_len (fun x hx => h x (List.mem_cons_of_mem _ hx)) t ht
theorem kv_size : ∀ ps : List (PyData × PyData), (PyData.shownKv ps).length = ps.length
  | [] => rfl
  | (k, v) :: ps => by simp [PyData.shownKv, kv_size ps]
theorem dict_pr {ps : List (PyData × PyData)} {n k : Nat} (h : ∀ p ∈ ps, Pr p.1 50 ∧ Pr p.2 n) (hk : ps.length ≤ k) : Pr (.dict ps) (k * (n + 54) + 2) := by
  refine ⟨?_, sh_kv fun p hp => ⟨(h p hp).1.sh, (h p hp).2.sh⟩⟩
  have h1 := kv_len (n := n) (ps := ps) fun p hp => ⟨(h p hp).1.len, (h p hp).2.len⟩
  have e : (PyData.dict ps).shown.length = 1 + (Str.join ", " (PyData.shownKv ps)).length + 1 := by
    simp only [PyData.shown]
    unfold dictText
    rw [strLen_append, strLen_append]
    rfl
  have h2 : (Str.join ", " (PyData.shownKv ps)).length ≤ (PyData.shownKv ps).length * (n + 54) := by
    by_cases e0 : PyData.shownKv ps = []
    · rw [e0]
      exact Nat.zero_le _
    · have h3 := join_length_add _ e0
      have h4 := piled_le h1
      have e5 : n + 52 + 2 = n + 54 := by omega
      rw [e5] at h4
      omega
  rw [kv_size] at h2
  rw [e]
  have h5 := Nat.mul_le_mul_right (n + 54) hk
  omega
theorem tag_pr (x : Str) (h : (reprText x).length ≤ 20) : Pr (.str x) 20 := ⟨h, rfl⟩
theorem ex_pr : ∀ e : Ex, e.Ok → Pr e.d (200 * 5 ^ e.depth)
  | .at_ k, h => by
    refine Pr.mono (tup_pr (n := 50) (k := 2) (fun d hd => ?_) (Nat.le_refl 2)) (by show _ ≤ 200 * 5 ^ 0; decide)
    simp only [List.mem_cons, List.not_mem_nil, or_false] at hd
    rcases hd with rfl | rfl
    · exact (tag_pr "at" (by decide +kernel)).mono (by decide)
    · have hk : 0 ≤ k ∧ k ≤ 8 := h
      have h2 : k.natAbs ≤ 2 ^ 40 := by omega
      exact ⟨int_len h2, int_show h2⟩
  | .const x, h => by
    refine Pr.mono (tup_pr (n := 50) (k := 2) (fun d hd => ?_) (Nat.le_refl 2)) (by show _ ≤ 200 * 5 ^ 0; decide)
    simp only [List.mem_cons, List.not_mem_nil, or_false] at hd
    rcases hd with rfl | rfl
    · exact (tag_pr "const" (by decide +kernel)).mono (by decide)
    · have z := key_len (x := x) h
      exact ⟨z.1, z.2.1⟩
  | .ite c a b, h => by
    have h1 := ex_pr c h.1
    have h2 := ex_pr a h.2.1
    have h3 := ex_pr b h.2.2
    have m1 : 5 ^ c.depth ≤ 5 ^ max c.depth (max a.depth b.depth) := Nat.pow_le_pow_right (by decide) (by omega)
    have m2 : 5 ^ a.depth ≤ 5 ^ max c.depth (max a.depth b.depth) := Nat.pow_le_pow_right (by decide) (by omega)
    have m3 : 5 ^ b.depth ≤ 5 ^ max c.depth (max a.depth b.depth) := Nat.pow_le_pow_right (by decide) (by omega)
    have p0 : 1 ≤ 5 ^ max c.depth (max a.depth b.depth) := Nat.one_le_pow _ _ (by decide)
    refine Pr.mono (tup_pr (n := 200 * 5 ^ max c.depth (max a.depth b.depth)) (k := 4) (fun d hd => ?_) (Nat.le_refl 4)) (by show _ ≤ 200 * 5 ^ (max c.depth (max a.depth b.depth) + 1); rw [Nat.pow_succ]; omega)
    simp only [List.mem_cons, List.not_mem_nil, or_false] at hd
    rcases hd with rfl | rfl | rfl | rfl
    · exact (tag_pr "if" (by decide +kernel)).mono (by omega)
    · exact h1.mono (by omega)
    · exact h2.mono (by omega)
    · exact h3.mono (by omega)
  | .bin o a b, h => by
    have h2 := ex_pr a h.1
    have h3 := ex_pr b h.2
    have m2 : 5 ^ a.depth ≤ 5 ^ max a.depth b.depth := Nat.pow_le_pow_right (by decide) (by omega)
    have m3 : 5 ^ b.depth ≤ 5 ^ max a.depth b.depth := Nat.pow_le_pow_right (by decide) (by omega)
    have p0 : 1 ≤ 5 ^ max a.depth b.depth := Nat.one_le_pow _ _ (by decide)
    refine Pr.mono (tup_pr (n := 200 * 5 ^ max a.depth b.depth) (k := 3) (fun d hd => ?_) (Nat.le_refl 3)) (by show _ ≤ 200 * 5 ^ (max a.depth b.depth + 1); rw [Nat.pow_succ]; omega)
    simp only [List.mem_cons, List.not_mem_nil, or_false] at hd
    rcases hd with rfl | rfl | rfl
    · exact (tag_pr o.sign (by cases o <;> decide +kernel)).mono (by omega)
    · exact h2.mono (by omega)
    · exact h3.mono (by omega)
theorem exs_pr {es : List Ex} (h : ExsOk 1 es) : Pr (exsD es) 3010 := by
  refine (lst_pr (n := 1000) (k := 3) (fun d hd => ?_) (by rw [List.length_map]; exact h.1)).mono (by decide)
  obtain ⟨e, he, rfl⟩ := List.mem_map.mp hd
  have m : 5 ^ e.depth ≤ 5 ^ 1 := Nat.pow_le_pow_right (by decide) (h.2 e he).2
  exact (ex_pr e (h.2 e he).1).mono (by omega)
theorem gbag_pr {b : Bag} (h : GoodBag b) : Pr (bagD b) 8530 := by
  refine (lst_pr (n := 850) (k := 10) (fun d hd => ?_) (by rw [List.length_map]; exact h.len)).mono (by decide)
  obtain ⟨e, he, rfl⟩ := List.mem_map.mp hd
  exact (pair_prints (h.rows e he) (Nat.le_trans (h.bd e he) (by decide))).pr
theorem fk_pr (k : Fk) : (reprText k.sign).length ≤ 20 := by cases k <;> decide +kernel
theorem nk_pr (k : Nk) : (reprText k.sign).length ≤ 20 := by cases k <;> decide +kernel
theorem tm_pr : ∀ t : Tm, t.Ok → Pr t.d (17100 * 6 ^ t.depth - 3)
  | .name k n, h => by
    refine Pr.mono (tup_pr (n := 20) (k := 2) (fun d hd => ?_) (Nat.le_refl 2)) (by show _ ≤ 17100 * 6 ^ 0 - 3; decide)
    simp only [List.mem_cons, List.not_mem_nil, or_false] at hd
    rcases hd with rfl | rfl
    · exact tag_pr _ (nk_pr k)
    · rcases h with rfl | rfl
      · exact tag_pr "a" (by decide +kernel)
      · exact tag_pr "b" (by decide +kernel)
  | .bag b, h => by
    refine Pr.mono (tup_pr (n := 8530) (k := 2) (fun d hd => ?_) (Nat.le_refl 2)) (by show _ ≤ 17100 * 6 ^ 0 - 3; decide)
    simp only [List.mem_cons, List.not_mem_nil, or_false] at hd
    rcases hd with rfl | rfl
    · exact (tag_pr "bag" (by decide +kernel)).mono (by decide)
    · exact gbag_pr h
  | .map es t, h => by
    have h2 := tm_pr t h.2
    have p0 : 1 ≤ 6 ^ t.depth := Nat.one_le_pow _ _ (by decide)
    refine Pr.mono (tup_pr (n := 17100 * 6 ^ t.depth - 3) (k := 3) (fun d hd => ?_) (Nat.le_refl 3)) (by show _ ≤ 17100 * 6 ^ (t.depth + 1) - 3; rw [Nat.pow_succ]; omega)
    simp only [List.mem_cons, List.not_mem_nil, or_false] at hd
    rcases hd with rfl | rfl | rfl
    · exact (tag_pr "map" (by decide +kernel)).mono (by omega)
    · exact (exs_pr h.1).mono (by omega)
    · exact h2
  | .keep e t, h => by
    have h2 := tm_pr t h.2
    have h1 := ex_pr e h.1.1
    have m : 5 ^ e.depth ≤ 5 ^ 2 := Nat.pow_le_pow_right (by decide) h.1.2
    have p0 : 1 ≤ 6 ^ t.depth := Nat.one_le_pow _ _ (by decide)
    refine Pr.mono (tup_pr (n := 17100 * 6 ^ t.depth - 3) (k := 3) (fun d hd => ?_) (Nat.le_refl 3)) (by show _ ≤ 17100 * 6 ^ (t.depth + 1) - 3; rw [Nat.pow_succ]; omega)
    simp only [List.mem_cons, List.not_mem_nil, or_false] at hd
    rcases hd with rfl | rfl | rfl
    · exact (tag_pr "keep" (by decide +kernel)).mono (by omega)
    · exact h1.mono (by omega)
    · exact h2
  | .neg t, h => by
    have h2 := tm_pr t h
    have p0 : 1 ≤ 6 ^ t.depth := Nat.one_le_pow _ _ (by decide)
    refine Pr.mono (tup_pr (n := 17100 * 6 ^ t.depth - 3) (k := 2) (fun d hd => ?_) (Nat.le_refl 2)) (by show _ ≤ 17100 * 6 ^ (t.depth + 1) - 3; rw [Nat.pow_succ]; omega)
    simp only [List.mem_cons, List.not_mem_nil, or_false] at hd
    rcases hd with rfl | rfl
    · exact (tag_pr "neg" (by decide +kernel)).mono (by omega)
    · exact h2
  | .once t, h => by
    have h2 := tm_pr t h
    have p0 : 1 ≤ 6 ^ t.depth := Nat.one_le_pow _ _ (by decide)
    refine Pr.mono (tup_pr (n := 17100 * 6 ^ t.depth - 3) (k := 2) (fun d hd => ?_) (Nat.le_refl 2)) (by show _ ≤ 17100 * 6 ^ (t.depth + 1) - 3; rw [Nat.pow_succ]; omega)
    simp only [List.mem_cons, List.not_mem_nil, or_false] at hd
    rcases hd with rfl | rfl
    · exact (tag_pr "once" (by decide +kernel)).mono (by omega)
    · exact h2
  | .fold keys k e t, h => by
    have h2 := tm_pr t h.2.2
    have h1 := ex_pr e h.2.1.1
    have m : 5 ^ e.depth ≤ 5 ^ 1 := Nat.pow_le_pow_right (by decide) h.2.1.2
    have p0 : 1 ≤ 6 ^ t.depth := Nat.one_le_pow _ _ (by decide)
    refine Pr.mono (tup_pr (n := 17100 * 6 ^ t.depth - 3) (k := 5) (fun d hd => ?_) (Nat.le_refl 5)) (by show _ ≤ 17100 * 6 ^ (t.depth + 1) - 3; rw [Nat.pow_succ]; omega)
    simp only [List.mem_cons, List.not_mem_nil, or_false] at hd
    rcases hd with rfl | rfl | rfl | rfl | rfl
    · exact (tag_pr "fold" (by decide +kernel)).mono (by omega)
    · exact (exs_pr h.1).mono (by omega)
    · exact (tag_pr _ (fk_pr k)).mono (by omega)
    · exact h1.mono (by omega)
    · exact h2
  | .plus a b, h => by
    have h1 := tm_pr a h.1
    have h2 := tm_pr b h.2
    have m1 : 6 ^ a.depth ≤ 6 ^ max a.depth b.depth := Nat.pow_le_pow_right (by decide) (by omega)
    have m2 : 6 ^ b.depth ≤ 6 ^ max a.depth b.depth := Nat.pow_le_pow_right (by decide) (by omega)
    have p0 : 1 ≤ 6 ^ max a.depth b.depth := Nat.one_le_pow _ _ (by decide)
    refine Pr.mono (tup_pr (n := 17100 * 6 ^ max a.depth b.depth - 3) (k := 3) (fun d hd => ?_) (Nat.le_refl 3)) (by show _ ≤ 17100 * 6 ^ (max a.depth b.depth + 1) - 3; rw [Nat.pow_succ]; omega)
    simp only [List.mem_cons, List.not_mem_nil, or_false] at hd
    rcases hd with rfl | rfl | rfl
    · exact (tag_pr "plus" (by decide +kernel)).mono (by omega)
    · exact h1.mono (by omega)
    · exact h2.mono (by omega)
  | .join l r es a b, h => by
    have h1 := tm_pr a h.2.2.2.1
    have h2 := tm_pr b h.2.2.2.2
    have m1 : 6 ^ a.depth ≤ 6 ^ max a.depth b.depth := Nat.pow_le_pow_right (by decide) (by omega)
    have m2 : 6 ^ b.depth ≤ 6 ^ max a.depth b.depth := Nat.pow_le_pow_right (by decide) (by omega)
    have p0 : 1 ≤ 6 ^ max a.depth b.depth := Nat.one_le_pow _ _ (by decide)
    refine Pr.mono (tup_pr (n := 17100 * 6 ^ max a.depth b.depth - 3) (k := 6) (fun d hd => ?_) (Nat.le_refl 6)) (by show _ ≤ 17100 * 6 ^ (max a.depth b.depth + 1) - 3; rw [Nat.pow_succ]; omega)
    simp only [List.mem_cons, List.not_mem_nil, or_false] at hd
    rcases hd with rfl | rfl | rfl | rfl | rfl | rfl
    · exact (tag_pr "join" (by decide +kernel)).mono (by omega)
    · exact (exs_pr h.1).mono (by omega)
    · exact (exs_pr h.2.1).mono (by omega)
    · exact (exs_pr h.2.2.1).mono (by omega)
    · exact h1.mono (by omega)
    · exact h2.mono (by omega)
end KA
set_option Elab.async false
set_option linter.all false
set_option maxRecDepth 100000
set_option maxHeartbeats 4000000
/-! what the law's body needs of its data -/
namespace KA
open PySem PySem.Spec PyProof.Rows L2 LamX
open PySem.W (EachIs)
/-! ### plain, not deep -/
theorem pair_plain (e : Row × Int) : (pairD e).plain = true := by
  have h := row_plain e.1
  simp only [pairD, PyData.plain, PyData.plainAll, h, Bool.and_self]
theorem bag_plain (b : Bag) : (bagD b).plain = true := by
  show PyData.plainAll (b.map pairD) = true
  induction b with
  | nil => rfl
  | cons e t ih => simp [PyData.plainAll, pair_plain e, ih]
theorem pair_depth (e : Row × Int) : (pairD e).depth ≤ 4 := by
  have h := row_depth e.1
  simp only [pairD, PyData.depth, PyData.depthAll]
  omega
theorem bag_depth (b : Bag) : (bagD b).depth ≤ 5 := by
  have key : ∀ b : Bag, PyData.depthAll (b.map pairD) ≤ 4 := fun b => by
    induction b with
    | nil => simp [PyData.depthAll]
    | cons e t ih =>
      have h := pair_depth e
      simp only [List.map_cons, PyData.depthAll]
      omega
  have h := key b
  simp only [bagD, PyData.depth]
  omega
theorem ex_plain : ∀ e : Ex, e.d.plain = true ∧ e.d.depth ≤ e.depth + 2
  | .at_ k => ⟨rfl, by simp [Ex.d, PyData.depth, PyData.depthAll]⟩
  | .const x => by cases x <;> exact ⟨rfl, by simp [Ex.d, keyD, PyData.depth, PyData.depthAll]⟩
  | .ite c a b => by
    have h1 := ex_plain c
    have h2 := ex_plain a
    have h3 := ex_plain b
    refine ⟨by simp [Ex.d, PyData.plain, PyData.plainAll, h1.1, h2.1, h3.1], ?_⟩
    simp only [Ex.d, PyData.depth, PyData.depthAll, Ex.depth]
    omega
  | .bin o a b => by
    have h2 := ex_plain a
    have h3 := ex_plain b
    refine ⟨by simp [Ex.d, PyData.plain, PyData.plainAll, h2.1, h3.1], ?_⟩
    simp only [Ex.d, PyData.depth, PyData.depthAll, Ex.depth]
    omega
theorem all_plain : ∀ {ds : List PyData}, (∀ d ∈ ds, d.plain = true) → PyData.plainAll ds = true
  | [], _ => rfl
  | d :: ds, h => by simp [PyData.plainAll, h d List.mem_cons_self, all_plain fun x hx => h x (List.mem_cons_of_mem _ hx)]
theorem all_depth {n : Nat} : ∀ {ds : List PyData}, (∀ d ∈ ds, d.depth ≤ n) → PyData.depthAll ds ≤ n
  | [], _ => Nat.zero_le _
  | d :: ds, h => by
    have h1 := h d List.mem_cons_self
    have h2 := all_depth (n := n) (ds := ds) fun x hx => h x (List.mem_cons_of_mem _ hx)
    simp only [PyData.depthAll]
    omega
theorem exs_plain (es : List Ex) (n : Nat) (h : ∀ e ∈ es, e.depth ≤ n) : (exsD es).plain = true ∧ (exsD es).depth ≤ n + 3 := by
  refine ⟨all_plain fun d hd => ?_, ?_⟩
  · obtain ⟨e, _, rfl⟩ := List.mem_map.mp hd
    exact (ex_plain e).1
  · have := all_depth (n := n + 2) (ds := es.map Ex.d) fun d hd => by
      obtain ⟨e, he, rfl⟩ := List.mem_map.mp hd
      have := (ex_plain e).2
      have := h e he
      omega
    show PyData.depthAll (es.map Ex.d) + 1 ≤ n + 3
    omega
theorem exsOk_plain {es : List Ex} (h : ExsOk 1 es) : (exsD es).plain = true ∧ (exsD es).depth ≤ 4 := exs_plain es 1 fun e he => (h.2 e he).2
theorem tm_plain : ∀ t : Tm, t.Ok → t.d.plain = true ∧ t.d.depth ≤ t.depth + 8
  | .name k n, _ => ⟨rfl, by simp [Tm.d, PyData.depth, PyData.depthAll]⟩
  | .bag b, _ => by
    have h1 := bag_plain b
    have h2 := bag_depth b
    refine ⟨by simp [Tm.d, PyData.plain, PyData.plainAll, h1], ?_⟩
    simp only [Tm.d, PyData.depth, PyData.depthAll, Tm.depth]
    omega
  | .map es t, h => by
    have h1 := exsOk_plain h.1
    have h2 := tm_plain t h.2
    refine ⟨by simp [Tm.d, PyData.plain, PyData.plainAll, h1.1, h2.1], ?_⟩
    simp only [Tm.d, PyData.depth, PyData.depthAll, Tm.depth]
    omega
  | .keep e t, h => by
    have h1 := ex_plain e
    have h2 := tm_plain t h.2
    have h3 := h.1.2
    refine ⟨by simp [Tm.d, PyData.plain, PyData.plainAll, h1.1, h2.1], ?_⟩
    simp only [Tm.d, PyData.depth, PyData.depthAll, Tm.depth]
    omega
  | .neg t, h => by
    have h2 := tm_plain t h
    refine ⟨by simp [Tm.d, PyData.plain, PyData.plainAll, h2.1], ?_⟩
    simp only [Tm.d, PyData.depth, PyData.depthAll, Tm.depth]
    omega
  | .once t, h => by
    have h2 := tm_plain t h
    refine ⟨by simp [Tm.d, PyData.plain, PyData.plainAll, h2.1], ?_⟩
    simp only [Tm.d, PyData.depth, PyData.depthAll, Tm.depth]
    omega
  | .fold keys k e t, h => by
    have h1 := exsOk_plain h.1
    have h4 := ex_plain e
    have h2 := tm_plain t h.2.2
    have h3 := h.2.1.2
    refine ⟨by simp [Tm.d, PyData.plain, PyData.plainAll, h1.1, h2.1, h4.1], ?_⟩
    simp only [Tm.d, PyData.depth, PyData.depthAll, Tm.depth]
    omega
  | .plus a b, h => by
    have h1 := tm_plain a h.1
    have h2 := tm_plain b h.2
    refine ⟨by simp [Tm.d, PyData.plain, PyData.plainAll, h1.1, h2.1], ?_⟩
    simp only [Tm.d, PyData.depth, PyData.depthAll, Tm.depth]
    omega
  | .join l r es a b, h => by
    have h3 := exsOk_plain h.1
    have h4 := exsOk_plain h.2.1
    have h5 := exsOk_plain h.2.2.1
    have h1 := tm_plain a h.2.2.2.1
    have h2 := tm_plain b h.2.2.2.2
    refine ⟨by simp [Tm.d, PyData.plain, PyData.plainAll, h1.1, h2.1, h3.1, h4.1, h5.1], ?_⟩
    simp only [Tm.d, PyData.depth, PyData.depthAll, Tm.depth]
    omega
theorem newf_ok : ∀ t : Tm, t.Ok → t.newf.Ok ∧ t.newf.depth = t.depth
  | .name k n, h => by cases k <;> exact ⟨h, rfl⟩
  | .bag b, h => ⟨h, rfl⟩
  | .map es t, h => ⟨⟨h.1, (newf_ok t h.2).1⟩, congrArg (· + 1) (newf_ok t h.2).2⟩
  | .keep e t, h => ⟨⟨h.1, (newf_ok t h.2).1⟩, congrArg (· + 1) (newf_ok t h.2).2⟩
  | .neg t, h => ⟨(newf_ok t h).1, congrArg (· + 1) (newf_ok t h).2⟩
  | .once t, h => ⟨(newf_ok t h).1, congrArg (· + 1) (newf_ok t h).2⟩
  | .fold keys k e t, h => ⟨⟨h.1, h.2.1, (newf_ok t h.2.2).1⟩, congrArg (· + 1) (newf_ok t h.2.2).2⟩
  | .plus a b, h => ⟨⟨(newf_ok a h.1).1, (newf_ok b h.2).1⟩, by show max a.newf.depth b.newf.depth + 1 = max a.depth b.depth + 1; rw [(newf_ok a h.1).2, (newf_ok b h.2).2]⟩
  | .join l r es a b, h => ⟨⟨h.1, h.2.1, h.2.2.1, (newf_ok a h.2.2.2.1).1, (newf_ok b h.2.2.2.2).1⟩, by show max a.newf.depth b.newf.depth + 1 = max a.depth b.depth + 1; rw [(newf_ok a h.2.2.2.1).2, (newf_ok b h.2.2.2.2).2]⟩
/-! ### != of equal data, == of equal texts -/
theorem ne_dat {K : PySem.W.Frag} {H : Hp} {x y : V} {d : PyData} {Q : VK} (hx : Dp K H x d) (hy : Dp K H y d) (hp : d.plain = true) (hd : d.depth ≤ 60) (h : Q (.bl false) H) : rNeP K x y H Q := by
  refine ⟨_, _, hx, hy, hp, hp, hd, ?_⟩
  rw [SeqAt.eqv_refl_plain _ hp]
  exact h
theorem ne_key {x : Key} {H : Hp} {Q : VK} (h : Q (.bl false) H) : rNe (kV x) (kV x) H Q := by
  refine ⟨by cases x <;> rfl, ?_⟩
  rw [decide_eq_true rfl]
  exact h
theorem isa_bool {K : PySem.W.Frag} {x : Key} {H : Hp} {Q : VK} (h : Q (.bl false) H) : rIsi K [kV x, .ty "bool"] H Q := by
  cases x with
  | inl i => exact ⟨_, _, .type "int", .type "bool", false, rfl, .ty "bool", .base (.int i), kit_ty (by decide +kernel), h⟩
  | inr z => exact ⟨_, _, .type "str", .type "bool", false, rfl, .ty "bool", .base (.str z), kit_ty (by decide +kernel), h⟩
/-! ### dicts from names to bags -/
abbrev Nbs : Type := List (Str × Addr × Bag)
def Nbs.kvs (l : Nbs) : List (Key × V) := l.map fun x => (.inr x.1, .ref x.2.1)
def Nbs.fn (l : Nbs) (n : Str) : Bag := ((l.find? fun x => decide (x.1 = n)).map (·.2.2)).getD []
def Nbs.d (l : Nbs) : PyData := .dict ((l.kvs.map fun kv => keyD kv.1).zip (l.map fun x => bagD x.2.2))
structure NbsAt (H : Hp) (p : Addr) (l : Nbs) : Prop where
  hp : H p = some (.dK l.kvs)
  fd : ∀ x ∈ l, Fd [] H (.ref x.2.1) (bagD x.2.2)
theorem Nbs.val (l : Nbs) (n : Str) : valV l.kvs (.inr n) = (l.find? fun x => decide (x.1 = n)).map fun x => V.ref x.2.1 := by
  unfold Nbs.kvs valV
  induction l with
  | nil => rfl
  | cons x l ih =>
    rw [List.map_cons, List.find?_cons, List.find?_cons]
    by_cases c : x.1 = n
    · simp [c]
    · have c2 : ¬ (Sum.inr x.1 : Key) = .inr n := fun z => c (by injection z)
      simp only [decide_eq_false c, decide_eq_false c2]
      exact ih
theorem NbsAt.bags {H : Hp} {p : Addr} {l : Nbs} (h : NbsAt H p l) : BagsAt H p l.fn := by
  refine ⟨l.kvs, h.hp, fun n => ?_⟩
  rw [Nbs.val]
  unfold Nbs.fn
  cases q : l.find? fun x => decide (x.1 = n) with
  | none => exact .inr ⟨rfl, rfl⟩
  | some x =>
    obtain ⟨a, e, hb⟩ := dx_bag (X := frm H) (H := H) (fun a o q => q) (h.fd x (List.mem_of_find?_eq_some q))
    have e2 : x.2.1 = a := by injection e
    exact .inl ⟨a, by rw [← e2]; rfl, hb⟩
theorem Nbs.good {l : Nbs} (h : ∀ x ∈ l, GoodBag x.2.2) (n : Str) : GoodBag (l.fn n) := by
  unfold Nbs.fn
  cases q : l.find? fun x => decide (x.1 = n) with
  | none => exact ⟨⟨List.Pairwise.nil, (fun e he => by cases he)⟩, Nat.zero_le _, (fun e he => by cases he), (fun e he => by cases he)⟩
  | some x => exact h x (List.mem_of_find?_eq_some q)
theorem good_s {b : Bag} (h : GoodBag b) : RowsS b := fun e he => (GoodBag.rows h e he).s
theorem valIn_of {H : Hp} {po pc : Addr} {lo lc : Nbs} (ho : NbsAt H po lo) (hc : NbsAt H pc lc) (go : ∀ x ∈ lo, GoodBag x.2.2) (gc : ∀ x ∈ lc, GoodBag x.2.2) : ValIn H lo.fn lc.fn po pc ∧ Good2 lo.fn lc.fn := by
  have ok : ∀ {l : Nbs}, (∀ x ∈ l, GoodBag x.2.2) → BagsOk l.fn := fun h n => ⟨Nat.le_trans (Nbs.good h n).len (by decide), (good_s (Nbs.good h n)).rowB⟩
  exact ⟨⟨ho.bags, hc.bags, ok go, ok gc, fun n => good_s (Nbs.good go n), fun n => good_s (Nbs.good gc n)⟩, ⟨Nbs.good go, Nbs.good gc⟩⟩
/-- [(other, 0 - count) ..][:n] -/
theorem good_neg {b : Bag} (h : GoodBag b) (n : Nat) : GoodBag ((b.map fun e => (e.1, 0 - e.2)).take n) := by
  have c : Canon (b.map fun e => (e.1, 0 - e.2)) := ⟨by rw [List.pairwise_map]; exact h.canon.srt, fun e he => by
    obtain ⟨x, hx, rfl⟩ := List.mem_map.mp he
    have := h.canon.nz x hx
    show 0 - x.2 ≠ 0
    omega⟩
  refine ⟨⟨c.srt.sublist (List.take_sublist _ _), fun e he => c.nz e (List.mem_of_mem_take he)⟩, ?_, fun e he => ?_, fun e he => ?_⟩
  · rw [List.length_take, List.length_map]
    have := h.len
    omega
  · obtain ⟨x, hx, rfl⟩ := List.mem_map.mp (List.mem_of_mem_take he)
    have := h.bd x hx
    show (0 - x.2).natAbs ≤ _
    omega
  · obtain ⟨x, hx, rfl⟩ := List.mem_map.mp (List.mem_of_mem_take he)
    exact h.rows x hx
/-! ### what stays -/
structure Lk (H H' : Hp) : Prop where
  fd : ∀ v d, Fd [] H v d → Fd [] H' v d
  dk : ∀ a kvs, H a = some (.dK kvs) → H' a = some (.dK kvs)
theorem Lk.trans {H H1 H2 : Hp} (a : Lk H H1) (b : Lk H1 H2) : Lk H H2 := ⟨fun v d h => b.fd v d (a.fd v d h), fun p k h => b.dk p k (a.dk p k h)⟩
theorem Lk.extn {H H' : Hp} (s : ExtN H H') : Lk H H' := ⟨fun v d h => Dp.mono (extn_frm s) h, fun a kvs h => s a _ h fun ps z => by cases z⟩
theorem Lk.drawn {st cl : Addr} {H H' : Hp} (d : Drawn st cl H H') (h : StOk H st cl) : Lk H H' := ⟨fun v x q => Fd.drawn d h q, fun a kvs q => by
  obtain ⟨c, z, S⟩ := h
  exact d.but a _ (fun e => by rw [e, S.hs] at q; cases q) (fun e => by rw [e, S.hc] at q; cases q) q⟩
theorem tabs_drawn {st cl : Addr} {T : List (Addr × Str)} {H H' : Hp} (d : Drawn st cl H H') (h : StOk H st cl) (t : Tabs T H) : Tabs T H' := fun p hp => by
  obtain ⟨c, z, S⟩ := h
  obtain ⟨ps, h1, h2, h3⟩ := t p hp
  have nl : ∀ a o, H a = some o → (∀ xs, o ≠ .lst xs) → H' a = some o := fun a o q n => d.but a _ (fun e => by rw [e, S.hs] at q; exact n _ (Option.some.inj q).symm) (fun e => by rw [e, S.hc] at q; exact n _ (Option.some.inj q).symm) q
  refine ⟨ps, nl _ _ h1 (fun xs z => by cases z), h2, fun pos cv hcv => ?_⟩
  obtain ⟨c', e1, e2⟩ := h3 pos cv hcv
  exact ⟨c', e1, nl _ _ e2 fun xs z => by cases z⟩
theorem stok_extn {st cl : Addr} {H H' : Hp} (s : ExtN H H') (h : StOk H st cl) : StOk H' st cl := by
  obtain ⟨c, z, S⟩ := h
  exact ⟨c, z, s _ _ S.hs (fun ps z => by cases z), s _ _ S.hc (fun ps z => by cases z), S.lo, S.hi, S.len, S.nn⟩
theorem NbsAt.lk {H H' : Hp} (k : Lk H H') {p : Addr} {l : Nbs} (h : NbsAt H p l) : NbsAt H' p l := ⟨k.dk _ _ h.hp, fun x hx => k.fd _ _ (h.fd x hx)⟩
theorem row_fd {H : Hp} {q : Addr} {r : Row} (h : RowAt H q r) : Fd [] H (.ref q) (rowD r) := dp_row (H := frm H) (frm_tup h)
theorem fd_row {H : Hp} {q : Addr} {r : Row} (h : Fd [] H (.ref q) (rowD r)) : RowAt H q r := by
  obtain ⟨a, e, hb⟩ := dx_row (X := frm H) (H := H) (fun a o q => q) h
  have e2 : q = a := by injection e
  rw [e2]
  exact hb
theorem fd_exs {K : PySem.W.Frag} {H : Hp} {p : Addr} {es : List Ex} (h : Fd [] H (.ref p) (exsD es)) : ExsD K H p es := by
  obtain ⟨a, e, hb⟩ := dx_exs (K := K) (X := frm H) (H := H) (fun a o q => q) h
  have e2 : p = a := by injection e
  rw [e2]
  exact hb
theorem fd_dp {K : PySem.W.Frag} {H : Hp} {v : V} {d : PyData} (h : Fd [] H v d) : Dp K H v d := dp_any d v (Fd.dp h)
/-! ### the text of the data of the law -/
def lawAll (t : Tm) (lo lc : Nbs) (es : List Ex) : PyData := .list [t.d, lo.d, lc.d, exsD es]
theorem nbs_pr {l : Nbs} (hn : ∀ x ∈ l, x.1 = "a" ∨ x.1 = "b") (h : ∀ x ∈ l, GoodBag x.2.2) (hl : l.length ≤ 2) : Pr l.d 18000 := by
  have e : (l.kvs.map fun kv => keyD kv.1).zip (l.map fun x => bagD x.2.2) = l.map fun x => (PyData.str x.1, bagD x.2.2) := by
    unfold Nbs.kvs
    rw [List.map_map, List.zip_map']
    rfl
  unfold Nbs.d
  rw [e]
  refine (dict_pr (n := 8530) (k := 2) (fun p hp => ?_) (by rw [List.length_map]; exact hl)).mono (by decide)
  obtain ⟨x, hx, rfl⟩ := List.mem_map.mp hp
  refine ⟨?_, gbag_pr (h x hx)⟩
  rcases hn x hx with e | e <;> · show Pr (.str x.1) 50; rw [e]; exact (tag_pr _ (by decide +kernel)).mono (by decide)
theorem law_pr {t : Tm} {lo lc : Nbs} {es : List Ex} (ht : t.Ok) (hd : t.depth ≤ 3) (no : ∀ x ∈ lo, x.1 = "a" ∨ x.1 = "b") (go : ∀ x ∈ lo, GoodBag x.2.2) (llo : lo.length ≤ 2) (nc : ∀ x ∈ lc, x.1 = "a" ∨ x.1 = "b") (gc : ∀ x ∈ lc, GoodBag x.2.2) (llc : lc.length ≤ 2) (he : ExsOk 1 es) :
    (lawAll t lo lc es).showable = true ∧ (lawAll t lo lc es).shown.length ≤ sizeLine := by
  have m : 6 ^ t.depth ≤ 6 ^ 3 := Nat.pow_le_pow_right (by decide) hd
  have h := lst_pr (n := 3700000) (k := 4) (ds := [t.d, lo.d, lc.d, exsD es]) (fun d hd' => by
    simp only [List.mem_cons, List.not_mem_nil, or_false] at hd'
    rcases hd' with rfl | rfl | rfl | rfl
    · exact (tm_pr t ht).mono (by omega)
    · exact (nbs_pr no go llo).mono (by decide)
    · exact (nbs_pr nc gc llc).mono (by decide)
    · exact (exs_pr he).mono (by decide)) (Nat.le_refl 4)
  exact ⟨h.sh, Nat.le_trans h.len (by decide)⟩
theorem nbs_depth (l : Nbs) : l.d.depth ≤ 8 := by
  have e : (l.kvs.map fun kv => keyD kv.1).zip (l.map fun x => bagD x.2.2) = l.map fun x => (PyData.str x.1, bagD x.2.2) := by
    unfold Nbs.kvs
    rw [List.map_map, List.zip_map']
    rfl
  unfold Nbs.d
  rw [e]
  have go : ∀ l : Nbs, PyData.depthKv (l.map fun x => (PyData.str x.1, bagD x.2.2)) ≤ 7 := fun l => by
    induction l with
    | nil => exact Nat.zero_le _
    | cons x l ih =>
      have := bag_depth x.2.2
      show max (max (PyData.str x.1).depth (bagD x.2.2).depth) (PyData.depthKv (l.map fun x => (PyData.str x.1, bagD x.2.2))) ≤ 7
      have h0 : (PyData.str x.1).depth = 0 := by simp [PyData.depth]
      omega
  have := go l
  simp only [PyData.depth]
  omega
theorem lawAll_depth {t : Tm} {lo lc : Nbs} {es : List Ex} (ht : t.Ok) (hd : t.depth ≤ 3) (he : ExsOk 1 es) : (lawAll t lo lc es).depth ≤ 50 := by
  have h1 := (tm_plain t ht).2
  have h2 := (exsOk_plain he).2
  have h3 := nbs_depth lo
  have h4 := nbs_depth lc
  unfold lawAll
  simp only [PyData.depth, PyData.depthAll]
  simp only [exsD, PyData.depth] at h2
  simp only [Nbs.d, PyData.depth] at h3 h4
  simp only [exsD, Nbs.d, PyData.depth]
  omega
end KA
set_option Elab.async false
set_option linter.all false
set_option maxRecDepth 100000
set_option maxHeartbeats 16000000
/-! the law's body -/
namespace KA
open PySem PySem.Spec PyProof.Rows L2 LamX
open PySem.W (EachIs)
theorem strs_dat {K : PySem.W.Frag} {H : Hp} {p : Addr} {xs : List Str} (h : StrsAt H p xs) : Dp K H (.ref p) (.list (xs.map PyData.str)) := .lst (sq_l h) (by
  induction xs with
  | nil => exact .nil
  | cons x xs ih =>
    have go : ∀ xs : List Str, DpAll K H (xs.map V.str) (xs.map PyData.str) := fun xs => by
      induction xs with
      | nil => exact .nil
      | cons x xs ih => exact .cons (.str x) ih
    exact go (x :: xs))
theorem isa_no {K : PySem.W.Frag} {H : Hp} (x : Key) : ∃ (t u : Value), ClsV (.ty "bool") u ∧ TyX K H (kV x) t ∧ PySem.W.kitOne K t u = some false := by
  cases x with
  | inl i => exact ⟨.type "int", .type "bool", .ty "bool", .base (.int i), kit_ty (by decide +kernel)⟩
  | inr z => exact ⟨.type "str", .type "bool", .ty "bool", .base (.str z), kit_ty (by decide +kernel)⟩
theorem strs_plain (xs : List Str) : (PyData.list (xs.map PyData.str)).plain = true ∧ (PyData.list (xs.map PyData.str)).depth ≤ 60 := by
  refine ⟨all_plain fun d hd => ?_, ?_⟩
  · obtain ⟨x, _, rfl⟩ := List.mem_map.mp hd
    rfl
  · have := all_depth (n := 0) (ds := xs.map PyData.str) fun d hd => by
      obtain ⟨x, _, rfl⟩ := List.mem_map.mp hd
      simp [PyData.depth]
    show PyData.depthAll (xs.map PyData.str) + 1 ≤ 60
    omega
theorem lk_dput {H0 H : Hp} {p : Addr} {kvs : List (Key × V)} {o : HO} (k : Lk H0 H) (h0 : H0 p = none) (hp : H p = some (.dK kvs)) (ho : ∃ kvs', o = .dK kvs') : Lk H0 (upd H p o) := by
  obtain ⟨kvs', rfl⟩ := ho
  refine ⟨fun v d h => Dp.mono (fun a o q => ?_) (k.fd v d h), fun a ks h => ?_⟩
  · have n : a ≠ p := fun z => by
      unfold frm at q
      rw [z, hp] at q
      cases q
    unfold frm at q ⊢
    rw [upd_ne n]
    exact q
  · rw [upd_ne (ne_of_none h h0)]
    exact k.dk _ _ h
theorem stok_dput {st cl p : Addr} {H : Hp} {kvs : List (Key × V)} {o : HO} (hp : H p = some (.dK kvs)) (h : StOk H st cl) : StOk (upd H p o) st cl := by
  obtain ⟨c, z, S⟩ := h
  refine ⟨c, z, ?_, ?_, S.lo, S.hi, S.len, S.nn⟩
  · rw [upd_ne (fun e => by have := S.hs; rw [e, hp] at this; cases this)]
    exact S.hs
  · rw [upd_ne (fun e => by have := S.hc; rw [e, hp] at this; cases this)]
    exact S.hc
theorem fd_dput {H : Hp} {p : Addr} {kvs : List (Key × V)} {o : HO} (hp : H p = some (.dK kvs)) {v : V} {d : PyData} (h : Fd [] H v d) : Fd [] (upd H p o) v d := Dp.mono (fun a o q => by
  have n : a ≠ p := fun z => by
    unfold frm at q
    rw [z, hp] at q
    cases q
  unfold frm at q ⊢
  rw [upd_ne n]
  exact q) h
theorem rd_nbs {X : Cx} (hex : X.ex = []) (h0 : HeldOnly X.H_0) {o0 : Obj} (hb : X.s_0.heap.get? sysModules = some o0) {H : Hp} {p : Addr} {l : Nbs} (h : NbsAt H p l) : Readable X H (.ref p) l.d := by
  refine rd_dict h.hp ?_ (by unfold Nbs.kvs; rw [List.length_map, List.length_map])
  have go : ∀ l : Nbs, (∀ x ∈ l, Fd [] H (.ref x.2.1) (bagD x.2.2)) → ReadAll X H ((Nbs.kvs l).map (·.2)) (l.map fun x => bagD x.2.2) := fun l => by
    induction l with
    | nil => exact fun _ => ra_nil
    | cons x l ih => exact fun h => ra_cons (rd_fd hex h0 hb (h x List.mem_cons_self)) (ih fun y hy => h y (List.mem_cons_of_mem _ hy))
  exact go l h.fd
section
variable {P : Program} {w : World} {K : PySem.W.Frag} {mg : Str → Option Value} {base : Heap} {f : Addr} {fd : FuncData}
/-- the defs that the law calls -/
structure Cals (P : Program) (w : World) (K : PySem.W.Frag) (mg : Str → Option Value) (base : Heap) (T : List (Addr × Str)) : Prop where
  CSt : Cal P w K mg base "_law_state" 1 ["script"] (spState K)
  C : DrawC P w K mg base
  CR : Cal P w K mg base "_law_row" 3 ["state", "most"] spRow
  CE : Cal P w K mg base "_law_expr" 6 ["state", "deep"] (spExpr [] 4)
  CX : Cal P w K mg base "_law_exprs" 6 ["state"] (spExprs [])
  CB : Cal P w K mg base "_law_bag" 5 ["state", "most"] spBag
  CT : Cal P w K mg base "_law_term" 11 ["state", "deep", "kinds"] (spTerm [] 4)
  CO : Cal P w K mg base "_law_of" 6 ["e", "row"] (spOf K 4)
  CRo : Cal P w K mg base "_law_rowed" 6 ["exprs", "row"] (spRowed K 4)
  CV : Cal P w K mg base "_law_value" 12 ["term", "olds", "changes"] (spValue T 4)
  CN : Cal P w K mg base "_law_names" 5 ["term"] (spNames 4)
  CW : Cal P w K mg base "_law_new" 5 ["term"] (spNew 4)
  EV : Cal P w K mg base "evaluate" 7 ["e", "row"] (spEval K T)
  MP : Cal P w K mg base "mapped" 8 ["exprs", "row"] (spMapped K T)
  VL : Cal P w K mg base "value" 15 ["term", "olds", "changes"] (spVal1 K T)
  NI : Cal P w K mg base "names_in" 3 ["term"] (spNamesIn T)
  NF : Cal P w K mg base "new_form" 4 ["term"] (spNewForm T)
def spLaw (K : PySem.W.Frag) (T : List (Addr × Str)) : Sp := fun vs H Q _ => ∃ (a : Addr) (ns : List Int), vs = [.ref a] ∧ SqL K H a (ns.map V.int) ∧ ns.length ≤ 63 ∧ Tabs T H ∧ HeldOnly H ∧ ∀ H', Q (.bl true) H'
theorem law_body {T : List (Addr × Str)} {cdv : Value} {A : Around} {outer : List Env} {s : Shared} {H : Hp} {vs : List V} {Q : VK} {E : XK} (hG : A.guards = some []) {o0 : Obj} (hsys : s.heap.get? sysModules = some o0) (hr : Room 15 (A.deeper (envOfC "law" (defScope s_law) s.heap.objs.size f cdv)))
    (cs : Cals P w K mg base T) (gI : mg "isinstance" = none) (gB : mg "bool" = none) (gP : mg "repr" = none) (h : spLaw K T vs H Q E) :
    ∃ t, PSs (cxOf CX0 P w K mg base ["script", "state", "row", "e", "exprs", "olds", "changes", "other", "count", "term", "kept", "simple"] "law" (defScope s_law) f cdv A outer s H E) (defBody s_law) t ∧
      t { nx := fun _ H' => Q .non H', rt := Q } (start ["script", "state", "row", "e", "exprs", "olds", "changes", "other", "count", "term", "kept", "simple"] vs) H := by
    obtain ⟨CSt, C, CR, CE, CX, CB, CT, CO, CRo, CV, CN, CW, EV, MP, VL, NI, NF⟩ := cs
    obtain ⟨a, ns, rfl, hS, hl, hT, hH, q⟩ := h
    refine ⟨_, PSs.nox (pss_cons (ps_set (i := 1) sc_law.nd rfl (Or.inl rfl) (pe_cal CSt hr.lt (pa_cons (pv 0) pa_nil)))
      (pss_cons (ps_set (i := 2) sc_law.nd rfl (Or.inl rfl) (pe_cal CR hr.lt (pa_cons (pv 1) (pa_cons pe_int pa_nil))))
      (pss_cons (ps_set (i := 3) sc_law.nd rfl (Or.inl rfl) (pe_cal CE hr.lt (pa_cons (pv 1) (pa_cons pe_int pa_nil))))
      (pss_cons (ps_if (PW.pt (pw_or (pt_cmpR op_ne (pe_cal EV hr.lt (pa_cons (pv 3) (pa_cons (pv 2) pa_nil))) (pe_cal CO hr.lt (pa_cons (pv 3) (pa_cons (pv 2) pa_nil))) (nomark _))
          (pw_or1 (pt_val (pe_callB (id := "isinstance") (r := rIsi K) call_isi (by rfl) gI (by decide +kernel) (pa_cons (pe_cal EV hr.lt (pa_cons (pv 3) (pa_cons (pv 2) pa_nil))) (pa_cons (pe_bltn (v := .ty "bool") (by rfl) gB (by decide +kernel) rfl) pa_nil)))))))
        (pss_one (ps_ret pe_bl)) pss_nil)
      (pss_cons (ps_set (i := 4) sc_law.nd rfl (Or.inl rfl) (pe_cal CX hr.lt (pa_cons (pv 1) pa_nil)))
      (pss_cons (ps_if (pt_cmpR (op_neP hr.u64) (pe_cal MP hr.lt (pa_cons (pv 4) (pa_cons (pv 2) pa_nil))) (pe_cal CRo hr.lt (pa_cons (pv 4) (pa_cons (pv 2) pa_nil))) (nomark _)) (pss_one (ps_ret pe_bl)) pss_nil)
      (pss_cons (ps_set (i := 5) sc_law.nd rfl (Or.inl rfl) (pe_disp (pps_cons pe_str (pe_cal CB hr.lt (pa_cons (pv 1) (pa_cons pe_int pa_nil))) (pps_cons pe_str (pe_cal CB hr.lt (pa_cons (pv 1) (pa_cons pe_int pa_nil))) pps_nil)) rfl rfl (fun z => nomatch z) (by decide)))
      (pss_cons (ps_set (i := 6) sc_law.nd rfl (Or.inl rfl) (pe_disp (pps_cons pe_str (pe_cal CB hr.lt (pa_cons (pv 1) (pa_cons pe_int pa_nil))) pps_nil) rfl rfl (fun z => nomatch z) (by decide)))
      (pss_cons (ps_if (pt_cmpR op_eq (pe_cal C hr.lt (pa_cons (pv 1) (pa_cons pe_int pa_nil))) pe_int (nomark _))
        (pss_one (ps_dput hr.u1 (pv 6) pe_str (pe_slice sl_list (pe_lc (own := [("other", 7), ("count", 8)]) (g := gP2 K 7 8) (tt := tYes) (te := tTup (tCons (tVar 7) (tCons (tOp (rI0 fun i j => .int (i - j)) (tC (.int 0)) (tVar 8)) tNil))) (by rfl) sc_law.nd (pi_list (pe_dget hr.u1 (pv 5) pe_str (fun _ _ => rfl)))
            (blkOk_by (own := [("other", 7), ("count", 8)]) (N := ["script", "state", "row", "e", "exprs", "olds", "changes", "other", "count", "term", "kept", "simple"]) (sc := defScope s_law) (by decide +kernel))
            (fun _ _ _ _ _ => pg_tup rfl (pgs_cons (pg_name (i := 7) sc_law.nd rfl (Or.inl rfl)) (pgs_cons (pg_name (i := 8) sc_law.nd rfl (Or.inl rfl)) pgs_nil))) (fun _ _ _ _ _ => pts_nil)
            (fun _ _ _ _ _ => pe_tup (pa_cons (pv 7) (pa_cons (pe_op op_sub pe_int (pv 8)) pa_nil)))) po_none (po_some pe_int)) rfl)) pss_nil)
      (pss_cons (ps_set (i := 9) sc_law.nd rfl (Or.inl rfl) (pe_cal CT hr.lt (pa_cons (pv 1) (pa_cons (pe_op op_add pe_int (pe_cal C hr.lt (pa_cons (pv 1) (pa_cons pe_int pa_nil)))) (pa_cons (pe_lst (pa_cons pe_str (pa_cons pe_str (pa_cons pe_str pa_nil)))) pa_nil)))))
      (pss_cons (ps_set (i := 10) sc_law.nd rfl (Or.inl rfl) (pe_callB (call_reprX hG hr.u64) (by rfl) gP (by decide +kernel) (pa_cons (pe_lst (pa_cons (pv 9) (pa_cons (pv 5) (pa_cons (pv 6) (pa_cons (pv 4) pa_nil))))) pa_nil)))
      (pss_cons (ps_if (PW.pt (pw_or (pt_cmpR (op_neP hr.u64) (pe_cal VL hr (pa_cons (pv 9) (pa_cons (pv 5) (pa_cons (pv 6) pa_nil)))) (pe_cal CV hr.lt (pa_cons (pv 9) (pa_cons (pv 5) (pa_cons (pv 6) pa_nil)))) (nomark _))
          (pw_or1 (pt_cmpR (op_neP hr.u64) (pe_cal NI hr.lt (pa_cons (pv 9) pa_nil)) (pe_cal CN hr.lt (pa_cons (pv 9) pa_nil)) (nomark _)))))
        (pss_one (ps_ret pe_bl)) pss_nil)
      (pss_cons (ps_set (i := 11) sc_law.nd rfl (Or.inl rfl) (pe_cal CT hr.lt (pa_cons (pv 1) (pa_cons pe_int (pa_cons (pe_lst (pa_cons pe_str pa_nil)) pa_nil)))))
      (pss_cons (ps_if (pt_cmpR (op_neP hr.u64) (pe_cal NF hr.lt (pa_cons (pv 11) pa_nil)) (pe_cal CW hr.lt (pa_cons (pv 11) pa_nil)) (nomark _)) (pss_one (ps_ret pe_bl)) pss_nil)
      (pss_one (ps_ret (pe_cmpR op_eq (pe_callB (call_reprX hG hr.u64) (by rfl) gP (by decide +kernel) (pa_cons (pe_lst (pa_cons (pv 9) (pa_cons (pv 5) (pa_cons (pv 6) (pa_cons (pv 4) pa_nil))))) pa_nil)) (pv 10) (nomark _)))))))))))))))))), ?_⟩
    have sub : ∀ H' : Hp, Sub (frm H') H' := fun H' a o z => z
    refine ⟨_, rfl, a, ns, rfl, hS, hl, fun st cl H1 s1 ok1 => ?_⟩
    have t1 : Tabs T H1 := hT.ext s1
    -- row
    refine ⟨_, rfl, st, cl, 8, rfl, by decide, by decide, ok1, fun qr r H2 d2 _ hrow rok _ => ?_⟩
    have t2 := tabs_drawn d2 ok1 t1
    have row2 := row_fd hrow
    -- e
    refine ⟨_, rfl, st, cl, 3, rfl, by decide, by decide, d2.ok, fun e v H3 d3 te eo ed => ?_⟩
    have t3 := tabs_drawn d3 d2.ok t2
    have row3 := (Lk.drawn d3 d2.ok).fd _ _ row2
    have fe3 : Fd [] H3 v e.d := Tp.fd te
    have ok3 := d3.ok
    have ed3 : e.depth ≤ 3 := by omega
    clear te hrow row2 d3 d2 t2 t1 ok1 s1
    -- evaluate(e, row) != _law_of(e, row) or isinstance(evaluate(e, row), bool)
    refine ⟨_, rfl, _, rfl, v, qr, e, r, rfl, fd_dp fe3, eo, by omega, fd_row row3, rok.v, t3, fun H4 s4 t4 => ?_⟩
    have k4 := Lk.extn s4
    refine ⟨_, rfl, _, rfl, v, e, qr, r, rfl, fd_dp (k4.fd _ _ fe3), eo, by omega, fd_row (k4.fd _ _ row3), rok.v, fun H5 s5 => ne_key ⟨_, rfl, iteF ?_⟩⟩
    have k5 := k4.trans (Lk.extn (ExtN.of s5))
    refine ⟨_, rfl, _, rfl, v, qr, e, r, rfl, fd_dp (k5.fd _ _ fe3), eo, by omega, fd_row (k5.fd _ _ row3), rok.v, t4.ext s5, fun H6 s6 t6 => ?_⟩
    obtain ⟨ty, cu, ib1, ib2, ib3⟩ := isa_no (K := K) (H := H6) (e.val r)
    refine ⟨_, _, ty, cu, false, rfl, ib1, ib2, ib3, _, rfl, iteF ?_⟩
    have k6 := k5.trans (Lk.extn s6)
    have ok6 := stok_extn s6 ((stok_extn s4 ok3).same s5)
    have row6 := k6.fd _ _ row3
    clear k6 k5 k4 s6 s5 s4 t4 ok3 row3 fe3 t3 H4 H5 ed3
    -- exprs
    refine ⟨_, rfl, st, cl, rfl, ok6, fun px es H7 d7 _ hes oes => ?_⟩
    have t7 := tabs_drawn d7 ok6 t6
    have row7 := (Lk.drawn d7 ok6).fd _ _ row6
    have fx7 : Fd [] H7 (.ref px) (exsD es) := ExsAt.fd hes
    have be : ∀ {n : Nat}, 2 ≤ n → ExsB n es := fun h => ⟨Nat.le_trans oes.1 (by decide), fun e z => ⟨(oes.2 e z).1, by have := (oes.2 e z).2; omega⟩⟩
    -- mapped(exprs, row) != _law_rowed(exprs, row)
    refine ⟨_, rfl, _, rfl, px, qr, es, r, rfl, fd_exs fx7, be (by decide), fd_row row7, rok.v, t7, fun tq H8 s8 t8 hm => ?_⟩
    have k8 := Lk.extn s8
    refine ⟨_, rfl, _, rfl, px, qr, es, r, rfl, fd_exs (k8.fd _ _ fx7), be (by decide), fd_row (k8.fd _ _ row7), rok.v, fun tq2 H9 s9 hm2 => ?_⟩
    refine ne_dat (dp_row (hm.mono s9)) (dp_row hm2) (row_plain _) (Nat.le_trans (row_depth _) (by decide)) ⟨_, rfl, iteF ?_⟩
    have k9 := k8.trans (Lk.extn (ExtN.of s9))
    have ok9 := (stok_extn s8 d7.ok).same s9
    have t9 := t8.ext s9
    have fx9 := k9.fd _ _ fx7
    clear k9 k8 hm hm2 s9 s8 t8 row7 fx7 hes d7 t7 ok6 t6 row6 H7 H8
    -- olds
    intro po hpo
    have sA := same_new (o := .dK []) hpo
    have okA := ok9.same sA
    have tA := t9.ext sA
    have fxA := Fd.same sA fx9
    have poA : upd H9 po (.dK []) po = some (.dK []) := upd_same
    generalize upd H9 po (.dK []) = HA at sA okA tA fxA poA ⊢
    refine ⟨_, rfl, st, cl, 5, rfl, by decide, by decide, okA, fun pa ba H10 d10 hba gba => ?_⟩
    have k10 := Lk.drawn d10 okA
    have t10 := tabs_drawn d10 okA tA
    refine ⟨_, rfl, st, cl, 4, rfl, by decide, by decide, d10.ok, fun pb bb H11 d11 hbb gbb => ?_⟩
    have k11 := Lk.drawn d11 d10.ok
    have t11 := tabs_drawn d11 d10.ok t10
    have ka11 := k10.trans k11
    have po11 := ka11.dk _ _ poA
    refine ⟨po11, [(.inr "a", _), (.inr "b", _)], rfl, (by show 2 ≤ 15; decide), ?_⟩
    have olds : NbsAt (upd H11 po (.dK (mergeK [] [((.inr "a" : Key), V.ref pa), (.inr "b", V.ref pb)]))) po [(("a" : Str), pa, ba), (("b" : Str), pb, bb)] := ⟨upd_same, fun x hx => by
      simp only [List.mem_cons, List.not_mem_nil, or_false] at hx
      rcases hx with rfl | rfl
      · exact fd_dput po11 (k11.fd _ _ hba.fd)
      · exact fd_dput po11 hbb.fd⟩
    have okB : StOk (upd H11 po (.dK (mergeK [] [((.inr "a" : Key), V.ref pa), (.inr "b", V.ref pb)]))) st cl := stok_dput po11 d11.ok
    have tB : Tabs T (upd H11 po (.dK (mergeK [] [((.inr "a" : Key), V.ref pa), (.inr "b", V.ref pb)]))) := tabs_off po11 (fun ps z => by cases z) (fun φ z => by cases z) (Off.upd _ _ _) t11
    have fxB := fd_dput (o := .dK (mergeK [] [((.inr "a" : Key), V.ref pa), (.inr "b", V.ref pb)])) po11 (ka11.fd _ _ fxA)
    generalize upd H11 po (.dK (mergeK [] [((.inr "a" : Key), V.ref pa), (.inr "b", V.ref pb)])) = HB at olds okB tB fxB ⊢
    have no : ∀ x ∈ ([(("a" : Str), pa, ba), (("b" : Str), pb, bb)] : Nbs), x.1 = "a" ∨ x.1 = "b" := fun x hx => by
      simp only [List.mem_cons, List.not_mem_nil, or_false] at hx
      rcases hx with rfl | rfl
      · exact .inl rfl
      · exact .inr rfl
    have go : ∀ x ∈ ([(("a" : Str), pa, ba), (("b" : Str), pb, bb)] : Nbs), GoodBag x.2.2 := fun x hx => by
      simp only [List.mem_cons, List.not_mem_nil, or_false] at hx
      rcases hx with rfl | rfl
      · exact gba
      · exact gbb
    clear po11 ka11 t11 k11 t10 k10 hbb hba d11 d10 fxA poA okA tA sA hpo fx9 t9 ok9 H10 H11
    obtain ⟨lo, elo⟩ : ∃ lo : Nbs, lo = [(("a" : Str), pa, ba), (("b" : Str), pb, bb)] := ⟨_, rfl⟩
    rw [← elo] at olds no go
    -- changes
    intro pc hpc
    have sA := same_new (o := .dK []) hpc
    have okA := okB.same sA
    have tA := tB.ext sA
    have pcA : upd HB pc (.dK []) pc = some (.dK []) := upd_same
    have kA : Lk HB (upd HB pc (.dK [])) := Lk.extn (ExtN.of sA)
    generalize upd HB pc (.dK []) = HC at sA okA tA pcA kA ⊢
    refine ⟨_, rfl, st, cl, 3, rfl, by decide, by decide, okA, fun pca bca H12 d12 hbca gbca => ?_⟩
    have k12 := kA.trans (Lk.drawn d12 okA)
    have t12 := tabs_drawn d12 okA tA
    have pc12 := (Lk.drawn d12 okA).dk _ _ pcA
    refine ⟨pc12, [(.inr "a", _)], rfl, (by show 1 ≤ 15; decide), ?_⟩
    have ch : NbsAt (upd H12 pc (.dK (mergeK [] [((.inr "a" : Key), V.ref pca)]))) pc [(("a" : Str), pca, bca)] := ⟨upd_same, fun x hx => by
      simp only [List.mem_cons, List.not_mem_nil, or_false] at hx
      rw [hx]
      exact fd_dput pc12 hbca.fd⟩
    have kD : Lk HB (upd H12 pc (.dK (mergeK [] [((.inr "a" : Key), V.ref pca)]))) := lk_dput k12 hpc pc12 ⟨_, rfl⟩
    have okD : StOk (upd H12 pc (.dK (mergeK [] [((.inr "a" : Key), V.ref pca)]))) st cl := stok_dput pc12 d12.ok
    have tD : Tabs T (upd H12 pc (.dK (mergeK [] [((.inr "a" : Key), V.ref pca)]))) := tabs_off pc12 (fun ps z => by cases z) (fun φ z => by cases z) (Off.upd _ _ _) t12
    generalize upd H12 pc (.dK (mergeK [] [((.inr "a" : Key), V.ref pca)])) = HD at ch kD okD tD ⊢
    clear pc12 t12 k12 hbca d12 kA pcA tA okA sA H12 HC
    -- if .. changes["b"] = ..
    dsimp only [gName]
    refine seq_if (fun σ' H' => σ' = [some (.ref a), some (.ref st), some (.ref qr), some v, some (.ref px), some (.ref po), some (.ref pc), none, none, none, none, none] ∧ StOk H' st cl ∧ Tabs T H' ∧ Lk HB H' ∧
      ∃ lc : Nbs, NbsAt H' pc lc ∧ (∀ x ∈ lc, x.1 = "a" ∨ x.1 = "b") ∧ (∀ x ∈ lc, GoodBag x.2.2) ∧ lc.length ≤ 2) (fun R hR => ?_) ?_
    · refine ⟨_, rfl, st, cl, 2, rfl, okD, by decide, by decide, fun vd HF dF v0 v1 => ?_⟩
      have kF := kD.trans (Lk.drawn dF okD)
      have tF := tabs_drawn dF okD tD
      have chF := ch.lk (Lk.drawn dF okD)
      have nc0 : ∀ x ∈ ([(("a" : Str), pca, bca)] : Nbs), x.1 = "a" ∨ x.1 = "b" := fun x hx => by rw [List.mem_singleton.mp hx]; exact .inl rfl
      have gc0 : ∀ x ∈ ([(("a" : Str), pca, bca)] : Nbs), GoodBag x.2.2 := fun x hx => by rw [List.mem_singleton.mp hx]; exact gbca
      refine ⟨rfl, _, rfl, ite2 (fun _ => ?_) fun _ => ?_⟩
      · have oldsF := olds.lk kF
        rw [elo] at oldsF
        obtain ⟨a2, ea, hbF⟩ := dx_bag (sub HF) (oldsF.fd _ (List.mem_cons_of_mem _ List.mem_cons_self))
        obtain rfl : pb = a2 := by injection ea
        obtain ⟨ts, b1, b2⟩ := id hbF
        have tl : ts.length = bb.length := b2.length
        have bl := gbb.len
        have big : (100000 : Nat) ≤ sizeLine := by decide
        refine ⟨_, rfl, po, _, rfl, .inl ⟨_, .inr "b", .inl oldsF.hp, rfl, rfl⟩, pb, rfl, ⟨_, sq_l b1⟩, fun D hD => ?_⟩
        refine lc_it (walk_list (xs := ts.map V.ref)) (fun i H' => ExtN HF H' ∧ Tabs T H' ∧ BagAt H' D ((bb.take i).map fun e => (e.1, 0 - e.2))) ⟨extn_new hD, tabs_new hD tF, [], upd_same, .nil⟩ (fun i H' _ z => sq_l (z.1 _ _ b1 fun ps y => by cases y)) ?_ ?_
        · rintro i x _ H7 hi ⟨s7, t7, hbg⟩ ⟨rfl, hx⟩
          obtain ⟨t0, ht, rfl⟩ := ref_at hx
          rw [List.length_map] at hi
          obtain ⟨y, hy⟩ : ∃ y, bb[i]? = some y := ⟨_, List.getElem?_eq_getElem (by omega)⟩
          obtain ⟨qa, p1, p2⟩ := (each_get b2 ht hy).extn s7
          refine gp2 p1 ⟨rfl, yes_in ⟨_, rfl, _, rfl, _, _, rfl, rfl, by show 2 ≤ sizeLine; decide, fun pt hpt => ?_⟩⟩
          obtain ⟨vs, c1, c2⟩ := hbg
          have s78 : ExtN H7 (upd H7 pt (.tup [.ref qa, .int (0 - y.2)])) := extn_new hpt
          have c8 := s78 _ _ c1 fun ps z => by cases z
          have ul : vs.length ≤ i := by
            rw [c2.length, List.length_map, List.length_take]
            exact Nat.min_le_left ..
          refine ⟨_, c8, by rw [List.length_map]; omega, extn_mut (s7.trans s78) hD, tabs_lst c8 (tabs_new hpt t7), vs ++ [pt], by rw [upd_same, List.map_append]; rfl, ?_⟩
          rw [bag_take hy, List.map_append]
          show EachIs _ (vs ++ [pt]) (((bb.take i).map fun e => (e.1, 0 - e.2)) ++ [(y.1, 0 - y.2)])
          exact each_snoc1 (pair_upd (e := (y.1, 0 - y.2)) c8 ⟨qa, upd_same, p2.mono (same_new hpt)⟩) (c2.mono fun _ _ y => pair_upd c8 (y.extn s78))
        · rintro H7 ⟨s7, t7, hbg⟩
          rw [List.take_of_length_le (by rw [List.length_map]; omega)] at hbg
          obtain ⟨vs, c1, c2⟩ := hbg
          refine ⟨2, rfl, D, _, rfl, sq_l c1, fun c hc => ?_⟩
          rw [cut_refs vs (by decide)]
          have s8 : ExtN H7 (upd H7 c (.lst ((vs.take (2 : Int).toNat).map V.ref))) := extn_new hc
          have kG := Lk.extn (s7.trans s8)
          have chG := chF.lk kG
          have fb : Fd [] (upd H7 c (.lst ((vs.take (2 : Int).toNat).map V.ref))) (.ref c) (bagD ((bb.map fun e => (e.1, 0 - e.2)).take 2)) := BagAt.fd ⟨_, upd_same, eachs_take 2 (c2.mono fun _ _ y => y.extn s8)⟩
          have oG := stok_extn (s7.trans s8) dF.ok
          have tG := tabs_new (o := .lst ((vs.take (2 : Int).toNat).map V.ref)) hc t7
          have kFG := kF.trans kG
          generalize upd H7 c (.lst ((vs.take (2 : Int).toNat).map V.ref)) = HG at chG fb oG tG kFG ⊢
          refine ⟨_, rfl, pc, _, rfl, DPut.k (k := .inr "b") chG.hp (by show 1 < sizeLine; decide), ?_⟩
          refine hR _ _ ⟨rfl, stok_dput chG.hp oG, tabs_off chG.hp (fun ps z => by cases z) (fun φ z => by cases z) (Off.upd _ _ _) tG, lk_dput kFG hpc chG.hp ⟨_, rfl⟩, [(("a" : Str), pca, bca), (("b" : Str), c, (bb.map fun e => (e.1, 0 - e.2)).take 2)], ⟨upd_same, fun x hx => ?_⟩, fun x hx => ?_, fun x hx => ?_, by simp⟩
          · simp only [List.mem_cons, List.not_mem_nil, or_false] at hx
            rcases hx with rfl | rfl
            · exact fd_dput chG.hp (chG.fd _ List.mem_cons_self)
            · exact fd_dput chG.hp fb
          · simp only [List.mem_cons, List.not_mem_nil, or_false] at hx
            rcases hx with rfl | rfl
            · exact .inl rfl
            · exact .inr rfl
          · simp only [List.mem_cons, List.not_mem_nil, or_false] at hx
            rcases hx with rfl | rfl
            · exact gbca
            · exact good_neg gbb 2
      · exact hR _ _ ⟨rfl, dF.ok, tF, kF, [(("a" : Str), pca, bca)], chF, nc0, gc0, by simp⟩
    · rintro _ HE ⟨rfl, okE, tE, kE, lc, chE, nc, gc, llc⟩
      have oldsE := olds.lk kE
      have fxE := kE.fd _ _ fxB
      have llo : lo.length ≤ 2 := by rw [elo]; exact Nat.le_refl 2
      clear kE ch kD okD tD okB tB fxB olds hpc
      -- term
      refine ⟨_, rfl, _, rfl, st, cl, 3, rfl, okE, by decide, by decide, fun vd HF dF v0 v1 => ⟨_, _, rfl, rfl, by show 3 ≤ sizeLine; decide, fun kp hkp => ?_⟩⟩
      have sK := same_new (o := .lst [V.str "old", .str "change", .str "new"]) hkp
      refine ⟨st, cl, kp, 1 + vd, false, rfl, by omega, by omega, dF.ok.same sK, upd_same, fun t v2 HG dG ft bt => ?_⟩
      have kG : Lk HE HG := ((Lk.drawn dF okE).trans (Lk.extn (ExtN.of sK))).trans (Lk.drawn dG (dF.ok.same sK))
      have tG := tabs_drawn dG (dF.ok.same sK) ((tabs_drawn dF okE tE).ext sK)
      have okG := dG.ok
      have oldsG := oldsE.lk kG
      have chG := chE.lk kG
      have fxG := kG.fd _ _ fxE
      have tin : t.In := ⟨bt.ok, by have := bt.dp; omega, by have := bt.jn; omega⟩
      clear kG sK dG dF fxE chE oldsE tE okE hkp
      have td := tin.dp
      have hex : (cxOf CX0 P w K mg base ["script", "state", "row", "e", "exprs", "olds", "changes", "other", "count", "term", "kept", "simple"] "law" (defScope s_law) f cdv A outer s H E).nox.ex = [] := rfl
      obtain ⟨sh, ln⟩ := law_pr tin.ok td no go llo nc gc llc oes
      have rd : ∀ (H' : Hp) (L : Addr), NbsAt H' po lo → NbsAt H' pc lc → Fd [] H' v2 t.d → Fd [] H' (.ref px) (exsD es) → H' L = some (.lst [v2, .ref po, .ref pc, .ref px]) →
          Readable (cxOf CX0 P w K mg base ["script", "state", "row", "e", "exprs", "olds", "changes", "other", "count", "term", "kept", "simple"] "law" (defScope s_law) f cdv A outer s H E).nox H' (.ref L) (lawAll t lo lc es) := fun H' L h1 h2 h3 h4 h5 =>
        rd_lst hex hH hsys h5 (ra_cons (rd_fd hex hH hsys h3) (ra_cons (rd_nbs hex hH hsys h1) (ra_cons (rd_nbs hex hH hsys h2) (ra_cons (rd_fd hex hH hsys h4) ra_nil))))
      -- kept
      refine ⟨_, rfl, _, rfl, _, rfl, _, rfl, by show 4 ≤ sizeLine; decide, fun L hL => ?_⟩
      have sL := same_new (o := .lst [v2, V.ref po, .ref pc, .ref px]) hL
      have kL := Lk.extn (ExtN.of sL)
      refine ⟨L, lawAll t lo lc es, rfl, rd _ _ (oldsG.lk kL) (chG.lk kL) (kL.fd _ _ ft) (kL.fd _ _ fxG) upd_same, sh, ln, lawAll_depth tin.ok td oes, ?_⟩
      have oldsL := oldsG.lk kL
      have chL := chG.lk kL
      have fxL := kL.fd _ _ fxG
      have ftL := kL.fd _ _ ft
      have okL := okG.same sL
      have tL := tG.ext sL
      generalize upd HG L (.lst [v2, V.ref po, .ref pc, .ref px]) = HI at oldsL chL fxL ftL okL tL ⊢
      clear kL sL hL ft fxG chG oldsG okG tG
      -- value(term, olds, changes) != _law_value(term, olds, changes)
      obtain ⟨vi, g2⟩ := valIn_of oldsL chL go gc
      refine ⟨_, rfl, _, rfl, _, rfl, v2, po, pc, t, lo.fn, lc.fn, frm HI, rfl, sub HI, ftL, tin, vi, g2, tL, fun w1 HJ sJ tJ hw1 => ?_⟩
      have kJ := Lk.extn sJ
      have oldsJ := oldsL.lk kJ
      have chJ := chL.lk kJ
      have ftJ := kJ.fd _ _ ftL
      have fxJ := kJ.fd _ _ fxL
      have okJ := stok_extn sJ okL
      obtain ⟨viJ, _⟩ := valIn_of oldsJ chJ go gc
      have d1 : Dp K HJ w1 (bagD (t.value lo.fn lc.fn)) := dx_dp (mx_sub _ _ _) hw1
      refine ⟨_, rfl, _, rfl, _, rfl, v2, po, pc, t, lo.fn, lc.fn, frm HJ, rfl, sub HJ, ftJ, by omega, tin.ok, Tm.In.fits g2 t tin, viJ, tJ, fun w2 HK sK tK hw2 => ?_⟩
      have d2 : Dp K HK w2 (bagD (t.value lo.fn lc.fn)) := dx_dp (mx_sub _ _ _) hw2
      refine ne_dat (Dp.extn sK _ _ d1) d2 (bag_plain _) (Nat.le_trans (bag_depth _) (by decide)) ⟨_, rfl, iteF ?_⟩
      have kK := Lk.extn sK
      have oldsK := oldsJ.lk kK
      have chK := chJ.lk kK
      have ftK := kK.fd _ _ ftJ
      have fxK := kK.fd _ _ fxJ
      have okK := stok_extn sK okJ
      clear d1 d2 hw1 hw2 viJ vi kK kJ sK sJ oldsJ chJ ftJ fxJ okJ tJ oldsL chL fxL ftL okL tL HJ HI
      -- names_in(term) != _law_names(term)
      refine ⟨_, rfl, v2, t, frm HK, rfl, sub HK, ftK, by omega, tK, fun q1 HL sL tL hs1 => ?_⟩
      have kL := Lk.extn sL
      refine ⟨_, rfl, v2, t, frm HL, rfl, sub HL, kL.fd _ _ ftK, by omega, fun q2 HM sM hs2 => ?_⟩
      refine ne_dat (Dp.mono sM (strs_dat hs1)) (strs_dat hs2) (strs_plain _).1 (strs_plain _).2 ⟨_, rfl, iteF ?_⟩
      have kM := kL.trans (Lk.extn (ExtN.of sM))
      have oldsM := oldsK.lk kM
      have chM := chK.lk kM
      have ftM := kM.fd _ _ ftK
      have fxM := kM.fd _ _ fxK
      have okM := (stok_extn sL okK).same sM
      have tM := tL.ext sM
      clear kM kL hs1 hs2 sM sL tL oldsK chK ftK fxK okK tK HL HK
      -- simple
      refine ⟨_, rfl, by show 1 ≤ sizeLine; decide, fun kp2 hkp2 => ?_⟩
      have sK := same_new (o := .lst [V.str "old"]) hkp2
      refine ⟨st, cl, kp2, 3, true, rfl, by decide, by decide, okM.same sK, upd_same, fun u v3 HN dN fu bu => ?_⟩
      have kN : Lk HM HN := (Lk.extn (ExtN.of sK)).trans (Lk.drawn dN (okM.same sK))
      have tN := tabs_drawn dN (okM.same sK) (tM.ext sK)
      have oldsN := oldsM.lk kN
      have chN := chM.lk kN
      have ftN := kN.fd _ _ ftM
      have fxN := kN.fd _ _ fxM
      have ud : u.depth ≤ 3 := by have := bu.dp; omega
      have us := bu.sm rfl
      clear kN sK hkp2 dN oldsM chM ftM fxM okM tM
      -- new_form(simple) != _law_new(simple)
      refine ⟨_, rfl, v3, u, frm HN, rfl, sub HN, fu, us, by omega, tN, fun x1 HP sP tP hx1 => ?_⟩
      have kP := Lk.extn sP
      refine ⟨_, rfl, v3, u, frm HP, rfl, sub HP, kP.fd _ _ fu, us, by omega, fun x2 HR sR hx2 => ?_⟩
      have d1 : Dp K HP x1 u.newf.d := dx_dp (mx_sub _ _ _) hx1
      have d2 : Dp K HR x2 u.newf.d := dx_dp (mx_sub _ _ _) hx2
      obtain ⟨no1, no2⟩ := newf_ok u bu.ok
      have pl := tm_plain u.newf no1
      refine ne_dat (Dp.mono sR d1) d2 pl.1 (by have := pl.2; omega) ⟨_, rfl, iteF ?_⟩
      have kR := kP.trans (Lk.extn (ExtN.of sR))
      -- repr([..]) == kept
      refine ⟨_, rfl, _, rfl, _, rfl, _, rfl, by show 4 ≤ sizeLine; decide, fun L2' hL2 => ?_⟩
      have kS := kR.trans (Lk.extn (extn_new (o := .lst [v2, V.ref po, .ref pc, .ref px]) hL2))
      refine ⟨L2', lawAll t lo lc es, rfl, rd _ _ (oldsN.lk kS) (chN.lk kS) (kS.fd _ _ ftN) (kS.fd _ _ fxN) upd_same, sh, ln, lawAll_depth tin.ok td oes, ?_⟩
      refine ⟨_, rfl, rfl, ?_⟩
      rw [decide_eq_true rfl]
      exact q _
end
end KA
set_option Elab.async false
set_option linter.all false
set_option maxRecDepth 100000
set_option maxHeartbeats 0
/-! the head's run -/
namespace KA
open PySem PySem.Spec PyProof.Rows L2
abbrev R : PySem.W.OpenRow := PySem.W.OpenLaw.row PySem.Challenge.rw_deltaloom_k02_expressions_and_terms
def ts : List He.Tab := [((fun K => He.ga K "MANY_PARTS"), ["map", "keep", "plus", "neg", "join", "once", "fold"])]
def tf : List He.Defn := [("evaluate", none), ("value", none), ("_law_folded", none)]
def cE (K : PySem.W.Frag) : Addr × Addr := He.cT K ("evaluate", none)
def cV (K : PySem.W.Frag) : Addr × Addr := He.cT K ("value", none)
def cF (K : PySem.W.Frag) : Addr × Addr := He.cT K ("_law_folded", none)
def ex (K : PySem.W.Frag) : Bool := ((He.Fa.glo "MANY_PARTS").ok K && He.valsB K (He.ga K "MANY_PARTS") [("map", .int 1), ("keep", .int 1), ("plus", .int 2), ("neg", .int 1), ("join", .int 2), ("once", .int 1), ("fold", .int 1)]) &&
  ((He.eqO (PySem.W.nsIn K (He.ga K "MANY_PARTS") "bag") (some none) && He.eqO (PySem.W.nsIn K (He.ga K "MANY_PARTS") "old") (some none)) && (He.eqO (PySem.W.nsIn K (He.ga K "MANY_PARTS") "change") (some none) && He.eqO (PySem.W.nsIn K (He.ga K "MANY_PARTS") "new") (some none))) &&
  (decide ((cE K).2 ≠ (cV K).2) && (decide ((cE K).2 ≠ (cF K).2) && decide ((cV K).2 ≠ (cF K).2)))
abbrev hk : PySem.W.Hook where
  α := He.AlX × Bool
  obs := fun s => (He.obsX 4 fa fn ts tf ex s.heap.get?, (s.heap.get? sysModules).isSome)
  val := fun w => (He.valX fn ts w, true)
  says := fun w h => (∃ K : PySem.W.Frag, K.In h ∧ He.SaysX fa fn ts tf ex w h K) ∧ ∃ o, h.get? sysModules = some o
  of := fun w s e => ⟨(He.hookX 4 fa fn ts tf ex).of w s (congrArg (fun z : He.AlX × Bool => z.1) e), Option.isSome_iff_exists.mp (congrArg (fun z : He.AlX × Bool => z.2) e)⟩
  keeps := fun w h h' ⟨y, o, e⟩ k => ⟨(He.hookX 4 fa fn ts tf ex).keeps w h h' y k, o, k _ _ e⟩
def ob (s : PySem.W.SharedT) : He.AlX × Bool := (He.obsX 4 fa fn ts tf ex (HandSHeadRun.getT s), (HandSHeadRun.getT s sysModules).isSome)
theorem ob_eq (s : PySem.W.SharedT) : ob s = hk.obs s.abs := by
  have e : HandSHeadRun.getT s = s.abs.heap.get? := funext (HandSHeadRun.getT_eq s)
  unfold ob
  rw [e]
def loose : List PySem.Str := (["SPAN", "LOWEST", "LONGEST_TEXT", "wrap", "rank", "row_rank", "make_bag", "plus", "scaled", "rows_of", "support", "in_postorder", "worked_out", "evaluate", "mapped", "number", "operands", "result", "calculated", "arithmetic", "MANY_PARTS", "parts_of", "with_parts", "names_in", "new_form"] : List PySem.Str) ++ (["renewed", "value", "denoted", "altered", "grouped", "joined", "folded", "group_result", "_law_state", "_law_draw", "_law_one", "_law_row", "_law_key", "_law_canon", "_law_bag", "_law_expr", "_law_exprs", "_law_leaf", "_law_grown", "_law_term", "_law_wrapped", "_law_number", "_law_of", "_law_rowed", "_law_added"] : List PySem.Str) ++ (["_law_folded", "_law_below", "_law_named", "_law_value", "_law_names", "_law_new"] : List PySem.Str)
theorem run (w : World) : HandSHeadRun.RunEq R (PySem.W.view R.prog [62]) hk ob 8000 loose w :=
  PySem.W.byRow2 "special-get-raises" (P := fun w => HandSHeadRun.RunEq R (PySem.W.view R.prog [62]) hk ob 8000 loose w) (fun w os => by kernel_rfl) (fun w os => by kernel_rfl) w
end KA
set_option Elab.async false
set_option linter.all false
set_option maxRecDepth 100000
set_option maxHeartbeats 4000000
/-! the law called by the claim's caller, over a heap with tables of code objects -/
namespace KA
open PySem PySem.Spec PyProof.Rows L2 LamX
section
variable {P : Program} {w : World} {K : PySem.W.Frag} {mg : Str → Option Value} {base : Heap} {f : Addr} {fd : FuncData} {T : List (Addr × Str)}
abbrev lawN : List Str := ["script", "state", "row", "e", "exprs", "olds", "changes", "other", "count", "term", "kept", "simple"]
/-- the law's def, entered by callerA -/
theorem law_enter (F : FnP K "law" s_law f fd) (cs : Cals P w K mg base T) (gI : mg "isinstance" = none) (gB : mg "bool" = none) (gP : mg "repr" = none) {s : Shared} {H : Hp} {u : Value} {v : V} {Q : VK} {o0 : Obj} (sys : s.heap.get? sysModules = some o0)
    (e0 : Env0 P w K mg base callerA [] s H) (bd : BindsTo s fd ⟨[u], []⟩ [("script", u)]) (rv : RelV v u) (h : spLaw K T [v] H Q fun _ _ _ => False) :
    codeAny (model P w) callerA (.call (.ref f) ⟨[u], []⟩) (CR CX0 [] P w H s Q fun _ _ _ => False) s := by
  obtain ⟨oc, od, dV, kV, doc, pm, an, cdv, ct, osl, rfl, at_f, code_f, _, _⟩ := F.ex
  have room : Room 16 callerA := ⟨rfl, by decide, by decide⟩
  have inK : K.In s.heap := e0.mod.kin.keeps fun b o z => (e0.bs b o z).1
  have nolim : s.heap.NoLimit := e0.mod.nolimit.keeps fun b o z => (e0.bs b o z).1
  have vals1 : Vals [v] [u] := .cons rv .nil
  refine codeAny_call_function room.depth (inK _ _ at_f) rfl sc_law.co sc_law.gen rfl (PySem.W.codeRec_of inK code_f) (bd _ _ _ _ ?_)
  refine wpAny_newFunctionEnv_cells sc_law.kind (fun y hy => ?_) fun env henv s1 born => ?_
  · obtain ⟨n, z⟩ := y
    have hm := (List.of_mem_zip (show (n, z) ∈ (["script"] : List Str).zip [u] from hy)).1
    rcases sc_law.par n hm with q | q
    · exact .inl q
    · exact .inr ⟨q, PySem.W.cellsFrom_some _ _ _ (.inl q)⟩
  · subst henv
    refine ⟨nolim.keeps born.toInCall.keep, codeAny_func ?_⟩
    obtain ⟨t, ht, hq⟩ := law_body (f := f) (cdv := cdv) (A := callerA) (outer := []) (s := s) rfl sys (room.deeper _) cs gI gB gP h
    have I := inv_start (CX := CX0) (E := fun _ _ _ => False) (us := [u]) sc_law room.hd e0 rfl vals1 born
    have out : ∀ {σ' : L2.St} {H' : Hp} {x : V} {z : Value} {s' : Shared}, Inv (cxOf CX0 P w K mg base lawN "law" (defScope s_law) f cdv callerA [] s H fun _ _ _ => False) [] σ' H' s' → RelV x z → Q x H' → CE [] P w H s Q z s' :=
      fun {σ' H' x z s'} J r q => ⟨x, H', J.os, J.bare, J.base, J.hok, r, q⟩
    refine wpAny_mono (ht.run [] s1 _ H _ I hq) (fun fl s' hs => ?_) fun e s' hs => hs
    match fl, hs with
    | .ret z, ⟨x, σ', H', J, r, q⟩ => exact out J r q
    | .next, ⟨σ', H', J, q⟩ => exact out (x := V.non) (z := Value.none) J rfl q
    | .brk, ⟨_, _, _, q⟩ => exact q.elim
    | .cont, ⟨_, _, _, q⟩ => exact q.elim
end
/-- the heap at the law's entry: the script, held, and the tables -/
def entryH (a : Addr) (ob : Obj) (xs : List V) (seen : Bool) (tb : List Addr) : Hp := fun b => if b ∈ tb then some (.tbl #[]) else if b = a ∧ seen = true then some (.frz ob (.lst xs)) else none
section
variable {P : Program} {w : World} {K : PySem.W.Frag} {mg mb : Str → Option Value} {f a : Addr} {fd : FuncData} {T : List (Addr × Str)}
/-- the law's answer over a heap with a script in it -/
theorem law_says {s₁ : Shared} {vs : List Value} {ns : List Int} {o0 : Obj} {tabs : List (Addr × Addr)} (inK : K.In s₁.heap) (gl : s₁.heap.Ns mainGlobals mg) (bl : s₁.heap.Ns builtinsNs mb) (bb : ∀ x : Str, x ≠ "__name__" → mb x = bootBuiltins x)
    (nolim : s₁.heap.NoLimit) (nogen : s₁.gens = #[]) (sys : s₁.heap.get? sysModules = some o0)
    (bmn : ∃ (bm : Addr) (ob : Obj), mg "__builtins__" = some (.ref bm) ∧ bm ≠ builtinsNs ∧ s₁.heap.get? bm = some ob ∧ ob.cls = .type "module" ∧ ob.dict = some builtinsNs ∧ ob.data = .plain)
    (tE : ∀ p ∈ tabs, s₁.heap.get? p.2 = some { cls := .none, data := .fields #[] }) (tN : ∀ p ∈ tabs, K.lookup p.2 = none) (tC : ∀ p ∈ tabs, PySem.W.codeHdIn K p.1 p.2 = true)
    (at_a : s₁.heap.get? a = some { cls := .type "list", data := .seq vs.toArray }) (isI : IntsAre vs ns) (few : ns.length ≤ 63)
    (F : FnP K "law" s_law f fd) (bd : ∀ (s : Shared) (u : Value), BindsTo s fd ⟨[u], []⟩ [("script", u)]) (cs : ∀ base : Heap, K.In base → base.Ns mainGlobals mg → (∀ p ∈ tabs, TabB base mg p.1 p.2) → Cals P w K mg base T)
    (hT : ∀ H : Hp, (∀ p ∈ tabs, H p.2 = some (.tbl #[])) → Tabs T H) (gI : mg "isinstance" = none) (gB : mg "bool" = none) (gP : mg "repr" = none) :
    codeAny (model P w) callerA (.call (.ref f) ⟨[.ref a], []⟩) (fun r s' => r = .ok (.ret (.bool true)) ∧ OldK s₁.heap s'.heap ∧ s'.os = s₁.os ∧ AllBare s'.gens) s₁ := by
  have rv := vals_ints isI
  have lenV := isI.length
  have few2 : ns.length ≤ sizeLine := Nat.le_trans few (by decide)
  -- what stands in a table
  have inT : ∀ {b : Addr}, b ∈ tabs.map (·.2) → ∃ p ∈ tabs, p.2 = b := fun h => List.mem_map.mp h
  have objT : ∀ {b : Addr}, b ∈ tabs.map (·.2) → s₁.heap.get? b = some { cls := .none, data := .fields #[] } := fun h => by
    obtain ⟨p, hp, rfl⟩ := inT h
    exact tE p hp
  have naT : a ∉ tabs.map (·.2) := fun h => by
    have e := (objT h).symm.trans at_a
    have e2 : Data.fields #[] = Data.seq vs.toArray _ := congrArg Obj.data (Option.some.inj e)
    cases e2
  -- for a choice whether the script is tracked
  have go : ∀ seen : Bool, SqL K (entryH a { cls := .type "list", data := .seq vs.toArray } (ns.map V.int) seen (tabs.map (·.2))) a (ns.map V.int) → (seen = true → K.lookup a = none) →
      codeAny (model P w) callerA (.call (.ref f) ⟨[.ref a], []⟩) (fun r s' => r = .ok (.ret (.bool true)) ∧ OldK s₁.heap s'.heap ∧ s'.os = s₁.os ∧ AllBare s'.gens) s₁ := by
    intro seen
    obtain ⟨H, eH⟩ : ∃ H, H = entryH a { cls := .type "list", data := .seq vs.toArray } (ns.map V.int) seen (tabs.map (·.2)) := ⟨_, rfl⟩
    rw [← eH]
    intro hS notK
    have atT : ∀ p ∈ tabs, H p.2 = some (.tbl #[]) := fun p hp => by
      rw [eH]
      exact if_pos (List.mem_map.mpr ⟨p, hp, rfl⟩)
    have cases3 : ∀ b, H b = none ∨ (b ∈ tabs.map (·.2) ∧ H b = some (.tbl #[])) ∨ (b = a ∧ seen = true ∧ H b = some (.frz { cls := .type "list", data := .seq vs.toArray } (.lst (ns.map V.int)))) := fun b => by
      rw [eH]
      unfold entryH
      by_cases h1 : b ∈ tabs.map (·.2)
      · exact .inr (.inl ⟨h1, if_pos h1⟩)
      · rw [if_neg h1]
        by_cases h2 : b = a ∧ seen = true
        · exact .inr (.inr ⟨h2.1, h2.2, if_pos h2⟩)
        · exact .inl (if_neg h2)
    have hok : HOk P w H s₁.heap := fun b u e => by
      rcases cases3 b with h | ⟨h, h'⟩ | ⟨h, _, h'⟩
      · rw [h] at e
        cases e
      · rw [h'] at e
        cases e
        exact objT h
      · rw [h'] at e
        cases e
        rw [h]
        exact ⟨at_a, by rw [List.length_map]; exact few2, vs, _, rv, at_a⟩
    have held : HeldOnly H := fun b u e => by
      rcases cases3 b with h | ⟨_, h'⟩ | ⟨_, _, h'⟩
      · rw [h] at e
        cases e
      · rw [h'] at e
        cases e
        exact .inl ⟨_, rfl⟩
      · rw [h'] at e
        cases e
        exact .inr ⟨_, _, rfl⟩
    -- what is neither a list nor a table is not tracked
    have away : ∀ {b : Addr} {o : Obj}, s₁.heap.get? b = some o → (∀ xs n, o.data ≠ .seq xs n) → (∀ xs, o.data ≠ .fields xs) → H b = none := fun {b o} e n1 n2 => by
      rcases cases3 b with h | ⟨h, _⟩ | ⟨h, _, _⟩
      · exact h
      · rw [objT h] at e
        cases e
        exact absurd rfl (n2 _)
      · rw [h, at_a] at e
        cases e
        exact absurd rfl (n1 _ _)
    have ns_of : ∀ {b : Addr} {m : Str → Option Value}, s₁.heap.Ns b m → (hidT s₁.heap H).Ns b m := fun {b m} ⟨o, es, ep, e, d, r⟩ => ⟨o, es, ep, hidT_get e (away e (fun xs n z => by rw [d] at z; cases z) fun xs z => by rw [d] at z; cases z), d, r⟩
    have K_of : K.In (hidT s₁.heap H) := fun b o e => hidT_get (inK b o e) (by
      rcases cases3 b with h | ⟨h, _⟩ | ⟨h, hs, _⟩
      · exact h
      · obtain ⟨p, hp, rfl⟩ := inT h
        rw [tN p hp] at e
        cases e
      · rw [h, notK hs] at e
        cases e)
    obtain ⟨mc, lim1, lim2⟩ := nolim
    have M1 : Mod K mg (hidT s₁.heap H) := ⟨K_of, ns_of gl, ⟨mb, ns_of bl, bb⟩, mc, ns_of lim1, lim2⟩
    have noEx : ∀ b : Addr, b ∉ ([] : List Addr) := fun b z => by cases z
    have TB : ∀ p ∈ tabs, TabB (hidT s₁.heap H) mg p.1 p.2 := fun p hp => by
      have glob : ∃ o, s₁.heap.get? mainGlobals = some o ∧ ∃ es ep, o.data = .dict es ep := let ⟨o, es, ep, e, d, _⟩ := gl; ⟨o, e, es, ep, d⟩
      obtain ⟨og, eg, es, ep, dg⟩ := glob
      obtain ⟨bm, ob, b1, b2, b3, b4, b5, b6⟩ := bmn
      refine ⟨PySem.W.codeHd_of_K K_of (tC p hp), ⟨bm, ob, b1, b2, fun z => ?_, fun z => ?_, hidT_get b3 (away b3 (fun xs n z => by rw [b6] at z; cases z) fun xs z => by rw [b6] at z; cases z), b4, b5, b6⟩, fun z => ?_⟩
      · rw [z, eg] at b3
        cases b3
        rw [dg] at b6
        cases b6
      · rw [z, tE p hp] at b3
        cases b3
        cases b6
      · rw [z, tE p hp] at eg
        cases eg
        cases dg
    have e0 : Env0 P w K mg (hidT s₁.heap H) callerA [] s₁ H := ⟨rfl, M1, fun b o e => of_hidT e, Nat.le_of_eq (hidT_size _ _), trivial, fun b z => absurd z (noEx b), hok, .of_eq nogen⟩
    refine codeAny_mono (law_enter (Q := fun v _ => v = .bl true) F (cs _ K_of (ns_of gl) TB) gI gB gP sys e0 (bd s₁ (.ref a)) (v := .ref a) rfl ⟨a, ns, rfl, hS, few, hT H atT, held, fun _ => rfl⟩) fun r s' h => ?_
    match r, h with
    | .error e, h => exact (h : False).elim
    | .ok .next, h => exact (h : False).elim
    | .ok .brk, h => exact (h : False).elim
    | .ok .cont, h => exact (h : False).elim
    | .ok (.ret u), ⟨v, H', os, bare, un, hok', r', q⟩ =>
      subst q
      have eu : u = Value.bool true := r'
      subst eu
      have same : ∀ b o, b ∉ tabs.map (·.2) → s₁.heap.get? b = some o → s'.heap.get? b = some o := fun b o nt e => by
        rcases cases3 b with h | ⟨h, _⟩ | ⟨h, _, h'⟩
        · exact un.keep b o e h (noEx b) (by simp)
        · exact absurd h nt
        · obtain ⟨e1, _⟩ := hok b _ h'
          obtain ⟨e2, _⟩ := hok' b _ (un.frzs b _ _ h')
          rw [e] at e1
          cases e1
          exact e2
      have more : ∀ b, b ∈ tabs.map (·.2) → ∃ xs : Array Value, s'.heap.get? b = some { cls := .none, data := .fields xs } := fun b h => by
        obtain ⟨p, hp, rfl⟩ := inT h
        obtain ⟨xs, z⟩ := un.tbls _ _ (atT p hp)
        exact ⟨_, hok' _ _ z⟩
      refine ⟨rfl, ⟨fun b o e => ?_, fun b o e => ?_⟩, os, bare⟩
      · by_cases hb : b ∈ tabs.map (·.2)
        · obtain ⟨xs, z⟩ := more b hb
          obtain ⟨p, hp, rfl⟩ := inT hb
          rw [tE p hp] at e
          cases e
          exact .inr (.inl ⟨((PySem.W.codeHd_of_K inK (tC p hp)).tab (tE p hp)).isCodeTable, rfl, #[], xs, rfl, by rw [Array.empty_append]; exact z⟩)
        · exact .inl (same b o hb e)
      · by_cases hb : b ∈ tabs.map (·.2)
        · obtain ⟨xs, z⟩ := more b hb
          exact ⟨_, z⟩
        · exact ⟨o, same b o hb e⟩
  cases hk : K.lookup a with
  | some o =>
    have e := inK a o hk
    rw [at_a] at e
    cases e
    exact go false (.inr ⟨_, vs.toArray, _, hk, rfl, rfl, rfl, by rw [List.size_toArray, lenV]; exact few2, by simpa using rv⟩) fun z => by cases z
  | none =>
    refine go true (.inl (.inr ⟨{ cls := .type "list", data := .seq vs.toArray }, ?_⟩)) fun _ => hk
    show (if a ∈ tabs.map (·.2) then some (HO.tbl #[]) else if a = a ∧ true = true then some (HO.frz { cls := .type "list", data := .seq vs.toArray } (.lst (ns.map V.int))) else none) = _
    rw [if_neg naT, if_pos ⟨rfl, rfl⟩]
end
end KA
set_option Elab.async false
set_option linter.all false
set_option maxRecDepth 100000
set_option maxHeartbeats 4000000
/-! the facts of the top -/
namespace KA
open PySem PySem.Spec PyProof.Rows L2 LamX
section
variable {P : Program} {w : World} {K : PySem.W.Frag} {mg : Str → Option Value} {h : Heap}
/-- a def of the top, with its promise, by its name -/
theorem cal_of {x : Str} {st : Stmt} {f : Addr} {fd : FuncData} {base : Heap} {j k : Nat} {ps : List Str} {sp : Sp} (F : FnP K x st f fd) (g : mg x = some (.ref f)) (b : Binds K fd ps []) (G : FnOk P w K mg base CX0 j f fd ps sp) (h : j ≤ k := by decide) : Cal P w K mg base x k ps sp := ⟨f, fd, g, F.kp, b, G.mono h⟩
theorem calC_of {x : Str} {st : Stmt} {f : Addr} {fd : FuncData} {base : Heap} {k : Nat} {sp : CloT → Sp} (F : FnP K x st f fd) (g : mg x = some (.ref f)) (G : FnC P w K mg base k f sp) : CalC P w K mg base x k sp := ⟨f, g, F.kp, G⟩
theorem fnC_mono {f : Addr} {base : Heap} {j k : Nat} {sp : CloT → Sp} (G : FnC P w K mg base j f sp) (h : j ≤ k) : FnC P w K mg base k f sp := ⟨fun A outer s H us vs Q hr => G.run A outer s H us vs Q (hr.mono h)⟩
theorem code_ref {x : Str} {st : Stmt} {fd : FuncData} (F : FnP K x st (He.fAd K (x, none)) fd) : fd.code = .ref (He.codeOf K (x, none)) := by
  obtain ⟨oc, od, dV, kV, doc, pm, an, cdv, ct, osl, rfl, at_f, code_f, _, _⟩ := F.ex
  obtain ⟨c, rfl⟩ := He.codeIn_ref code_f
  rw [He.codeOf_eq at_f rfl]
theorem many_at {dm : Addr} (D : ∃ es n, KDict K w dm es n) (v : He.valsB K dm [("map", .int 1), ("keep", .int 1), ("plus", .int 2), ("neg", .int 1), ("join", .int 2), ("once", .int 1), ("fold", .int 1)] = true)
    (h1 : PySem.W.nsIn K dm "bag" = some none) (h2 : PySem.W.nsIn K dm "old" = some none) (h3 : PySem.W.nsIn K dm "change" = some none) (h4 : PySem.W.nsIn K dm "new" = some none) : ManyAt K w dm := by
  have one : ∀ (x : Str) (n : Nat), (x, He.Dv.int n) ∈ ([("map", .int 1), ("keep", .int 1), ("plus", .int 2), ("neg", .int 1), ("join", .int 2), ("once", .int 1), ("fold", .int 1)] : List (Str × He.Dv)) → ∃ u, PySem.W.nsIn K dm x = some (some u) ∧ RelV (.int (n : Nat)) u := fun x n hm => He.valsB_ok v hm
  refine ⟨D, fun t => ?_⟩
  cases t with
  | name k n => cases k with
    | old => exact .inl ⟨rfl, h2⟩
    | change => exact .inl ⟨rfl, h3⟩
    | new => exact .inl ⟨rfl, h4⟩
  | bag b => exact .inl ⟨rfl, h1⟩
  | map es t => exact .inr (one "map" 1 (by simp))
  | keep e t => exact .inr (one "keep" 1 (by simp))
  | neg t => exact .inr (one "neg" 1 (by simp))
  | once t => exact .inr (one "once" 1 (by simp))
  | fold ks k e t => exact .inr (one "fold" 1 (by simp))
  | plus a b => exact .inr (one "plus" 2 (by simp))
  | join l r es a b => exact .inr (one "join" 2 (by simp))
theorem top_facts (X : K.In h) (G : h.Ns mainGlobals mg) {f : Addr} (gf : mg ("law" : Str) = some (.ref f)) (cx : He.SaysX fa fn ts tf ex w h K) :
    ∃ (fd : FuncData) (T : List (Addr × Str)) (tabs : List (Addr × Addr)), FnP K "law" s_law f fd ∧ (∀ (s : Shared) (u : Value), BindsTo s fd ⟨[u], []⟩ [("script", u)]) ∧
      (∀ p ∈ tabs, h.get? p.2 = some { cls := .none, data := .fields #[] }) ∧ (∀ p ∈ tabs, K.lookup p.2 = none) ∧ (∀ p ∈ tabs, PySem.W.codeHdIn K p.1 p.2 = true) ∧
      (∀ base : Heap, K.In base → base.Ns mainGlobals mg → (∀ p ∈ tabs, TabB base mg p.1 p.2) → Cals P w K mg base T) ∧ (∀ H : Hp, (∀ p ∈ tabs, H p.2 = some (.tbl #[])) → Tabs T H) ∧
      mg "isinstance" = none ∧ mg "bool" = none ∧ mg "repr" = none := by
  have c : He.SaysD fa fn K := cx.t.d
  obtain ⟨fd_wrap, E_wrap⟩ := c.def_ 0 (d := d_wrap) rfl
  have F_wrap : FnP K "wrap" s_wrap (He.ga K "wrap") fd_wrap := E_wrap
  have g_wrap := He.glo_ok X G (c.fact 0 (f := .glo "wrap") rfl)
  have b_wrap : Binds K fd_wrap ["n"] [] := FunD.bindsN (ps := ["n"]) F_wrap fun _ _ _ _ _ _ us hl => match us, hl with | [_], _ => rfl
  obtain ⟨fd_rank, E_rank⟩ := c.def_ 1 (d := d_rank) rfl
  have F_rank : FnP K "rank" s_rank (He.ga K "rank") fd_rank := E_rank
  have g_rank := He.glo_ok X G (c.fact 1 (f := .glo "rank") rfl)
  have b_rank : Binds K fd_rank ["value"] [] := FunD.bindsN (ps := ["value"]) F_rank fun _ _ _ _ _ _ us hl => match us, hl with | [_], _ => rfl
  obtain ⟨fd_row_rank, E_row_rank⟩ := c.def_ 2 (d := d_row_rank) rfl
  have F_row_rank : FnP K "row_rank" s_row_rank (He.ga K "row_rank") fd_row_rank := E_row_rank
  have g_row_rank := He.glo_ok X G (c.fact 2 (f := .glo "row_rank") rfl)
  have b_row_rank : Binds K fd_row_rank ["row"] [] := FunD.bindsN (ps := ["row"]) F_row_rank fun _ _ _ _ _ _ us hl => match us, hl with | [_], _ => rfl
  obtain ⟨fd_make_bag, E_make_bag⟩ := c.def_ 3 (d := d_make_bag) rfl
  have F_make_bag : FnP K "make_bag" s_make_bag (He.ga K "make_bag") fd_make_bag := E_make_bag
  have g_make_bag := He.glo_ok X G (c.fact 3 (f := .glo "make_bag") rfl)
  have b_make_bag : Binds K fd_make_bag ["pairs"] [] := FunD.bindsN (ps := ["pairs"]) F_make_bag fun _ _ _ _ _ _ us hl => match us, hl with | [_], _ => rfl
  obtain ⟨fd_plus, E_plus⟩ := c.def_ 4 (d := d_plus) rfl
  have F_plus : FnP K "plus" s_plus (He.ga K "plus") fd_plus := E_plus
  have g_plus := He.glo_ok X G (c.fact 4 (f := .glo "plus") rfl)
  have b_plus : Binds K fd_plus ["first", "second"] [] := FunD.bindsN (ps := ["first", "second"]) F_plus fun _ _ _ _ _ _ us hl => match us, hl with | [_, _], _ => rfl
  obtain ⟨fd_scaled, E_scaled⟩ := c.def_ 5 (d := d_scaled) rfl
  have F_scaled : FnP K "scaled" s_scaled (He.ga K "scaled") fd_scaled := E_scaled
  have g_scaled := He.glo_ok X G (c.fact 5 (f := .glo "scaled") rfl)
  have b_scaled : Binds K fd_scaled ["bag", "factor"] [] := FunD.bindsN (ps := ["bag", "factor"]) F_scaled fun _ _ _ _ _ _ us hl => match us, hl with | [_, _], _ => rfl
  obtain ⟨fd_rows_of, E_rows_of⟩ := c.def_ 6 (d := d_rows_of) rfl
  have F_rows_of : FnP K "rows_of" s_rows_of (He.ga K "rows_of") fd_rows_of := E_rows_of
  have g_rows_of := He.glo_ok X G (c.fact 6 (f := .glo "rows_of") rfl)
  have b_rows_of : Binds K fd_rows_of ["bag"] [] := FunD.bindsN (ps := ["bag"]) F_rows_of fun _ _ _ _ _ _ us hl => match us, hl with | [_], _ => rfl
  obtain ⟨fd_support, E_support⟩ := c.def_ 7 (d := d_support) rfl
  have F_support : FnP K "support" s_support (He.ga K "support") fd_support := E_support
  have g_support := He.glo_ok X G (c.fact 7 (f := .glo "support") rfl)
  have b_support : Binds K fd_support ["bag"] [] := FunD.bindsN (ps := ["bag"]) F_support fun _ _ _ _ _ _ us hl => match us, hl with | [_], _ => rfl
  obtain ⟨fd_in_postorder, E_in_postorder⟩ := c.def_ 8 (d := d_in_postorder) rfl
  have F_in_postorder : FnP K "in_postorder" s_in_postorder (He.ga K "in_postorder") fd_in_postorder := E_in_postorder
  have g_in_postorder := He.glo_ok X G (c.fact 8 (f := .glo "in_postorder") rfl)
  have b_in_postorder : Binds K fd_in_postorder ["tree", "parts_of"] [] := FunD.bindsN (ps := ["tree", "parts_of"]) F_in_postorder fun _ _ _ _ _ _ us hl => match us, hl with | [_, _], _ => rfl
  obtain ⟨fd_worked_out, E_worked_out⟩ := c.def_ 9 (d := d_worked_out) rfl
  have F_worked_out : FnP K "worked_out" s_worked_out (He.ga K "worked_out") fd_worked_out := E_worked_out
  have g_worked_out := He.glo_ok X G (c.fact 9 (f := .glo "worked_out") rfl)
  have b_worked_out : Binds K fd_worked_out ["tree", "parts_of", "result_of"] [] := FunD.bindsN (ps := ["tree", "parts_of", "result_of"]) F_worked_out fun _ _ _ _ _ _ us hl => match us, hl with | [_, _, _], _ => rfl
  obtain ⟨fd_evaluate, E_evaluate⟩ := c.def_ 10 (d := d_evaluate) rfl
  have F_evaluate : FnP K "evaluate" s_evaluate (He.ga K "evaluate") fd_evaluate := E_evaluate
  have g_evaluate := He.glo_ok X G (c.fact 10 (f := .glo "evaluate") rfl)
  have b_evaluate : Binds K fd_evaluate ["e", "row"] [] := FunD.bindsN (ps := ["e", "row"]) F_evaluate fun _ _ _ _ _ _ us hl => match us, hl with | [_, _], _ => rfl
  obtain ⟨fd_mapped, E_mapped⟩ := c.def_ 11 (d := d_mapped) rfl
  have F_mapped : FnP K "mapped" s_mapped (He.ga K "mapped") fd_mapped := E_mapped
  have g_mapped := He.glo_ok X G (c.fact 11 (f := .glo "mapped") rfl)
  have b_mapped : Binds K fd_mapped ["exprs", "row"] [] := FunD.bindsN (ps := ["exprs", "row"]) F_mapped fun _ _ _ _ _ _ us hl => match us, hl with | [_, _], _ => rfl
  obtain ⟨fd_number, E_number⟩ := c.def_ 12 (d := d_number) rfl
  have F_number : FnP K "number" s_number (He.ga K "number") fd_number := E_number
  have g_number := He.glo_ok X G (c.fact 12 (f := .glo "number") rfl)
  have b_number : Binds K fd_number ["value"] [] := FunD.bindsN (ps := ["value"]) F_number fun _ _ _ _ _ _ us hl => match us, hl with | [_], _ => rfl
  obtain ⟨fd_operands, E_operands⟩ := c.def_ 13 (d := d_operands) rfl
  have F_operands : FnP K "operands" s_operands (He.ga K "operands") fd_operands := E_operands
  have g_operands := He.glo_ok X G (c.fact 13 (f := .glo "operands") rfl)
  have b_operands : Binds K fd_operands ["e"] [] := FunD.bindsN (ps := ["e"]) F_operands fun _ _ _ _ _ _ us hl => match us, hl with | [_], _ => rfl
  obtain ⟨fd_result, E_result⟩ := c.def_ 14 (d := d_result) rfl
  have F_result : FnP K "result" s_result (He.ga K "result") fd_result := E_result
  have g_result := He.glo_ok X G (c.fact 14 (f := .glo "result") rfl)
  have b_result : Binds K fd_result ["e", "values", "row"] [] := FunD.bindsN (ps := ["e", "values", "row"]) F_result fun _ _ _ _ _ _ us hl => match us, hl with | [_, _, _], _ => rfl
  obtain ⟨fd_calculated, E_calculated⟩ := c.def_ 15 (d := d_calculated) rfl
  have F_calculated : FnP K "calculated" s_calculated (He.ga K "calculated") fd_calculated := E_calculated
  have g_calculated := He.glo_ok X G (c.fact 15 (f := .glo "calculated") rfl)
  have b_calculated : Binds K fd_calculated ["sign", "values"] [] := FunD.bindsN (ps := ["sign", "values"]) F_calculated fun _ _ _ _ _ _ us hl => match us, hl with | [_, _], _ => rfl
  obtain ⟨fd_arithmetic, E_arithmetic⟩ := c.def_ 16 (d := d_arithmetic) rfl
  have F_arithmetic : FnP K "arithmetic" s_arithmetic (He.ga K "arithmetic") fd_arithmetic := E_arithmetic
  have g_arithmetic := He.glo_ok X G (c.fact 16 (f := .glo "arithmetic") rfl)
  have b_arithmetic : Binds K fd_arithmetic ["sign", "first", "second"] [] := FunD.bindsN (ps := ["sign", "first", "second"]) F_arithmetic fun _ _ _ _ _ _ us hl => match us, hl with | [_, _, _], _ => rfl
  obtain ⟨fd_parts_of, E_parts_of⟩ := c.def_ 17 (d := d_parts_of) rfl
  have F_parts_of : FnP K "parts_of" s_parts_of (He.ga K "parts_of") fd_parts_of := E_parts_of
  have g_parts_of := He.glo_ok X G (c.fact 17 (f := .glo "parts_of") rfl)
  have b_parts_of : Binds K fd_parts_of ["term"] [] := FunD.bindsN (ps := ["term"]) F_parts_of fun _ _ _ _ _ _ us hl => match us, hl with | [_], _ => rfl
  obtain ⟨fd_with_parts, E_with_parts⟩ := c.def_ 18 (d := d_with_parts) rfl
  have F_with_parts : FnP K "with_parts" s_with_parts (He.ga K "with_parts") fd_with_parts := E_with_parts
  have g_with_parts := He.glo_ok X G (c.fact 18 (f := .glo "with_parts") rfl)
  have b_with_parts : Binds K fd_with_parts ["term", "parts"] [] := FunD.bindsN (ps := ["term", "parts"]) F_with_parts fun _ _ _ _ _ _ us hl => match us, hl with | [_, _], _ => rfl
  obtain ⟨fd_names_in, E_names_in⟩ := c.def_ 19 (d := d_names_in) rfl
  have F_names_in : FnP K "names_in" s_names_in (He.ga K "names_in") fd_names_in := E_names_in
  have g_names_in := He.glo_ok X G (c.fact 19 (f := .glo "names_in") rfl)
  have b_names_in : Binds K fd_names_in ["term"] [] := FunD.bindsN (ps := ["term"]) F_names_in fun _ _ _ _ _ _ us hl => match us, hl with | [_], _ => rfl
  obtain ⟨fd_new_form, E_new_form⟩ := c.def_ 20 (d := d_new_form) rfl
  have F_new_form : FnP K "new_form" s_new_form (He.ga K "new_form") fd_new_form := E_new_form
  have g_new_form := He.glo_ok X G (c.fact 20 (f := .glo "new_form") rfl)
  have b_new_form : Binds K fd_new_form ["term"] [] := FunD.bindsN (ps := ["term"]) F_new_form fun _ _ _ _ _ _ us hl => match us, hl with | [_], _ => rfl
  obtain ⟨fd_renewed, E_renewed⟩ := c.def_ 21 (d := d_renewed) rfl
  have F_renewed : FnP K "renewed" s_renewed (He.ga K "renewed") fd_renewed := E_renewed
  have g_renewed := He.glo_ok X G (c.fact 21 (f := .glo "renewed") rfl)
  have b_renewed : Binds K fd_renewed ["term", "parts"] [] := FunD.bindsN (ps := ["term", "parts"]) F_renewed fun _ _ _ _ _ _ us hl => match us, hl with | [_, _], _ => rfl
  obtain ⟨fd_value, E_value⟩ := c.def_ 22 (d := d_value) rfl
  have F_value : FnP K "value" s_value (He.ga K "value") fd_value := E_value
  have g_value := He.glo_ok X G (c.fact 22 (f := .glo "value") rfl)
  have b_value : Binds K fd_value ["term", "olds", "changes"] [] := FunD.bindsN (ps := ["term", "olds", "changes"]) F_value fun _ _ _ _ _ _ us hl => match us, hl with | [_, _, _], _ => rfl
  obtain ⟨fd_denoted, E_denoted⟩ := c.def_ 23 (d := d_denoted) rfl
  have F_denoted : FnP K "denoted" s_denoted (He.ga K "denoted") fd_denoted := E_denoted
  have g_denoted := He.glo_ok X G (c.fact 23 (f := .glo "denoted") rfl)
  have b_denoted : Binds K fd_denoted ["term", "bags", "olds", "changes"] [] := FunD.bindsN (ps := ["term", "bags", "olds", "changes"]) F_denoted fun _ _ _ _ _ _ us hl => match us, hl with | [_, _, _, _], _ => rfl
  obtain ⟨fd_altered, E_altered⟩ := c.def_ 24 (d := d_altered) rfl
  have F_altered : FnP K "altered" s_altered (He.ga K "altered") fd_altered := E_altered
  have g_altered := He.glo_ok X G (c.fact 24 (f := .glo "altered") rfl)
  have b_altered : Binds K fd_altered ["term", "bag"] [] := FunD.bindsN (ps := ["term", "bag"]) F_altered fun _ _ _ _ _ _ us hl => match us, hl with | [_, _], _ => rfl
  obtain ⟨fd_grouped, E_grouped⟩ := c.def_ 25 (d := d_grouped) rfl
  have F_grouped : FnP K "grouped" s_grouped (He.ga K "grouped") fd_grouped := E_grouped
  have g_grouped := He.glo_ok X G (c.fact 25 (f := .glo "grouped") rfl)
  have b_grouped : Binds K fd_grouped ["keys", "bag"] [] := FunD.bindsN (ps := ["keys", "bag"]) F_grouped fun _ _ _ _ _ _ us hl => match us, hl with | [_, _], _ => rfl
  obtain ⟨fd_joined, E_joined⟩ := c.def_ 26 (d := d_joined) rfl
  have F_joined : FnP K "joined" s_joined (He.ga K "joined") fd_joined := E_joined
  have g_joined := He.glo_ok X G (c.fact 26 (f := .glo "joined") rfl)
  have b_joined : Binds K fd_joined ["lists", "first", "second"] [] := FunD.bindsN (ps := ["lists", "first", "second"]) F_joined fun _ _ _ _ _ _ us hl => match us, hl with | [_, _, _], _ => rfl
  obtain ⟨fd_folded, E_folded⟩ := c.def_ 27 (d := d_folded) rfl
  have F_folded : FnP K "folded" s_folded (He.ga K "folded") fd_folded := E_folded
  have g_folded := He.glo_ok X G (c.fact 27 (f := .glo "folded") rfl)
  have b_folded : Binds K fd_folded ["keys", "kind", "e", "bag"] [] := FunD.bindsN (ps := ["keys", "kind", "e", "bag"]) F_folded fun _ _ _ _ _ _ us hl => match us, hl with | [_, _, _, _], _ => rfl
  obtain ⟨fd_group_result, E_group_result⟩ := c.def_ 28 (d := d_group_result) rfl
  have F_group_result : FnP K "group_result" s_group_result (He.ga K "group_result") fd_group_result := E_group_result
  have g_group_result := He.glo_ok X G (c.fact 28 (f := .glo "group_result") rfl)
  have b_group_result : Binds K fd_group_result ["kind", "e", "group"] [] := FunD.bindsN (ps := ["kind", "e", "group"]) F_group_result fun _ _ _ _ _ _ us hl => match us, hl with | [_, _, _], _ => rfl
  obtain ⟨fd__law_state, E__law_state⟩ := c.def_ 29 (d := d__law_state) rfl
  have F__law_state : FnP K "_law_state" s__law_state (He.ga K "_law_state") fd__law_state := E__law_state
  have g__law_state := He.glo_ok X G (c.fact 29 (f := .glo "_law_state") rfl)
  have b__law_state : Binds K fd__law_state ["script"] [] := FunD.bindsN (ps := ["script"]) F__law_state fun _ _ _ _ _ _ us hl => match us, hl with | [_], _ => rfl
  obtain ⟨fd__law_draw, E__law_draw⟩ := c.def_ 30 (d := d__law_draw) rfl
  have F__law_draw : FnP K "_law_draw" s__law_draw (He.ga K "_law_draw") fd__law_draw := E__law_draw
  have g__law_draw := He.glo_ok X G (c.fact 30 (f := .glo "_law_draw") rfl)
  have b__law_draw : Binds K fd__law_draw ["state", "many"] [] := FunD.bindsN (ps := ["state", "many"]) F__law_draw fun _ _ _ _ _ _ us hl => match us, hl with | [_, _], _ => rfl
  obtain ⟨fd__law_one, E__law_one⟩ := c.def_ 31 (d := d__law_one) rfl
  have F__law_one : FnP K "_law_one" s__law_one (He.ga K "_law_one") fd__law_one := E__law_one
  have g__law_one := He.glo_ok X G (c.fact 31 (f := .glo "_law_one") rfl)
  have b__law_one : Binds K fd__law_one ["state"] [] := FunD.bindsN (ps := ["state"]) F__law_one fun _ _ _ _ _ _ us hl => match us, hl with | [_], _ => rfl
  obtain ⟨fd__law_row, E__law_row⟩ := c.def_ 32 (d := d__law_row) rfl
  have F__law_row : FnP K "_law_row" s__law_row (He.ga K "_law_row") fd__law_row := E__law_row
  have g__law_row := He.glo_ok X G (c.fact 32 (f := .glo "_law_row") rfl)
  have b__law_row : Binds K fd__law_row ["state", "most"] [] := FunD.bindsN (ps := ["state", "most"]) F__law_row fun _ _ _ _ _ _ us hl => match us, hl with | [_, _], _ => rfl
  obtain ⟨fd__law_key, E__law_key⟩ := c.def_ 33 (d := d__law_key) rfl
  have F__law_key : FnP K "_law_key" s__law_key (He.ga K "_law_key") fd__law_key := E__law_key
  have g__law_key := He.glo_ok X G (c.fact 33 (f := .glo "_law_key") rfl)
  have b__law_key : Binds K fd__law_key ["row"] [] := FunD.bindsN (ps := ["row"]) F__law_key fun _ _ _ _ _ _ us hl => match us, hl with | [_], _ => rfl
  obtain ⟨fd__law_canon, E__law_canon⟩ := c.def_ 34 (d := d__law_canon) rfl
  have F__law_canon : FnP K "_law_canon" s__law_canon (He.ga K "_law_canon") fd__law_canon := E__law_canon
  have g__law_canon := He.glo_ok X G (c.fact 34 (f := .glo "_law_canon") rfl)
  have b__law_canon : Binds K fd__law_canon ["counts"] [] := FunD.bindsN (ps := ["counts"]) F__law_canon fun _ _ _ _ _ _ us hl => match us, hl with | [_], _ => rfl
  obtain ⟨fd__law_bag, E__law_bag⟩ := c.def_ 35 (d := d__law_bag) rfl
  have F__law_bag : FnP K "_law_bag" s__law_bag (He.ga K "_law_bag") fd__law_bag := E__law_bag
  have g__law_bag := He.glo_ok X G (c.fact 35 (f := .glo "_law_bag") rfl)
  have b__law_bag : Binds K fd__law_bag ["state", "most"] [] := FunD.bindsN (ps := ["state", "most"]) F__law_bag fun _ _ _ _ _ _ us hl => match us, hl with | [_, _], _ => rfl
  obtain ⟨fd__law_expr, E__law_expr⟩ := c.def_ 36 (d := d__law_expr) rfl
  have F__law_expr : FnP K "_law_expr" s__law_expr (He.ga K "_law_expr") fd__law_expr := E__law_expr
  have g__law_expr := He.glo_ok X G (c.fact 36 (f := .glo "_law_expr") rfl)
  have b__law_expr : Binds K fd__law_expr ["state", "deep"] [] := FunD.bindsN (ps := ["state", "deep"]) F__law_expr fun _ _ _ _ _ _ us hl => match us, hl with | [_, _], _ => rfl
  obtain ⟨fd__law_exprs, E__law_exprs⟩ := c.def_ 37 (d := d__law_exprs) rfl
  have F__law_exprs : FnP K "_law_exprs" s__law_exprs (He.ga K "_law_exprs") fd__law_exprs := E__law_exprs
  have g__law_exprs := He.glo_ok X G (c.fact 37 (f := .glo "_law_exprs") rfl)
  have b__law_exprs : Binds K fd__law_exprs ["state"] [] := FunD.bindsN (ps := ["state"]) F__law_exprs fun _ _ _ _ _ _ us hl => match us, hl with | [_], _ => rfl
  obtain ⟨fd__law_leaf, E__law_leaf⟩ := c.def_ 38 (d := d__law_leaf) rfl
  have F__law_leaf : FnP K "_law_leaf" s__law_leaf (He.ga K "_law_leaf") fd__law_leaf := E__law_leaf
  have g__law_leaf := He.glo_ok X G (c.fact 38 (f := .glo "_law_leaf") rfl)
  have b__law_leaf : Binds K fd__law_leaf ["state", "kinds"] [] := FunD.bindsN (ps := ["state", "kinds"]) F__law_leaf fun _ _ _ _ _ _ us hl => match us, hl with | [_, _], _ => rfl
  obtain ⟨fd__law_grown, E__law_grown⟩ := c.def_ 39 (d := d__law_grown) rfl
  have F__law_grown : FnP K "_law_grown" s__law_grown (He.ga K "_law_grown") fd__law_grown := E__law_grown
  have g__law_grown := He.glo_ok X G (c.fact 39 (f := .glo "_law_grown") rfl)
  have b__law_grown : Binds K fd__law_grown ["state", "deep", "kinds", "joins"] [] := FunD.bindsN (ps := ["state", "deep", "kinds", "joins"]) F__law_grown fun _ _ _ _ _ _ us hl => match us, hl with | [_, _, _, _], _ => rfl
  obtain ⟨fd__law_term, E__law_term⟩ := c.def_ 40 (d := d__law_term) rfl
  have F__law_term : FnP K "_law_term" s__law_term (He.ga K "_law_term") fd__law_term := E__law_term
  have g__law_term := He.glo_ok X G (c.fact 40 (f := .glo "_law_term") rfl)
  have b__law_term : Binds K fd__law_term ["state", "deep", "kinds"] [] := FunD.bindsN (ps := ["state", "deep", "kinds"]) F__law_term fun _ _ _ _ _ _ us hl => match us, hl with | [_, _, _], _ => rfl
  obtain ⟨fd__law_wrapped, E__law_wrapped⟩ := c.def_ 41 (d := d__law_wrapped) rfl
  have F__law_wrapped : FnP K "_law_wrapped" s__law_wrapped (He.ga K "_law_wrapped") fd__law_wrapped := E__law_wrapped
  have g__law_wrapped := He.glo_ok X G (c.fact 41 (f := .glo "_law_wrapped") rfl)
  have b__law_wrapped : Binds K fd__law_wrapped ["n"] [] := FunD.bindsN (ps := ["n"]) F__law_wrapped fun _ _ _ _ _ _ us hl => match us, hl with | [_], _ => rfl
  obtain ⟨fd__law_number, E__law_number⟩ := c.def_ 42 (d := d__law_number) rfl
  have F__law_number : FnP K "_law_number" s__law_number (He.ga K "_law_number") fd__law_number := E__law_number
  have g__law_number := He.glo_ok X G (c.fact 42 (f := .glo "_law_number") rfl)
  have b__law_number : Binds K fd__law_number ["one"] [] := FunD.bindsN (ps := ["one"]) F__law_number fun _ _ _ _ _ _ us hl => match us, hl with | [_], _ => rfl
  obtain ⟨fd__law_of, E__law_of⟩ := c.def_ 43 (d := d__law_of) rfl
  have F__law_of : FnP K "_law_of" s__law_of (He.ga K "_law_of") fd__law_of := E__law_of
  have g__law_of := He.glo_ok X G (c.fact 43 (f := .glo "_law_of") rfl)
  have b__law_of : Binds K fd__law_of ["e", "row"] [] := FunD.bindsN (ps := ["e", "row"]) F__law_of fun _ _ _ _ _ _ us hl => match us, hl with | [_, _], _ => rfl
  obtain ⟨fd__law_rowed, E__law_rowed⟩ := c.def_ 44 (d := d__law_rowed) rfl
  have F__law_rowed : FnP K "_law_rowed" s__law_rowed (He.ga K "_law_rowed") fd__law_rowed := E__law_rowed
  have g__law_rowed := He.glo_ok X G (c.fact 44 (f := .glo "_law_rowed") rfl)
  have b__law_rowed : Binds K fd__law_rowed ["exprs", "row"] [] := FunD.bindsN (ps := ["exprs", "row"]) F__law_rowed fun _ _ _ _ _ _ us hl => match us, hl with | [_, _], _ => rfl
  obtain ⟨fd__law_added, E__law_added⟩ := c.def_ 45 (d := d__law_added) rfl
  have F__law_added : FnP K "_law_added" s__law_added (He.ga K "_law_added") fd__law_added := E__law_added
  have g__law_added := He.glo_ok X G (c.fact 45 (f := .glo "_law_added") rfl)
  have b__law_added : Binds K fd__law_added ["counts", "row", "count"] [] := FunD.bindsN (ps := ["counts", "row", "count"]) F__law_added fun _ _ _ _ _ _ us hl => match us, hl with | [_, _, _], _ => rfl
  obtain ⟨fd__law_folded, E__law_folded⟩ := c.def_ 46 (d := d__law_folded) rfl
  have F__law_folded : FnP K "_law_folded" s__law_folded (He.ga K "_law_folded") fd__law_folded := E__law_folded
  have g__law_folded := He.glo_ok X G (c.fact 46 (f := .glo "_law_folded") rfl)
  have b__law_folded : Binds K fd__law_folded ["term", "bag"] [] := FunD.bindsN (ps := ["term", "bag"]) F__law_folded fun _ _ _ _ _ _ us hl => match us, hl with | [_, _], _ => rfl
  obtain ⟨fd__law_below, E__law_below⟩ := c.def_ 47 (d := d__law_below) rfl
  have F__law_below : FnP K "_law_below" s__law_below (He.ga K "_law_below") fd__law_below := E__law_below
  have g__law_below := He.glo_ok X G (c.fact 47 (f := .glo "_law_below") rfl)
  have b__law_below : Binds K fd__law_below ["term"] [] := FunD.bindsN (ps := ["term"]) F__law_below fun _ _ _ _ _ _ us hl => match us, hl with | [_], _ => rfl
  obtain ⟨fd__law_named, E__law_named⟩ := c.def_ 48 (d := d__law_named) rfl
  have F__law_named : FnP K "_law_named" s__law_named (He.ga K "_law_named") fd__law_named := E__law_named
  have g__law_named := He.glo_ok X G (c.fact 48 (f := .glo "_law_named") rfl)
  have b__law_named : Binds K fd__law_named ["term", "olds", "changes"] [] := FunD.bindsN (ps := ["term", "olds", "changes"]) F__law_named fun _ _ _ _ _ _ us hl => match us, hl with | [_, _, _], _ => rfl
  obtain ⟨fd__law_value, E__law_value⟩ := c.def_ 49 (d := d__law_value) rfl
  have F__law_value : FnP K "_law_value" s__law_value (He.ga K "_law_value") fd__law_value := E__law_value
  have g__law_value := He.glo_ok X G (c.fact 49 (f := .glo "_law_value") rfl)
  have b__law_value : Binds K fd__law_value ["term", "olds", "changes"] [] := FunD.bindsN (ps := ["term", "olds", "changes"]) F__law_value fun _ _ _ _ _ _ us hl => match us, hl with | [_, _, _], _ => rfl
  obtain ⟨fd__law_names, E__law_names⟩ := c.def_ 50 (d := d__law_names) rfl
  have F__law_names : FnP K "_law_names" s__law_names (He.ga K "_law_names") fd__law_names := E__law_names
  have g__law_names := He.glo_ok X G (c.fact 50 (f := .glo "_law_names") rfl)
  have b__law_names : Binds K fd__law_names ["term"] [] := FunD.bindsN (ps := ["term"]) F__law_names fun _ _ _ _ _ _ us hl => match us, hl with | [_], _ => rfl
  obtain ⟨fd__law_new, E__law_new⟩ := c.def_ 51 (d := d__law_new) rfl
  have F__law_new : FnP K "_law_new" s__law_new (He.ga K "_law_new") fd__law_new := E__law_new
  have g__law_new := He.glo_ok X G (c.fact 51 (f := .glo "_law_new") rfl)
  have b__law_new : Binds K fd__law_new ["term"] [] := FunD.bindsN (ps := ["term"]) F__law_new fun _ _ _ _ _ _ us hl => match us, hl with | [_], _ => rfl
  obtain ⟨fd_law, E_law⟩ := c.def_ 52 (d := d_law) rfl
  have F_law : FnP K "law" s_law (He.ga K "law") fd_law := E_law
  have g_law := He.glo_ok X G (c.fact 52 (f := .glo "law") rfl)
  obtain ⟨t_SPAN, i_SPAN⟩ := He.int_ok X G (c.fact 53 (f := .int "SPAN" (4294967296)) rfl)
  obtain ⟨t_LOWEST, i_LOWEST⟩ := He.int_ok X G (c.fact 54 (f := .int "LOWEST" (-2147483648)) rfl)
  obtain ⟨t_LONGEST_TEXT, i_LONGEST_TEXT⟩ := He.int_ok X G (c.fact 55 (f := .int "LONGEST_TEXT" (40)) rfl)
  have n_len := He.free_ok X G (c.fact 56 (f := .free "len") rfl)
  have n_range := He.free_ok X G (c.fact 57 (f := .free "range") rfl)
  have n_int := He.free_ok X G (c.fact 58 (f := .free "int") rfl)
  have n_abs := He.free_ok X G (c.fact 59 (f := .free "abs") rfl)
  have n_isinstance := He.free_ok X G (c.fact 60 (f := .free "isinstance") rfl)
  have n_tuple := He.free_ok X G (c.fact 61 (f := .free "tuple") rfl)
  have n_sorted := He.free_ok X G (c.fact 62 (f := .free "sorted") rfl)
  have n_repr := He.free_ok X G (c.fact 63 (f := .free "repr") rfl)
  have n_list := He.free_ok X G (c.fact 64 (f := .free "list") rfl)
  have n_str := He.free_ok X G (c.fact 65 (f := .free "str") rfl)
  have n_sum := He.free_ok X G (c.fact 66 (f := .free "sum") rfl)
  have n_bool := He.free_ok X G (c.fact 67 (f := .free "bool") rfl)
  have e := gf.symm.trans g_law
  cases e
  have bd := FunD.bindsA (ps := ["script"]) F_law fun _ _ _ _ _ _ us hl => match us, hl with | [_], _ => rfl
  obtain ⟨x1, x23⟩ := He.ba cx.more
  obtain ⟨x11, x12⟩ := He.ba x1
  obtain ⟨y1, y2⟩ := He.ba x11
  obtain ⟨y3, y4⟩ := He.ba x12
  obtain ⟨y5, y6⟩ := He.ba y3
  obtain ⟨y7, y8⟩ := He.ba y4
  obtain ⟨z1, z23⟩ := He.ba x23
  obtain ⟨z2, z3⟩ := He.ba z23
  have nEV : (cE K).2 ≠ (cV K).2 := of_decide_eq_true z1
  have nEF : (cE K).2 ≠ (cF K).2 := of_decide_eq_true z2
  have nVF : (cV K).2 ≠ (cF K).2 := of_decide_eq_true z3
  have gM := He.glo_ok X G y1
  have M : ManyAt K w (He.ga K "MANY_PARTS") := many_at (cx.t.tab 0) y2 (He.eqO_ok y5) (He.eqO_ok y6) (He.eqO_ok y7) (He.eqO_ok y8)
  refine ⟨fd_law, [((cE K).2, lamN), ((cV K).2, lamV), ((cF K).2, lamF)], [cE K, cV K, cF K], F_law, fun s u => bd s [u] rfl, fun p hp => ?_, fun p hp => ?_, fun p hp => ?_, fun base _ _ TB => ?_, fun H hH p hp => ?_, n_isinstance, n_bool, n_repr⟩
  · simp only [List.mem_cons, List.not_mem_nil, or_false] at hp
    rcases hp with rfl | rfl | rfl
    · exact cx.empty ("evaluate", none) (by simp [tf])
    · exact cx.empty ("value", none) (by simp [tf])
    · exact cx.empty ("_law_folded", none) (by simp [tf])
  · simp only [List.mem_cons, List.not_mem_nil, or_false] at hp
    rcases hp with rfl | rfl | rfl
    · exact cx.out ("evaluate", none) (by simp [tf])
    · exact cx.out ("value", none) (by simp [tf])
    · exact cx.out ("_law_folded", none) (by simp [tf])
  · simp only [List.mem_cons, List.not_mem_nil, or_false] at hp
    rcases hp with rfl | rfl | rfl
    · exact cx.hd ("evaluate", none) (by simp [tf])
    · exact cx.hd ("value", none) (by simp [tf])
    · exact cx.hd ("_law_folded", none) (by simp [tf])
  · have TE : TabB base mg (cE K).1 (cE K).2 := TB _ List.mem_cons_self
    have TV : TabB base mg (cV K).1 (cV K).2 := TB _ (List.mem_cons_of_mem _ List.mem_cons_self)
    have TF : TabB base mg (cF K).1 (cF K).2 := TB _ (List.mem_cons_of_mem _ (List.mem_cons_of_mem _ List.mem_cons_self))
    have eE : fd_evaluate.code = .ref (cE K).1 := code_ref F_evaluate
    have eV : fd_value.code = .ref (cV K).1 := code_ref F_value
    have eF : fd__law_folded.code = .ref (cF K).1 := code_ref F__law_folded
    have mE : ((cE K).2, lamN) ∈ [((cE K).2, lamN), ((cV K).2, lamV), ((cF K).2, lamF)] := List.mem_cons_self
    have mV : ((cV K).2, lamV) ∈ [((cE K).2, lamN), ((cV K).2, lamV), ((cF K).2, lamF)] := List.mem_cons_of_mem _ List.mem_cons_self
    have mF : ((cF K).2, lamF) ∈ [((cE K).2, lamN), ((cV K).2, lamV), ((cF K).2, lamF)] := List.mem_cons_of_mem _ (List.mem_cons_of_mem _ List.mem_cons_self)
    have uE : ∀ p ∈ [((cE K).2, lamN), ((cV K).2, lamV), ((cF K).2, lamF)], p.1 = (cE K).2 → p.2 = lamN := fun p hp e => by
      simp only [List.mem_cons, List.not_mem_nil, or_false] at hp
      rcases hp with rfl | rfl | rfl
      · rfl
      · exact absurd e.symm nEV
      · exact absurd e.symm nEF
    have uV : ∀ p ∈ [((cE K).2, lamN), ((cV K).2, lamV), ((cF K).2, lamF)], p.1 = (cV K).2 → p.2 = lamV := fun p hp e => by
      simp only [List.mem_cons, List.not_mem_nil, or_false] at hp
      rcases hp with rfl | rfl | rfl
      · exact absurd e nEV
      · rfl
      · exact absurd e.symm nVF
    have uF : ∀ p ∈ [((cE K).2, lamN), ((cV K).2, lamV), ((cF K).2, lamF)], p.1 = (cF K).2 → p.2 = lamF := fun p hp e => by
      simp only [List.mem_cons, List.not_mem_nil, or_false] at hp
      rcases hp with rfl | rfl | rfl
      · exact absurd e nEF
      · exact absurd e nVF
      · rfl
    generalize [((cE K).2, lamN), ((cV K).2, lamV), ((cF K).2, lamF)] = T at mE mV mF uE uV uF ⊢
    have c_wrap : Cal P w K mg base "wrap" 1 ["n"] spWrap := cal_of F_wrap g_wrap b_wrap (ok_wrap F_wrap i_SPAN i_LOWEST)
    have c_rank : Cal P w K mg base "rank" 1 ["value"] (spRank K) := cal_of F_rank g_rank b_rank (ok_rank F_rank n_isinstance n_str)
    have c_row_rank : Cal P w K mg base "row_rank" 2 ["row"] (spKey K rankRow) := cal_of F_row_rank g_row_rank b_row_rank (ok_row_rank F_row_rank n_tuple c_rank)
    have c_make_bag : Cal P w K mg base "make_bag" 5 ["pairs"] spMakeBagN := cal_of F_make_bag g_make_bag b_make_bag (ok_make_bagN F_make_bag n_sorted c_row_rank)
    have c_plus : Cal P w K mg base "plus" 6 ["first", "second"] spPlusN := cal_of F_plus g_plus b_plus (ok_plusN F_plus c_make_bag)
    have c_scaled : Cal P w K mg base "scaled" 1 ["bag", "factor"] spScaledN := cal_of F_scaled g_scaled b_scaled (ok_scaledN F_scaled)
    have c_rows_of : Cal P w K mg base "rows_of" 1 ["bag"] spRowsOfN := cal_of F_rows_of g_rows_of b_rows_of (ok_rows_ofN F_rows_of)
    have c_support : Cal P w K mg base "support" 2 ["bag"] spSupportN := cal_of F_support g_support b_support (ok_supportN F_support c_rows_of)
    -- trees
    have k_post : CalC P w K mg base "in_postorder" 2 (spPost K 1) := calC_of F_in_postorder g_in_postorder (ok_post F_in_postorder b_in_postorder)
    have k_workedE : CalC P w K mg base "worked_out" 6 (spWorked K 1 5) := calC_of F_worked_out g_worked_out (ok_worked (by decide) (by decide) F_worked_out b_worked_out n_len k_post)
    have k_workedN : CalC P w K mg base "worked_out" 3 (spWorked K 1 2) := calC_of F_worked_out g_worked_out (ok_worked (by decide) (by decide) F_worked_out b_worked_out n_len k_post)
    have k_workedV : CalC P w K mg base "worked_out" 14 (spWorked K 1 13) := calC_of F_worked_out g_worked_out (ok_worked (by decide) (by decide) F_worked_out b_worked_out n_len k_post)
    -- expressions
    have c_number : Cal P w K mg base "number" 1 ["value"] spNumber := cal_of F_number g_number b_number (ok_num F_number n_str n_isinstance)
    have c_arith : Cal P w K mg base "arithmetic" 2 ["sign", "first", "second"] spArith := cal_of F_arithmetic g_arithmetic b_arithmetic (ok_arith F_arithmetic c_wrap)
    have c_calc : Cal P w K mg base "calculated" 3 ["sign", "values"] (spCalc K) := cal_of F_calculated g_calculated b_calculated (ok_calc F_calculated i_LONGEST_TEXT c_rank c_number c_arith)
    have c_result : Cal P w K mg base "result" 4 ["e", "values", "row"] (spResult K) := cal_of F_result g_result b_result (ok_result F_result n_len c_calc)
    have d_ops : DefClo P w K mg base (He.ga K "operands") 1 (spOperands K) := defClo_of F_operands b_operands (ok_operands F_operands)
    have c_eval : Cal P w K mg base "evaluate" 7 ["e", "row"] (spEval K T) := cal_of F_evaluate g_evaluate b_evaluate (ok_evaluate F_evaluate eE TE mE uE g_operands d_ops k_workedE c_result)
    have c_mapped : Cal P w K mg base "mapped" 8 ["exprs", "row"] (spMapped K T) := cal_of F_mapped g_mapped b_mapped (ok_mapped F_mapped n_tuple c_eval)
    -- terms
    have d_parts : DefClo P w K mg base (He.ga K "parts_of") 1 (spParts K) := defClo_of F_parts_of b_parts_of (ok_parts F_parts_of n_len gM M)
    have c_with : Cal P w K mg base "with_parts" 1 ["term", "parts"] spWith := cal_of F_with_parts g_with_parts b_with_parts (ok_with F_with_parts n_len n_tuple n_list n_isinstance)
    have d_renewed : DefClo P w K mg base (He.ga K "renewed") 2 spRenewed := defClo_of F_renewed b_renewed (ok_renewed F_renewed c_with)
    have c_new_form : Cal P w K mg base "new_form" 4 ["term"] (spNewForm T) := cal_of F_new_form g_new_form b_new_form (ok_new_form F_new_form g_parts_of g_renewed d_parts d_renewed k_workedN)
    have c_names_in : Cal P w K mg base "names_in" 3 ["term"] (spNamesIn T) := cal_of F_names_in g_names_in b_names_in (ok_names_in F_names_in g_parts_of n_list d_parts k_post)
    have c_group : Cal P w K mg base "group_result" 8 ["kind", "e", "group"] (spGroup1 K T) := cal_of F_group_result g_group_result b_group_result (ok_group1 F_group_result n_sum n_sorted c_wrap c_number c_rank c_rows_of c_eval)
    have c_grouped : Cal P w K mg base "grouped" 9 ["keys", "bag"] (spGrouped K T) := cal_of F_grouped g_grouped b_grouped (ok_grouped F_grouped c_mapped)
    have c_joined : Cal P w K mg base "joined" 10 ["lists", "first", "second"] (spJoined K T) := cal_of F_joined g_joined b_joined (ok_joined F_joined c_grouped c_mapped c_make_bag)
    have c_folded : Cal P w K mg base "folded" 10 ["keys", "kind", "e", "bag"] (spFold1 K T) := cal_of F_folded g_folded b_folded (ok_fold1 F_folded c_grouped c_group c_make_bag)
    have c_altered : Cal P w K mg base "altered" 11 ["term", "bag"] (spAlt K T) := cal_of F_altered g_altered b_altered (ok_altered F_altered c_make_bag c_mapped c_eval c_scaled c_support c_folded)
    have c_denoted : Cal P w K mg base "denoted" 12 ["term", "bags", "olds", "changes"] (spDen K T) := cal_of F_denoted g_denoted b_denoted (ok_denoted F_denoted n_list c_plus c_joined c_altered)
    have c_value : Cal P w K mg base "value" 15 ["term", "olds", "changes"] (spVal1 K T) := cal_of F_value g_value b_value (ok_value F_value eV TV mV uV g_parts_of d_parts k_workedV c_denoted)
    -- the law's
    have l_state : Cal P w K mg base "_law_state" 1 ["script"] (spState K) := cal_of F__law_state g__law_state b__law_state (ok_state F__law_state n_int n_abs)
    have l_draw : Cal P w K mg base "_law_draw" 1 ["state", "many"] spDraw := cal_of F__law_draw g__law_draw b__law_draw (ok_draw F__law_draw n_int n_len n_range)
    have l_one : Cal P w K mg base "_law_one" 2 ["state"] spOne := cal_of F__law_one g__law_one b__law_one (ok_one F__law_one l_draw)
    have l_row : Cal P w K mg base "_law_row" 3 ["state", "most"] spRow := cal_of F__law_row g__law_row b__law_row (ok_row F__law_row n_tuple n_range l_draw l_one)
    have l_key : Cal P w K mg base "_law_key" 1 ["row"] (spLawKey K) := cal_of F__law_key g__law_key b__law_key (ok_law_key F__law_key n_isinstance n_int)
    have l_canon : Cal P w K mg base "_law_canon" 4 ["counts"] spCanon := cal_of F__law_canon g__law_canon b__law_canon (ok_canon F__law_canon n_sorted l_key)
    have l_bag : Cal P w K mg base "_law_bag" 5 ["state", "most"] spBag := cal_of F__law_bag g__law_bag b__law_bag (ok_bag F__law_bag n_range l_draw l_row l_canon)
    have l_e0 : Cal P w K mg base "_law_expr" 2 ["state", "deep"] (spExpr [] 0) := cal_of F__law_expr g__law_expr b__law_expr (ok_expr0 F__law_expr)
    have l_e1 : Cal P w K mg base "_law_expr" 3 ["state", "deep"] (spExpr [] 1) := cal_of F__law_expr g__law_expr b__law_expr (ok_exprS (by decide) F__law_expr l_draw l_one l_e0)
    have l_e2 : Cal P w K mg base "_law_expr" 4 ["state", "deep"] (spExpr [] 2) := cal_of F__law_expr g__law_expr b__law_expr (ok_exprS (by decide) F__law_expr l_draw l_one l_e1)
    have l_e3 : Cal P w K mg base "_law_expr" 5 ["state", "deep"] (spExpr [] 3) := cal_of F__law_expr g__law_expr b__law_expr (ok_exprS (by decide) F__law_expr l_draw l_one l_e2)
    have l_e4 : Cal P w K mg base "_law_expr" 6 ["state", "deep"] (spExpr [] 4) := cal_of F__law_expr g__law_expr b__law_expr (ok_exprS (by decide) F__law_expr l_draw l_one l_e3)
    have l_exprs : Cal P w K mg base "_law_exprs" 6 ["state"] (spExprs []) := cal_of F__law_exprs g__law_exprs b__law_exprs (ok_exprs (by decide) F__law_exprs n_range l_draw l_e2)
    have l_leaf : Cal P w K mg base "_law_leaf" 6 ["state", "kinds"] (spLeaf []) := cal_of F__law_leaf g__law_leaf b__law_leaf (ok_leaf F__law_leaf n_len l_draw l_bag)
    have l_g0 : Cal P w K mg base "_law_grown" 6 ["state", "deep", "kinds", "joins"] (spGrown [] 0) := cal_of F__law_grown g__law_grown b__law_grown (ok_grown0 F__law_grown)
    have l_g1 : Cal P w K mg base "_law_grown" 7 ["state", "deep", "kinds", "joins"] (spGrown [] 1) := cal_of F__law_grown g__law_grown b__law_grown (ok_grownS (by decide) F__law_grown n_range n_int l_draw l_leaf l_exprs l_e4 l_g0)
    have l_g2 : Cal P w K mg base "_law_grown" 8 ["state", "deep", "kinds", "joins"] (spGrown [] 2) := cal_of F__law_grown g__law_grown b__law_grown (ok_grownS (by decide) F__law_grown n_range n_int l_draw l_leaf l_exprs l_e4 l_g1)
    have l_g3 : Cal P w K mg base "_law_grown" 9 ["state", "deep", "kinds", "joins"] (spGrown [] 3) := cal_of F__law_grown g__law_grown b__law_grown (ok_grownS (by decide) F__law_grown n_range n_int l_draw l_leaf l_exprs l_e4 l_g2)
    have l_g4 : Cal P w K mg base "_law_grown" 10 ["state", "deep", "kinds", "joins"] (spGrown [] 4) := cal_of F__law_grown g__law_grown b__law_grown (ok_grownS (by decide) F__law_grown n_range n_int l_draw l_leaf l_exprs l_e4 l_g3)
    have l_term : Cal P w K mg base "_law_term" 11 ["state", "deep", "kinds"] (spTerm [] 4) := cal_of F__law_term g__law_term b__law_term (ok_term F__law_term l_g4)
    have l_wrapped : Cal P w K mg base "_law_wrapped" 1 ["n"] spWrap := cal_of F__law_wrapped g__law_wrapped b__law_wrapped (ok_wrapped F__law_wrapped n_int)
    have l_number : Cal P w K mg base "_law_number" 1 ["one"] spNumber := cal_of F__law_number g__law_number b__law_number (ok_number F__law_number n_int n_isinstance)
    have l_o0 : Cal P w K mg base "_law_of" 1 ["e", "row"] (spOf K 0) := cal_of F__law_of g__law_of b__law_of (ok_of0 F__law_of)
    have l_o1 : Cal P w K mg base "_law_of" 2 ["e", "row"] (spOf K 1) := cal_of F__law_of g__law_of b__law_of (ok_ofS (by decide) F__law_of n_int n_len n_str l_number l_wrapped l_key l_o0)
    have l_o2 : Cal P w K mg base "_law_of" 3 ["e", "row"] (spOf K 2) := cal_of F__law_of g__law_of b__law_of (ok_ofS (by decide) F__law_of n_int n_len n_str l_number l_wrapped l_key l_o1)
    have l_o3 : Cal P w K mg base "_law_of" 4 ["e", "row"] (spOf K 3) := cal_of F__law_of g__law_of b__law_of (ok_ofS (by decide) F__law_of n_int n_len n_str l_number l_wrapped l_key l_o2)
    have l_o4 : Cal P w K mg base "_law_of" 5 ["e", "row"] (spOf K 4) := cal_of F__law_of g__law_of b__law_of (ok_ofS (by decide) F__law_of n_int n_len n_str l_number l_wrapped l_key l_o3)
    have l_o4' : Cal P w K mg base "_law_of" 6 ["e", "row"] (spOf K 4) := cal_of F__law_of g__law_of b__law_of (ok_ofS (k := 4) (by decide) F__law_of n_int n_len n_str l_number l_wrapped l_key l_o3)
    have l_rowed : Cal P w K mg base "_law_rowed" 6 ["exprs", "row"] (spRowed K 4) := cal_of F__law_rowed g__law_rowed b__law_rowed (ok_rowed F__law_rowed n_tuple l_o4)
    have l_added : Cal P w K mg base "_law_added" 1 ["counts", "row", "count"] spAdded := cal_of F__law_added g__law_added b__law_added (ok_added F__law_added)
    have l_below : Cal P w K mg base "_law_below" 1 ["term"] spBelow := cal_of F__law_below g__law_below b__law_below (ok_below F__law_below)
    have l_named : Cal P w K mg base "_law_named" 5 ["term", "olds", "changes"] spNamed := cal_of F__law_named g__law_named b__law_named (ok_named F__law_named l_added l_canon)
    have l_folded : Cal P w K mg base "_law_folded" 8 ["term", "bag"] (spFolded T) := cal_of F__law_folded g__law_folded b__law_folded (ok_lfolded F__law_folded eF TF mF uF n_sum n_sorted n_len l_rowed l_o4 l_key l_added l_wrapped l_number l_canon)
    have l_v0 : Cal P w K mg base "_law_value" 8 ["term", "olds", "changes"] (spValue T 0) := cal_of F__law_value g__law_value b__law_value (ok_value0 F__law_value)
    have l_v1 : Cal P w K mg base "_law_value" 9 ["term", "olds", "changes"] (spValue T 1) := cal_of F__law_value g__law_value b__law_value (ok_valueS (by decide) F__law_value n_len n_int l_added l_canon l_below l_named l_o4 l_rowed l_folded l_v0)
    have l_v2 : Cal P w K mg base "_law_value" 10 ["term", "olds", "changes"] (spValue T 2) := cal_of F__law_value g__law_value b__law_value (ok_valueS (by decide) F__law_value n_len n_int l_added l_canon l_below l_named l_o4 l_rowed l_folded l_v1)
    have l_v3 : Cal P w K mg base "_law_value" 11 ["term", "olds", "changes"] (spValue T 3) := cal_of F__law_value g__law_value b__law_value (ok_valueS (by decide) F__law_value n_len n_int l_added l_canon l_below l_named l_o4 l_rowed l_folded l_v2)
    have l_v4 : Cal P w K mg base "_law_value" 12 ["term", "olds", "changes"] (spValue T 4) := cal_of F__law_value g__law_value b__law_value (ok_valueS (by decide) F__law_value n_len n_int l_added l_canon l_below l_named l_o4 l_rowed l_folded l_v3)
    have l_n0 : Cal P w K mg base "_law_names" 1 ["term"] (spNames 0) := cal_of F__law_names g__law_names b__law_names (ok_names0 F__law_names)
    have l_n1 : Cal P w K mg base "_law_names" 2 ["term"] (spNames 1) := cal_of F__law_names g__law_names b__law_names (ok_namesS (by decide) (by decide) F__law_names l_below l_n0)
    have l_n2 : Cal P w K mg base "_law_names" 3 ["term"] (spNames 2) := cal_of F__law_names g__law_names b__law_names (ok_namesS (by decide) (by decide) F__law_names l_below l_n1)
    have l_n3 : Cal P w K mg base "_law_names" 4 ["term"] (spNames 3) := cal_of F__law_names g__law_names b__law_names (ok_namesS (by decide) (by decide) F__law_names l_below l_n2)
    have l_n4 : Cal P w K mg base "_law_names" 5 ["term"] (spNames 4) := cal_of F__law_names g__law_names b__law_names (ok_namesS (by decide) (by decide) F__law_names l_below l_n3)
    have l_w0 : Cal P w K mg base "_law_new" 1 ["term"] (spNew 0) := cal_of F__law_new g__law_new b__law_new (ok_new0 F__law_new)
    have l_w1 : Cal P w K mg base "_law_new" 2 ["term"] (spNew 1) := cal_of F__law_new g__law_new b__law_new (ok_newS (by decide) F__law_new n_len n_tuple l_below l_w0)
    have l_w2 : Cal P w K mg base "_law_new" 3 ["term"] (spNew 2) := cal_of F__law_new g__law_new b__law_new (ok_newS (by decide) F__law_new n_len n_tuple l_below l_w1)
    have l_w3 : Cal P w K mg base "_law_new" 4 ["term"] (spNew 3) := cal_of F__law_new g__law_new b__law_new (ok_newS (by decide) F__law_new n_len n_tuple l_below l_w2)
    have l_w4 : Cal P w K mg base "_law_new" 5 ["term"] (spNew 4) := cal_of F__law_new g__law_new b__law_new (ok_newS (by decide) F__law_new n_len n_tuple l_below l_w3)
    exact ⟨l_state, l_draw, l_row, l_e4, l_exprs, l_bag, l_term, l_o4', l_rowed, l_v4, l_n4, l_w4, c_eval, c_mapped, c_value, c_names_in, c_new_form⟩
  · simp only [List.mem_cons, List.not_mem_nil, or_false] at hp
    have nil : ∀ q : Str, ∀ a : Addr, H a = some (.tbl #[]) → TabS H a q := fun q a e => ⟨#[], e, trivial, fun pos cv z => by cases z⟩
    rcases hp with rfl | rfl | rfl
    · exact nil _ _ (hH _ List.mem_cons_self)
    · exact nil _ _ (hH _ (List.mem_cons_of_mem _ List.mem_cons_self))
    · exact nil _ _ (hH _ (List.mem_cons_of_mem _ (List.mem_cons_of_mem _ List.mem_cons_self)))
end
end KA
set_option Elab.async false
set_option linter.all false
set_option maxRecDepth 100000
set_option maxHeartbeats 0
/-! the end -/
open PySem PySem.W PySem.Calls PyProof.Rows
theorem PySem.Challenge.cw_deltaloom_k02_expressions_and_terms_holds : PySem.Challenge.rw_deltaloom_k02_expressions_and_terms.Holds := by
  w_on; o_law
  refine HandSHeadRun.head_any (r := OpenLaw.row PySem.Challenge.rw_deltaloom_k02_expressions_and_terms) (q := view (OpenLaw.row PySem.Challenge.rw_deltaloom_k02_expressions_and_terms).prog [62]) (H := KA.hk) (ob := KA.ob) (M := 8000) (loose := KA.loose) (d := HandSHeadRun.topDef (OpenLaw.row PySem.Challenge.rw_deltaloom_k02_expressions_and_terms).prog 62) (kwd := []) KA.ob_eq
    (by kernel_rfl) (fun s => by kernel_rfl) KA.run (by kernel_rfl) (by kernel_rfl) (by kernel_rfl) (by rfl) (by first | assumption | decide +kernel) (by decide +kernel) ⟨rfl, rfl, rfl, rfl, rfl, by decide +kernel⟩ ?hw ?hc
  case hw => w_witness2
  case hc =>
    have nm : (HandSHeadRun.topDef (OpenLaw.row PySem.Challenge.rw_deltaloom_k02_expressions_and_terms).prog 62).name = ("law" : PySem.Str) := by kernel_rfl
    have df : (HandSHeadRun.topDef (OpenLaw.row PySem.Challenge.rw_deltaloom_k02_expressions_and_terms).prog 62).params.defaults = [] := by kernel_rfl
    refine Att.attach_call (l := PySem.Challenge.rw_deltaloom_k02_expressions_and_terms) (n := 63) rfl df fun w s₀ s₁ mg mb fa o pm cd doc a vs ns G Y ho hd hcd hmg hobj hints hlen hg => ?_
    obtain ⟨⟨K, KX, c⟩, o0, sys⟩ := Y
    have hlaw : mg ("law" : PySem.Str) = some (.ref fa) := by
      rw [← nm]
      exact hmg
    obtain ⟨fd, T, tabs, F, bd, tE, tN, tC, cs, hT, gI, gB, gP⟩ := KA.top_facts (P := PySem.Challenge.rw_deltaloom_k02_expressions_and_terms.prog) (w := w) KX G.T.g hlaw c
    exact KA.law_says KX G.T.g G.T.b G.T.builtins G.T.nolimit hg sys G.T.bmain tE tN tC hobj hints hlen F bd cs hT gI gB gP
