import PyProof.Rows.All
import Wide.All
import OpenK.AllK
import Wide.FinOn
import HandS.Base
import HandS.Dict
import KE.SortData
import KE.LtData
import KE.SortCalls
import KE.DataEq
import KE.SortKeyHeap
import HandS.ForMost
import HandS.Defaults
import HandS.WordsExc
import HandS.SortKw
import HandS.ExcValue
import HandS.IsInst
import HandS.Wide
import HandS.Walk
import KE.KStateDown
import Lean
import HandS.More
import HandS.Head0
import HandS.Head1
import HandS.Head2
import HandS.HeadEnd
import HandS.HeadHook1
import HandS.HeadHook2
import PySem.Challenge.RW_deltaloom_k12_branches_that_merge
import HandS.DictComp
import HandS.ExcInit
import HandS.ExcInitHot
import HandS.Nested
import HandS.FStr
import KE.KExcSuper
import HandS.ForExc
import HandS.ExcOwn
import HandS.ExcIs
import HandS.ExcField
import HandS.TryMany
import HandS.HeadHook4
set_option Elab.async false
set_option linter.all false
set_option maxRecDepth 100000
set_option maxHeartbeats 4000000
/-! bags as lists of rows and counts: sums by row, the sorted form, and that it is the only one -/
namespace KA
open PySem PySem.W L2
abbrev Row := List Key
abbrev Bag := List (Row × Int)
/-! ### the order of values and rows -/
def sLt (a b : Str) : Bool := decide (a.cps.toList < b.cps.toList)
def oneLt : Key → Key → Bool
  | .inl i, .inl j => decide (i < j)
  | .inl _, .inr _ => true
  | .inr _, .inl _ => false
  | .inr x, .inr y => sLt x y
def rowLt : Row → Row → Bool
  | [], [] => false
  | [], _ :: _ => true
  | _ :: _, [] => false
  | a :: r, b :: t => if a = b then rowLt r t else oneLt a b
theorem str_ext {a b : Str} (h : a.cps.toList = b.cps.toList) : a = b := by
  cases a; cases b
  simp only [Str.mk.injEq]
  exact Array.toList_inj.mp h
theorem oneLt_irrefl (a : Key) : oneLt a a = false := by
  cases a with
  | inl i => simp [oneLt]
  | inr x => simp [oneLt, sLt, List.lt_irrefl]
theorem oneLt_total {a b : Key} (h : a ≠ b) (h1 : oneLt a b = false) : oneLt b a = true := by
  cases a with
  | inl i =>
    cases b with
    | inl j =>
      simp only [oneLt, decide_eq_false_iff_not, decide_eq_true_eq] at h1 ⊢
      have : i ≠ j := fun e => h (by rw [e])
      omega
    | inr y => simp [oneLt] at h1
  | inr x =>
    cases b with
    | inl j => rfl
    | inr y =>
      simp only [oneLt, sLt, decide_eq_false_iff_not, decide_eq_true_eq] at h1 ⊢
      have hne : x.cps.toList ≠ y.cps.toList := fun e => h (by rw [str_ext e])
      have h2 : y.cps.toList ≤ x.cps.toList := List.not_lt.mp h1
      by_cases z : y.cps.toList < x.cps.toList
      · exact z
      · exact absurd (List.le_antisymm (List.not_lt.mp z) h2) hne
theorem oneLt_asym {a b : Key} (h : oneLt a b = true) : oneLt b a = false := by
  cases a with
  | inl i =>
    cases b with
    | inl j => simp only [oneLt, decide_eq_false_iff_not, decide_eq_true_eq] at h ⊢; omega
    | inr y => rfl
  | inr x =>
    cases b with
    | inl j => simp [oneLt] at h
    | inr y =>
      simp only [oneLt, sLt, decide_eq_false_iff_not, decide_eq_true_eq] at h ⊢
      exact fun e => List.lt_irrefl _ (List.lt_trans h e)
theorem oneLt_trans {a b c : Key} (h1 : oneLt a b = true) (h2 : oneLt b c = true) : oneLt a c = true := by
  cases a with
  | inl i =>
    cases b with
    | inl j =>
      cases c with
      | inl k => simp only [oneLt, decide_eq_true_eq] at h1 h2 ⊢; omega
      | inr z => rfl
    | inr y =>
      cases c with
      | inl k => simp [oneLt] at h2
      | inr z => rfl
  | inr x =>
    cases b with
    | inl j => simp [oneLt] at h1
    | inr y =>
      cases c with
      | inl k => simp [oneLt] at h2
      | inr z =>
        simp only [oneLt, sLt, decide_eq_true_eq] at h1 h2 ⊢
        exact List.lt_trans h1 h2
theorem rowLt_irrefl : ∀ r : Row, rowLt r r = false
  | [] => rfl
  | a :: r => by
    rw [rowLt, if_pos rfl]
    exact rowLt_irrefl r
theorem rowLt_total : ∀ {a b : Row}, a ≠ b → rowLt a b = false → rowLt b a = true
  | [], [], h, _ => absurd rfl h
  | [], _ :: _, _, h => by simp [rowLt] at h
  | _ :: _, [], _, _ => rfl
  | x :: a, y :: b, h, h1 => by
    rw [rowLt] at h1 ⊢
    by_cases e : x = y
    · subst e
      rw [if_pos rfl] at h1 ⊢
      exact rowLt_total (fun q => h (by rw [q])) h1
    · rw [if_neg e] at h1
      rw [if_neg (fun q => e q.symm)]
      exact oneLt_total e h1
theorem rowLt_asym : ∀ {a b : Row}, rowLt a b = true → rowLt b a = false
  | [], [], h => by simp [rowLt] at h
  | [], _ :: _, _ => rfl
  | _ :: _, [], h => by simp [rowLt] at h
  | x :: a, y :: b, h => by
    rw [rowLt] at h ⊢
    by_cases e : x = y
    · subst e
      rw [if_pos rfl] at h ⊢
      exact rowLt_asym h
    · rw [if_neg e] at h
      rw [if_neg (fun q => e q.symm)]
      exact oneLt_asym h
theorem rowLt_trans : ∀ {a b c : Row}, rowLt a b = true → rowLt b c = true → rowLt a c = true
  | [], [], _, h, _ => by simp [rowLt] at h
  | [], _ :: _, [], _, h => by simp [rowLt] at h
  | [], _ :: _, _ :: _, _, _ => rfl
  | _ :: _, [], _, h, _ => by simp [rowLt] at h
  | _ :: _, _ :: _, [], _, h => by simp [rowLt] at h
  | x :: a, y :: b, z :: c, h1, h2 => by
    rw [rowLt] at h1 h2 ⊢
    by_cases e : x = y
    · subst e
      rw [if_pos rfl] at h1
      by_cases e2 : x = z
      · subst e2
        rw [if_pos rfl] at h2 ⊢
        exact rowLt_trans h1 h2
      · rw [if_neg e2] at h2 ⊢
        exact h2
    · rw [if_neg e] at h1
      by_cases e2 : y = z
      · subst e2
        rw [if_neg e]
        exact h1
      · rw [if_neg e2] at h2
        have h3 := oneLt_trans h1 h2
        have e3 : x ≠ z := fun q => by
          subst q
          rw [oneLt_irrefl] at h3
          cases h3
        rw [if_neg e3]
        exact h3
def rowLe (a b : Row) : Bool := !rowLt b a
/-! ### counts by row -/
/-- the sum of the counts that the pairs give to a row -/
def tot (ps : Bag) (r : Row) : Int := ((ps.filter fun e => decide (e.1 = r)).map (·.2)).sum
theorem tot_nil (r : Row) : tot [] r = 0 := rfl
theorem tot_cons (e : Row × Int) (ps : Bag) (r : Row) : tot (e :: ps) r = (if e.1 = r then e.2 else 0) + tot ps r := by
  unfold tot
  by_cases h : e.1 = r
  · rw [List.filter_cons_of_pos (by simpa using h), if_pos h, List.map_cons, List.sum_cons]
  · rw [List.filter_cons_of_neg (by simpa using h), if_neg h]
    omega
theorem tot_app (ps qs : Bag) (r : Row) : tot (ps ++ qs) r = tot ps r + tot qs r := by
  induction ps with
  | nil => rw [List.nil_append, tot_nil]; omega
  | cons e t ih => rw [List.cons_append, tot_cons, tot_cons, ih]; omega
theorem tot_map (ps : Bag) (f : Int → Int) (h : ∀ x y, f (x + y) = f x + f y) (h0 : f 0 = 0) (r : Row) : tot (ps.map fun e => (e.1, f e.2)) r = f (tot ps r) := by
  induction ps with
  | nil => rw [List.map_nil, tot_nil, h0]
  | cons e t ih =>
    rw [List.map_cons, tot_cons, tot_cons, ih, h]
    by_cases q : e.1 = r
    · rw [if_pos q, if_pos q]
    · rw [if_neg q, if_neg q, h0]
theorem tot_out {ps : Bag} {r : Row} (h : ∀ e ∈ ps, e.1 ≠ r) : tot ps r = 0 := by
  induction ps with
  | nil => rfl
  | cons e t ih =>
    rw [tot_cons, if_neg (h e List.mem_cons_self), ih fun x hx => h x (List.mem_cons_of_mem _ hx)]
    omega
theorem tot_in {ps : Bag} (hn : (ps.map (·.1)).Nodup) {e : Row × Int} (he : e ∈ ps) : tot ps e.1 = e.2 := by
  induction ps with
  | nil => cases he
  | cons x t ih =>
    rw [List.map_cons, List.nodup_cons] at hn
    rw [tot_cons]
    rcases List.mem_cons.mp he with q | q
    · subst q
      rw [if_pos rfl, tot_out fun y hy z => hn.1 (List.mem_map.mpr ⟨y, hy, z⟩)]
      omega
    · have hne : x.1 ≠ e.1 := fun z => hn.1 (List.mem_map.mpr ⟨e, q, z.symm⟩)
      rw [if_neg hne, ih hn.2 q]
      omega
/-! ### the dict that is filled pair by pair -/
def putI (m : Bag) (r : Row) (c : Int) : Bag :=
  if (m.any fun e => decide (e.1 = r)) = true then m.map (fun e => if e.1 = r then (e.1, c) else e) else m ++ [(r, c)]
def valI (m : Bag) (r : Row) : Option Int := (m.find? fun e => decide (e.1 = r)).map (·.2)
def tally (ps : Bag) : Bag := ps.foldl (fun m e => putI m e.1 ((valI m e.1).getD 0 + e.2)) []
abbrev vk (m : Bag) : List (Row × V) := m.map fun e => (e.1, V.int e.2)
theorem vk_val (m : Bag) (r : Row) : valV (vk m) r = (valI m r).map V.int := by
  induction m with
  | nil => rfl
  | cons e t ih =>
    by_cases h : e.1 = r
    · rw [show vk (e :: t) = (e.1, V.int e.2) :: vk t from rfl, valV_pos h]
      simp [valI, List.find?_cons, h]
    · rw [show vk (e :: t) = (e.1, V.int e.2) :: vk t from rfl, valV_neg h, ih]
      simp [valI, List.find?_cons, h]
theorem vk_put (m : Bag) (r : Row) (c : Int) : putK (vk m) r (.int c) = vk (putI m r c) := by
  unfold putK putI
  have e : ((vk m).any fun kv => decide (kv.1 = r)) = (m.any fun e => decide (e.1 = r)) := by
    rw [List.any_map]
    rfl
  rw [e]
  split
  · show (m.map fun e => (e.1, V.int e.2)).map (fun kv => if kv.1 = r then (kv.1, V.int c) else kv) = (m.map (fun e => if e.1 = r then (e.1, c) else e)).map fun e => (e.1, V.int e.2)
    rw [List.map_map, List.map_map]
    refine List.map_congr_left fun x _ => ?_
    show (if x.1 = r then (x.1, V.int c) else (x.1, V.int x.2)) = ((if x.1 = r then (x.1, c) else x).1, V.int (if x.1 = r then (x.1, c) else x).2)
    split <;> rfl
  · show (m.map fun e => (e.1, V.int e.2)) ++ [(r, V.int c)] = (m ++ [(r, c)]).map fun e => (e.1, V.int e.2)
    rw [List.map_append]
    rfl
theorem valI_tot {m : Bag} (hn : (m.map (·.1)).Nodup) (r : Row) : (valI m r).getD 0 = tot m r := by
  induction m with
  | nil => rfl
  | cons e t ih =>
    rw [List.map_cons, List.nodup_cons] at hn
    rw [tot_cons]
    by_cases h : e.1 = r
    · rw [if_pos h, tot_out fun x hx q => hn.1 (List.mem_map.mpr ⟨x, hx, q.trans h.symm⟩)]
      simp [valI, List.find?_cons, h]
    · rw [if_neg h, ← ih hn.2]
      simp [valI, List.find?_cons, h]
theorem valI_some {m : Bag} {e : Row × Int} (he : e ∈ m) : (valI m e.1).isSome = true := by
  unfold valI
  rw [Option.isSome_map, List.find?_isSome]
  exact ⟨e, he, by simp⟩
theorem putI_keys (m : Bag) (r : Row) (c : Int) : (r ∈ m.map (·.1) ∧ (putI m r c).map (·.1) = m.map (·.1)) ∨ (r ∉ m.map (·.1) ∧ (putI m r c).map (·.1) = m.map (·.1) ++ [r]) := by
  unfold putI
  by_cases h : r ∈ m.map (·.1)
  · refine .inl ⟨h, ?_⟩
    obtain ⟨e, he, q⟩ := List.mem_map.mp h
    rw [if_pos (List.any_eq_true.mpr ⟨e, he, by simpa using q⟩), List.map_map]
    refine List.map_congr_left fun x _ => ?_
    show (if x.1 = r then (x.1, c) else x).1 = x.1
    split <;> rfl
  · refine .inr ⟨h, ?_⟩
    rw [if_neg (fun q => by
      obtain ⟨e, he, z⟩ := List.any_eq_true.mp q
      exact h (List.mem_map.mpr ⟨e, he, by simpa using z⟩)), List.map_append]
    rfl
theorem putI_nodup {m : Bag} (hn : (m.map (·.1)).Nodup) (r : Row) (c : Int) : ((putI m r c).map (·.1)).Nodup := by
  rcases putI_keys m r c with ⟨_, e⟩ | ⟨h, e⟩
  · rw [e]; exact hn
  · rw [e]
    exact List.nodup_append.mpr ⟨hn, List.pairwise_singleton _ _, fun a ha b hb q => by
      rw [List.mem_singleton.mp hb] at q
      exact h (q ▸ ha)⟩
theorem putI_tot {m : Bag} (hn : (m.map (·.1)).Nodup) (r q : Row) (c : Int) : tot (putI m r c) q = if r = q then c else tot m q := by
  rw [← valI_tot (putI_nodup hn r c), ← valI_tot hn]
  unfold putI
  by_cases h : (m.any fun e => decide (e.1 = r)) = true
  · rw [if_pos h]
    clear hn
    induction m with
    | nil => simp at h
    | cons e t ih =>
      by_cases h1 : e.1 = r
      · by_cases h2 : r = q
        · simp [valI, List.find?_cons, h1, h2]
        · rw [if_neg h2]
          have h3 : ¬ e.1 = q := fun z => h2 (h1.symm.trans z)
          by_cases h4 : (t.any fun e => decide (e.1 = r)) = true
          · have ih' := ih h4
            rw [if_neg h2] at ih'
            simp only [valI, List.map_cons, h1, if_true, List.find?_cons] at ih' ⊢
            simp only [h2, decide_false] at ih' ⊢
            exact ih'
          · have e2 : t.map (fun e => if e.1 = r then (e.1, c) else e) = t := by
              conv => rhs; rw [← List.map_id t]
              refine List.map_congr_left fun x hx => ?_
              rw [if_neg fun z => h4 (List.any_eq_true.mpr ⟨x, hx, by simpa using z⟩)]
              rfl
            simp only [valI, List.map_cons, h1, if_true, List.find?_cons, h2, decide_false, e2]
      · have h4 : (t.any fun e => decide (e.1 = r)) = true := by simpa [h1] using h
        have ih' := ih h4
        by_cases h2 : e.1 = q
        · have h3 : ¬ r = q := fun z => h1 (h2.trans z.symm)
          rw [if_neg h3, List.map_cons, if_neg h1]
          simp [valI, List.find?_cons, h2]
        · simp only [valI, List.map_cons, h1, if_false, List.find?_cons, h2, decide_false] at ih' ⊢
          exact ih'
  · rw [if_neg h]
    by_cases h2 : r = q
    · subst h2
      have e : (m.find? fun e => decide (e.1 = r)) = none := by
        rw [List.find?_eq_none]
        intro x hx z
        exact h (List.any_eq_true.mpr ⟨x, hx, z⟩)
      simp [valI, List.find?_append, e]
    · cases z : (m.find? fun e => decide (e.1 = q)) with
      | none => simp [valI, List.find?_append, z, h2]
      | some x => simp [valI, List.find?_append, z, h2]
theorem tally_go : ∀ (ps m : Bag), (m.map (·.1)).Nodup → ((ps.foldl (fun m e => putI m e.1 ((valI m e.1).getD 0 + e.2)) m).map (·.1)).Nodup ∧
    (∀ r, tot (ps.foldl (fun m e => putI m e.1 ((valI m e.1).getD 0 + e.2)) m) r = tot m r + tot ps r) ∧ (ps.foldl (fun m e => putI m e.1 ((valI m e.1).getD 0 + e.2)) m).length ≤ m.length + ps.length
  | [], m, h => ⟨h, fun r => by rw [List.foldl_nil, tot_nil]; omega, by simp⟩
  | e :: ps, m, h => by
    obtain ⟨a, b, c⟩ := tally_go ps (putI m e.1 ((valI m e.1).getD 0 + e.2)) (putI_nodup h _ _)
    rw [List.foldl_cons]
    refine ⟨a, fun r => ?_, ?_⟩
    · rw [b, putI_tot h, tot_cons, valI_tot h]
      by_cases q : e.1 = r
      · rw [if_pos q, if_pos q, q]; omega
      · rw [if_neg q, if_neg q]; omega
    · have l : (putI m e.1 ((valI m e.1).getD 0 + e.2)).length ≤ m.length + 1 := by
        unfold putI
        split
        · rw [List.length_map]; omega
        · rw [List.length_append]; simp
      rw [List.length_cons]
      omega
theorem tally_nodup (ps : Bag) : ((tally ps).map (·.1)).Nodup := (tally_go ps [] List.nodup_nil).1
theorem tally_tot (ps : Bag) (r : Row) : tot (tally ps) r = tot ps r := by
  have h := (tally_go ps [] List.nodup_nil).2.1 r
  rw [tot_nil] at h
  unfold tally
  omega
theorem tally_len (ps : Bag) : (tally ps).length ≤ ps.length := by
  have h := (tally_go ps [] List.nodup_nil).2.2
  simpa [tally] using h
theorem tally_val (ps : Bag) (r : Row) : (valI (tally ps) r).getD 0 = tot ps r := by rw [valI_tot (tally_nodup ps), tally_tot]
/-! ### the bag of some pairs -/
def nzRows (ps : Bag) : List Row := ((tally ps).map (·.1)).filter fun r => decide (tot ps r ≠ 0)
def sortRows (l : List Row) : List Row := l.mergeSort rowLe
def mk (ps : Bag) : Bag := (sortRows (nzRows ps)).map fun r => (r, tot ps r)
structure Canon (b : Bag) : Prop where
  srt : b.Pairwise fun x y => rowLt x.1 y.1 = true
  nz : ∀ e ∈ b, e.2 ≠ 0
theorem rowLe_trans (a b c : Row) (h1 : rowLe a b = true) (h2 : rowLe b c = true) : rowLe a c = true := by
  unfold rowLe at *
  simp only [Bool.not_eq_true'] at *
  by_cases e : a = b
  · rw [e]; exact h2
  · by_cases e2 : b = c
    · rw [← e2]; exact h1
    · exact rowLt_asym (rowLt_trans (rowLt_total (fun z => e z.symm) h1) (rowLt_total (fun z => e2 z.symm) h2))
theorem rowLe_total (a b : Row) : (rowLe a b || rowLe b a) = true := by
  unfold rowLe
  cases h : rowLt b a with
  | false => rfl
  | true => rw [rowLt_asym h]; rfl
theorem sortRows_perm (l : List Row) : (sortRows l).Perm l := List.mergeSort_perm l rowLe
theorem sortRows_srt {l : List Row} (hn : l.Nodup) : (sortRows l).Pairwise fun a b => rowLt a b = true := by
  have h1 : (sortRows l).Pairwise fun a b => rowLe a b = true := List.pairwise_mergeSort rowLe_trans rowLe_total l
  have h2 : (sortRows l).Nodup := (sortRows_perm l).nodup_iff.mpr hn
  have h3 : (sortRows l).Pairwise fun a b => rowLe a b = true ∧ a ≠ b := h1.and h2
  refine h3.imp fun {a b} q => ?_
  have q1 : rowLt b a = false := by simpa [rowLe] using q.1
  exact rowLt_total (fun z => q.2 z.symm) q1
theorem nzRows_nodup (ps : Bag) : (nzRows ps).Nodup := List.Nodup.sublist List.filter_sublist (tally_nodup ps)
theorem mem_keys_of_tot {ps : Bag} {r : Row} (h : tot ps r ≠ 0) : r ∈ ps.map (·.1) := by
  by_cases q : r ∈ ps.map (·.1)
  · exact q
  · exact absurd (tot_out fun e he z => q (List.mem_map.mpr ⟨e, he, z⟩)) h
theorem mem_nz {ps : Bag} {r : Row} : r ∈ nzRows ps ↔ tot ps r ≠ 0 := by
  unfold nzRows
  rw [List.mem_filter]
  refine ⟨fun h => by simpa using h.2, fun h => ⟨?_, by simpa using h⟩⟩
  exact mem_keys_of_tot (by rw [tally_tot]; exact h)
theorem mk_canon (ps : Bag) : Canon (mk ps) := by
  refine ⟨?_, fun e he => ?_⟩
  · unfold mk
    rw [List.pairwise_map]
    exact sortRows_srt (nzRows_nodup ps)
  · obtain ⟨r, hr, rfl⟩ := List.mem_map.mp he
    exact mem_nz.mp ((sortRows_perm _).mem_iff.mp hr)
theorem Canon.nodup {b : Bag} (h : Canon b) : (b.map (·.1)).Nodup := by
  unfold List.Nodup
  rw [List.pairwise_map]
  refine h.srt.imp fun {x y} q z => ?_
  rw [z, rowLt_irrefl] at q
  cases q
theorem mk_tot (ps : Bag) (r : Row) : tot (mk ps) r = tot ps r := by
  by_cases h : tot ps r = 0
  · rw [h]
    refine tot_out fun e he z => ?_
    obtain ⟨q, hq, rfl⟩ := List.mem_map.mp he
    have h2 := mem_nz.mp ((sortRows_perm _).mem_iff.mp hq)
    exact h2 (by rw [show q = r from z]; exact h)
  · have hm : (r, tot ps r) ∈ mk ps := List.mem_map.mpr ⟨r, (sortRows_perm _).mem_iff.mpr (mem_nz.mpr h), rfl⟩
    exact tot_in (mk_canon ps).nodup hm
/-- a sorted bag is told by its counts -/
theorem Canon.ext : ∀ {a b : Bag}, Canon a → Canon b → (∀ r, tot a r = tot b r) → a = b
  | [], [], _, _, _ => rfl
  | [], y :: b, _, hb, h => by
    have h1 := h y.1
    rw [tot_nil, tot_in hb.nodup List.mem_cons_self] at h1
    exact absurd h1.symm (hb.nz y List.mem_cons_self)
  | x :: a, [], ha, _, h => by
    have h1 := h x.1
    rw [tot_nil, tot_in ha.nodup List.mem_cons_self] at h1
    exact absurd h1 (ha.nz x List.mem_cons_self)
  | x :: a, y :: b, ha, hb, h => by
    have key : ∀ {u v : Row × Int} {s t : Bag}, Canon (u :: s) → Canon (v :: t) → (∀ r, tot (u :: s) r = tot (v :: t) r) → rowLt u.1 v.1 = false := by
      intro u v s t hu hv e
      cases q : rowLt u.1 v.1 with
      | false => rfl
      | true =>
        exfalso
        have e1 := e u.1
        rw [tot_in hu.nodup List.mem_cons_self] at e1
        refine hu.nz u List.mem_cons_self (e1.trans (tot_out fun z hz w => ?_))
        rcases List.mem_cons.mp hz with k | k
        · rw [← w, k, rowLt_irrefl] at q; cases q
        · have k2 := (List.pairwise_cons.mp hv.srt).1 z k
          rw [w] at k2
          rw [rowLt_asym k2] at q; cases q
    have e1 : x.1 = y.1 := by
      by_cases z : x.1 = y.1
      · exact z
      · have q1 := key ha hb h
        have q2 := key hb ha fun r => (h r).symm
        rw [rowLt_total z q1] at q2; cases q2
    have e2 : x.2 = y.2 := by
      have q := h x.1
      rw [tot_in ha.nodup List.mem_cons_self, e1, tot_in hb.nodup List.mem_cons_self] at q
      exact q
    have exy : x = y := Prod.ext e1 e2
    subst exy
    rw [Canon.ext (a := a) (b := b) ⟨(List.pairwise_cons.mp ha.srt).2, fun e he => ha.nz e (List.mem_cons_of_mem _ he)⟩ ⟨(List.pairwise_cons.mp hb.srt).2, fun e he => hb.nz e (List.mem_cons_of_mem _ he)⟩ fun r => by
      have q := h r
      rw [tot_cons, tot_cons] at q
      omega]
theorem mk_of_canon {b : Bag} (h : Canon b) : mk b = b := Canon.ext (mk_canon b) h (mk_tot b)
theorem mk_ext {ps qs : Bag} (h : ∀ r, tot ps r = tot qs r) : mk ps = mk qs := Canon.ext (mk_canon ps) (mk_canon qs) fun r => by rw [mk_tot, mk_tot, h]
theorem mk_len (ps : Bag) : (mk ps).length ≤ ps.length := by
  unfold mk
  rw [List.length_map, (sortRows_perm _).length_eq]
  unfold nzRows
  exact Nat.le_trans (List.length_filter_le ..) (by rw [List.length_map]; exact tally_len ps)
/-! ### the other operations -/
def scaleB (b : Bag) (f : Int) : Bag := if f = 0 then [] else b.map fun e => (e.1, e.2 * f)
def posRows (b : Bag) : List Row := (b.filter fun e => decide (e.2 > 0)).map (·.1)
def onesB (l : List Row) : Bag := l.map fun r => (r, 1)
def cntB (b : Bag) (r : Row) : Int := ((b.find? fun e => decide (e.1 = r)).map (·.2)).getD 0
theorem cntB_tot {b : Bag} (h : Canon b) (r : Row) : cntB b r = tot b r := valI_tot h.nodup r
theorem scale_tot (b : Bag) (f : Int) (r : Row) : tot (scaleB b f) r = tot b r * f := by
  unfold scaleB
  by_cases h : f = 0
  · rw [if_pos h, h, tot_nil]; omega
  · rw [if_neg h, tot_map b (fun x => x * f) (fun x y => Int.add_mul x y f) (Int.zero_mul f)]
theorem scale_canon {b : Bag} (h : Canon b) (f : Int) : Canon (scaleB b f) := by
  unfold scaleB
  by_cases q : f = 0
  · rw [if_pos q]; exact ⟨List.Pairwise.nil, fun e he => by cases he⟩
  · rw [if_neg q]
    refine ⟨?_, fun e he => ?_⟩
    · rw [List.pairwise_map]; exact h.srt
    · obtain ⟨x, hx, rfl⟩ := List.mem_map.mp he
      exact Int.mul_ne_zero (h.nz x hx) q
/-- what the law asks of the scaled bag -/
theorem scale_law {b : Bag} (h : Canon b) (f : Int) : scaleB b f = mk (b.map fun e => (e.1, f * e.2)) :=
  Canon.ext (scale_canon h f) (mk_canon _) fun r => by
    rw [scale_tot, mk_tot, tot_map b (fun x => f * x) (fun x y => Int.mul_add f x y) (Int.mul_zero f), Int.mul_comm]
theorem minus_law (a b : Bag) : mk (a ++ scaleB b (-1)) = mk (a ++ b.map fun e => (e.1, 0 - e.2)) := mk_ext fun r => by
  rw [tot_app, tot_app, scale_tot, tot_map b (fun x => 0 - x) (fun x y => by omega) rfl]
  omega
theorem group1 {a b : Bag} (h : Canon a) : mk (mk (a ++ b) ++ scaleB b (-1)) = a := Canon.ext (mk_canon _) h fun r => by
  rw [mk_tot, tot_app, mk_tot, tot_app, scale_tot]; omega
theorem group2 (a b : Bag) : mk (b ++ a) = mk (a ++ b) := mk_ext fun r => by rw [tot_app, tot_app]; omega
theorem group3 (a : Bag) : mk (a ++ scaleB a (-1)) = [] := Canon.ext (mk_canon _) ⟨List.Pairwise.nil, fun e he => by cases he⟩ fun r => by
  rw [mk_tot, tot_app, scale_tot, tot_nil]; omega
theorem group4 (a b : Bag) (f : Int) : scaleB (mk (a ++ b)) f = mk (scaleB a f ++ scaleB b f) := Canon.ext (scale_canon (mk_canon _) f) (mk_canon _) fun r => by
  rw [scale_tot, mk_tot, mk_tot, tot_app, tot_app, scale_tot, scale_tot, Int.add_mul]
def cntR (l : List Row) (r : Row) : Nat := (l.filter fun x => decide (x = r)).length
theorem cntR_pos {l : List Row} {r : Row} : 0 < cntR l r ↔ r ∈ l := by
  unfold cntR
  rw [List.length_pos_iff_exists_mem]
  constructor
  · rintro ⟨x, hx⟩
    obtain ⟨h1, h2⟩ := List.mem_filter.mp hx
    have e : x = r := by simpa using h2
    rw [← e]; exact h1
  · exact fun h => ⟨r, List.mem_filter.mpr ⟨h, by simp⟩⟩
theorem tot_ones (l : List Row) (r : Row) : tot (onesB l) r = (cntR l r : Nat) := by
  induction l with
  | nil => rfl
  | cons x t ih =>
    rw [show onesB (x :: t) = (x, 1) :: onesB t from rfl, tot_cons, ih]
    unfold cntR
    by_cases h : x = r
    · rw [if_pos (show (x, (1 : Int)).1 = r from h), List.filter_cons_of_pos (by simpa using h), List.length_cons]; omega
    · rw [if_neg (show ¬ (x, (1 : Int)).1 = r from h), List.filter_cons_of_neg (by simpa using h)]; omega
theorem cntR_nodup {l : List Row} (h : l.Nodup) (r : Row) : (r ∈ l → cntR l r = 1) ∧ (r ∉ l → cntR l r = 0) := by
  induction l with
  | nil => exact ⟨fun q => (List.not_mem_nil q).elim, fun _ => rfl⟩
  | cons x t ih =>
    obtain ⟨h1, h2⟩ := List.nodup_cons.mp h
    obtain ⟨a, b⟩ := ih h2
    unfold cntR at *
    by_cases q : x = r
    · subst q
      rw [List.filter_cons_of_pos (by simp), List.length_cons, b h1]
      refine ⟨fun _ => rfl, fun z => ?_⟩
      exact absurd List.mem_cons_self z
    · rw [List.filter_cons_of_neg (by simpa using q)]
      exact ⟨fun z => a ((List.mem_cons.mp z).resolve_left fun w => q w.symm), fun z => b fun w => z (List.mem_cons_of_mem _ w)⟩
theorem set_law {b : Bag} (h : Canon b) : onesB (posRows (mk (onesB (b.map (·.1) ++ posRows b)))) = b.map fun e => (e.1, 1) := by
  have hc := mk_canon (onesB (b.map (·.1) ++ posRows b))
  have hpos : ∀ e ∈ mk (onesB (b.map (·.1) ++ posRows b)), e.2 > 0 := fun e he => by
    have e1 := tot_in hc.nodup he
    rw [mk_tot, tot_ones] at e1
    have e2 := hc.nz e he
    omega
  have hall : posRows (mk (onesB (b.map (·.1) ++ posRows b))) = (mk (onesB (b.map (·.1) ++ posRows b))).map (·.1) := by
    unfold posRows
    rw [List.filter_eq_self.mpr fun e he => by simpa using hpos e he]
  have hs1 : (onesB ((mk (onesB (b.map (·.1) ++ posRows b))).map (·.1))).Pairwise fun x y => rowLt x.1 y.1 = true := by
    unfold onesB
    rw [List.map_map, List.pairwise_map]
    exact hc.srt
  have hs2 : (b.map fun e => ((e.1, 1) : Row × Int)).Pairwise fun x y => rowLt x.1 y.1 = true := by
    rw [List.pairwise_map]
    exact h.srt
  have hn : ∀ l : List Row, ∀ e ∈ onesB l, e.2 ≠ 0 := fun l e he => by
    obtain ⟨x, _, rfl⟩ := List.mem_map.mp he
    exact (by decide : (1 : Int) ≠ 0)
  have e0 : (b.map fun e => ((e.1, 1) : Row × Int)) = onesB (b.map (·.1)) := by
    unfold onesB
    rw [List.map_map]
    rfl
  rw [hall, e0]
  rw [e0] at hs2
  refine Canon.ext ⟨hs1, hn _⟩ ⟨hs2, hn _⟩ fun r => ?_
  rw [tot_ones, tot_ones]
  have n1 := hc.nodup
  have n2 := h.nodup
  have mem : r ∈ (mk (onesB (b.map (·.1) ++ posRows b))).map (·.1) ↔ r ∈ b.map (·.1) := by
    constructor
    · intro q
      obtain ⟨e, he, rfl⟩ := List.mem_map.mp q
      have e1 := tot_in hc.nodup he
      rw [mk_tot, tot_ones] at e1
      have e2 := hpos e he
      have e3 : 0 < cntR (b.map (·.1) ++ posRows b) e.1 := by omega
      rcases List.mem_append.mp (cntR_pos.mp e3) with z | z
      · exact z
      · obtain ⟨x, hx, y⟩ := List.mem_map.mp z
        exact List.mem_map.mpr ⟨x, (List.mem_filter.mp hx).1, y⟩
    · intro q
      have e3 : 0 < cntR (b.map (·.1) ++ posRows b) r := cntR_pos.mpr (List.mem_append_left _ q)
      have e4 : tot (onesB (b.map (·.1) ++ posRows b)) r ≠ 0 := by rw [tot_ones]; omega
      exact mem_keys_of_tot (by rw [mk_tot]; exact e4)
  by_cases q : r ∈ b.map (·.1)
  · rw [(cntR_nodup n1 r).1 (mem.mpr q), (cntR_nodup n2 r).1 q]
  · rw [(cntR_nodup n1 r).2 (fun z => q (mem.mp z)), (cntR_nodup n2 r).2 q]
end KA
set_option Elab.async false
set_option linter.all false
set_option maxRecDepth 100000
set_option maxHeartbeats 8000000
/-! a < b of two tuples where only the first place that differs need be comparable -/
namespace KA
open PySem PySem.W L2 PySem.SeqAt
open AutoSeq1 (wpAny_loadPart')
open MeetsSeq MeetsSeq2 MeetsSeq3 SeqRoads2
/-- all places ahead of j are equal -/
def Ahead (e : Nat → Bool) (j : Nat) : Prop := ∀ i, i < j → e i = true
section
variable (l b : Addr) (xs ys : Array Value) (n m : Nat) (dx dy : Option Addr) (sx sy : Array (Option Value)) (e r : Nat → Bool)
/-- what the two tuples are, and what is known of their places -/
structure Two (A : Around) (s : Shared) : Prop where
  hl : s.heap.get? l = some { cls := .type "tuple", dict := dx, data := .seq xs n, slots := sx }
  hb : s.heap.get? b = some { cls := .type "tuple", dict := dy, data := .seq ys m, slots := sy }
  he : ∀ j (h1 : j < xs.size) (h2 : j < ys.size), EqAt A.in1 s xs[j] ys[j] (e j)
  hr : ∀ j (h1 : j < xs.size) (h2 : j < ys.size), Ahead e j → e j = false → RcLt A.in1 s xs[j] ys[j] (r j)
def outLt : Bool := firstLt e r (decide (xs.size < ys.size)) (List.range (min xs.size ys.size))
theorem tup_first :
    Meets (Builtin.«tuple.__lt__» ⟨[.ref l, .ref b], []⟩) (fun A R s => Two l b xs ys n m dx dy sx sy e r A s ∧ R (.ok (.ret (.bool (outLt xs ys e r)))) s) :=
  .of_wp fun prog w A R s h => by
    obtain ⟨T, h⟩ := h
    obtain ⟨hl, hb, he, hr⟩ := T
    obtain ⟨hp, g, d, tk, os⟩ := s
    have sub := AutoSeq1.sub_tuple_tuple
    have zl : (xs.toList.zip ys.toList).length = min xs.size ys.size := by simp
    wp_walk using wpAny_loadPart' hl, wpAny_loadPart' hb, wpAny_forIn_list _ (fun rest v s' => v.1 = none ∧ s' = ⟨hp, g, d, tk, os⟩ ∧ ∃ i,
        rest = (xs.toList.zip ys.toList).drop i ∧ Ahead e (min i (min xs.size ys.size)) ∧
        R (.ok (.ret (.bool (firstLt e r (decide (xs.size < ys.size)) ((List.range (min xs.size ys.size)).drop i))))) ⟨hp, g, d, tk, os⟩) _
    case turn =>
      rintro ⟨y, x⟩ rest v s' ⟨hv, rfl, i, hz, ha, hR⟩
      have hlt : i < (xs.toList.zip ys.toList).length := by
        refine Nat.lt_of_not_le fun q => ?_
        rw [List.drop_of_length_le q] at hz
        cases hz
      have hm : i < min xs.size ys.size := by rw [← zl]; exact hlt
      have i1 : i < xs.size := by omega
      have i2 : i < ys.size := by omega
      rw [List.drop_eq_getElem_cons hlt] at hz
      injection hz with hyx hrest
      obtain rfl : y = xs[i] := by simpa using congrArg Prod.fst hyx
      obtain rfl : x = ys[i] := by simpa using congrArg Prod.snd hyx
      have hd : (List.range (min xs.size ys.size)).drop i = i :: (List.range (min xs.size ys.size)).drop (i + 1) := by simp [List.drop_eq_getElem_cons, hm]
      have ha' : Ahead e i := fun k hk => ha k (by omega)
      rw [hd] at hR
      refine wpAny_bind (he i i1 i2 prog w _ _ ?_)
      cases q : e i with
      | true =>
        rw [firstLt_yes q] at hR
        wp_walk
        refine ⟨rfl, rfl, i + 1, hrest, fun k hk => ?_, hR⟩
        by_cases z : k = i
        · rw [z]; exact q
        · exact ha' k (by omega)
      | false =>
        rw [firstLt_no q] at hR
        rw [if_pos (by rfl)]
        refine wpAny_bind (wpAny_rule (wpAny_bind (hr i i1 i2 ha' q prog w _ _ ?_)))
        wp_walk
        exact ⟨_, rfl, hR⟩
    case fin =>
      rintro ⟨b1, b2⟩ s' ⟨hb', rfl, i, hz, ha, hR⟩
      simp only at hb'
      subst hb'
      have hge : min xs.size ys.size ≤ i := by
        refine Nat.le_of_not_lt fun q => ?_
        rw [← zl] at q
        rw [List.drop_eq_getElem_cons q] at hz
        cases hz
      rw [List.drop_of_length_le (by simpa using hge)] at hR
      wp_walk
      exact ⟨_, rfl, by simpa [Builtin.Tuple.tupleCompareSizes, firstLt] using hR⟩
    case h =>
      exact ⟨rfl, rfl, 0, rfl, fun k hk => absurd hk (by omega), by simpa [outLt] using h⟩
end
section
variable {A : Around} {s : Shared} {l b : Addr} {xs ys : Array Value} {e r : Nat → Bool}
/-- t < u, decided at the first place that differs -/
theorem rcLt_first (hl : s.heap.IsTuple l xs) (hb : s.heap.IsTuple b ys) (hu : A.units < cLine) (he : ∀ j (h1 : j < xs.size) (h2 : j < ys.size), EqAt A.in1 s xs[j] ys[j] (e j))
    (hr : ∀ j (h1 : j < xs.size) (h2 : j < ys.size), Ahead e j → e j = false → RcLt A.in1 s xs[j] ys[j] (r j)) : RcLt A s (.ref l) (.ref b) (outLt xs ys e r) := by
  intro prog w E Q h
  obtain ⟨⟨c1, d1, t1, s1⟩, o1, q1, n1, e1⟩ := id hl
  obtain ⟨⟨c2, d2, t2, s2⟩, o2, q2, n2, e2⟩ := id hb
  simp only at q1 e1 q2 e2
  subst q1 e1 q2 e2
  exact richCompare_meets_room (op := .Lt) ⟨_, o1, rfl⟩ ⟨_, o2, rfl⟩ F.slot_tuple_lt F.entry_tuple_lt (F.args_tuple_lt_2 _ _) (tup_first l b xs ys n1 n2 d1 d2 s1 s2 e r)
    ⟨⟨o1, o2, he, hr⟩, show Value.bool (outLt xs ys e r) ≠ Value.notImplemented ∧ Q (.bool (outLt xs ys e r)) s from ⟨(fun z => nomatch z), h⟩⟩ hu
/-- tuple's own test, as sorting calls it -/
theorem call_tup_lt {prog : Program} {w : World} {E Q : Value → Shared → Prop} (hl : s.heap.IsTuple l xs) (hb : s.heap.IsTuple b ys) (he : ∀ j (h1 : j < xs.size) (h2 : j < ys.size), EqAt A.in1 s xs[j] ys[j] (e j))
    (hr : ∀ j (h1 : j < xs.size) (h2 : j < ys.size), Ahead e j → e j = false → RcLt A.in1 s xs[j] ys[j] (r j)) (h : Q (.bool (outLt xs ys e r)) s) :
    wpAny (model prog w) A (call (.builtin "tuple.__lt__") [.ref l, .ref b]) Q E s := by
  obtain ⟨⟨c1, d1, t1, s1⟩, o1, q1, n1, e1⟩ := id hl
  obtain ⟨⟨c2, d2, t2, s2⟩, o2, q2, n2, e2⟩ := id hb
  simp only at q1 e1 q2 e2
  subst q1 e1 q2 e2
  exact call_meets F.slot_tuple_lt ⟨_, o1, rfl⟩ F.entry_tuple_lt (F.args_tuple_lt_2 _ _) (tup_first l b xs ys n1 n2 d1 d2 s1 s2 e r) ⟨⟨o1, o2, he, hr⟩, h⟩
end
end KA
set_option Elab.async false
set_option linter.all false
set_option maxRecDepth 100000
set_option maxHeartbeats 8000000
/-! the keys by which the program and the law sort rows: how they compare -/
namespace KA
open PySem PySem.W L2 PySem.SeqAt
def keyD : Key → PyData
  | .inl i => .int i
  | .inr x => .str x
def rowD (r : Row) : PyData := .tuple (r.map keyD)
/-- what rank gives; the law's own key of a value -/
def rankD : Key → PyData
  | .inl i => .tuple [.int 0, .int i]
  | .inr x => .tuple [.int 1, .str x]
def lawD : Key → PyData
  | .inl i => .tuple [.int 0, .int i, .str ""]
  | .inr x => .tuple [.int 1, .int 0, .str x]
def rankRow (r : Row) : PyData := .tuple (r.map rankD)
def lawRow (r : Row) : PyData := .list (r.map lawD)
theorem sLt_irrefl (x : Str) : sLt x x = false := by simp [sLt, List.lt_irrefl]
theorem eqv_str (x y : Str) : PyData.eqv (.str x) (.str y) = decide (x = y) := by
  simp only [PyData.eqv]
  by_cases h : x = y
  · subst h; simp
  · rw [decide_eq_false h]
    exact beq_eq_false_iff_ne.mpr h
theorem eqv_int (i j : Int) : PyData.eqv (.int i) (.int j) = decide (i = j) := by
  simp only [PyData.eqv]
  by_cases h : i = j
  · subst h; simp
  · rw [decide_eq_false h]
    exact beq_eq_false_iff_ne.mpr h
theorem eqv_key (x y : Key) : PyData.eqv (keyD x) (keyD y) = decide (x = y) := by
  cases x with
  | inl i =>
    cases y with
    | inl j => rw [show keyD (.inl i) = .int i from rfl, show keyD (.inl j) = .int j from rfl, eqv_int]; simp
    | inr y => simp [keyD, PyData.eqv]
  | inr x =>
    cases y with
    | inl j => simp [keyD, PyData.eqv]
    | inr y => rw [show keyD (.inr x) = .str x from rfl, show keyD (.inr y) = .str y from rfl, eqv_str]; simp
theorem eqv_rank (x y : Key) : PyData.eqv (rankD x) (rankD y) = decide (x = y) := by
  cases x with
  | inl i =>
    cases y with
    | inl j =>
      simp only [rankD, PyData.eqv, PyData.eqvAll]
      rw [show ((i == j) : Bool) = decide (i = j) by by_cases h : i = j <;> simp [h]]
      simp
    | inr y => simp [rankD, PyData.eqv, PyData.eqvAll]
  | inr x =>
    cases y with
    | inl j => simp [rankD, PyData.eqv, PyData.eqvAll]
    | inr y =>
      have h := eqv_str x y
      simp only [rankD, PyData.eqv, PyData.eqvAll] at h ⊢
      rw [h]
      simp
theorem eqv_law (x y : Key) : PyData.eqv (lawD x) (lawD y) = decide (x = y) := by
  cases x with
  | inl i =>
    cases y with
    | inl j =>
      have h := eqv_int i j
      simp only [lawD, PyData.eqv, PyData.eqvAll] at h ⊢
      rw [h]
      simp
    | inr y => simp [lawD, PyData.eqv, PyData.eqvAll]
  | inr x =>
    cases y with
    | inl j => simp [lawD, PyData.eqv, PyData.eqvAll]
    | inr y =>
      have h := eqv_str x y
      simp only [lawD, PyData.eqv, PyData.eqvAll] at h ⊢
      rw [h]
      simp
section
variable {A : Around} {s : Shared}
theorem rc_int {i j : Int} {t u : Tok} : RcLt A s (.int i t) (.int j u) (decide (i < j)) := fun prog w E Q h => P.lt_int h
theorem rc_str {x y : Str} {t u : Tok} : RcLt A s (.str x t) (.str y u) (sLt x y) := fun prog w E Q h => P.lt_str h
/-- the items of a tuple that reads as data -/
theorem tup_items {h : Heap} {v : Value} {ds : List PyData} {as : List Addr} (r : Reads h v (.tuple ds) as) : ∃ (l : Addr) (xs : Array Value), v = .ref l ∧ h.IsTuple l xs ∧ ReadsAll h xs.toList ds as := by
  cases r with
  | @tuple a o xs n _ _ h1 h2 h3 h4 => exact ⟨a, xs, rfl, ⟨_, h1, h2, _, h3⟩, h4⟩
theorem lst_items {h : Heap} {v : Value} {ds : List PyData} {as : List Addr} (r : Reads h v (.list ds) as) : ∃ (l : Addr) (xs : Array Value) (bs : List Addr), v = .ref l ∧ h.IsList l xs ∧ ReadsAll h xs.toList ds bs := by
  cases r with
  | @list a o xs n _ _ h1 h2 h3 h4 => exact ⟨a, xs, _, rfl, ⟨_, h1, h2, _, h3⟩, h4⟩
theorem int_back {h : Heap} {v : Value} {i : Int} {as : List Addr} (r : Reads h v (.int i) as) : ∃ t, v = .int i t := by
  cases r with
  | int _ t => exact ⟨t, rfl⟩
theorem str_back {h : Heap} {v : Value} {x : Str} {as : List Addr} (r : Reads h v (.str x) as) : ∃ t, v = .str x t := by
  cases r with
  | str _ t => exact ⟨t, rfl⟩
theorem all1 {h : Heap} {xs : Array Value} {d : PyData} {ds : List PyData} {as : List Addr} {i : Nat} (r : ReadsAll h (xs.toList.drop i) (d :: ds) as) : ∃ (hi : i < xs.size) (bs cs : List Addr), Reads h xs[i] d bs ∧ ReadsAll h (xs.toList.drop (i + 1)) ds cs := by
  have hl := SeqAt.ReadsAll.length _ _ _ r
  rw [List.length_drop] at hl
  have hi : i < xs.toList.length := by
    simp only [List.length_cons] at hl
    omega
  rw [List.drop_eq_getElem_cons hi] at r
  cases r with
  | cons r1 r2 => exact ⟨by simpa using hi, _, _, by simpa using r1, r2⟩
theorem key_back {h : Heap} {v : Value} {x : Key} {as : List Addr} (r : Reads h v (keyD x) as) : (∃ i t, x = .inl i ∧ v = .int i t) ∨ ∃ z t, x = .inr z ∧ v = .str z t := by
  cases x with
  | inl i =>
    obtain ⟨t, rfl⟩ := int_back r
    exact .inl ⟨i, t, rfl, rfl⟩
  | inr z =>
    obtain ⟨t, rfl⟩ := str_back r
    exact .inr ⟨z, t, rfl, rfl⟩
def tag : Key → Int
  | .inl _ => 0
  | .inr _ => 1
/-- rank(one) < rank(other) -/
theorem rc_rank {x y : Key} {v u : Value} {as bs : List Addr} (rx : Reads s.heap v (rankD x) as) (ry : Reads s.heap u (rankD y) bs) (hu : A.units + 8 < cLine) : RcLt A s v u (oneLt x y) := by
  have cx : rankD x = .tuple [.int (tag x), keyD x] := by cases x <;> rfl
  have cy : rankD y = .tuple [.int (tag y), keyD y] := by cases y <;> rfl
  rw [cx] at rx
  rw [cy] at ry
  obtain ⟨l, xs, rfl, hl, ra⟩ := tup_items rx
  obtain ⟨b, ys, rfl, hb, rb⟩ := tup_items ry
  obtain ⟨x0, _, _, a0, ra1⟩ := all1 (i := 0) (by simpa using ra)
  obtain ⟨x1, _, _, a1, ra2⟩ := all1 (i := 1) ra1
  obtain ⟨y0, _, _, b0, rb1⟩ := all1 (i := 0) (by simpa using rb)
  obtain ⟨y1, _, _, b1, rb2⟩ := all1 (i := 1) rb1
  have nx : xs.size = 2 := by
    have q := SeqAt.ReadsAll.length _ _ _ ra
    simpa using q
  have ny : ys.size = 2 := by
    have q := SeqAt.ReadsAll.length _ _ _ rb
    simpa using q
  have can : ∀ z : Key, (keyD z).plain = true := fun z => by cases z <;> rfl
  have hdep : ∀ z : Key, (keyD z).depth = 0 := fun z => by cases z <;> simp [keyD, PyData.depth]
  have key := rcLt_first (A := A) (s := s) (e := pairEq [.int (tag x), keyD x] [.int (tag y), keyD y]) (r := fun j => if j = 0 then decide (tag x < tag y) else oneLt x y) hl hb (by omega)
    (fun j j1 j2 => by
      have q := eqAt_plainAll _ _ A.in1 s _ _ _ _ ra rb (by simp [PyData.plainAll, PyData.plain, can]) (by simp [PyData.plainAll, PyData.plain, can])
        (by show A.units + 1 + _ < _; simp [PyData.depthAll, PyData.depth, hdep]; omega) j (by simpa using j1) (by simpa using j2)
      simpa using q)
    (fun j j1 j2 ha hj => by
      match j, j1, j2, ha, hj with
      | 0, j1, j2, ha, hj =>
        obtain ⟨t, e1⟩ := int_back a0
        obtain ⟨t', e2⟩ := int_back b0
        rw [e1, e2]
        exact rc_int
      | 1, j1, j2, ha, hj =>
        have h0 : tag x = tag y := by
          have q := ha 0 (by omega)
          simpa [pairEq, PyData.eqv] using q
        show RcLt A.in1 s xs[1] ys[1] (oneLt x y)
        rcases key_back a1 with ⟨i, t, rfl, e1⟩ | ⟨z, t, rfl, e1⟩
        · rcases key_back b1 with ⟨j, t', rfl, e2⟩ | ⟨z', t', rfl, e2⟩
          · rw [e1, e2]; exact rc_int
          · exact absurd (show (0 : Int) = 1 from h0) (by decide)
        · rcases key_back b1 with ⟨j, t', rfl, e2⟩ | ⟨z', t', rfl, e2⟩
          · exact absurd (show (1 : Int) = 0 from h0) (by decide)
          · rw [e1, e2]; exact rc_str
      | j + 2, j1, _, _, _ => exact absurd j1 (by omega))
  have e : outLt xs ys (pairEq [.int (tag x), keyD x] [.int (tag y), keyD y]) (fun j => if j = 0 then decide (tag x < tag y) else oneLt x y) = oneLt x y := by
    unfold outLt
    rw [nx, ny, show List.range (min 2 2) = [0, 1] from rfl]
    have e0 : pairEq [.int (tag x), keyD x] [.int (tag y), keyD y] 0 = decide (tag x = tag y) := by
      show PyData.eqv (.int (tag x)) (.int (tag y)) = _
      exact eqv_int _ _
    have e1 : pairEq [.int (tag x), keyD x] [.int (tag y), keyD y] 1 = decide (x = y) := by
      show PyData.eqv (keyD x) (keyD y) = _
      exact eqv_key _ _
    simp only [firstLt, e0, e1]
    by_cases h : tag x = tag y
    · rw [if_pos (by simpa using h)]
      by_cases h2 : x = y
      · subst h2; simp [oneLt_irrefl]
      · rw [if_neg (by simpa using h2)]; simp
    · rw [if_neg (by simpa using h)]
      cases x <;> cases y <;> simp_all [tag, oneLt]
  rw [e] at key
  exact key
/-- the law's own key of one value -/
theorem rc_law {x y : Key} {v u : Value} {as bs : List Addr} (rx : Reads s.heap v (lawD x) as) (ry : Reads s.heap u (lawD y) bs) (hu : A.units + 8 < cLine) : RcLt A s v u (oneLt x y) := by
  have hal : alike (lawD x) (lawD y) = true := by cases x <;> cases y <;> simp [lawD, alike, alikeAll]
  have hdep : ∀ z : Key, (lawD z).depth ≤ 2 := fun z => by cases z <;> simp [lawD, PyData.depth, PyData.depthAll]
  have h := rcLt_alike (lawD x) (lawD y) A s v u as bs rx ry hal (by cases x <;> exact fun z => nomatch z) (by have := hdep x; omega)
  have e : dataLt (lawD x) (lawD y) = oneLt x y := by
    cases x with
    | inl i =>
      cases y with
      | inl j =>
        simp only [lawD]
        rw [dataLt_tuple, dataLt_all_yes (by simp [alike]) (by simp [PyData.eqv])]
        by_cases q : i = j
        · subst q
          simp [oneLt, PyProof.Rows.lex_irrefl]
        · rw [dataLt_all_no (by simp [alike]) (by rw [eqv_int]; simpa using q), dataLt_int]
          rfl
      | inr y =>
        simp only [lawD]
        rw [dataLt_tuple, dataLt_all_no (by simp [alike]) (by simp [PyData.eqv]), dataLt_int]
        rfl
    | inr x =>
      cases y with
      | inl j =>
        simp only [lawD]
        rw [dataLt_tuple, dataLt_all_no (by simp [alike]) (by simp [PyData.eqv]), dataLt_int]
        rfl
      | inr y =>
        simp only [lawD]
        rw [dataLt_tuple, dataLt_all_yes (by simp [alike]) (by simp [PyData.eqv]), dataLt_all_yes (by simp [alike]) (by simp [PyData.eqv])]
        by_cases q : x = y
        · subst q
          simp [oneLt, sLt_irrefl, PyProof.Rows.lex_irrefl]
        · rw [dataLt_all_no (by simp [alike]) (by rw [eqv_str]; simpa using q), dataLt_str]
          rfl
  rw [e] at h
  exact h
/-- the first place that differs, for items that compare as values do -/
theorem first_row (enc : Key → PyData) (hq : ∀ x y, PyData.eqv (enc x) (enc y) = decide (x = y)) : ∀ (a b : Row),
    firstLt (pairEq (a.map enc) (b.map enc)) (fun j => oneLt (a.getD j (.inl 0)) (b.getD j (.inl 0))) (decide (a.length < b.length)) (List.range (min a.length b.length)) = rowLt a b
  | [], [] => rfl
  | [], _ :: _ => by simp [firstLt, rowLt]
  | _ :: _, [] => by simp [firstLt, rowLt]
  | x :: a, y :: b => by
    have ih := first_row enc hq a b
    have em : min (x :: a).length (y :: b).length = min a.length b.length + 1 := by simp only [List.length_cons]; omega
    have ed : decide ((x :: a).length < (y :: b).length) = decide (a.length < b.length) := by
      simp only [List.length_cons]
      exact decide_eq_decide.mpr (by omega)
    rw [em, ed, List.range_succ_eq_map, rowLt]
    have e0 : pairEq ((x :: a).map enc) ((y :: b).map enc) 0 = decide (x = y) := hq x y
    by_cases h : x = y
    · rw [firstLt_yes (by rw [e0]; simpa using h), if_pos h, firstLt_map, ← ih]
      rfl
    · rw [firstLt_no (by rw [e0]; simpa using h), if_neg h]
      rfl
/-- a place of a row that is read item by item -/
theorem at_row {h : Heap} {enc : Key → PyData} : ∀ {r : Row} {vs : List Value} {as : List Addr}, ReadsAll h vs (r.map enc) as → ∀ j (hj : j < vs.length), ∃ bs, Reads h vs[j] (enc (r.getD j (.inl 0))) bs
  | [], vs, as, q, j, hj => by
    have e := SeqAt.ReadsAll.length _ _ _ q
    simp only [List.map_nil, List.length_nil] at e
    omega
  | x :: r, vs, as, q, j, hj => by
    have q' : ReadsAll h vs (enc x :: r.map enc) as := q
    cases q' with
    | cons q1 q2 =>
      cases j with
      | zero => exact ⟨_, q1⟩
      | succ j => exact at_row q2 j (by simpa using hj)
theorem plain_map {enc : Key → PyData} (hp : ∀ x, (enc x).plain = true) : ∀ r : Row, PyData.plainAll (r.map enc) = true
  | [] => rfl
  | x :: r => by simp [PyData.plainAll, hp x, plain_map hp r]
theorem depth_map {enc : Key → PyData} (hd : ∀ x, (enc x).depth ≤ 2) : ∀ r : Row, PyData.depthAll (r.map enc) ≤ 2
  | [] => by simp [PyData.depthAll]
  | x :: r => by
    have a := hd x
    have b := depth_map hd r
    simp only [List.map_cons, PyData.depthAll]
    omega
theorem rank_plain (x : Key) : (rankD x).plain = true := by cases x <;> rfl
theorem law_plain (x : Key) : (lawD x).plain = true := by cases x <;> rfl
theorem rank_depth (x : Key) : (rankD x).depth ≤ 2 := by cases x <;> simp [rankD, PyData.depth, PyData.depthAll]
theorem law_depth (x : Key) : (lawD x).depth ≤ 2 := by cases x <;> simp [lawD, PyData.depth, PyData.depthAll]
/-- what the two tests of places are, for two rows of keys -/
theorem row_parts {enc : Key → PyData} (hq : ∀ x y, PyData.eqv (enc x) (enc y) = decide (x = y)) (hp : ∀ x, (enc x).plain = true) (hd : ∀ x, (enc x).depth ≤ 2) {a b : Row} {xs ys : Array Value} {as bs : List Addr}
    (rc : ∀ (B : Around) (x y : Key) (v u : Value) (cs ds : List Addr), Reads s.heap v (enc x) cs → Reads s.heap u (enc y) ds → B.units + 8 < cLine → RcLt B s v u (oneLt x y))
    (ra : ReadsAll s.heap xs.toList (a.map enc) as) (rb : ReadsAll s.heap ys.toList (b.map enc) bs) (hu : A.units + 12 < cLine) :
    (∀ j (h1 : j < xs.size) (h2 : j < ys.size), EqAt A.in1 s xs[j] ys[j] (pairEq (a.map enc) (b.map enc) j)) ∧ (∀ j (h1 : j < xs.size) (h2 : j < ys.size), RcLt A.in1 s xs[j] ys[j] (oneLt (a.getD j (.inl 0)) (b.getD j (.inl 0)))) ∧
    outLt xs ys (pairEq (a.map enc) (b.map enc)) (fun j => oneLt (a.getD j (.inl 0)) (b.getD j (.inl 0))) = rowLt a b := by
  have na : xs.size = a.length := by
    have q := SeqAt.ReadsAll.length _ _ _ ra
    simpa using q
  have nb : ys.size = b.length := by
    have q := SeqAt.ReadsAll.length _ _ _ rb
    simpa using q
  refine ⟨fun j j1 j2 => ?_, fun j j1 j2 => ?_, ?_⟩
  · have q := eqAt_plainAll _ _ A.in1 s _ _ _ _ ra rb (plain_map hp a) (plain_map hp b) (by show A.units + 1 + _ < _; have := depth_map hd a; omega) j (by simpa using j1) (by simpa using j2)
    simpa using q
  · obtain ⟨cs, q1⟩ := at_row ra j (by simpa using j1)
    obtain ⟨ds, q2⟩ := at_row rb j (by simpa using j2)
    exact rc A.in1 _ _ _ _ cs ds (by simpa using q1) (by simpa using q2) (by show A.units + 1 + 8 < _; omega)
  · unfold outLt
    rw [na, nb]
    exact first_row enc hq a b
/-- row_rank(a) < row_rank(b) -/
theorem rc_rankRow {a b : Row} {v u : Value} {as bs : List Addr} (rx : Reads s.heap v (rankRow a) as) (ry : Reads s.heap u (rankRow b) bs) (hu : A.units + 12 < cLine) : RcLt A s v u (rowLt a b) := by
  obtain ⟨l, xs, rfl, hl, ra⟩ := tup_items rx
  obtain ⟨m, ys, rfl, hm, rb⟩ := tup_items ry
  obtain ⟨h1, h2, h3⟩ := row_parts (A := A) eqv_rank rank_plain rank_depth (fun B x y v u cs ds r1 r2 q => rc_rank r1 r2 q) ra rb hu
  have h := rcLt_first hl hm (by omega) h1 fun j j1 j2 _ _ => h2 j j1 j2
  rw [h3] at h
  exact h
/-- _law_key(a) < _law_key(b) -/
theorem rc_lawRow {a b : Row} {v u : Value} {as bs : List Addr} (rx : Reads s.heap v (lawRow a) as) (ry : Reads s.heap u (lawRow b) bs) (hu : A.units + 12 < cLine) : RcLt A s v u (rowLt a b) := by
  obtain ⟨l, xs, cs, rfl, hl, ra⟩ := lst_items rx
  obtain ⟨m, ys, ds, rfl, hm, rb⟩ := lst_items ry
  obtain ⟨h1, h2, h3⟩ := row_parts (A := A) eqv_law law_plain law_depth (fun B x y v u cs ds r1 r2 q => rc_law r1 r2 q) ra rb hu
  have h := RcLt.lists hl hm (by omega) h1 fun j j1 j2 _ => h2 j j1 j2
  rw [show firstLt (pairEq (a.map lawD) (b.map lawD)) (fun j => oneLt (a.getD j (.inl 0)) (b.getD j (.inl 0))) (decide (xs.size < ys.size)) (List.range (min xs.size ys.size)) = rowLt a b from h3] at h
  exact h
end
end KA
set_option Elab.async false
set_option linter.all false
set_option maxRecDepth 100000
set_option maxHeartbeats 8000000
/-! keys of rows can be sorted, whatever the kind that the list's sort picks -/
namespace KA
open PySem PySem.W PySem.Calls PyProof.Rows L2
open PySem.SeqAt (RcLt)
def KeyIs1 (h : Heap) (E : Row → PyData) (v : Value) (r : Row) : Prop := ∃ as, Reads h v (E r) as
/-- a key that says which row it is the key of -/
structure Tells (E : Row → PyData) : Prop where
  inj : ∀ a b, E a = E b → a = b
  plain : ∀ a, (E a).plain = true
/-- rows as a kind of keys -/
noncomputable def rowKind (h : Heap) (E : Row → PyData) : PyProof.Rows.KeyKind where
  α := Row
  blt := rowLt
  irrefl := rowLt_irrefl
  trans := fun _ _ _ => rowLt_trans
  negTrans := fun a b c h1 => by
    by_cases e : a = b
    · subst e; exact .inr h1
    · cases q : rowLt a b with
      | true => exact .inl rfl
      | false => exact .inr (rowLt_trans (rowLt_total e q) h1)
  total := fun a b h1 h2 => by
    by_cases e : a = b
    · exact e
    · rw [rowLt_total e h1] at h2; cases h2
  keyOf := fun v => open Classical in if q : ∃ r, KeyIs1 h E v r then some q.choose else none
  dflt := []
theorem rowKind_some {h : Heap} {E : Row → PyData} (T : Tells E) {v : Value} {r : Row} (k : KeyIs1 h E v r) : (rowKind h E).keyOf v = some r := by
  have q : ∃ r, KeyIs1 h E v r := ⟨r, k⟩
  have e : (rowKind h E).keyOf v = some q.choose := by
    show (open Classical in if q : ∃ r, KeyIs1 h E v r then some q.choose else none) = _
    rw [dif_pos q]
  obtain ⟨as, r1⟩ := q.choose_spec
  obtain ⟨bs, r2⟩ := k
  rw [e, T.inj _ _ (SeqAt.plain_unique _ _ _ _ _ (T.plain _) r1 r2)]
theorem rowKind_inv {h : Heap} {E : Row → PyData} {v : Value} {r : Row} (e : (rowKind h E).keyOf v = some r) : KeyIs1 h E v r := by
  by_cases q : ∃ r, KeyIs1 h E v r
  · have e' : (rowKind h E).keyOf v = some q.choose := by
      show (open Classical in if q : ∃ r, KeyIs1 h E v r then some q.choose else none) = _
      rw [dif_pos q]
    rw [e'] at e
    rw [← Option.some.inj e]
    exact q.choose_spec
  · have e' : (rowKind h E).keyOf v = none := by
      show (open Classical in if q : ∃ r, KeyIs1 h E v r then some q.choose else none) = _
      rw [dif_neg q]
      rfl
    rw [e'] at e
    cases e
theorem map_inj {enc : Key → PyData} (hi : ∀ x y, enc x = enc y → x = y) : ∀ {a b : Row}, a.map enc = b.map enc → a = b
  | [], [], _ => rfl
  | [], _ :: _, h => by simp at h
  | _ :: _, [], h => by simp at h
  | x :: a, y :: b, h => by
    have h' : enc x :: a.map enc = enc y :: b.map enc := h
    injection h' with h1 h2
    rw [hi _ _ h1, map_inj hi h2]
theorem rank_inj (x y : Key) (h : rankD x = rankD y) : x = y := by
  cases x <;> cases y <;> simp [rankD] at h <;> simp [h]
theorem law_inj (x y : Key) (h : lawD x = lawD y) : x = y := by
  cases x <;> cases y <;> simp [lawD] at h <;> simp [h]
theorem tells_rank : Tells rankRow := ⟨fun a b h => map_inj rank_inj (by injection h), fun a => by show PyData.plainAll (a.map rankD) = true; exact plain_map rank_plain a⟩
theorem tells_law : Tells lawRow := ⟨fun a b h => map_inj law_inj (by injection h), fun a => by show PyData.plainAll (a.map lawD) = true; exact plain_map law_plain a⟩
section
variable {prog : Program} {w : World} {A : Around} {E : Value → Shared → Prop} {s : Shared} {Q : Bool → Shared → Prop}
/-- the test where one type is known: the type's own -/
theorem one_lists {a b : Row} {v u : Value} {as bs : List Addr} (rx : Reads s.heap v (lawRow a) as) (ry : Reads s.heap u (lawRow b) bs) (hu : A.units + 12 < cLine) (hq : Q (rowLt a b) s) : wpAny (model prog w) A (oneLt' true v u) Q E s := by
  obtain ⟨l, xs, cs, rfl, hl, ra⟩ := lst_items rx
  obtain ⟨m, ys, ds, rfl, hm, rb⟩ := lst_items ry
  obtain ⟨h1, h2, h3⟩ := row_parts (A := A) eqv_law law_plain law_depth (fun B x y v u cs ds r1 r2 q => rc_law r1 r2 q) ra rb hu
  obtain ⟨o, o1, o2, _⟩ := id hl
  rw [oneLt'_eq]
  simp only [if_true]
  refine wpAny_bind (wpAny_cRoomFor (by omega) ?_)
  refine wpAny_bind (wpAny_callSpecialIfBound?_slot (T := "list") ⟨o, o1, o2⟩ F.slot_list_lt (SeqAt.call_list_lt (e := SeqAt.pairEq (a.map lawD) (b.map lawD)) (r := fun j => oneLt (a.getD j (.inl 0)) (b.getD j (.inl 0))) hl hm h1 (fun j j1 j2 _ => h2 j j1 j2) ?_))
  rw [show SeqAt.firstLt (SeqAt.pairEq (a.map lawD) (b.map lawD)) (fun j => oneLt (a.getD j (.inl 0)) (b.getD j (.inl 0))) (decide (xs.size < ys.size)) (List.range (min xs.size ys.size)) = rowLt a b from h3]
  exact wpAny_truthy_bool hq
theorem one_tups {a b : Row} {v u : Value} {as bs : List Addr} (rx : Reads s.heap v (rankRow a) as) (ry : Reads s.heap u (rankRow b) bs) (hu : A.units + 12 < cLine) (hq : Q (rowLt a b) s) : wpAny (model prog w) A (oneLt' true v u) Q E s := by
  obtain ⟨l, xs, rfl, hl, ra⟩ := tup_items rx
  obtain ⟨m, ys, rfl, hm, rb⟩ := tup_items ry
  obtain ⟨h1, h2, h3⟩ := row_parts (A := A) eqv_rank rank_plain rank_depth (fun B x y v u cs ds r1 r2 q => rc_rank r1 r2 q) ra rb hu
  obtain ⟨o, o1, o2, _⟩ := id hl
  rw [oneLt'_eq]
  simp only [if_true]
  refine wpAny_bind (wpAny_cRoomFor (by omega) ?_)
  refine wpAny_bind (wpAny_callSpecialIfBound?_slot (T := "tuple") ⟨o, o1, o2⟩ F.slot_tuple_lt (call_tup_lt hl hm h1 (fun j j1 j2 _ _ => h2 j j1 j2) ?_))
  rw [h3]
  exact wpAny_truthy_bool hq
/-- the test of no known type -/
theorem one_gen {k : Bool} {v u : Value} (h : RcLt A s v u k) (hq : Q k s) : wpAny (model prog w) A (oneLt' false v u) Q E s := by
  rw [oneLt'_eq]
  simp only [Bool.false_eq_true, if_false]
  exact wpAny_bind (h prog w E _ (wpAny_truthy_bool hq))
/-- the test place by place, as tuples that are not empty are compared -/
theorem kat_rows : ∀ (a b : Row) (i : Nat) (vs ws : List Value) (as bs : List Addr) (fin : Bool), ReadsAll s.heap vs (a.map rankD) as → ReadsAll s.heap ws (b.map rankD) bs → A.units + 12 < cLine → fin = decide (a.length < b.length) → Q (rowLt a b) s →
    KatLex prog w A false fin Q (vs.zip ws) i s
  | [], [], i, vs, ws, as, bs, fin, ra, rb, _, hf, hq => by
    cases ra; cases rb
    subst hf
    exact kat_nil (by simpa [rowLt] using hq)
  | [], y :: b, i, vs, ws, as, bs, fin, ra, rb, _, hf, hq => by
    cases ra
    subst hf
    rw [List.zip_nil_left]
    exact kat_nil (by simpa [rowLt] using hq)
  | x :: a, [], i, vs, ws, as, bs, fin, ra, rb, _, hf, hq => by
    cases rb
    subst hf
    rw [List.zip_nil_right]
    exact kat_nil (by simpa [rowLt] using hq)
  | x :: a, y :: b, i, vs, ws, as, bs, fin, ra, rb, hu, hf, hq => by
    have ra' : ReadsAll s.heap vs (rankD x :: a.map rankD) as := ra
    have rb' : ReadsAll s.heap ws (rankD y :: b.map rankD) bs := rb
    cases ra' with
    | cons r1 r2 =>
      cases rb' with
      | cons q1 q2 =>
        rw [List.zip_cons_cons]
        refine kat_cons (SeqAt.eqAt_plain (rankD x) (rankD y) A s _ _ _ _ r1 q1 (rank_plain x) (rank_plain y) (by have := rank_depth x; omega) prog w _ _ ?_)
        rw [eqv_rank]
        rw [rowLt] at hq
        by_cases h : x = y
        · rw [if_pos h] at hq
          rw [decide_eq_true h]
          exact kat_yes (kat_rows a b (i + 1) _ _ _ _ fin r2 q2 hu (by simpa using hf) hq)
        · rw [if_neg h] at hq
          rw [decide_eq_false h]
          exact kat_no (one_gen (rc_rank r1 q1 (by omega)) hq)
end
section
variable {M : Model} {A : Around} {E : Value → Shared → Prop} {s : Shared}
/-- the first items, where there are any -/
theorem firsts_rank : ∀ (vs : List Value) (rows : List Row), EachIs (KeyIs1 s.heap rankRow) vs rows → ∃ fs : List (Option Value), fs.map (·.isSome) = rows.map (fun r => !r.isEmpty) ∧
    (∀ v, some v ∈ fs → ∃ x as, Reads s.heap v (rankD x) as) ∧ ∀ Q : List (Option Value) → Shared → Prop, Q fs s → wpAny M A (vs.mapM firstOfTuple') Q E s
  | [], [], _ => by
    refine ⟨[], rfl, fun v hv => ?_, fun Q hq => ?_⟩
    · exact (List.not_mem_nil hv).elim
    · rw [List.mapM_nil]
      exact wpAny_pure hq
  | [], _ :: _, h => by cases h
  | _ :: _, [], h => by cases h
  | v :: vs, r :: rows, h => by
    cases h with
    | cons h1 h2 =>
      obtain ⟨fs, f1, f2, f3⟩ := firsts_rank vs rows h2
      obtain ⟨as, k⟩ := h1
      obtain ⟨l, xs, rfl, hl, ra⟩ := tup_items k
      obtain ⟨o, o1, o2, n, o3⟩ := id hl
      refine ⟨xs[0]? :: fs, ?_, fun u hu => ?_, fun Q hq => ?_⟩
      · rw [List.map_cons, List.map_cons, f1]
        congr 1
        have n1 := SeqAt.ReadsAll.length _ _ _ ra
        cases r with
        | nil =>
          have z : xs.size = 0 := by simpa using n1
          rw [Array.getElem?_eq_none (by omega)]
          rfl
        | cons x t =>
          have z : 0 < xs.size := by
            have : xs.size = t.length + 1 := by simpa using n1
            omega
          rw [Array.getElem?_eq_getElem z]
          rfl
      · rcases List.mem_cons.mp hu with q | q
        · cases r with
          | nil =>
            have n1 := SeqAt.ReadsAll.length _ _ _ ra
            have z : xs.size = 0 := by simpa using n1
            rw [Array.getElem?_eq_none (by omega)] at q
            cases q
          | cons x t =>
            obtain ⟨z, bs, cs, r1, _⟩ := all1 (i := 0) (show ReadsAll s.heap (xs.toList.drop 0) (rankD x :: t.map rankD) as from ra)
            rw [Array.getElem?_eq_getElem z] at q
            rw [Option.some.inj q]
            exact ⟨x, bs, r1⟩
        · exact f2 u q
      · rw [List.mapM_cons]
        refine wpAny_bind ?_
        rw [kas_first_eq]
        refine wpAny_bind (Looks.here (show Looks M s.heap (typeOf (.ref l)) o.cls from (Looks.ld o1).andThen .now) ?_)
        rw [o2, if_neg (by first | decide | simp)]
        refine wpAny_bind (listItems_at o1 o3 (wpAny_pure ?_))
        exact wpAny_bind (f3 (fun bs s' => wpAny M A (pure (xs[0]? :: bs)) Q E s') (wpAny_pure hq))
theorem one_type {vs : List Value} {T : Value} {Q : Option Value → Shared → Prop} (h1 : 0 < vs.length) (hT : ∀ v ∈ vs, Looks M s.heap (typeOf v) T) (hT2 : (T == T) = true) (hq : Q (some T) s) : wpAny M A (oneTypeOnly' vs.toArray) Q E s := by
  rw [oneTypeOnly'_eq, List.mapM_toArray, map_eq_pure_bind]
  refine wpAny_bind (wpAny_bind (kas_mapM (r := T) _ (fun v hv Q' q => (hT v hv).here q) (wpAny_pure ?_)))
  obtain ⟨v, vs', rfl⟩ : ∃ v vs', vs = v :: vs' := by
    match vs, h1 with
    | v :: vs', _ => exact ⟨v, vs', rfl⟩
  have hall : ((List.map (fun _ => T) (v :: vs')).toArray.all fun x => x == T) = true := by
    simp only [List.all_toArray, List.all_map, List.all_eq_true]
    intro _ _
    exact hT2
  rw [show (List.map (fun _ => T) (v :: vs')).toArray[0]? = some T by simp]
  simp only [hall, if_true]
  exact wpAny_pure hq
end
section
variable {prog : Program} {w : World} {A : Around} {s : Shared}
theorem looks_rank {v : Value} {r : Row} (k : KeyIs1 s.heap rankRow v r) {M : Model} : Looks M s.heap (typeOf v) (.type "tuple") := by
  obtain ⟨as, k⟩ := k
  exact looks_reads k
theorem each_left {α β : Type} {R : α → β → Prop} {as : List α} {bs : List β} (h : EachIs R as bs) {a : α} (ha : a ∈ as) : ∃ b, R a b := by
  obtain ⟨b, _, r⟩ := h.left a ha
  exact ⟨b, r⟩
theorem sorts_rank {ks : List Value} {rows : List Row} (e : EachIs (KeyIs1 s.heap rankRow) ks rows) (hu : A.units + 12 < cLine) : SortsAt prog w A s (rowKind s.heap rankRow) ks := by
  refine ⟨fun v hv => ?_, ?_⟩
  · obtain ⟨r, k⟩ := each_left e hv
    exact ⟨r, rowKind_some tells_rank k⟩
  · have gen : H.LtAt prog w A s (rowKind s.heap rankRow) general' := fun E x y (a b : Row) Q ha hb hq => by
      obtain ⟨as, ra⟩ := rowKind_inv ha
      obtain ⟨bs, rb⟩ := rowKind_inv hb
      exact one_gen (rc_rankRow ra rb hu) hq
    have one : H.LtAt prog w A s (rowKind s.heap rankRow) oneType' := fun E x y (a b : Row) Q ha hb hq => by
      obtain ⟨as, ra⟩ := rowKind_inv ha
      obtain ⟨bs, rb⟩ := rowKind_inv hb
      rw [keyLt'_oneType]
      exact one_tups ra rb hu hq
    have tup : H.LtAt prog w A s (rowKind s.heap rankRow) (tuples' false) := fun E x y (a b : Row) Q ha hb hq => by
      obtain ⟨as, ra⟩ := rowKind_inv ha
      obtain ⟨bs, rb⟩ := rowKind_inv hb
      obtain ⟨l, xs, rfl, ⟨o, o1, o2, n, o3⟩, r1⟩ := tup_items ra
      obtain ⟨m, ys, rfl, ⟨p, p1, p2, k, p3⟩, r2⟩ := tup_items rb
      have n1 := SeqAt.ReadsAll.length _ _ _ r1
      have n2 := SeqAt.ReadsAll.length _ _ _ r2
      refine kat_lt o1 o3 p1 p3 (kat_rows a b 0 _ _ _ _ _ r1 r2 hu ?_ hq)
      simp only [Array.length_toList, List.length_map] at n1 n2
      rw [n1, n2]
    obtain ⟨fs, f1, f2, f3⟩ := firsts_rank (M := model prog w) (A := A) (E := fun _ _ => True) ks rows e
    by_cases hall : (fs.toArray.all fun x => x.isSome) = true
    · refine ⟨tuples' false, tup, fun h2 E Q hq => ?_⟩
      obtain ⟨fs', g1, g2, g3⟩ := firsts_rank (M := model prog w) (A := A) (E := E) ks rows e
      have hl : fs'.map (·.isSome) = fs.map (·.isSome) := by rw [g1, f1]
      have hall' : (fs'.toArray.all fun x => x.isSome) = true := by
        have q : (fs.map (·.isSome)).all id = true := by rw [List.all_map]; simpa using hall
        rw [← hl, List.all_map] at q
        simpa using q
      rw [keyKind'_eq, List.mapM_toArray, map_eq_pure_bind]
      refine wpAny_bind (wpAny_bind (g3 _ (wpAny_pure ?_)))
      rw [if_pos hall']
      refine wpAny_bind (wpAny_rule ?_)
      have hlen : fs'.length = ks.length := by
        have q := congrArg List.length g1
        simp only [List.length_map] at q
        rw [q, e.length]
      obtain ⟨gs, hgs⟩ : ∃ gs : List Value, fs' = gs.map some := ⟨fs'.filterMap id, by
        have : ∀ l : List (Option Value), (∀ o ∈ l, o.isSome = true) → l = (l.filterMap id).map some := by
          intro l
          induction l with
          | nil => intro _; rfl
          | cons o t ih =>
            intro h
            cases o with
            | none => exact absurd (h none List.mem_cons_self) (by simp)
            | some v =>
              show some v :: t = some v :: (t.filterMap id).map some
              rw [← ih fun o ho => h o (List.mem_cons_of_mem _ ho)]
        refine this fs' fun o ho => ?_
        have q := hall'
        simp only [List.all_toArray, List.all_eq_true] at q
        exact q o ho⟩
      have hfm : fs'.toArray.filterMap id = gs.toArray := by rw [hgs]; simp
      rw [hfm]
      refine wpAny_bind (one_type (T := .type "tuple") (by rw [hgs, List.length_map] at hlen; omega) (fun v hv => ?_) (by simp) (wpAny_pure ?_))
      · obtain ⟨x, as, k⟩ := g2 v (by rw [hgs]; exact List.mem_map.mpr ⟨v, hv, rfl⟩)
        have q := looks_reads (M := model prog w) k
        cases x <;> exact q
      · simpa using hq
    · by_cases hfst : rows.head?.any (fun r => !r.isEmpty) = true
      · refine ⟨general', gen, fun h2 E Q hq => ?_⟩
        obtain ⟨fs', g1, g2, g3⟩ := firsts_rank (M := model prog w) (A := A) (E := E) ks rows e
        have hl : fs'.map (·.isSome) = fs.map (·.isSome) := by rw [g1, f1]
        have hall' : ¬ (fs'.toArray.all fun x => x.isSome) = true := fun z => hall (by
          have q : (fs'.map (·.isSome)).all id = true := by rw [List.all_map]; simpa using z
          rw [hl, List.all_map] at q
          simpa using q)
        have h0 : (fs'.toArray[0]?.bind id).isSome = true := by
          cases rows with
          | nil => simp at hfst
          | cons r rows =>
            cases fs' with
            | nil => simp at g1
            | cons o fs' =>
              have q : o.isSome = !r.isEmpty := by
                have z : o.isSome :: fs'.map (·.isSome) = (!r.isEmpty) :: rows.map (fun r => !r.isEmpty) := g1
                injection z
              have z : (!r.isEmpty) = true := by simpa using hfst
              rw [z] at q
              simpa using q
        rw [keyKind'_eq, List.mapM_toArray, map_eq_pure_bind]
        refine wpAny_bind (wpAny_bind (g3 _ (wpAny_pure ?_)))
        rw [if_neg hall', if_pos h0]
        exact wpAny_pure hq
      · refine ⟨oneType', one, fun h2 E Q hq => ?_⟩
        obtain ⟨fs', g1, g2, g3⟩ := firsts_rank (M := model prog w) (A := A) (E := E) ks rows e
        have hl : fs'.map (·.isSome) = fs.map (·.isSome) := by rw [g1, f1]
        have hall' : ¬ (fs'.toArray.all fun x => x.isSome) = true := fun z => hall (by
          have q : (fs'.map (·.isSome)).all id = true := by rw [List.all_map]; simpa using z
          rw [hl, List.all_map] at q
          simpa using q)
        have h0 : ¬ (fs'.toArray[0]?.bind id).isSome = true := by
          cases rows with
          | nil =>
            cases fs' with
            | nil => simp
            | cons o fs' => simp at g1
          | cons r rows =>
            cases fs' with
            | nil => simp at g1
            | cons o fs' =>
              have q : o.isSome = !r.isEmpty := by
                have z : o.isSome :: fs'.map (·.isSome) = (!r.isEmpty) :: rows.map (fun r => !r.isEmpty) := g1
                injection z
              have z : (!r.isEmpty) = false := by simpa using hfst
              rw [z] at q
              cases o with
              | none => simp
              | some v => simp at q
        rw [keyKind'_eq, List.mapM_toArray, map_eq_pure_bind]
        refine wpAny_bind (wpAny_bind (g3 _ (wpAny_pure ?_)))
        rw [if_neg hall', if_neg h0]
        refine wpAny_bind (one_type (T := .type "tuple") (by omega) (fun v hv => ?_) (by simp) (wpAny_pure ?_))
        · obtain ⟨r, k⟩ := each_left e hv
          exact looks_rank k
        · simpa using hq
theorem sorts_law {ks : List Value} {rows : List Row} (e : EachIs (KeyIs1 s.heap lawRow) ks rows) (hu : A.units + 12 < cLine) : SortsAt prog w A s (rowKind s.heap lawRow) ks := by
  refine ⟨fun v hv => ?_, oneType', fun E x y (a b : Row) Q ha hb hq => ?_, fun h2 E Q hq => ?_⟩
  · obtain ⟨r, k⟩ := each_left e hv
    exact ⟨r, rowKind_some tells_law k⟩
  · obtain ⟨as, ra⟩ := rowKind_inv ha
    obtain ⟨bs, rb⟩ := rowKind_inv hb
    rw [keyLt'_oneType]
    exact one_lists ra rb hu hq
  · refine kas_kind (T := .type "list") h2 (fun v hv => ?_) (by decide) (by simp) hq
    obtain ⟨r, as, k⟩ := each_left e hv
    exact looks_reads k
end
end KA
set_option Elab.async false
set_option linter.all false
set_option maxRecDepth 100000
set_option maxHeartbeats 4000000
/-! how rows, pairs and bags stand in the abstract heap; calls of defs by name -/
namespace KA
open PySem PySem.Spec PyProof.Rows L2
open PySem.W (EachIs)
def RowAt (H : Hp) (q : Addr) (r : Row) : Prop := H q = some (.tup (r.map kV))
def PairAt (H : Hp) (t : Addr) (e : Row × Int) : Prop := ∃ q, H t = some (.tup [.ref q, .int e.2]) ∧ RowAt H q e.1
def RowsAt (H : Hp) (p : Addr) (rs : List Row) : Prop := ∃ as : List Addr, H p = some (.lst (as.map V.ref)) ∧ EachIs (RowAt H) as rs
def BagAt (H : Hp) (p : Addr) (b : Bag) : Prop := ∃ ts : List Addr, H p = some (.lst (ts.map V.ref)) ∧ EachIs (PairAt H) ts b
theorem same_new {H : Hp} {p : Addr} {o : HO} (h : H p = none) : Same H (upd H p o) := fun b x e => by
  rw [upd_ne (ne_of_none e h)]
  exact e
/-- an object that was not there at the start may change -/
theorem same_mut {H H' : Hp} {p : Addr} {o : HO} (e : Same H H') (h : H p = none) : Same H (upd H' p o) := fun b x q => by
  rw [upd_ne (ne_of_none q h)]
  exact e b x q
theorem RowAt.mono {H H' : Hp} (s : Same H H') {q : Addr} {r : Row} (h : RowAt H q r) : RowAt H' q r := s _ _ h
theorem PairAt.mono {H H' : Hp} (s : Same H H') {t : Addr} {e : Row × Int} (h : PairAt H t e) : PairAt H' t e := by
  obtain ⟨q, h1, h2⟩ := h
  exact ⟨q, s _ _ h1, h2.mono s⟩
theorem RowsAt.mono {H H' : Hp} (s : Same H H') {p : Addr} {rs : List Row} (h : RowsAt H p rs) : RowsAt H' p rs := by
  obtain ⟨as, h1, h2⟩ := h
  exact ⟨as, s _ _ h1, h2.mono fun _ _ q => q.mono s⟩
theorem BagAt.mono {H H' : Hp} (s : Same H H') {p : Addr} {b : Bag} (h : BagAt H p b) : BagAt H' p b := by
  obtain ⟨ts, h1, h2⟩ := h
  exact ⟨ts, s _ _ h1, h2.mono fun _ _ q => q.mono s⟩
theorem sq_l {K : PySem.W.Frag} {H : Hp} {a : Addr} {xs : List V} (h : H a = some (.lst xs)) : SqL K H a xs := .inl (.inl h)
theorem sq_t {K : PySem.W.Frag} {H : Hp} {a : Addr} {xs : List V} (h : H a = some (.tup xs)) : SqT K H a xs := .inl (.inl h)
theorem RowAt.sq {K : PySem.W.Frag} {H : Hp} {q : Addr} {r : Row} (h : RowAt H q r) : SqT K H q (r.map kV) := sq_t h
/-! ### data -/
theorem dp_key {K : PySem.W.Frag} {H : Hp} (x : Key) : Dp K H (kV x) (keyD x) := by
  cases x with
  | inl i => exact .int i
  | inr x => exact .str x
theorem dp_keys {K : PySem.W.Frag} {H : Hp} : ∀ r : Row, DpAll K H (r.map kV) (r.map keyD)
  | [] => .nil
  | x :: r => .cons (dp_key x) (dp_keys r)
theorem dp_row {K : PySem.W.Frag} {H : Hp} {q : Addr} {r : Row} (h : RowAt H q r) : Dp K H (.ref q) (rowD r) := .tup h.sq (dp_keys r)
def pairD (e : Row × Int) : PyData := .tuple [rowD e.1, .int e.2]
def bagD (b : Bag) : PyData := .list (b.map pairD)
theorem dp_pair {K : PySem.W.Frag} {H : Hp} {t : Addr} {e : Row × Int} (h : PairAt H t e) : Dp K H (.ref t) (pairD e) := by
  obtain ⟨q, h1, h2⟩ := h
  exact .tup (sq_t h1) (.cons (dp_row h2) (.cons (.int _) .nil))
theorem dp_each {K : PySem.W.Frag} {H : Hp} {α : Type} {R : Addr → α → Prop} {D : α → PyData} (f : ∀ a x, R a x → Dp K H (.ref a) (D x)) : ∀ {as : List Addr} {xs : List α}, EachIs R as xs → DpAll K H (as.map V.ref) (xs.map D)
  | _, _, .nil => .nil
  | _, _, .cons h t => .cons (f _ _ h) (dp_each f t)
theorem dp_bag {K : PySem.W.Frag} {H : Hp} {p : Addr} {b : Bag} (h : BagAt H p b) : Dp K H (.ref p) (bagD b) := by
  obtain ⟨ts, h1, h2⟩ := h
  exact .lst (sq_l h1) (dp_each (D := pairD) (fun _ _ q => dp_pair q) h2)
theorem dp_rows {K : PySem.W.Frag} {H : Hp} {p : Addr} {rs : List Row} (h : RowsAt H p rs) : Dp K H (.ref p) (.list (rs.map rowD)) := by
  obtain ⟨ts, h1, h2⟩ := h
  exact .lst (sq_l h1) (dp_each (D := rowD) (fun _ _ q => dp_row q) h2)
/-- all but what stands as something else than data is kept -/
def SameD (H H' : Hp) : Prop := ∀ b o, H b = some o → (∀ φ, o ≠ .ext φ) → H' b = some o
theorem Same.d {H H' : Hp} (s : Same H H') : SameD H H' := fun b o h _ => s b o h
theorem SameD.rd {H H' : Hp} (s : SameD H H') {a : Addr} {u : HO} (hu : ∀ φ, u ≠ .ext φ) (h : Rd H a u) : Rd H' a u := by
  rcases h with h | ⟨o, h⟩
  · exact .inl (s _ _ h hu)
  · exact .inr ⟨o, s _ _ h fun φ z => nomatch z⟩
mutual
theorem Dp.monoD {K : PySem.W.Frag} {H H' : Hp} (s : SameD H H') : ∀ (d : PyData) (v : V), Dp K H v d → Dp K H' v d
  | .none, _, h => by cases h; exact .non
  | .bool b, _, h => by cases h; exact .bl b
  | .int i, _, h => by cases h; exact .int i
  | .str x, _, h => by cases h; exact .str x
  | .list ds, _, h => by
    cases h with
    | lst hs ha =>
      refine .lst ?_ (DpAll.monoD s ds _ ha)
      rcases hs with q | q
      · exact .inl (s.rd (fun φ z => nomatch z) q)
      · exact .inr q
  | .tuple ds, _, h => by
    cases h with
    | tup hs ha =>
      refine .tup ?_ (DpAll.monoD s ds _ ha)
      rcases hs with q | q
      · exact .inl (s.rd (fun φ z => nomatch z) q)
      · exact .inr q
  | .dict _, _, h => by cases h
theorem DpAll.monoD {K : PySem.W.Frag} {H H' : Hp} (s : SameD H H') : ∀ (ds : List PyData) (vs : List V), DpAll K H vs ds → DpAll K H' vs ds
  | [], _, h => by cases h; exact .nil
  | d :: ds, _, h => by
    cases h with
    | cons h1 h2 => exact .cons (Dp.monoD s d _ h1) (DpAll.monoD s ds _ h2)
end
theorem Dp.mono {K : PySem.W.Frag} {H H' : Hp} (s : Same H H') {d : PyData} {v : V} (h : Dp K H v d) : Dp K H' v d := Dp.monoD (Same.d s) d v h
/-! ### == and != of data without a bound on their texts -/
section
variable {X : Cx}
def rEqP (K : PySem.W.Frag) : R2 := fun x y H Q => ∃ d e, Dp K H x d ∧ Dp K H y e ∧ d.plain = true ∧ e.plain = true ∧ d.depth ≤ 60 ∧ Q (.bl (PyData.eqv d e)) H
def rNeP (K : PySem.W.Frag) : R2 := fun x y H Q => ∃ d e, Dp K H x d ∧ Dp K H y e ∧ d.plain = true ∧ e.plain = true ∧ d.depth ≤ 60 ∧ Q (.bl (!PyData.eqv d e)) H
theorem op_eqP (hu : X.A.units + 64 < cLine) : OpR X (compareOp .Eq) (rEqP X.K) := by
  intro pins s σ H x y v u Q I rx ry h
  obtain ⟨d, e, hd, he, pd, pe, dd, q⟩ := h
  obtain ⟨as, r1⟩ := Dp.reads I d x v hd rx
  obtain ⟨bs, r2⟩ := Dp.reads I e y u he ry
  exact SeqAt.eq_plain r1 r2 pd pe (by omega) ⟨.bl _, H, I, rfl, q⟩
theorem op_neP (hu : X.A.units + 64 < cLine) : OpR X (compareOp .NotEq) (rNeP X.K) := by
  intro pins s σ H x y v u Q I rx ry h
  obtain ⟨d, e, hd, he, pd, pe, dd, q⟩ := h
  obtain ⟨as, r1⟩ := Dp.reads I d x v hd rx
  obtain ⟨bs, r2⟩ := Dp.reads I e y u he ry
  exact SeqAt.ne_plain r1 r2 pd pe (by omega) ⟨.bl _, H, I, rfl, q⟩
/-- t < u of two keys of rows, or of one value -/
def rLtK (K : PySem.W.Frag) : R2 := fun x y H Q => (∃ a b, Dp K H x (rankRow a) ∧ Dp K H y (rankRow b) ∧ Q (.bl (rowLt a b)) H) ∨ (∃ a b, Dp K H x (lawRow a) ∧ Dp K H y (lawRow b) ∧ Q (.bl (rowLt a b)) H) ∨
  (∃ a b, Dp K H x (rankD a) ∧ Dp K H y (rankD b) ∧ Q (.bl (oneLt a b)) H)
theorem op_ltK (hu : X.A.units + 64 < cLine) : OpR X (compareOp .Lt) (rLtK X.K) := by
  intro pins s σ H x y v u Q I rx ry h
  rcases h with ⟨a, b, hd, he, q⟩ | ⟨a, b, hd, he, q⟩ | ⟨a, b, hd, he, q⟩
  · obtain ⟨as, r1⟩ := Dp.reads I _ x v hd rx
    obtain ⟨bs, r2⟩ := Dp.reads I _ y u he ry
    exact rc_rankRow r1 r2 (by omega) X.prog X.w _ _ ⟨.bl _, H, I, rfl, q⟩
  · obtain ⟨as, r1⟩ := Dp.reads I _ x v hd rx
    obtain ⟨bs, r2⟩ := Dp.reads I _ y u he ry
    exact rc_lawRow r1 r2 (by omega) X.prog X.w _ _ ⟨.bl _, H, I, rfl, q⟩
  · obtain ⟨as, r1⟩ := Dp.reads I _ x v hd rx
    obtain ⟨bs, r2⟩ := Dp.reads I _ y u he ry
    exact rc_rank r1 r2 (by omega) X.prog X.w _ _ ⟨.bl _, H, I, rfl, q⟩
end
/-! ### defs called by their names -/
/-- the module's name x stands for a def that keeps the promise sp -/
def Cal (P : Program) (w : World) (K : PySem.W.Frag) (mg : Str → Option Value) (base : Heap) (x : Str) (k : Nat) (ps : List Str) (sp : Sp) : Prop :=
  ∃ f fd, mg x = some (.ref f) ∧ PySem.W.keepIn K (.ref f) = true ∧ Binds K fd ps [] ∧ FnOk P w K mg base CX0 k f fd ps sp
section
variable {X : Cx} {x : Str} {k : Nat} {ps : List Str} {sp : Sp} {E : XK} {p pos : Pos} {e : Expr} {es : List Expr} {t : TA}
theorem pe_cal (c : Cal X.prog X.w X.K X.mg X.base x k ps sp) (hr : Room k X.A) (ha : PA X (e :: es) t) (hg : Gl X x := by rfl) (hx : Passes CX0 X E0 := by exact pass0) (hdb : (x == ("__debug__" : Str)) = false := by decide)
    (he : starEach (e :: es) X.env = (false, eval e X.env) :: starEach es X.env := by rfl) (hpl : (backTo pos (starEach es X.env)).any (·.1) = false := by rfl) : PE X (.Call (.Name x p) (e :: es) [] pos) (tCall sp [] E0 t) := by
  obtain ⟨f, fd, g, kp, b, G⟩ := c
  exact pe_call G hr hg g kp b .nil hx ha hdb he hpl
end
/-- room for a call below -/
theorem _root_.L2.Room.lt {j k : Nat} {A : Around} (r : Room k A) (h : j ≤ k := by decide) : Room j A := r.mono h
theorem _root_.L2.Room.u64 {k : Nat} {A : Around} (r : Room k A) : A.units + 64 < cLine := by
  have := r.un
  omega
theorem _root_.L2.Room.u1 {k : Nat} {A : Around} (r : Room k A) : A.units + 1 < cLine := by
  have := r.un
  omega
end KA
set_option Elab.async false
set_option linter.all false
set_option maxRecDepth 100000
set_option maxHeartbeats 8000000
/-! sorted(rows, key=f), f a def that gives the key of a row -/
namespace KA
open PySem PySem.Spec PyProof.Rows L2
open PySem.W (EachIs SortsAt KeepsBut sorted_of_sort copyHeap copyHeap_at copyHeap_old keyH_end sortVals)
open PySem.Calls
section
variable {X : Cx}
/-- what a call f(row) does, wherever it is made -/
def KeyCall (X : Cx) (E : Row → PyData) (f : Addr) : Prop :=
  ∀ (pins : List (Addr × Obj)) (s : Shared) (σ : L2.St) (H : Hp) (q : Addr) (r : Row), Inv X pins σ H s → RowAt H q r → r.length ≤ 1000 →
    wpAny (model X.prog X.w) X.A.in1.in1 (call (.ref f) [.ref q]) (fun u s' => ∃ v H', Inv X pins σ H' s' ∧ Same H H' ∧ RelV v u ∧ Dp X.K H' v (E r)) (fun _ _ => False) s
/-- the promise of a def that gives keys -/
def spKey (K : PySem.W.Frag) (E : Row → PyData) : Sp := fun vs H Q _ => ∃ (q : Addr) (r : Row), vs = [.ref q] ∧ RowAt H q r ∧ r.length ≤ 1000 ∧ ∀ v H', Same H H' → Dp K H' v (E r) → Q v H'
theorem keyCall_of {E : Row → PyData} {f : Addr} {fd : FuncData} {k : Nat} {x : Str} (G : FnOk X.prog X.w X.K X.mg X.base CX0 k f fd [x] (spKey X.K E)) (hb : Binds X.K fd [x] []) (hr : Room (k + 2) X.A) : KeyCall X E f := by
  intro pins s σ H q r I hq hl
  have e0 := (I.env0.in1).in1
  refine wpAny_call (codeAny_mono (G.run X.A.in1.in1 X.stack s H ⟨[.ref q], []⟩ [.ref q] [.ref q] (fun v H' => Same H H' ∧ Dp X.K H' v (E r)) E0 (hr.in1).in1 e0 (hb s [.ref q] I.kIn rfl) (.cons rfl .nil)
    ⟨q, r, rfl, hq, hl, fun v H' s1 d => ⟨s1, d⟩⟩) fun z s' hz => ?_)
  cases z with
  | error e => exact False.elim hz
  | ok fl =>
    cases fl with
    | ret u =>
      obtain ⟨v, H', I', rv, s1, d⟩ := I.after hz
      exact ⟨v, H', I', s1, rv, d⟩
    | next => exact False.elim hz
    | brk => exact False.elim hz
    | cont => exact False.elim hz
def rSortRows (X : Cx) (f : Addr) : List V → List V → Hp → VK → Prop := fun vs zs H Q => ∃ (l : Addr) (as : List Addr) (rows : List Row), vs = [.ref l] ∧ zs = [.ref f] ∧ SqL X.K H l (as.map V.ref) ∧ EachIs (RowAt H) as rows ∧
  (∀ r ∈ rows, r.length ≤ 1000) ∧ (∀ p, H p = none → X.H_0 p = none) ∧ ∀ (p : Addr) (H' : Hp), Same H H' → H p = none → RowsAt H' p (sortRows rows) → Q (.ref p) H'
/-- the list of the keys so far -/
def keysO (kS : Addr) (kvs : List V) : HO := .ext fun h => ∃ (arr : Array Value) (e : Nat), Vals kvs arr.toList ∧ h.get? kS = some (seqObj "list" arr e)
/-- the list that is sorted, empty meanwhile -/
def nilO (a : Addr) (e : Nat) : HO := .ext fun h => h.get? a = some (seqObj "list" #[] e)
theorem keysO_ok {P : Program} {w : World} {H : Hp} {h : Heap} {kS : Addr} {kvs : List V} {arr : Array Value} {e : Nat} (v : Vals kvs arr.toList) (q : h.get? kS = some (seqObj "list" arr e)) : ObjOk P w H h kS (keysO kS kvs) :=
  ⟨⟨arr, e, v, q⟩, ⟨_, q⟩, fun h1 h2 ⟨a1, e1, v1, q1⟩ k => ⟨a1, e1, v1, k _ q1⟩⟩
theorem nilO_ok {P : Program} {w : World} {H : Hp} {h : Heap} {a : Addr} {e : Nat} (q : h.get? a = some (seqObj "list" #[] e)) : ObjOk P w H h a (nilO a e) :=
  ⟨q, ⟨_, q⟩, fun h1 h2 q1 k => k _ q1⟩
theorem upd_ext {H : Hp} {a : Addr} {o : HO} {φ : Heap → Prop} (h : H a = some (.ext φ)) : SameD H (upd H a o) := fun b u q n => by
  by_cases e : b = a
  · rw [e, h] at q
    exact absurd (Option.some.inj q).symm (n φ)
  · rw [upd_ne e]
    exact q
theorem del_ext {H : Hp} {a : Addr} {φ : Heap → Prop} (h : H a = some (.ext φ)) : SameD H (delH H a) := fun b u q n => by
  by_cases e : b = a
  · rw [e, h] at q
    exact absurd (Option.some.inj q).symm (n φ)
  · rw [delH_ne e]
    exact q
theorem refs_vals : ∀ {as : List Addr} {its : List Value}, Vals (as.map V.ref) its → its = as.map Value.ref
  | [], _, h => by cases h; rfl
  | a :: as, _, h => by
    have h' : Vals (V.ref a :: as.map V.ref) _ := h
    cases h' with
    | cons r t =>
      rw [refs_vals t]
      have e : _ = Value.ref a := r
      rw [e]
      rfl
theorem vals_refs : ∀ as : List Addr, Vals (as.map V.ref) (as.map Value.ref)
  | [] => .nil
  | a :: as => .cons rfl (vals_refs as)
theorem dps_reads {pins : List (Addr × Obj)} {s : Shared} {σ : L2.St} {H : Hp} {E : Row → PyData} (I : Inv X pins σ H s) : ∀ {kvs : List V} {rows : List Row} {ks : List Value}, EachIs (fun v r => Dp X.K H v (E r)) kvs rows → Vals kvs ks → EachIs (KeyIs1 s.heap E) ks rows
  | _, _, _, .nil, h => by cases h; exact .nil
  | _, _, _, .cons h t, q => by
    cases q with
    | cons q1 q2 =>
      obtain ⟨as, r⟩ := Dp.reads I _ _ _ h q1
      exact .cons ⟨as, r⟩ (dps_reads I t q2)
theorem each_snoc1 {α β : Type} {R : α → β → Prop} {x : α} {y : β} (h : R x y) : ∀ {as : List α} {bs : List β}, EachIs R as bs → EachIs R (as ++ [x]) (bs ++ [y])
  | _, _, .nil => .cons h .nil
  | _, _, .cons q t => .cons q (each_snoc1 h t)
theorem each_at {α β : Type} {R : α → β → Prop} : ∀ {as : List α} {bs : List β} {i : Nat} {x : α}, EachIs R as bs → as[i]? = some x → ∃ y, bs[i]? = some y ∧ R x y
  | _, _, _, _, .nil, h => by simp at h
  | _, _, 0, _, .cons q t, h => by
    simp at h
    subst h
    exact ⟨_, rfl, q⟩
  | _, _, i + 1, x, .cons q t, h => each_at (i := i) t (by simpa using h)
theorem vals_snoc {x : V} {u : Value} (r : RelV x u) {xs : List V} {us : List Value} (h : Vals xs us) : Vals (xs ++ [x]) (us ++ [u]) := h.append (.cons r .nil)
theorem each_refs {α : Type} {R : Addr → α → Prop} : ∀ {vs : List Value} {bs : List α}, EachIs (fun v b => ∃ a, v = Value.ref a ∧ R a b) vs bs → ∃ as : List Addr, vs = as.map Value.ref ∧ EachIs R as bs
  | _, _, .nil => ⟨[], rfl, .nil⟩
  | _, _, .cons ⟨a, e, r⟩ t => by
    obtain ⟨as, e2, r2⟩ := each_refs t
    exact ⟨a :: as, by rw [e, e2]; rfl, .cons r r2⟩
theorem each_map_l {α β γ : Type} {R : β → γ → Prop} (f : α → β) : ∀ {as : List α} {cs : List γ}, EachIs (fun a c => R (f a) c) as cs → EachIs R (as.map f) cs
  | _, _, .nil => .nil
  | _, _, .cons h t => .cons h (each_map_l f t)
theorem cr_sortKey {E : Row → PyData} {f : Addr} (T : Tells E)
    (hS : ∀ (prog : Program) (w : World) (A : Around) (s : Shared) (ks : List Value) (rows : List Row), EachIs (KeyIs1 s.heap E) ks rows → A.units + 12 < cLine → SortsAt prog w A s (rowKind s.heap E) ks)
    (hc : KeyCall X E f) (hu : X.A.units + 64 < cLine) (hx : X.ex = []) : CallRK X (.builtin "sorted") [Str.ofString "key"] (rSortRows X f) := by
  intro pins s σ H vs zs us ws Q I r rz h
  obtain ⟨l, as, rows, rfl, rfl, hs, hrow, hrl, h0, q⟩ := h
  obtain rfl := Vals.ref1 r
  obtain ⟨w1, rfl, e1⟩ := vals1 rz
  obtain rfl : w1 = Value.ref f := e1
  obtain ⟨its, rv, hl, hz⟩ := I.list hs
  obtain rfl := refs_vals rv
  rw [List.length_map] at hz
  have hzi : (as.map Value.ref).length ≤ sizeLine := by rw [List.length_map]; exact hz
  show wpAny (model X.prog X.w) X.A (call (.builtin "sorted") [.ref l] [(Str.ofString "key", .ref f)]) (EP X pins σ Q) X.xe s
  refine sorted_of_sort (vs := as.map Value.ref) hl.isList hzi (ksk_s1 _ _) (fun x => ksk_l1 _ _) fun E' => ?_
  rw [ksk_t1]
  obtain ⟨a, ea⟩ : ∃ a, a = s.heap.objs.size + 1 := ⟨_, rfl⟩
  rw [← ea]
  have ho := copyHeap_at s.heap (as.map Value.ref)
  rw [← ea] at ho
  have hHa : H a = none := I.hok.fresh (by rw [ea]; exact Nat.le_succ _)
  obtain ⟨e1, ho1⟩ : ∃ e1, ((copyHeap s.heap (as.map Value.ref)).update a (Obj.mapSeq fun _ => (#[] : Array Value))).get? a = some (seqObj "list" #[] e1) := ⟨_, get?_update_seq ho fun _ => #[]⟩
  have s1 := Heap.SameBut.update (copyHeap s.heap (as.map Value.ref)) a (Obj.mapSeq fun _ => (#[] : Array Value))
  have k1 : ∀ b u, s.heap.get? b = some u → ((copyHeap s.heap (as.map Value.ref)).update a (Obj.mapSeq fun _ => (#[] : Array Value))).get? b = some u := fun b u z =>
    (s1.2 b (by rw [ea]; exact Nat.ne_of_lt (Nat.lt_succ_of_lt (Heap.lt_size z)))).trans (copyHeap_old z)
  unfold ksk_tree
  refine wpAny_bind (listItems_at ho rfl ?_)
  refine wpAny_bind (listUpdate_at ho rfl ?_ (by rw [List.size_toArray]; exact hzi) (Nat.zero_le _))
  refine wpAny_bind (seqEpoch_at ho1 rfl ?_)
  refine wpAny_bind (wpAny_newTuple ?_ (by show (as.map Value.ref).toArray.toList.length ≤ _; simpa using hz))
  refine wpAny_bind (wpAny_newList ?_ (Nat.zero_le _))
  refine wpAny_holding ?_
  have I1 : Inv X pins σ (upd H a (nilO a e1)) { s with heap := (copyHeap s.heap (as.map Value.ref)).update a (Obj.mapSeq fun _ => (#[] : Array Value)) } :=
    I.laid (t' := s.toks) k1 (by rw [ea]; exact Nat.le_succ _) (nilO_ok ho1)
  obtain ⟨hT, ehT⟩ : ∃ hT, hT = ((copyHeap s.heap (as.map Value.ref)).update a (Obj.mapSeq fun _ => (#[] : Array Value))).push (seqObj "tuple" (as.map Value.ref).toArray 0) := ⟨_, rfl⟩
  have I2 : Inv X pins σ (upd H a (nilO a e1)) { s with heap := hT } := I1.kept (t' := s.toks) fun b u z => by rw [ehT]; exact Heap.get?_push_of_some _ z
  obtain ⟨kS, ekS⟩ : ∃ kS, kS = hT.objs.size := ⟨_, rfl⟩
  have hk0 : (upd H a (nilO a e1)) kS = none := I2.hok.fresh (by rw [ekS]; exact Nat.le_refl _)
  have hka : kS ≠ a := fun z => by
    rw [z, upd_same] at hk0
    cases hk0
  have hHk : H kS = none := by
    rw [upd_ne hka] at hk0
    exact hk0
  have nk0 : (hT.push (seqObj "list" #[] 0)).get? kS = some (seqObj "list" #[] 0) := by
    rw [ekS]
    exact Heap.get?_push_size _ rfl
  have I3 : Inv X pins σ (upd (upd H a (nilO a e1)) kS (keysO kS [])) { s with heap := hT.push (seqObj "list" #[] 0) } :=
    I2.laid (t' := s.toks) (fun b u z => Heap.get?_push_of_some _ z) (by rw [ekS]; exact Nat.le_refl _) (keysO_ok (arr := #[]) .nil nk0)
  rw [← ehT]
  show wpAny _ X.A.in1.in1 (ksk_rest a (.ref f) false (as.map Value.ref).toArray e1 (.ref hT.objs.size)) _ _ { s with heap := hT.push (seqObj "list" #[] 0) }
  rw [← ekS]
  unfold ksk_rest
  refine wpAny_bind (wpAny_rule ?_)
  rw [List.forIn_toArray]
  refine wpAny_bind (ksk_fold (fun i s' => ∃ H' kvs, Inv X pins σ H' s' ∧ Same H H' ∧ H' a = some (nilO a e1) ∧ H' kS = some (keysO kS kvs) ∧ EachIs (fun v r => Dp X.K H' v (E r)) kvs (rows.take i)) (as.map Value.ref) 0 _
    ⟨_, [], I3, same_mut (same_mut (Same.refl H) hHa) hHk, by rw [upd_ne hka.symm, upd_same], upd_same, by rw [List.take_zero]; exact .nil⟩ ?step ?done)
  case step =>
    rintro j x s' hxj ⟨H', kvs, I', sm, na, nk, hd⟩
    simp only [Nat.zero_add] at hd ⊢
    rw [List.getElem?_map] at hxj
    cases haj : as[j]? with
    | none => rw [haj] at hxj; cases hxj
    | some p =>
      rw [haj] at hxj
      obtain rfl : Value.ref p = x := Option.some.inj hxj
      obtain ⟨r, hrj, hrp⟩ := each_at hrow haj
      have hj : j < rows.length := (List.getElem?_eq_some_iff.mp hrj).1
      refine wpAny_bind (wpAny_attempt (wpAny_mono (hc pins s' σ H' p r I' (hrp.mono sm) (hrl r (List.mem_of_getElem? hrj))) (fun v s'' he => ?_) fun _ _ hF => hF.elim))
      obtain ⟨kv, H2, I4, sm2, rkv, hdp⟩ := he
      try dsimp only
      obtain ⟨⟨arr, e, va, gk⟩, _, _⟩ := I4.hok kS _ (sm2 _ _ nk)
      have la : arr.size ≤ as.length := by
        have q1 := va.length
        have q2 := hd.length
        rw [List.length_take] at q2
        have q3 := hrow.length
        have q4 : arr.toList.length = arr.size := Array.length_toList
        omega
      obtain ⟨c2, hc2⟩ : ∃ c2, (s''.heap.update kS (Obj.mapSeq (·.push v))).get? kS = some (seqObj "list" (arr.push v) c2) := ⟨_, get?_update_seq gk (·.push v)⟩
      have s3 := Heap.SameBut.update s''.heap kS (Obj.mapSeq (·.push v))
      refine wpAny_bind (listUpdate_at gk rfl ?_ (Nat.le_trans la hz) (Nat.le_trans (Nat.le_of_eq (Array.size_push ..)) (Nat.succ_le_succ (Nat.le_trans la hz))))
      have nk2 : H2 kS = some (keysO kS kvs) := sm2 _ _ nk
      have I5 : Inv X pins σ (upd H2 kS (keysO kS (kvs ++ [kv]))) { s'' with heap := s''.heap.update kS (Obj.mapSeq (·.push v)) } :=
        I4.write (t' := s''.toks) (by rw [nk2]; trivial) (.inl rfl) (fun b u hb z => (s3.2 b hb).trans z) ⟨_, hc2⟩ (keysO_ok (arr := arr.push v) (by rw [Array.toList_push]; exact vals_snoc rkv va) hc2)
      have sd : SameD H2 (upd H2 kS (keysO kS (kvs ++ [kv]))) := upd_ext nk2
      refine wpAny_pure ⟨rfl, _, kvs ++ [kv], I5, same_mut (sm.trans sm2) hHk, by rw [upd_ne hka.symm]; exact sm2 _ _ na, upd_same, ?_⟩
      rw [List.take_add_one, hrj]
      exact each_snoc1 (R := fun v r => Dp X.K (upd H2 kS (keysO kS (kvs ++ [kv]))) v (E r)) (Dp.monoD sd _ _ hdp) (hd.mono fun v r z => Dp.monoD sd _ _ (Dp.mono sm2 z))
  case done =>
    rintro s' ⟨H', kvs, I', sm, na, nk, hd⟩
    have et : rows.take (0 + (as.map Value.ref).length) = rows := List.take_of_length_le (by rw [List.length_map, hrow.length]; omega)
    rw [et] at hd
    obtain ⟨⟨arr, e, va, gk⟩, _, _⟩ := I'.hok kS _ nk
    have ga : s'.heap.get? a = some (seqObj "list" #[] e1) := (I'.hok a _ na).1
    try dsimp only
    refine wpAny_bind (listItems_at gk rfl ?_)
    have hks : EachIs (KeyIs1 s'.heap E) arr.toList rows := dps_reads I' hd va
    have hsz : arr.size = (as.map Value.ref).length := by
      have q1 := hks.length
      rw [Array.length_toList] at q1
      rw [q1, List.length_map, hrow.length]
    obtain ⟨G, gs, gn, J⟩ := I'.untrack nk (fr0_none (h0 kS hHk)) hx
    refine keyH_end (κ := rowKind s'.heap E) (h₁ := G) (fun b o _ z => gs b o z) gn gk ga hka (hS _ _ _ _ _ _ hks (by show X.A.units + 1 + 1 + 12 < _; omega)) hsz hzi fun h3 tk c k3 n3 => ⟨rfl, ?_⟩
    have hout : EachIs (fun v r => ∃ b, v = Value.ref b ∧ RowAt H b r) (sortVals (rowKind s'.heap E) false arr.toList (as.map Value.ref)) (sortRows rows) :=
      PySem.W.sortVals_each (κ := rowKind s'.heap E) (rev := false) (fun r => r) (each_map_l (R := fun v r => ∃ b, v = Value.ref b ∧ RowAt H b r) Value.ref (hrow.mono fun a r z => ⟨a, rfl, z⟩)) (hks.mono fun v r z => rowKind_some T z)
    obtain ⟨bs, eb, hb⟩ := each_refs hout
    rw [eb] at n3
    have nka : (delH H' kS) a = some (nilO a e1) := by
      rw [delH_ne hka.symm]
      exact na
    have J2 : Inv X pins σ (upd (delH H' kS) a (.lst (bs.map V.ref))) { s' with heap := h3, toks := tk } :=
      J.write (t' := tk) (by rw [nka]; trivial) (.inl rfl) (fun b u hbn z => k3 b u hbn z) ⟨_, n3⟩ ⟨by rw [List.length_map, hb.length, (sortRows_perm rows).length_eq, ← hrow.length]; exact hz, bs.map Value.ref, c, vals_refs bs, by simpa using n3⟩
    have sf : Same H (upd (delH H' kS) a (.lst (bs.map V.ref))) := by
      refine same_mut (fun b o z => ?_) hHa
      rw [delH_ne (ne_of_none z hHk)]
      exact sm b o z
    exact ⟨.ref a, _, J2, rfl, q a _ sf hHa ⟨bs, upd_same, hb.mono fun b r z => z.mono sf⟩⟩
end
end KA
set_option Elab.async false
set_option linter.all false
set_option maxRecDepth 100000
set_option maxHeartbeats 4000000
/-! comprehensions and loops: what is made, item by item -/
namespace KA
open PySem PySem.Spec PyProof.Rows L2
open PySem.W (EachIs)
/-- the tuples alone -/
def tups (H : Hp) : Hp := fun a => match H a with
  | some (.tup xs) => some (.tup xs)
  | _ => none
theorem tups_at {H : Hp} {a : Addr} {xs : List V} (h : H a = some (.tup xs)) : tups H a = some (.tup xs) := by
  unfold tups
  rw [h]
theorem tups_is {H : Hp} {a : Addr} {o : HO} (h : tups H a = some o) : ∃ xs, o = .tup xs ∧ H a = some (.tup xs) := by
  unfold tups at h
  split at h
  · rename_i xs e
    exact ⟨xs, (Option.some.inj h).symm, e⟩
  · cases h
theorem tups_sub (H : Hp) : Same (tups H) H := fun a o h => by
  obtain ⟨xs, rfl, e⟩ := tups_is h
  exact e
def TupKeep (H H' : Hp) : Prop := Same (tups H) (tups H')
theorem TupKeep.refl (H : Hp) : TupKeep H H := Same.refl _
theorem TupKeep.trans {H H1 H2 : Hp} (a : TupKeep H H1) (b : TupKeep H1 H2) : TupKeep H H2 := Same.trans a b
theorem TupKeep.of {H H' : Hp} (h : ∀ a xs, H a = some (.tup xs) → H' a = some (.tup xs)) : TupKeep H H' := fun a o q => by
  obtain ⟨xs, rfl, e⟩ := tups_is q
  exact tups_at (h a xs e)
theorem TupKeep.at {H H' : Hp} (k : TupKeep H H') {a : Addr} {xs : List V} (h : H a = some (.tup xs)) : H' a = some (.tup xs) := tups_sub H' _ _ (k _ _ (tups_at h))
theorem _root_.L2.Same.tk {H H' : Hp} (s : Same H H') : TupKeep H H' := .of fun _ _ h => s _ _ h
theorem tk_upd {H : Hp} {D : Addr} {o : HO} (h : ∀ xs, H D ≠ some (.tup xs)) : TupKeep H (upd H D o) := .of fun a xs q => by
  rw [upd_ne (fun e => h xs (by rw [← e]; exact q))]
  exact q
theorem tk_lst {H : Hp} {D : Addr} {o : HO} {xs : List V} (h : H D = some (.lst xs)) : TupKeep H (upd H D o) := tk_upd fun ys q => by
  rw [h] at q
  cases q
theorem RowAt.tk {H H' : Hp} (k : TupKeep H H') {q : Addr} {r : Row} (h : RowAt H q r) : RowAt H' q r := k.at h
theorem PairAt.tk {H H' : Hp} (k : TupKeep H H') {t : Addr} {e : Row × Int} (h : PairAt H t e) : PairAt H' t e := by
  obtain ⟨q, h1, h2⟩ := h
  exact ⟨q, k.at h1, h2.tk k⟩
section
variable {J : It} {n : Nat} {G : Hp → Prop} {Y : Nat → Hp → V → Hp → Prop} {β : Type}
/-- a comprehension over anything that is walked -/
theorem lc_go (w : Walk J n G Y) (bs : List β) (hn : bs.length = n) (keep : β → Bool) (R : Hp → V → β → Prop) (hR : ∀ H H' v b, TupKeep H H' → R H v b → R H' v b) (Rel : Hp → Prop)
    {g : TG} {tt : TT} {te : TE} {vs : List Nat} {σ : L2.St} {H1 : Hp} {D : Addr} {Qd : Hp → Prop} (h0 : Rel (upd H1 D (.lst []))) (hG : ∀ H, Rel H → G H) (hD : ∀ H acc, Rel H → Rel (upd H D (.lst acc))) (hz : n ≤ 100000)
    (turn : ∀ i x b H H', i < n → bs[i]? = some b → Rel H → (∃ acc, H D = some (.lst acc)) → Y i H x H' → ∀ (Q : VK) (Qn : Hp → Prop), (keep b = true → ∀ v H'', Rel H'' → H'' D = H D → TupKeep H H'' → R H'' v b → Q v H'') →
      (keep b = false → ∀ H'', Rel H'' → H'' D = H D → TupKeep H H'' → Qn H'') → g x (wipe σ vs) H' fun σ2 H2 => wipe σ2 vs = wipe σ vs ∧ tt σ2 H2 fun c H3 => if c = true then te σ2 H3 Q else Qn H3)
    (done : ∀ H acc, Rel H → H D = some (.lst acc) → EachIs (R H) acc (bs.filter keep) → Qd H) :
    ∃ W : Nat → Nat → Hp → Prop, (∃ m, W 0 m (upd H1 D (.lst []))) ∧ ∀ i m H, W i m H →
      (J.stop i H ∧ Qd H) ∨ (J.go i H ∧ ∃ Nx : Hp → Prop, (∀ H', Nx H' → ∃ m', m' < m ∧ W (i + 1) m' H') ∧ ∀ x H', J.yld i H x H' → g x (wipe σ vs) H' fun σ2 H2 => wipe σ2 vs = wipe σ vs ∧ tt σ2 H2 fun b H3 =>
        if b = true then te σ2 H3 fun y H4 => ∃ acc, H4 D = some (.lst acc) ∧ acc.length < sizeLine ∧ Nx (upd H4 D (.lst (acc ++ [y]))) else Nx H3) := by
  refine lc_it w (fun i H => Rel H ∧ ∃ acc, H D = some (.lst acc) ∧ EachIs (R H) acc ((bs.take i).filter keep)) ⟨h0, [], upd_same, by rw [List.take_zero]; exact .nil⟩ (fun i H _ p => hG H p.1) ?_ ?_
  · rintro i x H H' hi ⟨hr, acc, ha, he⟩ y
    obtain ⟨b, hb⟩ : ∃ b, bs[i]? = some b := ⟨_, List.getElem?_eq_getElem (by omega)⟩
    have et : bs.take (i + 1) = bs.take i ++ [b] := by rw [List.take_add_one, hb]; rfl
    refine turn i x b H H' hi hb hr ⟨acc, ha⟩ y _ _ (fun hk v H2 r2 d2 tk rv => ?_) fun hk H2 r2 d2 tk => ?_
    · have hlen : acc.length ≤ i := by
        rw [he.length]
        exact Nat.le_trans (List.length_filter_le ..) (by rw [List.length_take]; exact Nat.min_le_left _ _)
      have hd : H2 D = some (.lst acc) := d2.trans ha
      refine ⟨acc, hd, Nat.lt_of_lt_of_le (show acc.length < 100001 by omega) (by decide), hD _ _ r2, acc ++ [v], upd_same, ?_⟩
      rw [et, List.filter_append, List.filter_cons_of_pos hk]
      have k2 : TupKeep H2 (upd H2 D (.lst (acc ++ [v]))) := tk_lst hd
      exact each_snoc1 (hR _ _ _ _ k2 rv) (he.mono fun v b z => hR _ _ _ _ (tk.trans k2) z)
    · refine ⟨r2, acc, d2.trans ha, ?_⟩
      rw [et, List.filter_append, List.filter_cons_of_neg (by rw [hk]; exact Bool.false_ne_true), List.filter_nil, List.append_nil]
      exact he.mono fun v b z => hR _ _ _ _ tk z
  · rintro H ⟨hr, acc, ha, he⟩
    rw [List.take_of_length_le (by omega)] at he
    exact done H acc hr ha he
/-- the same where all objects of the start are kept -/
theorem lc_same (w : Walk J n G Y) (bs : List β) (hn : bs.length = n) (keep : β → Bool) (R : Hp → V → β → Prop) (hR : ∀ H H' v b, TupKeep H H' → R H v b → R H' v b)
    {g : TG} {tt : TT} {te : TE} {vs : List Nat} {σ : L2.St} {H1 : Hp} {D : Addr} {Qd : Hp → Prop} (hD : H1 D = none) (hG : ∀ H, Same H1 H → G H) (hz : n ≤ 100000)
    (turn : ∀ i x b H H', i < n → bs[i]? = some b → Same H1 H → Y i H x H' → ∀ (Q : VK) (Qn : Hp → Prop), (keep b = true → ∀ v H'', Same H H'' → R H'' v b → Q v H'') → (keep b = false → ∀ H'', Same H H'' → Qn H'') →
      g x (wipe σ vs) H' fun σ2 H2 => wipe σ2 vs = wipe σ vs ∧ tt σ2 H2 fun c H3 => if c = true then te σ2 H3 Q else Qn H3)
    (done : ∀ H acc, Same H1 H → H D = some (.lst acc) → EachIs (R H) acc (bs.filter keep) → Qd H) :
    ∃ W : Nat → Nat → Hp → Prop, (∃ m, W 0 m (upd H1 D (.lst []))) ∧ ∀ i m H, W i m H →
      (J.stop i H ∧ Qd H) ∨ (J.go i H ∧ ∃ Nx : Hp → Prop, (∀ H', Nx H' → ∃ m', m' < m ∧ W (i + 1) m' H') ∧ ∀ x H', J.yld i H x H' → g x (wipe σ vs) H' fun σ2 H2 => wipe σ2 vs = wipe σ vs ∧ tt σ2 H2 fun b H3 =>
        if b = true then te σ2 H3 fun y H4 => ∃ acc, H4 D = some (.lst acc) ∧ acc.length < sizeLine ∧ Nx (upd H4 D (.lst (acc ++ [y]))) else Nx H3) :=
  lc_go w bs hn keep R hR (Same H1) (same_new hD) hG (fun H acc s => same_mut s hD) hz (fun i x b H H' hi hb hr ⟨acc, ha⟩ y Q Qn h1 h2 => turn i x b H H' hi hb hr y Q Qn
    (fun hk v H2 s2 rv => h1 hk v H2 (hr.trans s2) (by rw [ha]; exact s2 _ _ ha) s2.tk rv) fun hk H2 s2 => h2 hk H2 (hr.trans s2) (by rw [ha]; exact s2 _ _ ha) s2.tk) done
end
theorem yes_in {te : TE} {σ : L2.St} {H : Hp} {Q : VK} {Qn : Hp → Prop} (h : te σ H Q) : tYes σ H fun c H3 => if c = true then te σ H3 Q else Qn H3 := by
  show if true = true then te σ H Q else Qn H
  rw [if_pos rfl]
  exact h
theorem filter_true {α : Type} (l : List α) : l.filter (fun _ => true) = l := List.filter_eq_self.mpr fun _ _ => rfl
theorem each_list {α : Type} {R : V → α → Prop} {P : Addr → α → Prop} (h : ∀ v x, R v x → ∃ a, v = V.ref a ∧ P a x) : ∀ {vs : List V} {xs : List α}, EachIs R vs xs → ∃ as : List Addr, vs = as.map V.ref ∧ EachIs P as xs
  | _, _, .nil => ⟨[], rfl, .nil⟩
  | _, _, .cons q t => by
    obtain ⟨a, rfl, p⟩ := h _ _ q
    obtain ⟨as, rfl, ps⟩ := each_list h t
    exact ⟨a :: as, rfl, .cons p ps⟩
theorem each_dps {K : PySem.W.Frag} {H : Hp} {α : Type} {E : α → PyData} : ∀ {vs : List V} {r : List α}, EachIs (fun v x => Dp K H v (E x)) vs r → DpAll K H vs (r.map E)
  | _, _, .nil => .nil
  | _, _, .cons h t => .cons h (each_dps t)
theorem map_at {α : Type} {f : α → V} {r : List α} {i : Nat} {v : V} (h : (r.map f)[i]? = some v) : ∃ x, r[i]? = some x ∧ v = f x := by
  rw [List.getElem?_map] at h
  cases e : r[i]? with
  | none => rw [e] at h; cases h
  | some x => rw [e] at h; exact ⟨x, rfl, (Option.some.inj h).symm⟩
/-- a datum of tuples alone -/
def Tp (K : PySem.W.Frag) (H : Hp) (v : V) (d : PyData) : Prop := Dp K (tups H) v d
theorem Tp.tk {K : PySem.W.Frag} {H H' : Hp} (k : TupKeep H H') {v : V} {d : PyData} (h : Tp K H v d) : Tp K H' v d := Dp.mono k h
theorem Tp.dp {K : PySem.W.Frag} {H : Hp} {v : V} {d : PyData} (h : Tp K H v d) : Dp K H v d := Dp.mono (tups_sub H) h
theorem sq_tups {K : PySem.W.Frag} {H : Hp} {a : Addr} {xs : List V} (h : H a = some (.tup xs)) : SqT K (tups H) a xs := .inl (.inl (tups_at h))
end KA
set_option Elab.async false
set_option linter.all false
set_option maxRecDepth 100000
set_option maxHeartbeats 0
namespace KA
open PySem PySem.Spec PyProof.Rows L2
def top (i : Nat) : Stmt := PySem.Challenge.pw_deltaloom_k12_branches_that_merge.main.body.getD i (.Pass ⟨0, 0, 0, 0⟩)
abbrev s_rank : Stmt := top 1
abbrev s_row_rank : Stmt := top 2
abbrev s_make_bag : Stmt := top 4
abbrev s_plus : Stmt := top 5
abbrev s_minus : Stmt := top 6
abbrev s_scaled : Stmt := top 7
abbrev s__law_state : Stmt := top 16
abbrev s__law_draw : Stmt := top 17
abbrev s__law_one : Stmt := top 18
abbrev s__law_row : Stmt := top 19
abbrev s__law_key : Stmt := top 20
abbrev s__law_canon : Stmt := top 21
abbrev s__law_bag : Stmt := top 22
abbrev s__law_told : Stmt := top 23
abbrev s__law_refusals : Stmt := top 24
abbrev s__law_same : Stmt := top 25
abbrev s__law_deed : Stmt := top 26
abbrev s__law_either_order : Stmt := top 27
abbrev s_law : Stmt := top 28
abbrev s_NameUnknown___init__ : Stmt := inClass (top 10) 0
abbrev s_NameTaken___init__ : Stmt := inClass (top 11) 0
abbrev s_Tree___init__ : Stmt := inClass (top 13) 0
abbrev s_Tree_inputs : Stmt := inClass (top 13) 1
abbrev s_Tree_feed : Stmt := inClass (top 13) 2
abbrev s_Tree_fork : Stmt := inClass (top 13) 3
abbrev s_Tree_change : Stmt := inClass (top 13) 4
abbrev s_Tree_merge : Stmt := inClass (top 13) 5
abbrev s_Tree_found : Stmt := inClass (top 13) 6
abbrev s_Tree_found_with : Stmt := inClass (top 13) 7
abbrev s_Branch___init__ : Stmt := inClass (top 14) 0
abbrev s_Branch_begin : Stmt := inClass (top 14) 1
abbrev s_Branch_difference : Stmt := inClass (top 14) 2
theorem sc_Tree___init__ : FnScope ["self", "names", "name"] ["self", "names"] (defScope s_Tree___init__) := ⟨rfl, rfl, rfl, by decide +kernel, rfl, by decide +kernel, by decide +kernel⟩
theorem sc_Tree_inputs : FnScope ["self", "branch", "bags", "name"] ["self", "branch"] (defScope s_Tree_inputs) := ⟨rfl, rfl, rfl, by decide +kernel, rfl, by decide +kernel, by decide +kernel⟩
theorem sc_Tree_feed : FnScope ["self", "branch", "name", "change", "found"] ["self", "branch", "name", "change"] (defScope s_Tree_feed) := ⟨rfl, rfl, rfl, by decide +kernel, rfl, by decide +kernel, by decide +kernel⟩
theorem sc_Tree_fork : FnScope ["self", "parent", "branch", "found"] ["self", "parent", "branch"] (defScope s_Tree_fork) := ⟨rfl, rfl, rfl, by decide +kernel, rfl, by decide +kernel, by decide +kernel⟩
theorem sc_Tree_change : FnScope ["self", "branch", "name", "found"] ["self", "branch", "name"] (defScope s_Tree_change) := ⟨rfl, rfl, rfl, by decide +kernel, rfl, by decide +kernel, by decide +kernel⟩
theorem sc_Tree_merge : FnScope ["self", "branch", "found", "bags", "name"] ["self", "branch"] (defScope s_Tree_merge) := ⟨rfl, rfl, rfl, by decide +kernel, rfl, by decide +kernel, by decide +kernel⟩
theorem sc_Tree_found : FnScope ["self", "branch"] ["self", "branch"] (defScope s_Tree_found) := ⟨rfl, rfl, rfl, by decide +kernel, rfl, by decide +kernel, by decide +kernel⟩
theorem sc_Tree_found_with : FnScope ["self", "branch", "name", "found"] ["self", "branch", "name"] (defScope s_Tree_found_with) := ⟨rfl, rfl, rfl, by decide +kernel, rfl, by decide +kernel, by decide +kernel⟩
theorem sc_Branch___init__ : FnScope ["self", "parent", "bags"] ["self", "parent", "bags"] (defScope s_Branch___init__) := ⟨rfl, rfl, rfl, by decide +kernel, rfl, by decide +kernel, by decide +kernel⟩
theorem sc_Branch_begin : FnScope ["self", "bags"] ["self", "bags"] (defScope s_Branch_begin) := ⟨rfl, rfl, rfl, by decide +kernel, rfl, by decide +kernel, by decide +kernel⟩
theorem sc_Branch_difference : FnScope ["self", "name"] ["self", "name"] (defScope s_Branch_difference) := ⟨rfl, rfl, rfl, by decide +kernel, rfl, by decide +kernel, by decide +kernel⟩
theorem sc_rank : FnScope ["value"] ["value"] (defScope s_rank) := ⟨rfl, rfl, rfl, by decide +kernel, rfl, by decide +kernel, by decide +kernel⟩
theorem sc_row_rank : FnScope ["row", "value"] ["row"] (defScope s_row_rank) := ⟨rfl, rfl, rfl, by decide +kernel, rfl, by decide +kernel, by decide +kernel⟩
theorem sc_make_bag : FnScope ["pairs", "counts", "row", "count", "rows"] ["pairs"] (defScope s_make_bag) := ⟨rfl, rfl, rfl, by decide +kernel, rfl, by decide +kernel, by decide +kernel⟩
theorem sc_plus : FnScope ["first", "second"] ["first", "second"] (defScope s_plus) := ⟨rfl, rfl, rfl, by decide +kernel, rfl, by decide +kernel, by decide +kernel⟩
theorem sc_minus : FnScope ["first", "second"] ["first", "second"] (defScope s_minus) := ⟨rfl, rfl, rfl, by decide +kernel, rfl, by decide +kernel, by decide +kernel⟩
theorem sc_scaled : FnScope ["bag", "factor", "row", "count"] ["bag", "factor"] (defScope s_scaled) := ⟨rfl, rfl, rfl, by decide +kernel, rfl, by decide +kernel, by decide +kernel⟩
theorem sc__law_state : FnScope ["script", "seed", "cell"] ["script"] (defScope s__law_state) := ⟨rfl, rfl, rfl, by decide +kernel, rfl, by decide +kernel, by decide +kernel⟩
theorem sc__law_draw : FnScope ["state", "many", "cells", "k", "amount", "mixed"] ["state", "many"] (defScope s__law_draw) := ⟨rfl, rfl, rfl, by decide +kernel, rfl, by decide +kernel, by decide +kernel⟩
theorem sc__law_one : FnScope ["state", "kind"] ["state"] (defScope s__law_one) := ⟨rfl, rfl, rfl, by decide +kernel, rfl, by decide +kernel, by decide +kernel⟩
theorem sc__law_row : FnScope ["state", "most", "k"] ["state", "most"] (defScope s__law_row) := ⟨rfl, rfl, rfl, by decide +kernel, rfl, by decide +kernel, by decide +kernel⟩
theorem sc__law_key : FnScope ["row", "one"] ["row"] (defScope s__law_key) := ⟨rfl, rfl, rfl, by decide +kernel, rfl, by decide +kernel, by decide +kernel⟩
theorem sc__law_canon : FnScope ["counts", "rows", "row"] ["counts"] (defScope s__law_canon) := ⟨rfl, rfl, rfl, by decide +kernel, rfl, by decide +kernel, by decide +kernel⟩
theorem sc__law_bag : FnScope ["state", "most", "counts", "k", "row"] ["state", "most"] (defScope s__law_bag) := ⟨rfl, rfl, rfl, by decide +kernel, rfl, by decide +kernel, by decide +kernel⟩
theorem sc__law_told : FnScope ["tree", "kind", "first", "second"] ["tree", "kind", "first", "second"] (defScope s__law_told) := ⟨rfl, rfl, rfl, by decide +kernel, rfl, by decide +kernel, by decide +kernel⟩
theorem sc__law_refusals : FnScope ["tree", "known", "rows", "kind", "first", "second", "due"] ["tree", "known"] (defScope s__law_refusals) := ⟨rfl, rfl, rfl, by decide +kernel, rfl, by decide +kernel, by decide +kernel⟩
theorem sc__law_same : FnScope ["tree", "m", "branch", "name"] ["tree", "m"] (defScope s__law_same) := ⟨rfl, rfl, rfl, by decide +kernel, rfl, by decide +kernel, by decide +kernel⟩
theorem sc__law_deed : FnScope ["state", "tree", "m", "branches", "branch", "name", "kind", "change", "fresh", "parent", "one"] ["state", "tree", "m"] (defScope s__law_deed) := ⟨rfl, rfl, rfl, by decide +kernel, rfl, by decide +kernel, by decide +kernel⟩
theorem sc__law_either_order : FnScope ["state", "changes", "k", "ends", "order", "tree"] ["state"] (defScope s__law_either_order) := ⟨rfl, rfl, rfl, by decide +kernel, rfl, by decide +kernel, by decide +kernel⟩
theorem sc_law : FnScope ["script", "state", "tree", "m", "k", "known", "given"] ["script"] (defScope s_law) := ⟨rfl, rfl, rfl, by decide +kernel, rfl, by decide +kernel, by decide +kernel⟩
abbrev FnP (K : PySem.W.Frag) (x : Str) (st : Stmt) (f : Addr) (fd : FuncData) : Prop := FunD K x x (defArgs st) (defBody st) (defScope st) [] [] f fd
def d_rank : He.DefD := ⟨("rank", none), "rank", "rank", defArgs s_rank, defBody s_rank, defScope s_rank, [], []⟩
def d_row_rank : He.DefD := ⟨("row_rank", none), "row_rank", "row_rank", defArgs s_row_rank, defBody s_row_rank, defScope s_row_rank, [], []⟩
def d_make_bag : He.DefD := ⟨("make_bag", none), "make_bag", "make_bag", defArgs s_make_bag, defBody s_make_bag, defScope s_make_bag, [], []⟩
def d_plus : He.DefD := ⟨("plus", none), "plus", "plus", defArgs s_plus, defBody s_plus, defScope s_plus, [], []⟩
def d_minus : He.DefD := ⟨("minus", none), "minus", "minus", defArgs s_minus, defBody s_minus, defScope s_minus, [], []⟩
def d_scaled : He.DefD := ⟨("scaled", none), "scaled", "scaled", defArgs s_scaled, defBody s_scaled, defScope s_scaled, [], []⟩
def d__law_state : He.DefD := ⟨("_law_state", none), "_law_state", "_law_state", defArgs s__law_state, defBody s__law_state, defScope s__law_state, [], []⟩
def d__law_draw : He.DefD := ⟨("_law_draw", none), "_law_draw", "_law_draw", defArgs s__law_draw, defBody s__law_draw, defScope s__law_draw, [], []⟩
def d__law_one : He.DefD := ⟨("_law_one", none), "_law_one", "_law_one", defArgs s__law_one, defBody s__law_one, defScope s__law_one, [], []⟩
def d__law_row : He.DefD := ⟨("_law_row", none), "_law_row", "_law_row", defArgs s__law_row, defBody s__law_row, defScope s__law_row, [], []⟩
def d__law_key : He.DefD := ⟨("_law_key", none), "_law_key", "_law_key", defArgs s__law_key, defBody s__law_key, defScope s__law_key, [], []⟩
def d__law_canon : He.DefD := ⟨("_law_canon", none), "_law_canon", "_law_canon", defArgs s__law_canon, defBody s__law_canon, defScope s__law_canon, [], []⟩
def d__law_bag : He.DefD := ⟨("_law_bag", none), "_law_bag", "_law_bag", defArgs s__law_bag, defBody s__law_bag, defScope s__law_bag, [], []⟩
def d__law_told : He.DefD := ⟨("_law_told", none), "_law_told", "_law_told", defArgs s__law_told, defBody s__law_told, defScope s__law_told, [], []⟩
def d__law_refusals : He.DefD := ⟨("_law_refusals", none), "_law_refusals", "_law_refusals", defArgs s__law_refusals, defBody s__law_refusals, defScope s__law_refusals, [], []⟩
def d__law_same : He.DefD := ⟨("_law_same", none), "_law_same", "_law_same", defArgs s__law_same, defBody s__law_same, defScope s__law_same, [], []⟩
def d__law_deed : He.DefD := ⟨("_law_deed", none), "_law_deed", "_law_deed", defArgs s__law_deed, defBody s__law_deed, defScope s__law_deed, [], []⟩
def d__law_either_order : He.DefD := ⟨("_law_either_order", none), "_law_either_order", "_law_either_order", defArgs s__law_either_order, defBody s__law_either_order, defScope s__law_either_order, [], []⟩
def d_law : He.DefD := ⟨("law", none), "law", "law", defArgs s_law, defBody s_law, defScope s_law, [], []⟩
abbrev FnM (K : PySem.W.Frag) (x q : Str) (st : Stmt) (f : Addr) (fd : FuncData) : Prop := FunD K x q (defArgs st) (defBody st) (defScope st) [] [] f fd
def d_NameUnknown___init__ : He.DefD := ⟨("NameUnknown", some "__init__"), "__init__", "NameUnknown.__init__", defArgs s_NameUnknown___init__, defBody s_NameUnknown___init__, defScope s_NameUnknown___init__, [], []⟩
def d_NameTaken___init__ : He.DefD := ⟨("NameTaken", some "__init__"), "__init__", "NameTaken.__init__", defArgs s_NameTaken___init__, defBody s_NameTaken___init__, defScope s_NameTaken___init__, [], []⟩
def d_Tree___init__ : He.DefD := ⟨("Tree", some "__init__"), "__init__", "Tree.__init__", defArgs s_Tree___init__, defBody s_Tree___init__, defScope s_Tree___init__, [], []⟩
def d_Tree_inputs : He.DefD := ⟨("Tree", some "inputs"), "inputs", "Tree.inputs", defArgs s_Tree_inputs, defBody s_Tree_inputs, defScope s_Tree_inputs, [], []⟩
def d_Tree_feed : He.DefD := ⟨("Tree", some "feed"), "feed", "Tree.feed", defArgs s_Tree_feed, defBody s_Tree_feed, defScope s_Tree_feed, [], []⟩
def d_Tree_fork : He.DefD := ⟨("Tree", some "fork"), "fork", "Tree.fork", defArgs s_Tree_fork, defBody s_Tree_fork, defScope s_Tree_fork, [], []⟩
def d_Tree_change : He.DefD := ⟨("Tree", some "change"), "change", "Tree.change", defArgs s_Tree_change, defBody s_Tree_change, defScope s_Tree_change, [], []⟩
def d_Tree_merge : He.DefD := ⟨("Tree", some "merge"), "merge", "Tree.merge", defArgs s_Tree_merge, defBody s_Tree_merge, defScope s_Tree_merge, [], []⟩
def d_Tree_found : He.DefD := ⟨("Tree", some "found"), "found", "Tree.found", defArgs s_Tree_found, defBody s_Tree_found, defScope s_Tree_found, [], []⟩
def d_Tree_found_with : He.DefD := ⟨("Tree", some "found_with"), "found_with", "Tree.found_with", defArgs s_Tree_found_with, defBody s_Tree_found_with, defScope s_Tree_found_with, [], []⟩
def d_Branch___init__ : He.DefD := ⟨("Branch", some "__init__"), "__init__", "Branch.__init__", defArgs s_Branch___init__, defBody s_Branch___init__, defScope s_Branch___init__, [], []⟩
def d_Branch_begin : He.DefD := ⟨("Branch", some "begin"), "begin", "Branch.begin", defArgs s_Branch_begin, defBody s_Branch_begin, defScope s_Branch_begin, [], []⟩
def d_Branch_difference : He.DefD := ⟨("Branch", some "difference"), "difference", "Branch.difference", defArgs s_Branch_difference, defBody s_Branch_difference, defScope s_Branch_difference, [], []⟩
def fn : List He.DefD := ([d_rank, d_row_rank, d_make_bag, d_plus, d_minus, d_scaled, d__law_state, d__law_draw, d__law_one, d__law_row, d__law_key, d__law_canon, d__law_bag, d__law_told, d__law_refusals, d__law_same, d__law_deed, d__law_either_order, d_law, d_Tree___init__, d_Tree_inputs, d_Tree_feed, d_Tree_fork] : List He.DefD) ++ ([d_Tree_change, d_Tree_merge, d_Tree_found, d_Tree_found_with, d_Branch___init__, d_Branch_begin, d_Branch_difference] : List He.DefD)
def fa : List He.Fa := ([.glo "rank", .glo "row_rank", .glo "make_bag", .glo "plus", .glo "minus", .glo "scaled", .glo "_law_state", .glo "_law_draw", .glo "_law_one", .glo "_law_row", .glo "_law_key", .glo "_law_canon", .glo "_law_bag", .glo "_law_told", .glo "_law_refusals", .glo "_law_same", .glo "_law_deed", .glo "_law_either_order", .glo "law", .free "len", .free "range", .free "int", .free "abs", .free "isinstance", .free "tuple"] : List He.Fa) ++ ([.free "sorted", .free "list", .free "str", .free "dict", .free "all", .glo "LoomError", .glo "NameUnknown", .glo "NameTaken", .glo "Tree", .cls "Tree", .noat "Tree" "branches", .mkr "Tree", .meth "Tree" "inputs", .meth "Tree" "feed", .meth "Tree" "fork", .meth "Tree" "change", .meth "Tree" "merge", .meth "Tree" "found", .meth "Tree" "found_with", .glo "Branch", .cls "Branch", .noat "Branch" "parent", .noat "Branch" "start", .noat "Branch" "bags", .mkr "Branch"] : List He.Fa) ++ ([.meth "Branch" "begin", .meth "Branch" "difference"] : List He.Fa)
end KA
set_option Elab.async false
set_option linter.all false
set_option maxRecDepth 100000
set_option maxHeartbeats 4000000
/-! wrap, rank, row_rank, _law_key -/
namespace KA
open PySem PySem.Spec PyProof.Rows L2
open PySem.W (EachIs)
section
variable {P : Program} {w : World} {K : PySem.W.Frag} {mg : Str → Option Value} {base : Heap} {f : Addr} {fd : FuncData}
def wrapZ (n : Int) : Int := (n - (-2147483648)) % 4294967296 + (-2147483648)
def spWrap : Sp := fun vs H Q _ => ∃ n : Int, vs = [.int n] ∧ Q (.int (wrapZ n)) H
def spRank (K : PySem.W.Frag) : Sp := fun vs H Q _ => ∃ x : Key, vs = [kV x] ∧ ∀ v H', Same H H' → Tp K H' v (rankD x) → Q v H'
theorem ok_rank (F : FnP K "rank" s_rank f fd) (gI : mg "isinstance" = none) (gS : mg "str" = none) : FnOk P w K mg base CX0 1 f fd ["value"] (spRank K) := by
  refine F.ok sc_rank (fun vs H Q E h => ?_) (fun cdv A outer s H vs Q E hr h => ?_)
  · obtain ⟨n, rfl, _⟩ := h
    rfl
  · obtain ⟨x, rfl, q⟩ := h
    refine ⟨_, PSs.nox (pss_cons (ps_if (pt_val (pe_callB call_isi (by rfl) gI (by decide +kernel) (pa_cons (pv 0) (pa_cons (pe_bltn (v := .ty "str") (by rfl) gS (by decide +kernel) rfl) pa_nil)))) (pss_one (ps_ret (pe_tup (pa_cons pe_int (pa_cons (pv 0) pa_nil))))) pss_nil)
      (pss_one (ps_ret (pe_tup (pa_cons pe_int (pa_cons (pv 0) pa_nil)))))), ?_⟩
    cases x with
    | inl i =>
      refine ⟨_, rfl, _, _, .type "int", .type "str", false, rfl, .ty "str", .base (.int i), kit_ty (by decide +kernel), _, rfl, iteF ?_⟩
      exact ⟨_, rfl, (by show 2 ≤ sizeLine; decide), fun p hp => q _ _ (same_new hp) (.tup (sq_tups upd_same) (.cons (.int _) (.cons (.int _) .nil)))⟩
    | inr z =>
      refine ⟨_, rfl, _, _, .type "str", .type "str", true, rfl, .ty "str", .base (.str z), kit_ty (by decide +kernel), _, rfl, iteT ?_⟩
      exact ⟨_, rfl, (by show 2 ≤ sizeLine; decide), fun p hp => q _ _ (same_new hp) (.tup (sq_tups upd_same) (.cons (.int _) (.cons (.str _) .nil)))⟩
theorem ok_row_rank (F : FnP K "row_rank" s_row_rank f fd) (gT : mg "tuple" = none) (C : Cal P w K mg base "rank" 1 ["value"] (spRank K)) : FnOk P w K mg base CX0 2 f fd ["row"] (spKey K rankRow) := by
  refine F.ok sc_row_rank (fun vs H Q E h => ?_) (fun cdv A outer s H vs Q E hr h => ?_)
  · obtain ⟨n, r, rfl, _⟩ := h
    rfl
  · obtain ⟨a, r, rfl, hq, hl, q⟩ := h
    refine ⟨_, PSs.nox (pss_one (ps_ret (pe_callTy call_tuple_of (by rfl) gT (by decide +kernel) (pa_cons (pe_lc (own := [("value", 1)]) (g := gName 1) (tt := tYes) (by rfl) sc_row_rank.nd (pi_tup (pv 0))
      (blkOk_by (own := [("value", 1)]) (N := ["row", "value"]) (sc := defScope s_row_rank) (by decide +kernel)) (fun _ _ _ _ _ => pg_name (i := 1) sc_row_rank.nd rfl (Or.inl rfl)) (fun _ _ _ _ _ => pts_nil)
      (fun _ _ _ _ _ => pe_cal C hr (pa_cons (pv 1) pa_nil))) pa_nil)))), ?_⟩
    refine ⟨_, rfl, a, rfl, ⟨_, hq.sq⟩, fun D hD => ?_⟩
    refine lc_same (walk_tup (xs := r.map kV)) r (by rw [List.length_map]) (fun _ => true) (fun H v x => Tp K H v (rankD x)) (fun _ _ _ _ k z => Tp.tk k z) hD (fun H' s' => (hq.mono s').sq) (by rw [List.length_map]; omega) ?_ ?_
    · rintro i x b H1 _ hi hb s1 ⟨rfl, hx⟩ Q' Qn h1 _
      obtain ⟨b', hb', rfl⟩ := map_at hx
      obtain rfl : b = b' := Option.some.inj (hb.symm.trans hb')
      exact ⟨rfl, yes_in ⟨_, rfl, b, rfl, fun v H2 s2 d => h1 rfl v H2 s2 d⟩⟩
    · intro H1 acc s1 ha he
      rw [filter_true] at he
      refine ⟨D, acc, rfl, .inl ⟨sq_l ha, fun p hp => ?_⟩⟩
      have s2 : Same H1 (upd H1 p (.tup acc)) := same_new hp
      exact q _ _ (s1.trans s2) (.tup (sq_t upd_same) (each_dps (he.mono fun v x z => (Tp.tk s2.tk z).dp)))
/-- a row as a tuple, or its items in a list -/
def spLawKey (K : PySem.W.Frag) : Sp := fun vs H Q _ => ∃ (q : Addr) (r : Row), vs = [.ref q] ∧ (RowAt H q r ∨ H q = some (.lst (r.map kV))) ∧ r.length ≤ 1000 ∧ ∀ v H', Same H H' → Dp K H' v (lawRow r) → Q v H'
theorem law_item (x : Key) {H : Hp} {K : PySem.W.Frag} {σ : L2.St} {i : Nat} (hs : σ[i]? = some (some (kV x))) {Q : VK} (h : ∀ v H', Same H H' → Tp K H' v (lawD x) → Q v H') :
    tIf (tB (tCB (rIsi K) (tCons (tVar i) (tCons (tC (V.ty "int")) tNil)))) (tTup (tCons (tC (.int 0)) (tCons (tVar i) (tCons (tC (.str "")) tNil)))) (tTup (tCons (tC (.int 1)) (tCons (tC (.int 0)) (tCons (tVar i) tNil)))) σ H Q := by
  cases x with
  | inl n =>
    refine ⟨_, hs, _, _, .type "int", .type "int", true, rfl, .ty "int", .base (.int n), kit_ty (by decide +kernel), _, rfl, iteT ?_⟩
    exact ⟨_, hs, (by show 3 ≤ sizeLine; decide), fun p hp => h _ _ (same_new hp) (.tup (sq_tups upd_same) (.cons (.int _) (.cons (.int _) (.cons (.str _) .nil))))⟩
  | inr z =>
    refine ⟨_, hs, _, _, .type "str", .type "int", false, rfl, .ty "int", .base (.str z), kit_ty (by decide +kernel), _, rfl, iteF ?_⟩
    exact ⟨_, hs, (by show 3 ≤ sizeLine; decide), fun p hp => h _ _ (same_new hp) (.tup (sq_tups upd_same) (.cons (.int _) (.cons (.int _) (.cons (.str _) .nil))))⟩
theorem ok_law_key (F : FnP K "_law_key" s__law_key f fd) (gI : mg "isinstance" = none) (gN : mg "int" = none) : FnOk P w K mg base CX0 1 f fd ["row"] (spLawKey K) := by
  refine F.ok sc__law_key (fun vs H Q E h => ?_) (fun cdv A outer s H vs Q E hr h => ?_)
  · obtain ⟨n, r, rfl, _⟩ := h
    rfl
  · obtain ⟨a, r, rfl, hq, hl, q⟩ := h
    have fin : ∀ H1 D acc, Same H H1 → H1 D = some (.lst acc) → EachIs (fun v x => Tp K H1 v (lawD x)) acc (r.filter fun _ => true) → Q (.ref D) H1 := fun H1 D acc s1 ha he => by
      rw [filter_true] at he
      exact q _ _ s1 (.lst (sq_l ha) (each_dps (he.mono fun v x z => z.dp)))
    rcases hq with hq | hq
    · refine ⟨_, PSs.nox (pss_one (ps_ret (pe_lc (own := [("one", 1)]) (g := gName 1) (tt := tYes) (by rfl) sc__law_key.nd (pi_tup (pv 0))
        (blkOk_by (own := [("one", 1)]) (N := ["row", "one"]) (sc := defScope s__law_key) (by decide +kernel)) (fun _ _ _ _ _ => pg_name (i := 1) sc__law_key.nd rfl (Or.inl rfl)) (fun _ _ _ _ _ => pts_nil)
        (fun _ _ _ _ _ => pe_ifExp (pt_val (pe_callB (id := "isinstance") (r := rIsi K) call_isi (by rfl) gI (by decide +kernel) (pa_cons (pv 1) (pa_cons (pe_bltn (v := .ty "int") (by rfl) gN (by decide +kernel) rfl) pa_nil))))
          (pe_tup (pa_cons pe_int (pa_cons (pv 1) (pa_cons pe_str pa_nil)))) (pe_tup (pa_cons pe_int (pa_cons pe_int (pa_cons (pv 1) pa_nil)))))))), ?_⟩
      refine ⟨_, rfl, a, rfl, ⟨_, hq.sq⟩, fun D hD => ?_⟩
      refine lc_same (walk_tup (xs := r.map kV)) r (by rw [List.length_map]) (fun _ => true) (fun H v x => Tp K H v (lawD x)) (fun _ _ _ _ k z => Tp.tk k z) hD (fun H' s' => (hq.mono s').sq) (by rw [List.length_map]; omega) ?_ (fun H1 acc s1 ha he => fin H1 D acc s1 ha he)
      rintro i x b H1 _ hi hb s1 ⟨rfl, hx⟩ Q' Qn h1 _
      obtain ⟨b', hb', rfl⟩ := map_at hx
      obtain rfl : b = b' := Option.some.inj (hb.symm.trans hb')
      exact ⟨rfl, yes_in (law_item b rfl fun v H2 s2 d => h1 rfl v H2 s2 d)⟩
    · refine ⟨_, PSs.nox (pss_one (ps_ret (pe_lc (own := [("one", 1)]) (g := gName 1) (tt := tYes) (by rfl) sc__law_key.nd (pi_list (pv 0))
        (blkOk_by (own := [("one", 1)]) (N := ["row", "one"]) (sc := defScope s__law_key) (by decide +kernel)) (fun _ _ _ _ _ => pg_name (i := 1) sc__law_key.nd rfl (Or.inl rfl)) (fun _ _ _ _ _ => pts_nil)
        (fun _ _ _ _ _ => pe_ifExp (pt_val (pe_callB (id := "isinstance") (r := rIsi K) call_isi (by rfl) gI (by decide +kernel) (pa_cons (pv 1) (pa_cons (pe_bltn (v := .ty "int") (by rfl) gN (by decide +kernel) rfl) pa_nil))))
          (pe_tup (pa_cons pe_int (pa_cons (pv 1) (pa_cons pe_str pa_nil)))) (pe_tup (pa_cons pe_int (pa_cons pe_int (pa_cons (pv 1) pa_nil)))))))), ?_⟩
      refine ⟨_, rfl, a, rfl, ⟨_, sq_l hq⟩, fun D hD => ?_⟩
      refine lc_same (walk_list (xs := r.map kV)) r (by rw [List.length_map]) (fun _ => true) (fun H v x => Tp K H v (lawD x)) (fun _ _ _ _ k z => Tp.tk k z) hD (fun H' s' => sq_l (s' _ _ hq)) (by rw [List.length_map]; omega) ?_ (fun H1 acc s1 ha he => fin H1 D acc s1 ha he)
      rintro i x b H1 _ hi hb s1 ⟨rfl, hx⟩ Q' Qn h1 _
      obtain ⟨b', hb', rfl⟩ := map_at hx
      obtain rfl : b = b' := Option.some.inj (hb.symm.trans hb')
      exact ⟨rfl, yes_in (law_item b rfl fun v H2 s2 d => h1 rfl v H2 s2 d)⟩
end
end KA
set_option Elab.async false
set_option linter.all false
set_option maxRecDepth 100000
set_option maxHeartbeats 4000000
/-! scaled, rows_of, support, count_of -/
namespace KA
open PySem PySem.Spec PyProof.Rows L2
open PySem.W (EachIs)
/-- the pairs of a bag, as a comprehension or a loop meets them -/
theorem each_get {α β : Type} {R : α → β → Prop} : ∀ {as : List α} {bs : List β} {i : Nat} {x : α} {y : β}, EachIs R as bs → as[i]? = some x → bs[i]? = some y → R x y
  | _, _, _, _, _, .nil, h, _ => by simp at h
  | _, _, 0, _, _, .cons q t, h, g => by
    simp at h g
    subst h g
    exact q
  | _, _, i + 1, x, y, .cons q t, h, g => each_get (i := i) t (by simpa using h) (by simpa using g)
theorem ref_at {as : List Addr} {i : Nat} {v : V} (h : (as.map V.ref)[i]? = some v) : ∃ a, as[i]? = some a ∧ v = .ref a := map_at h
theorem each_map_r {α β γ : Type} {R : α → γ → Prop} (f : β → γ) : ∀ {as : List α} {bs : List β}, EachIs (fun a b => R a (f b)) as bs → EachIs R as (bs.map f)
  | _, _, .nil => .nil
  | _, _, .cons h t => .cons h (each_map_r f t)
abbrev gP2 (K : PySem.W.Frag) (i j : Nat) : TG := gTup K 2 (gCons (gName i) (gCons (gName j) gNil))
theorem gp2 {K : PySem.W.Frag} {i j : Nat} {t : Addr} {x y : V} {σ : L2.St} {H : Hp} {Q : L2.St → Hp → Prop} (hp : H t = some (.tup [x, y])) (h : Q ((σ.set i (some x)).set j (some y)) H) : gP2 K i j (.ref t) σ H Q :=
  ⟨t, _, rfl, sq_t hp, rfl, _, _, rfl, _, _, rfl, rfl, h⟩
theorem if_in {te : TE} {tt : TT} {c : Bool} {σ : L2.St} {H : Hp} {Q : VK} {Qn : Hp → Prop} (ht : ∀ Q : Bool → Hp → Prop, Q c H → tt σ H Q) (h1 : c = true → te σ H Q) (h2 : c = false → Qn H) : tt σ H fun c H3 => if c = true then te σ H3 Q else Qn H3 := by
  refine ht _ ?_
  cases c with
  | true => rw [if_pos rfl]; exact h1 rfl
  | false => rw [if_neg Bool.false_ne_true]; exact h2 rfl
section
variable {P : Program} {w : World} {K : PySem.W.Frag} {mg : Str → Option Value} {base : Heap} {f : Addr} {fd : FuncData}
def BdB (n : Nat) (b : Bag) : Prop := ∀ e ∈ b, e.2.natAbs ≤ n
theorem BdB.mono {n m : Nat} {b : Bag} (h : BdB n b) (hn : n ≤ m) : BdB m b := fun e he => Nat.le_trans (h e he) hn
/-- a pair made on the spot stands for an entry -/
theorem pair_new {H : Hp} {p q : Addr} {r : Row} {c : Int} (hp : H p = none) (hq : RowAt H q r) : PairAt (upd H p (.tup [.ref q, .int c])) p (r, c) := ⟨q, upd_same, hq.mono (same_new hp)⟩
def spScaled : Sp := fun vs H Q _ => ∃ (p : Addr) (b : Bag) (m : Int), vs = [.ref p, .int m] ∧ BagAt H p b ∧ b.length ≤ 1000 ∧ BdB (2 ^ 60) b ∧ ∀ q H', Same H H' → BagAt H' q (scaleB b m) → Q (.ref q) H'
theorem ok_scaled (F : FnP K "scaled" s_scaled f fd) : FnOk P w K mg base CX0 1 f fd ["bag", "factor"] spScaled := by
  refine F.ok sc_scaled (fun vs H Q E h => ?_) (fun cdv A outer s H vs Q E hr h => ?_)
  · obtain ⟨n, r, m, rfl, _⟩ := h
    rfl
  · obtain ⟨a, b, m, rfl, hb, hl, hbd, q⟩ := h
    refine ⟨_, PSs.nox (pss_cons (ps_if (pt_cmpR op_eq (pv 1) pe_int (nomark _)) (pss_one (ps_ret (pe_lst pa_nil))) pss_nil)
      (pss_one (ps_ret (pe_lc (own := [("row", 2), ("count", 3)]) (g := gP2 K 2 3) (tt := tYes) (by rfl) sc_scaled.nd (pi_list (pv 0))
      (blkOk_by (own := [("row", 2), ("count", 3)]) (N := ["bag", "factor", "row", "count"]) (sc := defScope s_scaled) (by decide +kernel))
      (fun _ _ _ _ _ => pg_tup rfl (pgs_cons (pg_name (i := 2) sc_scaled.nd rfl (Or.inl rfl)) (pgs_cons (pg_name (i := 3) sc_scaled.nd rfl (Or.inl rfl)) pgs_nil))) (fun _ _ _ _ _ => pts_nil)
      (fun _ _ _ _ _ => pe_tup (pa_cons (pv 2) (pa_cons (pe_op op_mul (pv 3) (pv 1)) pa_nil))))))), ?_⟩
    refine ⟨_, rfl, rfl, _, rfl, ?_⟩
    by_cases hm : m = 0
    · subst hm
      refine iteT ⟨Nat.zero_le _, fun p hp => q _ _ (same_new hp) ⟨[], upd_same, ?_⟩⟩
      unfold scaleB
      rw [if_pos rfl]
      exact .nil
    · have e : decide (V.int m = V.int 0) = false := decide_eq_false fun z => hm (by injection z)
      rw [e]
      refine iteF ?_
      obtain ⟨ts, h1, h2⟩ := id hb
      refine ⟨_, rfl, a, rfl, ⟨_, sq_l h1⟩, fun D hD => ?_⟩
      have hn : b.length = ts.length := h2.length.symm
      refine lc_same (walk_list (xs := ts.map V.ref)) b (by rw [List.length_map, hn]) (fun _ => true) (fun H v e => ∃ t, v = .ref t ∧ PairAt H t (e.1, e.2 * m)) (fun _ _ _ _ k ⟨t, e, z⟩ => ⟨t, e, z.tk k⟩) hD (fun H' s' => sq_l (s' _ _ h1)) (by rw [List.length_map]; omega) ?_ ?_
      · rintro i x e H1 _ hi he s1 ⟨rfl, hx⟩ Q' Qn k1 _
        obtain ⟨t, ht, rfl⟩ := ref_at hx
        obtain ⟨qa, p1, p2⟩ := (each_get h2 ht he).mono s1
        have hbe := hbd e (List.mem_of_getElem? he)
        refine gp2 p1 ⟨rfl, yes_in ⟨_, rfl, _, rfl, _, rfl, _, _, rfl, rfl, .inl ⟨by omega, by omega⟩, (by show 2 ≤ sizeLine; decide), fun p hp => ?_⟩⟩
        exact k1 rfl _ _ (same_new hp) ⟨p, rfl, pair_new hp p2⟩
      · intro H1 acc s1 ha he
        rw [filter_true] at he
        obtain ⟨as, rfl, hp⟩ := each_list (P := fun t (e : Row × Int) => PairAt H1 t (e.1, e.2 * m)) (fun v e z => z) he
        refine q _ _ s1 ⟨as, ha, ?_⟩
        unfold scaleB
        rw [if_neg hm]
        exact each_map_r (R := PairAt H1) (fun e : Row × Int => (e.1, e.2 * m)) hp
def spRowsOf : Sp := fun vs H Q _ => ∃ (p : Addr) (b : Bag), vs = [.ref p] ∧ BagAt H p b ∧ b.length ≤ 1000 ∧ ∀ q H', Same H H' → RowsAt H' q (posRows b) → Q (.ref q) H'
/-- a list of rows gives the list of pairs of each row and 1 -/
def spSupport : Sp := fun vs H Q _ => ∃ (p : Addr) (b : Bag), vs = [.ref p] ∧ BagAt H p b ∧ b.length ≤ 1000 ∧ ∀ q H', Same H H' → BagAt H' q (onesB (posRows b)) → Q (.ref q) H'
def spCountOf : Sp := fun vs H Q _ => ∃ (p t : Addr) (b : Bag) (r : Row), vs = [.ref p, .ref t] ∧ BagAt H p b ∧ RowAt H t r ∧ b.length ≤ 1000 ∧ Q (.int (cntB b r)) H
theorem row_plain (r : Row) : (rowD r).plain = true := by
  show PyData.plainAll (r.map keyD) = true
  exact plain_map (fun x => by cases x <;> rfl) r
theorem row_depth (r : Row) : (rowD r).depth ≤ 3 := by
  have h := depth_map (enc := keyD) (fun x => by cases x <;> simp [keyD, PyData.depth]) r
  simp only [rowD, PyData.depth]
  omega
theorem eqv_rows : ∀ a b : Row, PyData.eqvAll (a.map keyD) (b.map keyD) = decide (a = b)
  | [], [] => by simp [PyData.eqvAll]
  | [], _ :: _ => by simp [PyData.eqvAll]
  | _ :: _, [] => by simp [PyData.eqvAll]
  | x :: a, y :: b => by
    rw [List.map_cons, List.map_cons, PySem.W.eqv_all_cons, eqv_key, eqv_rows a b]
    by_cases h : x = y
    · by_cases h2 : a = b <;> simp [h, h2]
    · simp [h]
theorem eqv_row (a b : Row) : PyData.eqv (rowD a) (rowD b) = decide (a = b) := by
  simp only [rowD, PyData.eqv]
  exact eqv_rows a b
theorem cntB_cons (e : Row × Int) (b : Bag) (r : Row) : cntB (e :: b) r = if e.1 = r then e.2 else cntB b r := by
  unfold cntB
  by_cases h : e.1 = r <;> simp [List.find?_cons, h]
theorem cnt_drop {b : Bag} {i : Nat} {e : Row × Int} (h : b[i]? = some e) (r : Row) : cntB (b.drop i) r = if e.1 = r then e.2 else cntB (b.drop (i + 1)) r := by
  obtain ⟨hi, he⟩ := List.getElem?_eq_some_iff.mp h
  rw [List.drop_eq_getElem_cons hi, he, cntB_cons]
end
end KA
set_option Elab.async false
set_option linter.all false
set_option maxRecDepth 100000
set_option maxHeartbeats 4000000
/-! _law_counts, make_bag, _law_canon, plus, minus, set_bag -/
namespace KA
open PySem PySem.Spec PyProof.Rows L2
open PySem.W (EachIs)
theorem tally_snoc (ps : Bag) (e : Row × Int) : tally (ps ++ [e]) = putI (tally ps) e.1 ((valI (tally ps) e.1).getD 0 + e.2) := by
  unfold tally
  rw [List.foldl_append]
  rfl
theorem bag_take {b : Bag} {i : Nat} {e : Row × Int} (h : b[i]? = some e) : b.take (i + 1) = b.take i ++ [e] := by
  rw [List.take_add_one, h]
  rfl
theorem vk_getD (m : Bag) (r : Row) : (valV (vk m) r).getD (.int 0) = .int ((valI m r).getD 0) := by
  rw [vk_val]
  cases valI m r <;> rfl
def tCount : TS := sDPut (tVar 1) (tVar 2) (tOp (rI0 fun i j => .int (i + j)) (tDGet2 (tVar 1) (tVar 2) (tC (.int 0))) (tVar 3))
/-- the loop that fills the dict of counts -/
theorem count_loop {K : PySem.W.Frag} {a d : Addr} {ps : Bag} {H H1 : Hp} (hb : BagAt H a ps) (hl : ps.length ≤ 1000) (s1 : Same H H1) (h0 : H d = none) (h1 : H1 d = some (.dT [])) (rest : L2.St) (u0 v0 : Option V) (D : Ends)
    (done : ∀ u v H', Same H H' → H' d = some (.dT (vk (tally ps))) → D.nx ([some (.ref a), some (.ref d), u, v] ++ rest) H') :
    ∃ W : Nat → Nat → L2.St → Hp → Prop, (∃ m, W 0 m ([some (.ref a), some (.ref d), u0, v0] ++ rest) H1) ∧ ∀ i m σ H, W i m σ H →
      ((Itl K a).stop i H ∧ D.nx σ H) ∨ ((Itl K a).go i H ∧ ∃ N : L2.St → Hp → Prop, (∀ σ' H', N σ' H' → ∃ m', m' < m ∧ W (i + 1) m' σ' H') ∧ ∀ x H', (Itl K a).yld i H x H' → gP2 K 2 3 x σ H' fun σ2 H2 => tCount { D with nx := N, ct := N, bk := D.nx } σ2 H2) := by
  obtain ⟨ts, b1, b2⟩ := id hb
  have hn : ps.length = ts.length := b2.length.symm
  refine for_it (walk_list (xs := ts.map V.ref)) (fun i σ H' => (∃ u v, σ = [some (.ref a), some (.ref d), u, v] ++ rest) ∧ Same H H' ∧ H' d = some (.dT (vk (tally (ps.take i))))) ⟨⟨_, _, rfl⟩, s1, h1⟩ (fun i σ H' _ z => sq_l (z.2.1 _ _ b1)) ?_ ?_
  · rintro i x σ H' _ hi ⟨⟨u, v, rfl⟩, s2, hd⟩ ⟨rfl, hx⟩
    obtain ⟨z, hz, rfl⟩ := ref_at hx
    have hib : i < ps.length := by rw [List.length_map] at hi; omega
    have he : ps[i]? = some ps[i] := List.getElem?_eq_getElem hib
    obtain ⟨qa, p1, p2⟩ := (each_get b2 hz he).mono s2
    refine gp2 p1 ⟨_, rfl, d, rfl, .inr ⟨_, .inl hd⟩, _, rfl, _, DGet.t hd p2, _, rfl, _, _, vk_getD _ _, rfl, ?_⟩
    have hlt : (vk (tally (ps.take i))).length < sizeLine := by
      rw [List.length_map]
      have q := tally_len (ps.take i)
      rw [List.length_take] at q
      exact Nat.lt_of_lt_of_le (show _ < 2000 by omega) (by decide)
    refine ⟨_, rfl, _, rfl, d, _, rfl, DPut.t hd p2 hlt, ⟨_, _, rfl⟩, same_mut s2 h0, ?_⟩
    rw [upd_same, vk_put, bag_take he, tally_snoc]
  · rintro σ H' ⟨⟨u, v, rfl⟩, s2, hd⟩
    rw [List.length_map, List.take_of_length_le (by omega)] at hd
    exact done u v H' s2 hd
section
variable {P : Program} {w : World} {K : PySem.W.Frag} {mg : Str → Option Value} {base : Heap} {f : Addr} {fd : FuncData}
def spCounts : Sp := fun vs H Q _ => ∃ (p : Addr) (b : Bag), vs = [.ref p] ∧ BagAt H p b ∧ b.length ≤ 1000 ∧ ∀ d H', Same H H' → H d = none → H' d = some (.dT (vk (tally b))) → Q (.ref d) H'
/-- the rows whose count is not 0, in a comprehension over the locked dict -/
theorem nz_filter (b : Bag) : ((tally b).filter fun e => decide (e.2 ≠ 0)).map (·.1) = nzRows b := by
  have key : ∀ m : Bag, (∀ e ∈ m, tot b e.1 = e.2) → (m.filter fun e => decide (e.2 ≠ 0)).map (·.1) = (m.map (·.1)).filter fun r => decide (tot b r ≠ 0) := by
    intro m
    induction m with
    | nil => intro _; rfl
    | cons e t ih =>
      intro h
      have he := h e List.mem_cons_self
      rw [List.map_cons]
      by_cases z : e.2 = 0
      · rw [List.filter_cons_of_neg (by simpa using z), List.filter_cons_of_neg (by rw [he]; simpa using z), ih fun x hx => h x (List.mem_cons_of_mem _ hx)]
      · rw [List.filter_cons_of_pos (by simpa using z), List.filter_cons_of_pos (by rw [he]; simpa using z), List.map_cons, ih fun x hx => h x (List.mem_cons_of_mem _ hx)]
  unfold nzRows
  exact key _ fun e he => by rw [← tally_tot, tot_in (tally_nodup b) he]
theorem vk_at {m : Bag} {i : Nat} {k : Row} {v : V} (h : (vk m)[i]? = some (k, v)) : ∃ e, m[i]? = some e ∧ k = e.1 ∧ v = .int e.2 := by
  rw [List.getElem?_map] at h
  cases q : m[i]? with
  | none => rw [q] at h; cases h
  | some e =>
    rw [q] at h
    have h' := Option.some.inj h
    injection h' with h1 h2
    exact ⟨e, rfl, h1.symm, h2.symm⟩
theorem val_in {m : Bag} (hn : (m.map (·.1)).Nodup) {e : Row × Int} (he : e ∈ m) : valV (vk m) e.1 = some (.int e.2) := by
  rw [vk_val]
  have h1 := valI_some he
  have h2 := valI_tot hn e.1
  rw [tot_in hn he] at h2
  cases q : valI m e.1 with
  | none => rw [q] at h1; cases h1
  | some c =>
    rw [q] at h2
    rw [show c = e.2 from h2]
    rfl
/-- what the comprehension over the locked dict makes; si, sr: the slots of the dict and of the row -/
theorem nz_comp {K : PySem.W.Frag} {si sr : Nat} {σ : L2.St} {d : Addr} {od : Obj} {b : Bag} {H : Hp} (hl : b.length ≤ 1000) (hd : H d = some (.frz od (.dT (vk (tally b))))) (hsr : sr < σ.length) (hne : si ≠ sr) (hσ : σ[si]? = some (some (.ref d))) {D : Addr} (hD : H D = none) {Qd : Hp → Prop}
    (done : ∀ H', Same H H' → RowsAt H' D (nzRows b) → Qd H') :
    ∃ W : Nat → Nat → Hp → Prop, (∃ m, W 0 m (upd H D (.lst []))) ∧ ∀ i m H, W i m H →
      ((Itkt d od (vk (tally b))).stop i H ∧ Qd H) ∨ ((Itkt d od (vk (tally b))).go i H ∧ ∃ Nx : Hp → Prop, (∀ H', Nx H' → ∃ m', m' < m ∧ W (i + 1) m' H') ∧ ∀ x H', (Itkt d od (vk (tally b))).yld i H x H' → gName sr x (wipe σ [sr]) H' fun σ2 H2 => wipe σ2 [sr] = wipe σ [sr] ∧
        tTest (tOp rNe (tDGet (tVar si) (tVar sr)) (tC (.int 0))) σ2 H2 fun b H3 => if b = true then tVar sr σ2 H3 fun y H4 => ∃ acc, H4 D = some (.lst acc) ∧ acc.length < sizeLine ∧ Nx (upd H4 D (.lst (acc ++ [y]))) else Nx H3) := by
  have hlen : (tally b).length ≤ 1000 := Nat.le_trans (tally_len b) hl
  refine lc_same walk_keysT (tally b) (by rw [List.length_map]) (fun e => decide (e.2 ≠ 0)) (fun H v e => ∃ t, v = .ref t ∧ RowAt H t e.1) (fun _ _ _ _ k ⟨t, e, z⟩ => ⟨t, e, z.tk k⟩) hD (fun H' s' => s' _ _ hd) (by rw [List.length_map]; omega) ?_ ?_
  · rintro i x e H1 _ hi he s1 ⟨rfl, k, v, t, hk, rfl, ht⟩ Q' Qn k1 k2
    obtain ⟨e', he', rfl, rfl⟩ := vk_at hk
    obtain rfl : e = e' := Option.some.inj (he.symm.trans he')
    have hd1 := s1 _ _ hd
    have w1 : wipe ((wipe σ [sr]).set sr (some (.ref t))) [sr] = wipe σ [sr] := by
      show (((σ.set sr none).set sr (some (.ref t))).set sr none) = σ.set sr none
      rw [List.set_set, List.set_set]
    have g1 : ((wipe σ [sr]).set sr (some (.ref t)))[si]? = some (some (.ref d)) := by
      show ((σ.set sr none).set sr (some (.ref t)))[si]? = _
      rw [List.getElem?_set_ne (fun z => hne z.symm), List.getElem?_set_ne (fun z => hne z.symm)]
      exact hσ
    have g2 : ((wipe σ [sr]).set sr (some (.ref t)))[sr]? = some (some (.ref t)) := by
      show ((σ.set sr none).set sr (some (.ref t)))[sr]? = _
      rw [List.getElem?_set_self (by rw [List.length_set]; exact hsr)]
    have hv := val_in (tally_nodup b) (List.mem_of_getElem? he)
    refine ⟨w1, if_in (c := decide (e.2 ≠ 0)) (fun Q z => ⟨_, g1, _, g2, d, .int e.2, rfl, .inr ⟨_, e.1, t, .inr ⟨_, hd1⟩, rfl, ht, hv.symm⟩, rfl, _, rfl, ?_⟩) (fun hc => ⟨_, g2, k1 hc _ _ (Same.refl _) ⟨t, rfl, ht⟩⟩) fun hc => k2 hc _ (Same.refl _)⟩
    have e2 : (!decide (V.int e.2 = V.int 0)) = decide (e.2 ≠ 0) := by
      by_cases z : e.2 = 0 <;> simp [z]
    rw [e2]
    exact z
  · intro H1 acc s1 ha he
    obtain ⟨as, rfl, hp⟩ := each_list (P := fun t (e : Row × Int) => RowAt H1 t e.1) (fun v e z => z) he
    refine done H1 s1 ⟨as, ha, ?_⟩
    rw [← nz_filter]
    exact each_map_r (R := RowAt H1) (fun e : Row × Int => e.1) hp
end
end KA
set_option Elab.async false
set_option linter.all false
set_option maxRecDepth 100000
set_option maxHeartbeats 4000000
/-! make_bag, _law_canon, plus, minus, set_bag -/
namespace KA
open PySem PySem.Spec PyProof.Rows L2
open PySem.W (EachIs)
theorem mem_sorted {l : List Row} {r : Row} (h : r ∈ sortRows l) : r ∈ l := (sortRows_perm l).mem_iff.mp h
theorem nz_in {b : Bag} {r : Row} (h : r ∈ nzRows b) : ∃ e ∈ tally b, e.1 = r ∧ e.2 = tot b r := by
  unfold nzRows at h
  obtain ⟨h1, h2⟩ := List.mem_filter.mp h
  obtain ⟨e, he, rfl⟩ := List.mem_map.mp h1
  exact ⟨e, he, rfl, by rw [← tot_in (tally_nodup b) he, tally_tot]⟩
theorem tally_rows {b : Bag} {e : Row × Int} (h : e ∈ tally b) : ∃ e' ∈ b, e'.1 = e.1 := by
  have key : ∀ (ps m : Bag) (r : Row), r ∈ (ps.foldl (fun m e => putI m e.1 ((valI m e.1).getD 0 + e.2)) m).map (·.1) → r ∈ m.map (·.1) ∨ r ∈ ps.map (·.1) := by
    intro ps
    induction ps with
    | nil => exact fun m r h => .inl h
    | cons x t ih =>
      intro m r h
      rw [List.foldl_cons] at h
      rcases ih _ _ h with q | q
      · rcases putI_keys m x.1 ((valI m x.1).getD 0 + x.2) with ⟨_, e⟩ | ⟨_, e⟩
        · rw [e] at q; exact .inl q
        · rw [e] at q
          rcases List.mem_append.mp q with q | q
          · exact .inl q
          · exact .inr (by rw [List.mem_singleton.mp q]; exact List.mem_map.mpr ⟨x, List.mem_cons_self, rfl⟩)
      · exact .inr (by
          obtain ⟨y, hy, e⟩ := List.mem_map.mp q
          exact List.mem_map.mpr ⟨y, List.mem_cons_of_mem _ hy, e⟩)
  rcases key b [] e.1 (List.mem_map.mpr ⟨e, h, rfl⟩) with q | q
  · cases q
  · obtain ⟨y, hy, z⟩ := List.mem_map.mp q
    exact ⟨y, hy, z⟩
def RowB (n : Nat) (b : Bag) : Prop := ∀ e ∈ b, e.1.length ≤ n
theorem nz_len {n : Nat} {b : Bag} (h : RowB n b) : ∀ r ∈ nzRows b, r.length ≤ n := fun r hr => by
  obtain ⟨e, he, rfl, _⟩ := nz_in hr
  obtain ⟨e', he', z⟩ := tally_rows he
  rw [← z]
  exact h e' he'
theorem each_sorted {R : Addr → Row → Prop} {l : List Row} {as : List Addr} (h : EachIs R as (sortRows l)) : as.length = l.length := by rw [h.length, (sortRows_perm l).length_eq]
/-- the comprehension that makes the pairs of the sorted rows -/
theorem pair_comp {K : PySem.W.Frag} {sd sr : Nat} {σ : L2.St} {p d : Addr} {b : Bag} {H : Hp} (hl : b.length ≤ 1000) (hp : RowsAt H p (sortRows (nzRows b))) (hd : H d = some (.dT (vk (tally b)))) (hsr : sr < σ.length) (hne : sd ≠ sr) (hσ : σ[sd]? = some (some (.ref d)))
    {D : Addr} (hD : H D = none) {Qd : Hp → Prop} (done : ∀ H', Same H H' → BagAt H' D (mk b) → Qd H') :
    ∃ W : Nat → Nat → Hp → Prop, (∃ m, W 0 m (upd H D (.lst []))) ∧ ∀ i m H, W i m H →
      ((Itl K p).stop i H ∧ Qd H) ∨ ((Itl K p).go i H ∧ ∃ Nx : Hp → Prop, (∀ H', Nx H' → ∃ m', m' < m ∧ W (i + 1) m' H') ∧ ∀ x H', (Itl K p).yld i H x H' → gName sr x (wipe σ [sr]) H' fun σ2 H2 => wipe σ2 [sr] = wipe σ [sr] ∧
        tYes σ2 H2 fun b H3 => if b = true then tTup (tCons (tVar sr) (tCons (tDGet (tVar sd) (tVar sr)) tNil)) σ2 H3 fun y H4 => ∃ acc, H4 D = some (.lst acc) ∧ acc.length < sizeLine ∧ Nx (upd H4 D (.lst (acc ++ [y]))) else Nx H3) := by
  obtain ⟨as, h1, h2⟩ := id hp
  have hlen : as.length ≤ 1000 := by
    rw [each_sorted h2]
    unfold nzRows
    refine Nat.le_trans (List.length_filter_le ..) ?_
    rw [List.length_map]
    exact Nat.le_trans (tally_len b) hl
  refine lc_same (walk_list (xs := as.map V.ref)) (sortRows (nzRows b)) (by rw [List.length_map, h2.length]) (fun _ => true) (fun H v r => ∃ t, v = .ref t ∧ PairAt H t (r, tot b r)) (fun _ _ _ _ k ⟨t, e, z⟩ => ⟨t, e, z.tk k⟩) hD (fun H' s' => sq_l (s' _ _ h1)) (by rw [List.length_map]; omega) ?_ ?_
  · rintro i x r H1 _ hi he s1 ⟨rfl, hx⟩ Q' Qn k1 _
    obtain ⟨t, ht, rfl⟩ := ref_at hx
    have p2 := (each_get h2 ht he).mono s1
    have hd1 := s1 _ _ hd
    have w1 : wipe ((wipe σ [sr]).set sr (some (.ref t))) [sr] = wipe σ [sr] := by
      show (((σ.set sr none).set sr (some (.ref t))).set sr none) = σ.set sr none
      rw [List.set_set, List.set_set]
    have g1 : ((wipe σ [sr]).set sr (some (.ref t)))[sd]? = some (some (.ref d)) := by
      show ((σ.set sr none).set sr (some (.ref t)))[sd]? = _
      rw [List.getElem?_set_ne (fun z => hne z.symm), List.getElem?_set_ne (fun z => hne z.symm)]
      exact hσ
    have g2 : ((wipe σ [sr]).set sr (some (.ref t)))[sr]? = some (some (.ref t)) := by
      show ((σ.set sr none).set sr (some (.ref t)))[sr]? = _
      rw [List.getElem?_set_self (by rw [List.length_set]; exact hsr)]
    obtain ⟨e, hm, rfl, hc⟩ := nz_in (mem_sorted (List.mem_of_getElem? he))
    have hv := val_in (tally_nodup b) hm
    refine ⟨w1, yes_in ⟨_, g2, _, g1, _, g2, d, .int e.2, rfl, .inr ⟨_, e.1, t, .inl hd1, rfl, p2, hv.symm⟩, (by show 2 ≤ sizeLine; decide), fun q hq => ?_⟩⟩
    rw [hc]
    exact k1 rfl _ _ (same_new hq) ⟨q, rfl, pair_new hq p2⟩
  · intro H1 acc s1 ha he
    rw [filter_true] at he
    obtain ⟨cs, rfl, hc⟩ := each_list (P := fun t (r : Row) => PairAt H1 t (r, tot b r)) (fun v e z => z) he
    exact done H1 s1 ⟨cs, ha, each_map_r (R := PairAt H1) (fun r : Row => (r, tot b r)) hc⟩
section
variable {P : Program} {w : World} {K : PySem.W.Frag} {mg : Str → Option Value} {base : Heap} {f : Addr} {fd : FuncData}
def spMakeBag : Sp := fun vs H Q _ => ∃ (p : Addr) (b : Bag), vs = [.ref p] ∧ BagAt H p b ∧ b.length ≤ 1000 ∧ RowB 1000 b ∧ ∀ q H', Same H H' → BagAt H' q (mk b) → Q (.ref q) H'
theorem ok_make_bag (F : FnP K "make_bag" s_make_bag f fd) (gS : mg "sorted" = none) (C : Cal P w K mg base "row_rank" 2 ["row"] (spKey K rankRow)) : FnOk P w K mg base CX0 5 f fd ["pairs"] spMakeBag := by
  obtain ⟨fR, fdR, gR, kR, bR, GR⟩ := C
  refine F.ok sc_make_bag (fun vs H Q E h => ?_) (fun cdv A outer s H vs Q E hr h => ?_)
  · obtain ⟨n, r, rfl, _⟩ := h
    rfl
  · obtain ⟨a, b, rfl, hb, hl, hrb, q⟩ := h
    have hcall : ∀ E0 : XK, KeyCall (cxOf CX0 P w K mg base ["pairs", "counts", "row", "count", "rows"] "make_bag" (defScope s_make_bag) f cdv A outer s H E0).nox rankRow fR := fun _ => keyCall_of GR bR hr
    refine ⟨_, PSs.nox (pss_cons (ps_set (i := 1) sc_make_bag.nd rfl (Or.inr rfl) pe_dnewT)
      (pss_cons (ps_for PassesOwn.never rfl (pi_list (pv 0)) (pg_tup rfl (pgs_cons (pg_name (i := 2) sc_make_bag.nd rfl (Or.inl rfl)) (pgs_cons (pg_name (i := 3) sc_make_bag.nd rfl (Or.inl rfl)) pgs_nil)))
        (pss_one (ps_dput hr.u1 (pv 1) (pv 2) (pe_op op_add (pe_dget2 hr.u1 (pv 1) (pv 2) pe_int ⟨rfl, rfl, rfl, rfl⟩) (pv 3)) rfl)))
      (pss_cons (ps_lock (ps_setLc (i := 4) (own := [("row", 2)]) (g := gName 2) (tt := tTest (tOp rNe (tDGet (tVar 1) (tVar 2)) (tC (.int 0)))) (by rfl) sc_make_bag.nd rfl rfl (sw_true rfl rfl rfl (by decide +kernel)) (pi_keys (pv 1))
        (blkOk_by (own := [("row", 2)]) (N := ["pairs", "counts", "row", "count", "rows"]) (sc := defScope s_make_bag) (by decide +kernel)) (fun _ _ _ _ _ => pg_name (i := 2) sc_make_bag.nd rfl (Or.inl rfl))
        (fun _ _ _ _ _ => pts_one (pt_cmpR op_ne (pe_dget hr.u1 (pv 1) (pv 2) (fun _ _ => rfl)) pe_int (nomark _))) (fun _ _ _ _ _ => pv 2)))
      (pss_one (ps_ret (pe_lc (own := [("row", 2)]) (g := gName 2) (tt := tYes) (by rfl) sc_make_bag.nd
        (pi_list (pe_callBK (cr_sortKey tells_rank (fun _ _ _ _ _ _ e u => sorts_rank e u) (hcall _) hr.u64 rfl) (by rfl) gS (by decide +kernel) (pa_cons (pv 4) pa_nil) (pk_cons (pe_glob (v := .ref fR) rfl gR rfl) pk_nil)))
        (blkOk_by (own := [("row", 2)]) (N := ["pairs", "counts", "row", "count", "rows"]) (sc := defScope s_make_bag) (by decide +kernel)) (fun _ _ _ _ _ => pg_name (i := 2) sc_make_bag.nd rfl (Or.inl rfl)) (fun _ _ _ _ _ => pts_nil)
        (fun _ _ _ _ _ => pe_tup (pa_cons (pv 2) (pa_cons (pe_dget hr.u1 (pv 1) (pv 2) (fun _ _ => rfl)) pa_nil))))))))), ?_⟩
    refine fun d hd => ?_
    obtain ⟨ts, b1, b2⟩ := id hb
    refine ⟨_, rfl, a, rfl, ⟨_, sq_l (same_new hd _ _ b1)⟩, count_loop hb hl (same_new hd) hd upd_same [none] none none _ fun u v H1 s1 h1 => ?_⟩
    refine ⟨d, _, h1, trivial, fun od => ?_⟩
    refine ⟨_, rfl, d, od, rfl, .inr ⟨_, upd_same, fun D hD => ?_⟩⟩
    have nD : D ≠ d := fun z => by
      rw [z, upd_same] at hD
      cases hD
    refine nz_comp (K := K) (si := 1) (sr := 2) (b := b) hl upd_same (by show 2 < 5; decide) (by decide) rfl hD fun H2 s2 hrw => ?_
    refine ⟨s2 _ _ upd_same, ?_⟩
    have s3 : Same H (upd H2 d (.dT (vk (tally b)))) := fun c o hc => by
      have nc : c ≠ d := ne_of_none hc hd
      rw [upd_ne nc]
      refine s2 _ _ ?_
      rw [upd_ne nc]
      exact s1 _ _ hc
    have hrw2 : RowsAt (upd H2 d (.dT (vk (tally b)))) D (nzRows b) := by
      obtain ⟨as, r1, r2⟩ := hrw
      have hdf := s2 _ _ (upd_same (H := H1) (a := d) (o := .frz od (.dT (vk (tally b)))))
      have tk : TupKeep H2 (upd H2 d (.dT (vk (tally b)))) := tk_upd fun xs z => by
        rw [hdf] at z
        cases z
      exact ⟨as, by rw [upd_ne nD]; exact r1, r2.mono fun t r z => z.tk tk⟩
    obtain ⟨as, r1, r2⟩ := id hrw2
    refine ⟨_, rfl, D, as, nzRows b, rfl, rfl, sq_l r1, r2, nz_len hrb, fun c hc => s3.free hc, fun p H4 s4 hp4 hso => ?_⟩
    refine ⟨p, rfl, ?_, fun D2 hD2 => ?_⟩
    · obtain ⟨cs, c1, _⟩ := id hso
      exact ⟨_, sq_l c1⟩
    · exact pair_comp (K := K) (sd := 1) (sr := 2) hl hso (s4 _ _ upd_same) (by show 2 < 5; decide) (by decide) rfl hD2 fun H5 s5 hbag => q _ _ ((s3.trans s4).trans s5) hbag
def spCanon : Sp := fun vs H Q _ => ∃ (d : Addr) (b : Bag), vs = [.ref d] ∧ H d = some (.dT (vk (tally b))) ∧ b.length ≤ 1000 ∧ RowB 1000 b ∧ ∀ q H', Same H H' → BagAt H' q (mk b) → H q = none → Q (.ref q) H'
theorem ok_canon (F : FnP K "_law_canon" s__law_canon f fd) (gS : mg "sorted" = none) (C : Cal P w K mg base "_law_key" 1 ["row"] (spLawKey K)) : FnOk P w K mg base CX0 4 f fd ["counts"] spCanon := by
  obtain ⟨fR, fdR, gR, kR, bR, GR0⟩ := C
  have GR : FnOk P w K mg base CX0 1 fR fdR ["row"] (spKey K lawRow) := GR0.imp fun vs H Q E ⟨q, r, e, h1, h2, h3⟩ => ⟨q, r, e, .inl h1, h2, h3⟩
  refine F.ok sc__law_canon (fun vs H Q E h => ?_) (fun cdv A outer s H vs Q E hr h => ?_)
  · obtain ⟨n, r, rfl, _⟩ := h
    rfl
  · obtain ⟨d, b, rfl, hd, hl, hrb, q⟩ := h
    have hcall : ∀ E0 : XK, KeyCall (cxOf CX0 P w K mg base ["counts", "rows", "row"] "_law_canon" (defScope s__law_canon) f cdv A outer s H E0).nox lawRow fR := fun _ => keyCall_of GR bR hr
    refine ⟨_, PSs.nox (pss_cons (ps_set (i := 1) sc__law_canon.nd rfl (Or.inl rfl)
      (pe_callBK (cr_sortKey tells_law (fun _ _ _ _ _ _ e u => sorts_law e u) (hcall _) hr.u64 rfl) (by rfl) gS (by decide +kernel)
        (pa_cons (pe_lock (pe_lc (own := [("row", 2)]) (g := gName 2) (tt := tTest (tOp rNe (tDGet (tVar 0) (tVar 2)) (tC (.int 0)))) (by rfl) sc__law_canon.nd (pi_keys (pv 0))
          (blkOk_by (own := [("row", 2)]) (N := ["counts", "rows", "row"]) (sc := defScope s__law_canon) (by decide +kernel)) (fun _ _ _ _ _ => pg_name (i := 2) sc__law_canon.nd rfl (Or.inl rfl))
          (fun _ _ _ _ _ => pts_one (pt_cmpR op_ne (pe_dget hr.u1 (pv 0) (pv 2) (fun _ _ => rfl)) pe_int (nomark _))) (fun _ _ _ _ _ => pv 2))) pa_nil)
        (pk_cons (pe_glob (v := .ref fR) rfl gR rfl) pk_nil)))
      (pss_one (ps_ret (pe_lc (own := [("row", 2)]) (g := gName 2) (tt := tYes) (by rfl) sc__law_canon.nd (pi_list (pv 1))
        (blkOk_by (own := [("row", 2)]) (N := ["counts", "rows", "row"]) (sc := defScope s__law_canon) (by decide +kernel)) (fun _ _ _ _ _ => pg_name (i := 2) sc__law_canon.nd rfl (Or.inl rfl)) (fun _ _ _ _ _ => pts_nil)
        (fun _ _ _ _ _ => pe_tup (pa_cons (pv 2) (pa_cons (pe_dget hr.u1 (pv 0) (pv 2) (fun _ _ => rfl)) pa_nil))))))), ?_⟩
    refine ⟨d, _, hd, trivial, fun od => ?_⟩
    refine ⟨_, rfl, d, od, rfl, .inr ⟨_, upd_same, fun D hD => ?_⟩⟩
    have nD : D ≠ d := fun z => by
      rw [z, upd_same] at hD
      cases hD
    refine nz_comp (K := K) (si := 0) (sr := 2) (b := b) hl upd_same (by show 2 < 3; decide) (by decide) rfl hD fun H2 s2 hrw => ?_
    refine ⟨s2 _ _ upd_same, ?_⟩
    have s3 : Same H (upd H2 d (.dT (vk (tally b)))) := fun c o hc => by
      by_cases nc : c = d
      · rw [nc, hd] at hc
        rw [nc, upd_same]
        exact hc
      · rw [upd_ne nc]
        refine s2 _ _ ?_
        rw [upd_ne nc]
        exact hc
    have hrw2 : RowsAt (upd H2 d (.dT (vk (tally b)))) D (nzRows b) := by
      obtain ⟨as, r1, r2⟩ := hrw
      have hdf := s2 _ _ (upd_same (H := H) (a := d) (o := .frz od (.dT (vk (tally b)))))
      have tk : TupKeep H2 (upd H2 d (.dT (vk (tally b)))) := tk_upd fun xs z => by
        rw [hdf] at z
        cases z
      exact ⟨as, by rw [upd_ne nD]; exact r1, r2.mono fun t r z => z.tk tk⟩
    obtain ⟨as, r1, r2⟩ := id hrw2
    refine ⟨D, as, nzRows b, rfl, rfl, sq_l r1, r2, nz_len hrb, fun c hc => s3.free hc, fun p H4 s4 hp4 hso => ?_⟩
    obtain ⟨cs, c1, c2⟩ := id hso
    refine ⟨_, rfl, p, rfl, ⟨_, sq_l c1⟩, fun D2 hD2 => ?_⟩
    exact pair_comp (K := K) (sd := 0) (sr := 2) hl hso (s4 _ _ upd_same) (by show 2 < 3; decide) (by decide) rfl hD2 fun H5 s5 hbag => q _ _ ((s3.trans s4).trans s5) hbag ((s3.trans s4).free hD2)
theorem bag_app {H : Hp} {p : Addr} {ts us : List Addr} {a b : Bag} (hp : H p = some (.lst (ts.map V.ref ++ us.map V.ref))) (h1 : EachIs (PairAt H) ts a) (h2 : EachIs (PairAt H) us b) : BagAt H p (a ++ b) := by
  refine ⟨ts ++ us, by rw [List.map_append]; exact hp, ?_⟩
  clear hp
  induction h1 with
  | nil => exact h2
  | cons h t ih => exact .cons h ih
theorem RowB.app {n : Nat} {a b : Bag} (h1 : RowB n a) (h2 : RowB n b) : RowB n (a ++ b) := fun e he => (List.mem_append.mp he).elim (h1 e) (h2 e)
theorem BdB.app {n : Nat} {a b : Bag} (h1 : BdB n a) (h2 : BdB n b) : BdB n (a ++ b) := fun e he => (List.mem_append.mp he).elim (h1 e) (h2 e)
theorem rowB_scale {n : Nat} {b : Bag} (h : RowB n b) (m : Int) : RowB n (scaleB b m) := fun e he => by
  unfold scaleB at he
  split at he
  · cases he
  · obtain ⟨x, hx, rfl⟩ := List.mem_map.mp he
    exact h x hx
theorem len_scale (b : Bag) (m : Int) : (scaleB b m).length ≤ b.length := by
  unfold scaleB
  split
  · exact Nat.zero_le _
  · rw [List.length_map]; exact Nat.le_refl _
def spPlus : Sp := fun vs H Q _ => ∃ (p t : Addr) (a b : Bag), vs = [.ref p, .ref t] ∧ BagAt H p a ∧ BagAt H t b ∧ a.length ≤ 400 ∧ b.length ≤ 400 ∧ RowB 1000 a ∧ RowB 1000 b ∧ ∀ q H', Same H H' → BagAt H' q (mk (a ++ b)) → Q (.ref q) H'
theorem cat_in {ts us : List Addr} {a b : Bag} {H : Hp} (h1 : EachIs (PairAt H) ts a) (h2 : EachIs (PairAt H) us b) (la : a.length ≤ 400) (lb : b.length ≤ 400) : (ts.map V.ref).length ≤ sizeLine ∧ (us.map V.ref).length ≤ sizeLine ∧ (ts.map V.ref).length + (us.map V.ref).length ≤ sizeLine := by
  rw [List.length_map, List.length_map, h1.length, h2.length]
  refine ⟨?_, ?_, ?_⟩ <;> exact Nat.le_trans (show _ ≤ 800 by omega) (by decide)
theorem ok_plus (F : FnP K "plus" s_plus f fd) (C : Cal P w K mg base "make_bag" 5 ["pairs"] spMakeBag) : FnOk P w K mg base CX0 6 f fd ["first", "second"] spPlus := by
  refine F.ok sc_plus (fun vs H Q E h => ?_) (fun cdv A outer s H vs Q E hr h => ?_)
  · obtain ⟨n, r, a, b, rfl, _⟩ := h
    rfl
  · obtain ⟨p, t, a, b, rfl, ha, hb, la, lb, ra, rb, q⟩ := h
    refine ⟨_, PSs.nox (pss_one (ps_ret (pe_cal C hr (pa_cons (pe_op op_cat (pv 0) (pv 1)) pa_nil)))), ?_⟩
    obtain ⟨ts, a1, a2⟩ := id ha
    obtain ⟨us, b1, b2⟩ := id hb
    refine ⟨_, rfl, _, rfl, p, t, _, _, rfl, rfl, a1, b1, (cat_in a2 b2 la lb).2.2, fun l hl => ?_⟩
    have s1 := same_new (o := .lst (ts.map V.ref ++ us.map V.ref)) hl
    refine ⟨l, a ++ b, rfl, bag_app upd_same (a2.mono fun _ _ z => z.mono s1) (b2.mono fun _ _ z => z.mono s1), by rw [List.length_append]; omega, ra.app rb, fun r H' s' hb' => q _ _ (s1.trans s') hb'⟩
def spMinus : Sp := fun vs H Q _ => ∃ (p t : Addr) (a b : Bag), vs = [.ref p, .ref t] ∧ BagAt H p a ∧ BagAt H t b ∧ a.length ≤ 400 ∧ b.length ≤ 400 ∧ RowB 1000 a ∧ RowB 1000 b ∧ BdB (2 ^ 60) b ∧ ∀ q H', Same H H' → BagAt H' q (mk (a ++ scaleB b (-1))) → Q (.ref q) H'
theorem ok_minus (F : FnP K "minus" s_minus f fd) (C : Cal P w K mg base "plus" 6 ["first", "second"] spPlus) (CS : Cal P w K mg base "scaled" 1 ["bag", "factor"] spScaled) : FnOk P w K mg base CX0 7 f fd ["first", "second"] spMinus := by
  refine F.ok sc_minus (fun vs H Q E h => ?_) (fun cdv A outer s H vs Q E hr h => ?_)
  · obtain ⟨n, r, a, b, rfl, _⟩ := h
    rfl
  · obtain ⟨p, t, a, b, rfl, ha, hb, la, lb, ra, rb, bb, q⟩ := h
    refine ⟨_, PSs.nox (pss_one (ps_ret (pe_cal C hr (pa_cons (pv 0) (pa_cons (pe_cal CS hr.lt (pa_cons (pv 1) (pa_cons (pe_un un_neg pe_int) pa_nil))) pa_nil))))), ?_⟩
    refine ⟨_, rfl, _, rfl, _, rfl, t, b, -1, rfl, hb, by omega, bb, fun r H1 s1 hb1 => ?_⟩
    refine ⟨p, r, a, _, rfl, ha.mono s1, hb1, la, Nat.le_trans (len_scale b _) lb, ra, rowB_scale rb _, fun r' H' s' hb' => q _ _ (s1.trans s') hb'⟩
def spSetBag : Sp := fun vs H Q _ => ∃ (p : Addr) (rs : List Row), vs = [.ref p] ∧ RowsAt H p rs ∧ rs.length ≤ 1000 ∧ (∀ r ∈ rs, r.length ≤ 1000) ∧ ∀ q H', Same H H' → BagAt H' q (onesB (posRows (mk (onesB rs)))) → Q (.ref q) H'
end
end KA
set_option Elab.async false
set_option linter.all false
set_option maxRecDepth 100000
set_option maxHeartbeats 4000000
/-! the law's own draws: a state of two lists that each draw changes -/
namespace KA
open PySem PySem.Spec PyProof.Rows L2
open PySem.W (EachIs)
/-- the state at st: its cells at cl, its seed -/
structure StateAt (H : Hp) (st cl : Addr) (cells : List Int) (seed th : Int) : Prop where
  hs : H st = some (.lst [.ref cl, .int seed, .int th])
  hc : H cl = some (.lst (cells.map V.int))
  lo : 0 ≤ seed
  hi : seed < 2147483648
  len : cells.length ≤ 63
  nn : ∀ c ∈ cells, 0 ≤ c
def StOk (H : Hp) (st cl : Addr) : Prop := ∃ cells seed th, StateAt H st cl cells seed th
theorem StateAt.ne {H : Hp} {st cl : Addr} {cells : List Int} {seed th : Int} (S : StateAt H st cl cells seed th) : st ≠ cl := fun e => by
  have h1 := S.hs
  have h2 := S.hc
  rw [e, h2] at h1
  have h3 : cells.map V.int = [V.ref cl, V.int seed, V.int th] := by injection (Option.some.inj h1)
  cases cells with
  | nil => cases h3
  | cons c t => injection h3 with h4 _; cases h4
/-- what a draw leaves: all objects but the state's two, a state, no cells if there were none -/
structure Drawn (st cl : Addr) (H H' : Hp) : Prop where
  but : ∀ a o, a ≠ st → a ≠ cl → H a = some o → H' a = some o
  ok : StOk H' st cl
  nil : H cl = some (.lst []) → H' cl = some (.lst [])
theorem Drawn.trans {st cl : Addr} {H H1 H2 : Hp} (a : Drawn st cl H H1) (b : Drawn st cl H1 H2) : Drawn st cl H H2 := ⟨fun x o h1 h2 h => b.but x o h1 h2 (a.but x o h1 h2 h), b.ok, fun h => b.nil (a.nil h)⟩
theorem Drawn.refl {st cl : Addr} {H : Hp} (h : StOk H st cl) : Drawn st cl H H := ⟨fun _ _ _ _ h => h, h, fun h => h⟩
theorem StOk.same {H H' : Hp} {st cl : Addr} (s : Same H H') (h : StOk H st cl) : StOk H' st cl := by
  obtain ⟨c, z, th, S⟩ := h
  exact ⟨c, z, th, s _ _ S.hs, s _ _ S.hc, S.lo, S.hi, S.len, S.nn⟩
theorem Drawn.of_same {H H' : Hp} {st cl : Addr} (s : Same H H') (h : StOk H st cl) : Drawn st cl H H' := ⟨fun _ _ _ _ q => s _ _ q, h.same s, fun q => s _ _ q⟩
theorem Drawn.tk {st cl : Addr} {H H' : Hp} (d : Drawn st cl H H') (h : StOk H st cl) : TupKeep H H' := .of fun a xs q => by
  obtain ⟨c, z, th, S⟩ := h
  refine d.but a _ (fun e => ?_) (fun e => ?_) q
  · rw [e, S.hs] at q; cases q
  · rw [e, S.hc] at q; cases q
/-- a list of objects is not one of the state's two, or it is empty as those cells are -/
theorem Drawn.refs {st cl : Addr} {H H' : Hp} (d : Drawn st cl H H') (h : StOk H st cl) {p : Addr} {ts : List Addr} (q : H p = some (.lst (ts.map V.ref))) : H' p = some (.lst (ts.map V.ref)) := by
  obtain ⟨c, z, th, S⟩ := h
  by_cases e1 : p = st
  · rw [e1, S.hs] at q
    have q' : [V.ref cl, V.int z, V.int th] = ts.map V.ref := by injection (Option.some.inj q)
    match ts, q' with
    | [], q' => cases q'
    | [_], q' => injection q' with _ q2; cases q2
    | _ :: _ :: _, q' =>
      injection q' with _ q2
      injection q2 with q3 _
      cases q3
  · by_cases e2 : p = cl
    · rw [e2, S.hc] at q
      have q' : c.map V.int = ts.map V.ref := by injection (Option.some.inj q)
      cases c with
      | nil =>
        cases ts with
        | nil => rw [e2]; exact d.nil S.hc
        | cons _ _ => cases q'
      | cons c t =>
        cases ts with
        | nil => cases q'
        | cons _ _ => injection q' with q3 _; cases q3
    · exact d.but p _ e1 e2 q
theorem BagAt.drawn {st cl : Addr} {H H' : Hp} (d : Drawn st cl H H') (h : StOk H st cl) {p : Addr} {b : Bag} (q : BagAt H p b) : BagAt H' p b := by
  obtain ⟨ts, h1, h2⟩ := q
  exact ⟨ts, d.refs h h1, h2.mono fun _ _ z => z.tk (d.tk h)⟩
theorem RowsAt.drawn {st cl : Addr} {H H' : Hp} (d : Drawn st cl H H') (h : StOk H st cl) {p : Addr} {b : List Row} (q : RowsAt H p b) : RowsAt H' p b := by
  obtain ⟨ts, h1, h2⟩ := q
  exact ⟨ts, d.refs h h1, h2.mono fun _ _ z => z.tk (d.tk h)⟩
section
variable {P : Program} {w : World} {K : PySem.W.Frag} {mg : Str → Option Value} {base : Heap} {f : Addr} {fd : FuncData}
def spState (K : PySem.W.Frag) : Sp := fun vs H Q _ => ∃ (a : Addr) (ns : List Int), vs = [.ref a] ∧ SqL K H a (ns.map V.int) ∧ ns.length ≤ 63 ∧ ∀ st cl H', Same H H' → StOk H' st cl → Q (.ref st) H'
theorem int_at {ns : List Int} {i : Nat} {v : V} (h : (ns.map V.int)[i]? = some v) : ∃ n, ns[i]? = some n ∧ v = .int n := map_at h
theorem ok_state (F : FnP K "_law_state" s__law_state f fd) (gI : mg "int" = none) (gA : mg "abs" = none) : FnOk P w K mg base CX0 1 f fd ["script"] (spState K) := by
  refine F.ok sc__law_state (fun vs H Q E h => ?_) (fun cdv A outer s H vs Q E hr h => ?_)
  · obtain ⟨n, r, rfl, _⟩ := h
    rfl
  · obtain ⟨a, ns, rfl, hS, hl, q⟩ := h
    refine ⟨_, PSs.nox (pss_cons (ps_set (i := 1) sc__law_state.nd rfl (Or.inl rfl) pe_int)
      (pss_cons (ps_for PassesOwn.never rfl (pi_list (pv 0)) (pg_name (i := 2) sc__law_state.nd rfl (Or.inl rfl))
        (pss_one (ps_set (i := 1) sc__law_state.nd rfl (Or.inl rfl) (pe_op op_mod (pe_callTy call_int1 (by rfl) gI (by decide +kernel) (pa_cons (pe_op op_add (pe_op op_mul (pv 1) pe_int) (pv 2)) pa_nil)) pe_int))))
      (pss_one (ps_ret (pe_lst (pa_cons (pe_lc (own := [("cell", 2)]) (g := gName 2) (tt := tYes) (by rfl) sc__law_state.nd (pi_list (pv 0))
        (blkOk_by (own := [("cell", 2)]) (N := ["script", "seed", "cell"]) (sc := defScope s__law_state) (by decide +kernel)) (fun _ _ _ _ _ => pg_name (i := 2) sc__law_state.nd rfl (Or.inl rfl)) (fun _ _ _ _ _ => pts_nil)
        (fun _ _ _ _ _ => pe_callB (id := "abs") (r := fun xs H Q => ∃ i, xs = [.int i] ∧ Q (.int (if i < 0 then -i else i)) H) call_abs (by rfl) gA (by decide +kernel) (pa_cons (pv 2) pa_nil))) (pa_cons (pe_op op_add (pv 1) pe_int) (pa_cons (pe_op op_mod (pe_callTy call_int1 (by rfl) gI (by decide +kernel) (pa_cons (pv 1) pa_nil)) pe_int) pa_nil)))))))), ?_⟩
    refine ⟨_, rfl, a, rfl, ⟨_, hS⟩, for_it (walk_list (xs := ns.map V.int)) (fun i σ H' => H' = H ∧ ∃ z v, σ = [some (.ref a), some (.int z), v] ∧ 0 ≤ z ∧ z < 1000003) ⟨rfl, 11, none, rfl, by decide, by decide⟩ (fun i σ H' _ z => by rw [z.1]; exact hS) ?_ ?_⟩
    · rintro i x σ H' _ hi ⟨rfl, z, v, rfl, z0, z1⟩ ⟨rfl, hx⟩
      obtain ⟨n, hn, rfl⟩ := int_at hx
      refine ⟨_, rfl, _, _, rfl, rfl, .inl ⟨by omega, by omega⟩, _, rfl, _, _, rfl, rfl, .inl ⟨_, rfl, _, _, rfl, rfl, (by show (0 : Int) < 1000003; decide), ?_⟩⟩
      exact ⟨rfl, _, _, rfl, Int.emod_nonneg _ (by decide), Int.emod_lt_of_pos _ (by decide)⟩
    · rintro σ H' ⟨rfl, z, v, rfl, z0, z1⟩
      refine ⟨_, rfl, a, rfl, ⟨_, hS⟩, fun D hD => ?_⟩
      refine lc_same (walk_list (xs := ns.map V.int)) ns (by rw [List.length_map]) (fun _ => true) (fun _ v n => ∃ m : Int, v = .int m ∧ 0 ≤ m) (fun _ _ _ _ _ z => z) hD (fun H' s' => s'.seq hS) (by rw [List.length_map]; omega) ?_ ?_
      · rintro i x n H1 _ hi hn s1 ⟨rfl, hx⟩ Q' Qn k1 _
        obtain ⟨n', hn', rfl⟩ := int_at hx
        refine ⟨rfl, yes_in ⟨_, rfl, _, rfl, k1 rfl _ _ (Same.refl _) ⟨_, rfl, ?_⟩⟩⟩
        split <;> omega
      · intro H1 acc s1 ha he
        rw [filter_true] at he
        obtain ⟨ms, rfl, hms, hml⟩ : ∃ ms : List Int, acc = ms.map V.int ∧ (∀ c ∈ ms, 0 ≤ c) ∧ ms.length = ns.length := by
          clear ha hl hS
          induction he with
          | nil => exact ⟨[], rfl, fun c hc => (List.not_mem_nil hc).elim, rfl⟩
          | cons h t ih =>
            obtain ⟨m, rfl, hm⟩ := h
            obtain ⟨ms, rfl, h1, h2⟩ := ih
            exact ⟨m :: ms, rfl, fun c hc => (List.mem_cons.mp hc).elim (fun e => by rw [e]; exact hm) (h1 c), by simp [h2]⟩
        refine ⟨_, rfl, _, _, rfl, rfl, _, rfl, .inl ⟨_, rfl, _, _, rfl, rfl, (by show (0 : Int) < 4; decide), (by show 3 ≤ sizeLine; decide), fun p hp => ?_⟩⟩
        have nDp : D ≠ p := ne_of_none ha hp
        exact q p D _ (s1.trans (same_new hp)) ⟨ms, z + 1, _, upd_same, by rw [upd_ne nDp]; exact ha, by omega, by omega, by omega, hms⟩
def spDraw : Sp := fun vs H Q _ => ∃ (st cl : Addr) (m : Int), vs = [.ref st, .int m] ∧ StOk H st cl ∧ 0 < m ∧ m < 2 ^ 40 ∧ ∀ v H', Drawn st cl H H' → 0 ≤ v → v < m → Q (.int v) H'
theorem at0 {c : Int} {t : List Int} : atI ((c :: t).map V.int) 0 = some (.int c) := atI_nat (j := 0) rfl
theorem ixN0 {n : Nat} (h : 0 < n) : ixN n 0 = some 0 := by
  unfold ixN
  rw [if_pos (by decide), if_pos (by omega)]
  rfl
theorem seqIx0 {n : Nat} (h : 0 < n) : seqIndex? 0 n = some 0 := (ixN_seq (ixN0 h)).1
theorem ok_draw (F : FnP K "_law_draw" s__law_draw f fd) (gI : mg "int" = none) (gL : mg "len" = none) (gR : mg "range" = none) : FnOk P w K mg base CX0 1 f fd ["state", "many"] spDraw := by
  refine F.ok sc__law_draw (fun vs H Q E h => ?_) (fun cdv A outer s H vs Q E hr h => ?_)
  · obtain ⟨n, r, m, rfl, _⟩ := h
    rfl
  · obtain ⟨st, cl, m, rfl, hS, m0, m1, q⟩ := h
    refine ⟨_, PSs.nox (pss_cons (ps_set (i := 2) sc__law_draw.nd rfl (Or.inl rfl) (pe_ix ix_list (pv 0) pe_int (fun _ _ => rfl)))
      (pss_cons (ps_for PassesOwn.never rfl (pi_range1 rfl gR (pa_cons (pe_callB call_len_seq (by rfl) gL PySem.boot_len (pa_cons (pv 2) pa_nil)) pa_nil)) (pg_name (i := 3) sc__law_draw.nd rfl (Or.inl rfl))
        (pss_one (ps_if (PW.pt (pw_and (pt_cmpR op_eq (pe_ix ix_list (pv 2) pe_int (fun _ _ => rfl)) pe_int (nomark _)) (pw_and1 (pt_cmpR op_gt (pe_callB call_len_seq (by rfl) gL PySem.boot_len (pa_cons (pv 2) pa_nil)) pe_int (nomark _)))))
          (pss_one (ps_expr (pe_bm PySem.F.plainAttrs_list PySem.F.slot_list_pop PySem.F.type_list_pop mt_popAt (pv 2) (pa_cons pe_int pa_nil)))) pss_nil)))
      (pss_cons (ps_if (PW.pt (pw_and (pt_cmpR op_gt (pe_callB call_len_seq (by rfl) gL PySem.boot_len (pa_cons (pv 2) pa_nil)) pe_int (nomark _)) (pw_and1 (pt_cmpR op_gt (pe_ix ix_list (pv 2) pe_int (fun _ _ => rfl)) pe_int (nomark _)))))
          (pss_cons (ps_set (i := 4) sc__law_draw.nd rfl (Or.inl rfl) (pe_ix ix_list (pv 2) pe_int (fun _ _ => rfl)))
            (pss_cons (ps_asg (pe_op op_fdivW (pv 4) (pv 1)) (pg_sub (pv 2) pe_int set_list (fun _ => rfl)))
            (pss_one (ps_ret (pe_op op_mod (pe_callTy call_int1 (by rfl) gI (by decide +kernel) (pa_cons (pv 4) pa_nil)) (pv 1)))))) pss_nil)
      (pss_cons (ps_set (i := 5) sc__law_draw.nd rfl (Or.inl rfl) (pe_op op_mod (pe_callTy call_int1 (by rfl) gI (by decide +kernel) (pa_cons (pe_op op_add (pe_op op_mul (pe_ix ix_list (pv 0) pe_int (fun _ _ => rfl)) pe_int) pe_int) pa_nil)) pe_int))
      (pss_cons (ps_asg (pv 5) (pg_sub (pv 0) pe_int set_list (fun _ => rfl)))
      (pss_one (ps_ret (pe_op op_mod (pe_callTy call_int1 (by rfl) gI (by decide +kernel) (pa_cons (pe_op op_fdiv (pv 5) pe_int) pa_nil)) (pv 1))))))))), ?_⟩
    obtain ⟨cells, seed, th, S⟩ := id hS
    have ne := S.ne
    refine ⟨_, rfl, st, _, 0, .ref cl, rfl, rfl, sq_l S.hs, atI_nat (j := 0) rfl, ?_⟩
    refine ⟨_, rfl, cl, _, rfl, .inl (sq_l S.hc), _, rfl, by omega, by rw [List.length_map]; have := S.len; omega, ?_⟩
    rw [List.length_map, Int.toNat_natCast]
    -- behind the loop, whatever was popped
    refine for_it walk_range (fun i σ H' => ∃ k cs, σ = [some (.ref st), some (.int m), some (.ref cl), k, none, none] ∧ StateAt H' st cl cs seed th ∧ (∀ a, a ≠ cl → H' a = H a) ∧ (cells = [] ↔ cs = [])) ⟨none, cells, rfl, S, fun _ _ => rfl, Iff.rfl⟩ (fun _ _ _ _ _ => trivial) ?_ ?_
    · rintro i x σ H' _ hi ⟨k, cs, rfl, S1, ot, nl⟩ ⟨rfl, rfl⟩
      have hne : cells ≠ [] := fun z => by rw [z] at hi; exact absurd hi (by simp)
      obtain ⟨c, t, rfl⟩ : ∃ c t, cs = c :: t := by
        cases cs with
        | nil => exact absurd (nl.mpr rfl) hne
        | cons c t => exact ⟨c, t, rfl⟩
      refine ⟨_, rfl, cl, _, 0, .int c, rfl, rfl, sq_l S1.hc, at0, rfl, _, rfl, ?_⟩
      by_cases hc : c = 0
      · rw [decide_eq_true (by rw [hc])]
        refine iteT ⟨_, rfl, cl, _, rfl, .inl (sq_l S1.hc), _, _, rfl, rfl, _, rfl, ?_⟩
        rw [List.length_map]
        by_cases hl : ((1 : Int) < ((c :: t).length : Nat))
        · rw [decide_eq_true hl]
          refine iteT ⟨_, rfl, .inl ⟨rfl, _, .inl (.inl S1.hc)⟩, cl, _, 0, 0, .int c, rfl, rfl, S1.hc, by decide, by decide, seqIx0 (by rw [List.length_map]; simp), rfl, ?_⟩
          have h2 : 0 < t.length := by
            simp only [List.length_cons] at hl
            omega
          refine ⟨_, t, rfl, ⟨by rw [upd_ne ne]; exact S1.hs, upd_same, S1.lo, S1.hi, ?_, fun z hz => S1.nn z (List.mem_cons_of_mem _ hz)⟩, fun a ha => by rw [upd_ne ha]; exact ot a ha, ?_⟩
          · have h3 := S1.len
            simp only [List.length_cons] at h3
            omega
          · exact ⟨fun z => absurd z hne, fun z => by rw [z] at h2; exact absurd h2 (by simp)⟩
        · rw [decide_eq_false hl]
          exact iteF ⟨_, _, rfl, S1, ot, nl⟩
      · rw [decide_eq_false fun z => hc (by injection z)]
        exact iteF (iteF ⟨_, _, rfl, S1, ot, nl⟩)
    · rintro σ H' ⟨k, cs, rfl, S1, ot, nl⟩
      have but : ∀ H2 : Hp, (∀ a, a ≠ cl → a ≠ st → H2 a = H' a) → ∀ a o, a ≠ st → a ≠ cl → H a = some o → H2 a = some o := fun H2 h a o h1 h2 h3 => by rw [h a h2 h1, ot a h2]; exact h3
      refine ⟨_, rfl, cl, _, rfl, .inl (sq_l S1.hc), _, _, rfl, rfl, _, rfl, ?_⟩
      rw [List.length_map]
      by_cases hl : (0 : Int) < (cs.length : Nat)
      · rw [decide_eq_true hl]
        obtain ⟨c, t, rfl⟩ : ∃ c t, cs = c :: t := by
          cases cs with
          | nil => exact absurd hl (by simp)
          | cons c t => exact ⟨c, t, rfl⟩
        refine iteT ⟨_, rfl, cl, _, 0, .int c, rfl, rfl, sq_l S1.hc, at0, _, _, rfl, rfl, _, rfl, ?_⟩
        have c0 : 0 ≤ c := S1.nn c List.mem_cons_self
        by_cases hc : (0 : Int) < c
        · rw [decide_eq_true hc]
          refine iteT ⟨_, rfl, cl, _, 0, .int c, rfl, rfl, sq_l S1.hc, at0, ?_⟩
          refine ⟨_, rfl, _, rfl, _, _, rfl, rfl, wide_div m0 (b := 40) (by omega) (by decide) (by decide), ?_⟩
          refine ⟨_, rfl, cl, _, 0, 0, rfl, rfl, S1.hc, ixN0 (by rw [List.length_map]; simp), ?_⟩
          refine ⟨_, rfl, .inl ⟨_, rfl, _, rfl, _, _, rfl, rfl, m0, ?_⟩⟩
          refine q _ _ ⟨but _ fun a h1 h2 => upd_ne h1, ⟨c / m :: t, seed, th, by rw [upd_ne ne]; exact S1.hs, upd_same, S1.lo, S1.hi, S1.len, fun z hz => ?_⟩, fun z => ?_⟩ (Int.emod_nonneg _ (by omega)) (Int.emod_lt_of_pos _ m0)
          · rcases List.mem_cons.mp hz with e | e
            · rw [e]; exact Int.ediv_nonneg c0 (by omega)
            · exact S1.nn z (List.mem_cons_of_mem _ e)
          · rw [S.hc] at z
            have z' : cells.map V.int = [] := by injection (Option.some.inj z)
            exact absurd (nl.mp (List.map_eq_nil_iff.mp z')) (by simp)
        · rw [decide_eq_false hc]
          refine iteF ?_
          have lo0 := S1.lo
          have hi0 := S1.hi
          refine ⟨_, rfl, st, _, 1, .int seed, rfl, rfl, sq_l S1.hs, atI_nat (j := 1) rfl, _, _, rfl, rfl, .inl ⟨by omega, by omega⟩, _, _, rfl, rfl, .inl ⟨_, rfl, _, _, rfl, rfl, (by show (0 : Int) < 2147483647; decide), ?_⟩⟩
          refine ⟨_, rfl, _, rfl, st, _, 1, 1, rfl, rfl, S1.hs, rfl, ?_⟩
          refine ⟨_, rfl, _, _, rfl, rfl, ⟨by decide, by decide⟩, .inl ⟨_, rfl, _, rfl, _, _, rfl, rfl, m0, ?_⟩⟩
          have lo := S1.lo
          have hi := S1.hi
          refine q _ _ ⟨but _ fun a h1 h2 => upd_ne h2, ⟨c :: t, _, th, upd_same, by rw [upd_ne ne.symm]; exact S1.hc, Int.emod_nonneg _ (by decide), Int.lt_trans (Int.emod_lt_of_pos _ (by decide)) (by decide), S1.len, S1.nn⟩, fun z => ?_⟩ (Int.emod_nonneg _ (by omega)) (Int.emod_lt_of_pos _ m0)
          rw [upd_ne ne.symm]
          rw [S.hc] at z
          have z' : cells.map V.int = [] := by injection (Option.some.inj z)
          rw [S1.hc, nl.mp (List.map_eq_nil_iff.mp z')]
          rfl
      · rw [decide_eq_false hl]
        refine iteF (iteF ?_)
        have lo0 := S1.lo
        have hi0 := S1.hi
        refine ⟨_, rfl, st, _, 1, .int seed, rfl, rfl, sq_l S1.hs, atI_nat (j := 1) rfl, _, _, rfl, rfl, .inl ⟨by omega, by omega⟩, _, _, rfl, rfl, .inl ⟨_, rfl, _, _, rfl, rfl, (by show (0 : Int) < 2147483647; decide), ?_⟩⟩
        refine ⟨_, rfl, _, rfl, st, _, 1, 1, rfl, rfl, S1.hs, rfl, ?_⟩
        refine ⟨_, rfl, _, _, rfl, rfl, ⟨by decide, by decide⟩, .inl ⟨_, rfl, _, rfl, _, _, rfl, rfl, m0, ?_⟩⟩
        have lo := S1.lo
        have hi := S1.hi
        refine q _ _ ⟨but _ fun a h1 h2 => upd_ne h2, ⟨cs, _, th, upd_same, by rw [upd_ne ne.symm]; exact S1.hc, Int.emod_nonneg _ (by decide), Int.lt_trans (Int.emod_lt_of_pos _ (by decide)) (by decide), S1.len, S1.nn⟩, fun z => ?_⟩ (Int.emod_nonneg _ (by omega)) (Int.emod_lt_of_pos _ m0)
        rw [upd_ne ne.symm]
        rw [S.hc] at z
        have z' : cells.map V.int = [] := by injection (Option.some.inj z)
        rw [S1.hc, nl.mp (List.map_eq_nil_iff.mp z')]
        rfl
end
end KA
set_option Elab.async false
set_option linter.all false
set_option maxRecDepth 100000
set_option maxHeartbeats 4000000
/-! _law_one, _law_row, _law_bag -/
namespace KA
open PySem PySem.Spec PyProof.Rows L2
open PySem.W (EachIs)
/-- what the law draws as a value -/
def KeyOk : Key → Prop
  | .inl i => i.natAbs ≤ 2 ^ 33
  | .inr x => x = "a" ∨ x = "b" ∨ x = "ab" ∨ x = ""
def RowOk (r : Row) : Prop := r.length ≤ 3 ∧ ∀ x ∈ r, KeyOk x
theorem four {v : Int} (h0 : 0 ≤ v) (h1 : v < 4) : v = 0 ∨ v = 1 ∨ v = 2 ∨ v = 3 := by omega
theorem six {v : Int} (h0 : 0 ≤ v) (h1 : v < 6) : v = 0 ∨ v = 1 ∨ v = 2 ∨ v = 3 ∨ v = 4 ∨ v = 5 := by omega
theorem Drawn.new {st cl : Addr} {H H' : Hp} (d : Drawn st cl H H') (h : StOk H st cl) {p : Addr} {o : HO} (q : H p = some o) (h0 : ∀ c z th, StateAt H st cl c z th → p ≠ st ∧ p ≠ cl) : H' p = some o := by
  obtain ⟨c, z, th, S⟩ := h
  obtain ⟨h1, h2⟩ := h0 c z th S
  exact d.but p o h1 h2 q
theorem StateAt.away {H : Hp} {st cl : Addr} {c : List Int} {z th : Int} (S : StateAt H st cl c z th) {p : Addr} (h : H p = none) : p ≠ st ∧ p ≠ cl := ⟨fun e => (by rw [e, S.hs] at h; cases h), fun e => (by rw [e, S.hc] at h; cases h)⟩
theorem StOk.new {H : Hp} {st cl p : Addr} {o : HO} (h : StOk H st cl) (hp : H p = none) : StOk (upd H p o) st cl := h.same (same_new hp)
section
variable {P : Program} {w : World} {K : PySem.W.Frag} {mg : Str → Option Value} {base : Heap} {f : Addr} {fd : FuncData}
abbrev DrawC (P : Program) (w : World) (K : PySem.W.Frag) (mg : Str → Option Value) (base : Heap) : Prop := Cal P w K mg base "_law_draw" 1 ["state", "many"] spDraw
def spOne : Sp := fun vs H Q _ => ∃ (st cl : Addr), vs = [.ref st] ∧ StOk H st cl ∧ ∀ x H', Drawn st cl H H' → KeyOk x → Q (kV x) H'
theorem ok_one (F : FnP K "_law_one" s__law_one f fd) (C : DrawC P w K mg base) : FnOk P w K mg base CX0 2 f fd ["state"] spOne := by
  refine F.ok sc__law_one (fun vs H Q E h => ?_) (fun cdv A outer s H vs Q E hr h => ?_)
  · obtain ⟨n, r, rfl, _⟩ := h
    rfl
  · obtain ⟨st, cl, rfl, hS, q⟩ := h
    refine ⟨_, PSs.nox (pss_cons (ps_set (i := 1) sc__law_one.nd rfl (Or.inl rfl) (pe_cal C hr (pa_cons (pv 0) (pa_cons pe_int pa_nil))))
      (pss_cons (ps_if (pt_cmpR op_lt (pv 1) pe_int (nomark _)) (pss_one (ps_ret (pe_cal C hr (pa_cons (pv 0) (pa_cons pe_int pa_nil))))) pss_nil)
      (pss_cons (ps_if (pt_cmpR op_lt (pv 1) pe_int (nomark _)) (pss_one (ps_ret (pe_ix ix_list (pe_lst (pa_cons pe_str (pa_cons pe_str (pa_cons pe_str (pa_cons pe_str pa_nil))))) (pe_cal C hr (pa_cons (pv 0) (pa_cons pe_int pa_nil))) (fun _ _ => rfl)))) pss_nil)
      (pss_cons (ps_if (pt_cmpR op_eq (pv 1) pe_int (nomark _)) (pss_one (ps_ret (pe_ix ix_list (pe_lst (pa_cons (pe_un un_neg pe_int) (pa_cons (pe_un un_neg pe_int) (pa_cons pe_int (pa_cons pe_int (pa_cons pe_int (pa_cons (pe_un un_neg pe_int) pa_nil)))))))
        (pe_cal C hr (pa_cons (pv 0) (pa_cons pe_int pa_nil))) (fun _ _ => rfl)))) pss_nil)
      (pss_one (ps_ret (pe_op op_sub (pe_cal C hr (pa_cons (pv 0) (pa_cons pe_int pa_nil))) pe_int))))))), ?_⟩
    refine ⟨_, rfl, st, cl, 8, rfl, hS, by decide, by decide, fun k H1 d1 k0 k1 => ?_⟩
    refine ⟨_, rfl, _, _, rfl, rfl, _, rfl, ite2 (fun _ => ?_) fun _ => ?_⟩
    · exact ⟨_, rfl, st, cl, 4, rfl, d1.ok, by decide, by decide, fun v H2 d2 v0 v1 => q (.inl v) _ (d1.trans d2) (by show v.natAbs ≤ 2 ^ 33; omega)⟩
    refine ⟨_, rfl, _, _, rfl, rfl, _, rfl, ite2 (fun _ => ?_) fun _ => ?_⟩
    · refine ⟨(by show 4 ≤ sizeLine; decide), fun p hp => ?_⟩
      refine ⟨_, rfl, st, cl, 4, rfl, d1.ok.new hp, by decide, by decide, fun v H2 d2 v0 v1 => ?_⟩
      have hp2 : H2 p = some (.lst [.str "a", .str "b", .str "ab", .str ""]) := by
        obtain ⟨c, z, th, S⟩ := d1.ok
        obtain ⟨h1, h2⟩ := S.away hp
        exact d2.but p _ h1 h2 upd_same
      have d3 := (d1.trans (Drawn.of_same (same_new (o := .lst [.str "a", .str "b", .str "ab", .str ""]) hp) d1.ok)).trans d2
      rcases four v0 v1 with rfl | rfl | rfl | rfl
      · exact ⟨p, _, 0, .str "a", rfl, rfl, sq_l hp2, atI_nat (j := 0) rfl, q (.inr "a") _ d3 (.inl rfl)⟩
      · exact ⟨p, _, 1, .str "b", rfl, rfl, sq_l hp2, atI_nat (j := 1) rfl, q (.inr "b") _ d3 (.inr (.inl rfl))⟩
      · exact ⟨p, _, 2, .str "ab", rfl, rfl, sq_l hp2, atI_nat (j := 2) rfl, q (.inr "ab") _ d3 (.inr (.inr (.inl rfl)))⟩
      · exact ⟨p, _, 3, .str "", rfl, rfl, sq_l hp2, atI_nat (j := 3) rfl, q (.inr "") _ d3 (.inr (.inr (.inr rfl)))⟩
    refine ⟨_, rfl, rfl, _, rfl, ?_⟩
    by_cases h6 : k = 6
    · rw [decide_eq_true (by rw [h6])]
      refine iteT ⟨_, rfl, _, rfl, _, rfl, (by show 6 ≤ sizeLine; decide), fun p hp => ?_⟩
      refine ⟨_, rfl, st, cl, 6, rfl, d1.ok.new hp, by decide, by decide, fun v H2 d2 v0 v1 => ?_⟩
      have hp2 : H2 p = some (.lst [.int (-1), .int (-2147483648), .int 2147483647, .int 46341, .int 65536, .int (-7)]) := by
        obtain ⟨c, z, th, S⟩ := d1.ok
        obtain ⟨h1, h2⟩ := S.away hp
        exact d2.but p _ h1 h2 upd_same
      have d3 := (d1.trans (Drawn.of_same (same_new (o := .lst [.int (-1), .int (-2147483648), .int 2147483647, .int 46341, .int 65536, .int (-7)]) hp) d1.ok)).trans d2
      rcases six v0 v1 with rfl | rfl | rfl | rfl | rfl | rfl
      · exact ⟨p, _, 0, .int (-1), rfl, rfl, sq_l hp2, atI_nat (j := 0) rfl, q (.inl (-1)) _ d3 (by show (1 : Nat) ≤ 2 ^ 33; decide)⟩
      · exact ⟨p, _, 1, .int (-2147483648), rfl, rfl, sq_l hp2, atI_nat (j := 1) rfl, q (.inl (-2147483648)) _ d3 (by show (2147483648 : Nat) ≤ 2 ^ 33; decide)⟩
      · exact ⟨p, _, 2, .int 2147483647, rfl, rfl, sq_l hp2, atI_nat (j := 2) rfl, q (.inl 2147483647) _ d3 (by show (2147483647 : Nat) ≤ 2 ^ 33; decide)⟩
      · exact ⟨p, _, 3, .int 46341, rfl, rfl, sq_l hp2, atI_nat (j := 3) rfl, q (.inl 46341) _ d3 (by show (46341 : Nat) ≤ 2 ^ 33; decide)⟩
      · exact ⟨p, _, 4, .int 65536, rfl, rfl, sq_l hp2, atI_nat (j := 4) rfl, q (.inl 65536) _ d3 (by show (65536 : Nat) ≤ 2 ^ 33; decide)⟩
      · exact ⟨p, _, 5, .int (-7), rfl, rfl, sq_l hp2, atI_nat (j := 5) rfl, q (.inl (-7)) _ d3 (by show (7 : Nat) ≤ 2 ^ 33; decide)⟩
    · rw [decide_eq_false fun z => h6 (by injection z)]
      refine iteF ⟨_, rfl, st, cl, 4000000000, rfl, d1.ok, by decide, by decide, fun v H2 d2 v0 v1 => ?_⟩
      exact ⟨_, _, rfl, rfl, q (.inl (v - 2000000000)) _ (d1.trans d2) (by show (v - 2000000000).natAbs ≤ 2 ^ 33; omega)⟩
def spRow : Sp := fun vs H Q _ => ∃ (st cl : Addr), vs = [.ref st, .int 3] ∧ StOk H st cl ∧ ∀ p r H', Drawn st cl H H' → H p = none → RowAt H' p r → RowOk r → Q (.ref p) H'
theorem ok_row (F : FnP K "_law_row" s__law_row f fd) (gT : mg "tuple" = none) (gR : mg "range" = none) (C : DrawC P w K mg base) (CO : Cal P w K mg base "_law_one" 2 ["state"] spOne) : FnOk P w K mg base CX0 3 f fd ["state", "most"] spRow := by
  refine F.ok sc__law_row (fun vs H Q E h => ?_) (fun cdv A outer s H vs Q E hr h => ?_)
  · obtain ⟨n, r, rfl, _⟩ := h
    rfl
  · obtain ⟨st, cl, rfl, hS, q⟩ := h
    refine ⟨_, PSs.nox (pss_one (ps_ret (pe_callTy call_tuple_of (by rfl) gT (by decide +kernel) (pa_cons (pe_lc (own := [("k", 2)]) (g := gName 2) (tt := tYes) (by rfl) sc__law_row.nd
      (pi_range1 rfl gR (pa_cons (pe_cal C hr.lt (pa_cons (pv 0) (pa_cons (pe_op op_add (pv 1) pe_int) pa_nil))) pa_nil))
      (blkOk_by (own := [("k", 2)]) (N := ["state", "most", "k"]) (sc := defScope s__law_row) (by decide +kernel)) (fun _ _ _ _ _ => pg_name (i := 2) sc__law_row.nd rfl (Or.inl rfl)) (fun _ _ _ _ _ => pts_nil)
      (fun _ _ _ _ _ => pe_cal CO hr (pa_cons (pv 0) pa_nil))) pa_nil)))), ?_⟩
    refine ⟨_, rfl, _, rfl, _, _, rfl, rfl, st, cl, 4, rfl, hS, by decide, by decide, fun n H1 d1 n0 n1 => ?_⟩
    refine ⟨n, rfl, by omega, by omega, fun D hD => ?_⟩
    obtain ⟨c0, z0, th0, S0⟩ := d1.ok
    obtain ⟨Dst, Dcl⟩ := S0.away hD
    refine lc_go walk_range (List.range n.toNat) (by rw [List.length_range]) (fun _ => true) (fun _ v _ => ∃ x, v = kV x ∧ KeyOk x) (fun _ _ _ _ _ z => z) (fun H' => Drawn st cl H1 H') (Drawn.of_same (same_new hD) d1.ok) (fun _ _ => trivial) ?_ (by omega) ?_ ?_
    · intro H' acc d
      refine ⟨fun a o h1 h2 h3 => ?_, ?_, fun z => ?_⟩
      · rw [upd_ne (ne_of_none h3 hD)]
        exact d.but a o h1 h2 h3
      · obtain ⟨c, z, th, S⟩ := d.ok
        exact ⟨c, z, th, by rw [upd_ne Dst.symm]; exact S.hs, by rw [upd_ne Dcl.symm]; exact S.hc, S.lo, S.hi, S.len, S.nn⟩
      · rw [upd_ne Dcl.symm]
        exact d.nil z
    · rintro i x b H2 _ hi hb d2 ⟨acc, ha⟩ ⟨rfl, rfl⟩ Q' Qn k1 _
      refine ⟨rfl, yes_in ⟨_, rfl, st, cl, rfl, d2.ok, fun x H3 d3 hx => k1 rfl _ _ (d2.trans d3) ?_ (d3.tk d2.ok) ⟨x, rfl, hx⟩⟩⟩
      rw [ha]
      exact d3.but D _ Dst Dcl ha
    · intro H2 acc d2 ha he
      rw [filter_true] at he
      obtain ⟨r, rfl, hr1, hr2⟩ : ∃ r : Row, acc = r.map kV ∧ (∀ x ∈ r, KeyOk x) ∧ r.length = n.toNat := by
        have hl := he.length
        rw [List.length_range] at hl
        clear ha
        revert hl
        generalize n.toNat = m
        intro hl
        have : ∀ {vs : List V} {ns : List Nat}, EachIs (fun v (_ : Nat) => ∃ x, v = kV x ∧ KeyOk x) vs ns → ∃ r : Row, vs = r.map kV ∧ (∀ x ∈ r, KeyOk x) ∧ r.length = vs.length := by
          intro vs ns h
          induction h with
          | nil => exact ⟨[], rfl, fun x hx => (List.not_mem_nil hx).elim, rfl⟩
          | cons h t ih =>
            obtain ⟨x, rfl, hx⟩ := h
            obtain ⟨r, rfl, h1, h2⟩ := ih
            exact ⟨x :: r, rfl, fun y hy => (List.mem_cons.mp hy).elim (fun e => by rw [e]; exact hx) (h1 y), by simp⟩
        obtain ⟨r, e, h1, h2⟩ := this he
        exact ⟨r, e, h1, h2.trans hl⟩
      refine ⟨D, _, rfl, .inl ⟨sq_l ha, fun p hp => ?_⟩⟩
      have hp0 : H p = none := by
        cases e : H p with
        | none => rfl
        | some o =>
          exfalso
          obtain ⟨c, z, th, S⟩ := d2.ok
          have h1 : p ≠ st := fun e => by rw [e, S.hs] at hp; cases hp
          have h2 : p ≠ cl := fun e => by rw [e, S.hc] at hp; cases hp
          rw [(d1.trans d2).but p o h1 h2 e] at hp
          cases hp
      exact q p r _ ((d1.trans d2).trans (Drawn.of_same (same_new hp) d2.ok)) hp0 upd_same ⟨by omega, hr1⟩
end
end KA
set_option Elab.async false
set_option linter.all false
set_option maxRecDepth 100000
set_option maxHeartbeats 4000000
/-! _law_bag -/
namespace KA
open PySem PySem.Spec PyProof.Rows L2
open PySem.W (EachIs)
theorem tot_bd {n : Nat} {ps : Bag} (h : BdB n ps) (r : Row) : (tot ps r).natAbs ≤ ps.length * n := by
  induction ps with
  | nil => rw [tot_nil]; simp
  | cons e t ih =>
    have h1 := h e List.mem_cons_self
    have h2 := ih fun x hx => h x (List.mem_cons_of_mem _ hx)
    rw [tot_cons, List.length_cons, Nat.succ_mul]
    by_cases q : e.1 = r
    · rw [if_pos q]; omega
    · rw [if_neg q]; omega
theorem mk_rows {ps : Bag} {e : Row × Int} (h : e ∈ mk ps) : ∃ e' ∈ ps, e'.1 = e.1 := by
  obtain ⟨r, hr, rfl⟩ := List.mem_map.mp h
  obtain ⟨x, hx, e, _⟩ := nz_in (mem_sorted hr)
  obtain ⟨y, hy, z⟩ := tally_rows hx
  exact ⟨y, hy, z.trans e⟩
theorem mk_bd {n : Nat} {ps : Bag} (h : BdB n ps) : BdB (ps.length * n) (mk ps) := fun e he => by
  obtain ⟨r, hr, rfl⟩ := List.mem_map.mp he
  exact tot_bd h r
def RowsOk (b : Bag) : Prop := ∀ e ∈ b, RowOk e.1
theorem mk_rowsOk {ps : Bag} (h : RowsOk ps) : RowsOk (mk ps) := fun e he => by
  obtain ⟨e', h1, h2⟩ := mk_rows he
  rw [← h2]
  exact h e' h1
theorem RowsOk.rowB {b : Bag} (h : RowsOk b) : RowB 1000 b := fun e he => Nat.le_trans (h e he).1 (by decide)
theorem RowsOk.app {a b : Bag} (h1 : RowsOk a) (h2 : RowsOk b) : RowsOk (a ++ b) := fun e he => (List.mem_append.mp he).elim (h1 e) (h2 e)
structure GoodBag (b : Bag) : Prop where
  canon : Canon b
  len : b.length ≤ 10
  bd : BdB 10000000 b
  rows : RowsOk b
theorem good_mk {ps : Bag} (hl : ps.length ≤ 10) (hb : BdB 1000000 ps) (hr : RowsOk ps) : GoodBag (mk ps) :=
  ⟨mk_canon ps, Nat.le_trans (mk_len ps) hl, (mk_bd hb).mono (by omega), mk_rowsOk hr⟩
theorem Drawn.free {st cl : Addr} {H H' : Hp} (dr : Drawn st cl H H') {p : Addr} (hn : H' p = none) : H p = none := by
  cases e : H p with
  | none => rfl
  | some o =>
    exfalso
    obtain ⟨c, z, th, S⟩ := dr.ok
    have n1 : p ≠ st := fun e => by rw [e, S.hs] at hn; cases hn
    have n2 : p ≠ cl := fun e => by rw [e, S.hc] at hn; cases hn
    rw [dr.but p o n1 n2 e] at hn
    cases hn
section
variable {P : Program} {w : World} {K : PySem.W.Frag} {mg : Str → Option Value} {base : Heap} {f : Addr} {fd : FuncData}
abbrev RowC (P : Program) (w : World) (K : PySem.W.Frag) (mg : Str → Option Value) (base : Heap) : Prop := Cal P w K mg base "_law_row" 3 ["state", "most"] spRow
def spBag : Sp := fun vs H Q _ => ∃ (st cl : Addr) (m : Int), vs = [.ref st, .int m] ∧ 0 ≤ m ∧ m ≤ 8 ∧ StOk H st cl ∧ ∀ p b H', Drawn st cl H H' → BagAt H' p b → GoodBag b → H p = none → Q (.ref p) H'
theorem ok_bag (F : FnP K "_law_bag" s__law_bag f fd) (gR : mg "range" = none) (C : DrawC P w K mg base) (CR : RowC P w K mg base) (CC : Cal P w K mg base "_law_canon" 4 ["counts"] spCanon) : FnOk P w K mg base CX0 5 f fd ["state", "most"] spBag := by
  refine F.ok sc__law_bag (fun vs H Q E h => ?_) (fun cdv A outer s H vs Q E hr h => ?_)
  · obtain ⟨n, r, m, rfl, _⟩ := h
    rfl
  · obtain ⟨st, cl, m, rfl, m0, m1, hS, q⟩ := h
    refine ⟨_, PSs.nox (pss_cons (ps_set (i := 2) sc__law_bag.nd rfl (Or.inl rfl) pe_dnewT)
      (pss_cons (ps_for PassesOwn.never rfl (pi_range1 rfl gR (pa_cons (pe_cal C hr.lt (pa_cons (pv 0) (pa_cons (pe_op op_add (pv 1) pe_int) pa_nil))) pa_nil)) (pg_name (i := 3) sc__law_bag.nd rfl (Or.inl rfl))
        (pss_cons (ps_set (i := 4) sc__law_bag.nd rfl (Or.inl rfl) (pe_cal CR hr.lt (pa_cons (pv 0) (pa_cons pe_int pa_nil))))
        (pss_one (ps_dput hr.u1 (pv 2) (pv 4) (pe_op op_add (pe_dget2 hr.u1 (pv 2) (pv 4) pe_int ⟨rfl, rfl, rfl, rfl⟩)
          (pe_ix ix_list (pe_lst (pa_cons pe_int (pa_cons pe_int (pa_cons pe_int (pa_cons (pe_un un_neg pe_int) (pa_cons (pe_un un_neg pe_int) (pa_cons pe_int pa_nil))))))) (pe_cal C hr.lt (pa_cons (pv 0) (pa_cons pe_int pa_nil))) (fun _ _ => rfl))) rfl))))
      (pss_one (ps_ret (pe_cal CC hr (pa_cons (pv 2) pa_nil)))))), ?_⟩
    refine fun d hd => ?_
    obtain ⟨c0, z0, th0, S0⟩ := id hS
    obtain ⟨dst, dcl⟩ := S0.away hd
    refine ⟨_, rfl, _, rfl, _, _, rfl, rfl, st, cl, m + 1, rfl, hS.new hd, by omega, by omega, fun n H1 d1 n0 n1 => ?_⟩
    have upd_d : ∀ (H' : Hp) (o : HO), Drawn st cl H H' → Drawn st cl H (upd H' d o) := fun H' o D => by
      refine ⟨fun a x h1 h2 h3 => ?_, ?_, fun z => ?_⟩
      · rw [upd_ne (ne_of_none h3 hd)]
        exact D.but a x h1 h2 h3
      · obtain ⟨c, z, th, S⟩ := D.ok
        exact ⟨c, z, th, by rw [upd_ne dst.symm]; exact S.hs, by rw [upd_ne dcl.symm]; exact S.hc, S.lo, S.hi, S.len, S.nn⟩
      · rw [upd_ne dcl.symm]
        exact D.nil z
    refine ⟨n, rfl, by omega, by omega, ?_⟩
    refine for_it walk_range (fun i σ H' => (∃ k r, σ = [some (.ref st), some (.int m), some (.ref d), k, r]) ∧ Drawn st cl H H' ∧ ∃ ps, H' d = some (.dT (vk (tally ps))) ∧ ps.length ≤ i ∧ BdB 1000000 ps ∧ RowsOk ps)
      ⟨⟨_, _, rfl⟩, (Drawn.of_same (same_new hd) hS).trans d1, [], d1.but d _ dst dcl upd_same, Nat.le_refl _, (fun e he => (List.not_mem_nil he).elim), fun e he => (List.not_mem_nil he).elim⟩ (fun _ _ _ _ _ => trivial) ?_ ?_
    · rintro i x σ H2 _ hi ⟨⟨k, r, rfl⟩, D2, ps, hp, pl, pb, pr⟩ ⟨rfl, rfl⟩
      refine ⟨_, rfl, st, cl, rfl, D2.ok, fun t r H3 d3 ht hrow rok => ?_⟩
      have hp3 : H3 d = some (.dT (vk (tally ps))) := d3.but d _ dst dcl hp
      refine ⟨_, rfl, d, rfl, .inr ⟨_, .inl hp3⟩, _, rfl, _, DGet.t hp3 hrow, ?_⟩
      refine ⟨_, rfl, _, rfl, (by show 6 ≤ sizeLine; decide), fun p hpn => ?_⟩
      refine ⟨_, rfl, st, cl, 6, rfl, d3.ok.new hpn, by decide, by decide, fun v H4 d4 v0 v1 => ?_⟩
      have hpL : H4 p = some (.lst [.int 1, .int 1, .int 2, .int (-1), .int (-3), .int 1000000]) := by
        obtain ⟨c, z, th, S⟩ := d3.ok
        obtain ⟨h1, h2⟩ := S.away hpn
        exact d4.but p _ h1 h2 upd_same
      have s3 : Same H3 (upd H3 p (.lst [.int 1, .int 1, .int 2, .int (-1), .int (-3), .int 1000000])) := same_new hpn
      have D4 : Drawn st cl H H4 := ((D2.trans d3).trans (Drawn.of_same s3 d3.ok)).trans d4
      have hp4 : H4 d = some (.dT (vk (tally ps))) := d4.but d _ dst dcl (s3 _ _ hp3)
      have hrow4 : RowAt H4 t r := RowAt.tk (d4.tk (d3.ok.same s3)) (hrow.mono s3)
      have hlt : (vk (tally ps)).length < sizeLine := by
        rw [List.length_map]
        have := tally_len ps
        exact Nat.lt_of_lt_of_le (show _ < 2000 by omega) (by decide)
      obtain ⟨c, hc, hcb⟩ : ∃ c : Int, atI [V.int 1, .int 1, .int 2, .int (-1), .int (-3), .int 1000000] v = some (.int c) ∧ c.natAbs ≤ 1000000 := by
        rcases six v0 v1 with rfl | rfl | rfl | rfl | rfl | rfl
        · exact ⟨1, atI_nat (j := 0) rfl, by decide⟩
        · exact ⟨1, atI_nat (j := 1) rfl, by decide⟩
        · exact ⟨2, atI_nat (j := 2) rfl, by decide⟩
        · exact ⟨-1, atI_nat (j := 3) rfl, by decide⟩
        · exact ⟨-3, atI_nat (j := 4) rfl, by decide⟩
        · exact ⟨1000000, atI_nat (j := 5) rfl, by decide⟩
      refine ⟨p, _, v, .int c, rfl, rfl, sq_l hpL, hc, _, _, vk_getD _ _, rfl, ?_⟩
      refine ⟨_, rfl, _, rfl, d, _, rfl, DPut.t hp4 hrow4 hlt, ⟨_, _, rfl⟩, upd_d _ _ D4, ps ++ [(r, c)], ?_, by rw [List.length_append]; simp; omega, pb.app fun e he => ?_, pr.app fun e he => ?_⟩
      · rw [upd_same, vk_put, tally_snoc]
      · rw [List.mem_singleton.mp he]; exact hcb
      · rw [List.mem_singleton.mp he]; exact rok
    · rintro σ H2 ⟨⟨k, r, rfl⟩, D2, ps, hp, pl, pb, pr⟩
      refine ⟨_, rfl, d, ps, rfl, hp, by omega, pr.rowB, fun p H3 s3 hb hnew => ?_⟩
      exact q p _ _ (D2.trans (Drawn.of_same s3 D2.ok)) hb (good_mk (by omega) pb pr) (D2.free hnew)
end
end KA
set_option Elab.async false
set_option linter.all false
set_option maxRecDepth 100000
set_option maxHeartbeats 4000000
/-! == and != of dicts with text keys whose values are lists of data -/
namespace KA
open PySem PySem.Spec PyProof.Rows L2
open PySem.W (EachIs)
section
variable {X : Cx} {pins : List (Addr × Obj)} {σ : L2.St} {H : Hp} {s : Shared}
/-- two dicts of the same keys, their values the same data -/
def DDs (K : PySem.W.Frag) (H : Hp) (x y : V) : Prop := ∃ (a b : Addr) (ks ls : List (L2.Key × V)), x = .ref a ∧ y = .ref b ∧ H a = some (.dK ks) ∧ H b = some (.dK ls) ∧ ks.length = ls.length ∧
  ∀ p ∈ ks, ∃ (u : V) (d : PyData), valV ls p.1 = some u ∧ Dp K H p.2 d ∧ Dp K H u d ∧ d.plain = true ∧ d.depth ≤ 40
def rEqDD (K : PySem.W.Frag) : R2 := fun x y H Q => DDs K H x y ∧ Q (.bl true) H
def rNeDD (K : PySem.W.Frag) : R2 := fun x y H Q => DDs K H x y ∧ Q (.bl false) H
theorem hits_data (I : Inv X pins σ H s) {A : Around} (hu : A.units + 50 < cLine) {ls : List (L2.Key × V)} {vb : List (L2.Key × Value)} (rb : KV ls vb) {ks : List (L2.Key × V)} {va : List (L2.Key × Value)} (ra : KV ks va) :
    (∀ p ∈ ks, ∃ (u : V) (d : PyData), valV ls p.1 = some u ∧ Dp X.K H p.2 d ∧ Dp X.K H u d ∧ d.plain = true ∧ d.depth ≤ 40) → PySem.W.KeqHits A s vb va true := by
  unfold KV at ra
  induction ra with
  | nil => intro _; exact .nil
  | @cons p q ps qs h t ih =>
    intro hp
    obtain ⟨h1, h2⟩ := h
    obtain ⟨u, d, e, f1, f2, f3, f4⟩ := hp p List.mem_cons_self
    have rr : RelO (some u) (valueAt vb p.1) := by rw [← e]; exact rb.val p.1
    obtain ⟨y, hy, ry⟩ := rr.some_of
    obtain ⟨key, v⟩ := q
    have h1' : p.1 = key := h1
    rw [h1'] at hy
    obtain ⟨as, r1⟩ := Dp.reads I d _ _ f1 h2
    obtain ⟨bs, r2⟩ := Dp.reads I d _ _ f2 ry
    have eq : SeqAt.EqAt A s v y (PyData.eqv d d) := SeqAt.eqAt_plain _ _ _ _ _ _ _ _ r1 r2 f3 f3 (by omega)
    rw [show PyData.eqv d d = true from SeqAt.eqv_refl_plain d f3] at eq
    show PySem.W.KeqHits A s vb ((key, v) :: qs) (true && true)
    exact .hit hy eq (ih fun p' hm => hp p' (List.mem_cons_of_mem _ hm))
theorem op_eqDD (hu : X.A.units + 64 < cLine) : OpR X (compareOp .Eq) (rEqDD X.K) := by
  intro pins s σ H x y v u Q I rx ry h
  obtain ⟨⟨a, b, ks, ls, rfl, rfl, ea, eb, hlen, hp⟩, q⟩ := h
  obtain rfl : v = Value.ref a := rx
  obtain rfl : u = Value.ref b := ry
  obtain ⟨_, ya, va, ra, da⟩ := (show ObjOk X.prog X.w H s.heap a (.dK ks) from I.hok a _ ea)
  obtain ⟨_, yb, vb, rb, db⟩ := (show ObjOk X.prog X.w H s.heap b (.dK ls) from I.hok b _ eb)
  have hl : va.length = vb.length := by rw [← ra.length, ← rb.length]; exact hlen
  exact PySem.W.keq_eq (knd := mixKind X.prog X.w) (r := true) ya yb da db (by omega) (fun _ => hits_data I (by show X.A.units + 1 + 50 < cLine; omega) rb ra hp) (fin_bl I q (by simp [hl]))
theorem op_neDD (hu : X.A.units + 64 < cLine) : OpR X (compareOp .NotEq) (rNeDD X.K) := by
  intro pins s σ H x y v u Q I rx ry h
  obtain ⟨⟨a, b, ks, ls, rfl, rfl, ea, eb, hlen, hp⟩, q⟩ := h
  obtain rfl : v = Value.ref a := rx
  obtain rfl : u = Value.ref b := ry
  obtain ⟨_, ya, va, ra, da⟩ := (show ObjOk X.prog X.w H s.heap a (.dK ks) from I.hok a _ ea)
  obtain ⟨_, yb, vb, rb, db⟩ := (show ObjOk X.prog X.w H s.heap b (.dK ls) from I.hok b _ eb)
  have hl : va.length = vb.length := by rw [← ra.length, ← rb.length]; exact hlen
  exact PySem.W.keq_ne (knd := mixKind X.prog X.w) (r := true) ya yb da db (by omega) (fun _ => hits_data I (by show X.A.units + 1 + 50 < cLine; omega) rb ra hp) (fin_bl I q (by simp [hl]))
end
end KA
set_option Elab.async false
set_option linter.all false
set_option maxRecDepth 100000
set_option maxHeartbeats 4000000
/-! the branches' own methods -/
namespace KA
open PySem PySem.Spec PyProof.Rows L2
open PySem.W (EachIs)
/-- what the written part says of the two classes -/
structure BrC (K : PySem.W.Frag) (mg : Str → Option Value) (C : Addr) : Prop where
  cl : Cls K C
  nP : NoAttr K C "parent"
  nS : NoAttr K C "start"
  nB : NoAttr K C "bags"
  mgC : mg "Branch" = some (.ref C)
structure TrC (K : PySem.W.Frag) (mg : Str → Option Value) (C : Addr) : Prop where
  cl : Cls K C
  nB : NoAttr K C "branches"
  mgC : mg "Tree" = some (.ref C)
structure MethG (P : Program) (w : World) (K : PySem.W.Frag) (mg : Str → Option Value) (base : Heap) (CX : CXT) (C : Addr) (m : Str) (k : Nat) (ps : List Str) (sp : Sp) : Prop where
  ex : ∃ f fd, Meth K C m f ∧ FnOk P w K mg base CX k f fd ps sp ∧ Binds K fd ps []
structure MakeG (P : Program) (w : World) (K : PySem.W.Frag) (mg : Str → Option Value) (base : Heap) (CX : CXT) (C : Addr) (k : Nat) (ps : List Str) (sp : Sp) : Prop where
  ex : ∃ f fd, Mk K C f ∧ FnOk P w K mg base CX k f fd ps sp ∧ Binds K fd ps []
abbrev brP (v : V) : List (Str × V) := [("parent", v)]
abbrev brF (v : V) (s b : Addr) : List (Str × V) := [("parent", v), ("start", .ref s), ("bags", .ref b)]
/-- the two bags of a branch -/
abbrev kv2 (p q : Addr) : List (L2.Key × V) := [(.inr "a", .ref p), (.inr "b", .ref q)]
def DictB (H : Hp) (d : Addr) (B : Bag × Bag) : Prop := ∃ p q : Addr, H d = some (.dK (kv2 p q)) ∧ BagAt H p B.1 ∧ BagAt H q B.2
section
variable {P : Program} {w : World} {K : PySem.W.Frag} {mg : Str → Option Value} {base : Heap} {f : Addr} {fd : FuncData}
def spBegin (CB : Addr) : Sp := fun vs H Q _ => ∃ (x dx b : Addr) (v : V) (fs : List (Str × V)) (kvs : List (L2.Key × V)), vs = [.ref x, .ref b] ∧ H x = some (.ins CB dx fs) ∧ (fs = brP v ∨ ∃ s0 b0, fs = brF v s0 b0) ∧ H b = some (.dK kvs) ∧
  ∀ H' s1 b1, H s1 = none → H b1 = none → s1 ≠ b1 → H' s1 = some (.dK kvs) → H' b1 = some (.dK kvs) → H' x = some (.ins CB dx (brF v s1 b1)) → (∀ a o, a ≠ x → H a = some o → H' a = some o) → Q .non H'
theorem ok_begin {CB : Addr} (F : FnM K "begin" "Branch.begin" s_Branch_begin f fd) (BC : BrC K mg CB) (gD : mg "dict" = none) : FnOk P w K mg base CX0 1 f fd ["self", "bags"] (spBegin CB) := by
  refine F.ok sc_Branch_begin (fun vs H Q E h => ?_) (fun cdv A outer s H vs Q E hr h => ?_)
  · obtain ⟨x, dx, b, v, fs, kvs, rfl, _⟩ := h
    rfl
  · obtain ⟨x, dx, b, v, fs, kvs, rfl, hx, hfs, hb, q⟩ := h
    refine ⟨_, PSs.nox (pss_cons (ps_fld (pv 0) (pe_callTy call_dictD (by rfl) gD (by decide +kernel) (pa_cons (pv 1) pa_nil)) rfl)
      (pss_one (ps_fld (pv 0) (pe_callTy call_dictD (by rfl) gD (by decide +kernel) (pa_cons (pv 1) pa_nil)) rfl))), ?_⟩
    have xb : x ≠ b := fun z => by rw [z, hb] at hx; cases hx
    refine ⟨_, rfl, b, kvs, rfl, .inl hb, fun s1 hs1 => ?_⟩
    have xs : x ≠ s1 := ne_of_none hx hs1
    have bs : b ≠ s1 := ne_of_none hb hs1
    refine ⟨_, rfl, x, CB, dx, fs, rfl, by rw [upd_ne xs]; exact hx, BC.cl, BC.nS, by rcases hfs with rfl | ⟨_, _, rfl⟩ <;> first | (show 1 < 1000; decide) | (show 2 < 1000; decide) | (show 3 < 1000; decide), ?_⟩
    refine ⟨_, rfl, b, kvs, rfl, .inl (by rw [upd_ne xb.symm, upd_ne bs]; exact hb), fun b1 hb1 => ?_⟩
    have b1x : b1 ≠ x := fun z => by rw [z, upd_same] at hb1; cases hb1
    have b1s : b1 ≠ s1 := fun z => by rw [z, upd_ne xs.symm, upd_same] at hb1; cases hb1
    have hb10 : H b1 = none := by rwa [upd_ne b1x, upd_ne b1s] at hb1
    refine ⟨_, rfl, x, CB, dx, _, rfl, by rw [upd_ne b1x.symm, upd_same], BC.cl, BC.nB, by rcases hfs with rfl | ⟨_, _, rfl⟩ <;> first | (show 1 < 1000; decide) | (show 2 < 1000; decide) | (show 3 < 1000; decide), ?_⟩
    refine q _ s1 b1 hs1 hb10 b1s.symm ?_ ?_ ?_ fun a o na ha => ?_
    · rw [upd_ne xs.symm, upd_ne b1s.symm, upd_ne xs.symm, upd_same]
    · rw [upd_ne b1x, upd_same]
    · rw [upd_same]
      rcases hfs with rfl | ⟨_, _, rfl⟩ <;> rfl
    · rw [upd_ne na, upd_ne (ne_of_none ha hb10), upd_ne na, upd_ne (ne_of_none ha hs1)]
      exact ha
def spBInit (CB : Addr) : Sp := fun vs H Q _ => ∃ (x dx b : Addr) (v : V) (kvs : List (L2.Key × V)), vs = [.ref x, v, .ref b] ∧ H x = some (.ins CB dx []) ∧ H b = some (.dK kvs) ∧
  ∀ H' s1 b1, H s1 = none → H b1 = none → s1 ≠ b1 → H' s1 = some (.dK kvs) → H' b1 = some (.dK kvs) → H' x = some (.ins CB dx (brF v s1 b1)) → (∀ a o, a ≠ x → H a = some o → H' a = some o) → Q .non H'
theorem ok_binit {CB : Addr} (F : FnM K "__init__" "Branch.__init__" s_Branch___init__ f fd) (BC : BrC K mg CB) (MB : MethG P w K mg base CX0 CB "begin" 1 ["self", "bags"] (spBegin CB)) : FnOk P w K mg base CX0 2 f fd ["self", "parent", "bags"] (spBInit CB) := by
  obtain ⟨fb, fdb, mB, GB, bB⟩ := MB.ex
  refine F.ok sc_Branch___init__ (fun vs H Q E h => ?_) (fun cdv A outer s H vs Q E hr h => ?_)
  · obtain ⟨x, dx, b, v, kvs, rfl, _⟩ := h
    rfl
  · obtain ⟨x, dx, b, v, kvs, rfl, hx, hb, q⟩ := h
    refine ⟨_, PSs.nox (pss_cons (ps_fld (pv 0) (pv 1) rfl) (pss_one (ps_expr (pe_meth (pv 0) BC.cl mB GB hr.lt bB .nil pass0 (pa_cons (pv 2) pa_nil))))), ?_⟩
    have xb : x ≠ b := fun z => by rw [z, hb] at hx; cases hx
    refine ⟨_, rfl, _, rfl, x, CB, dx, [], rfl, hx, BC.cl, BC.nP, by decide, ?_⟩
    refine ⟨_, rfl, x, dx, _, rfl, upd_same, rfl, _, rfl, x, dx, b, v, _, kvs, rfl, upd_same, .inl rfl, by rw [upd_ne xb.symm]; exact hb, fun H' s1 b1 n1 n2 n12 e1 e2 e3 k => ?_⟩
    have s1x : s1 ≠ x := fun z => by rw [z, upd_same] at n1; cases n1
    have b1x : b1 ≠ x := fun z => by rw [z, upd_same] at n2; cases n2
    exact q H' s1 b1 (by rwa [upd_ne s1x] at n1) (by rwa [upd_ne b1x] at n2) n12 e1 e2 e3 fun a o na ha => k a o na (by rw [upd_ne na]; exact ha)
def bagOf (B : Bag × Bag) (n : Str) : Bag := if n = "a" then B.1 else B.2
def isAB (n : Str) : Prop := n = "a" ∨ n = "b"
def DSpec (CB : Addr) (H : Hp) (x : Addr) (B S : Bag × Bag) : Prop := ∃ dx v s b, H x = some (.ins CB dx (brF v s b)) ∧ DictB H b B ∧ DictB H s S
/-- bags within bounds -/
structure BOk (b : Bag) : Prop where
  len : b.length ≤ 400
  row : RowB 1000 b
  bd : BdB (2 ^ 60) b
structure POk (B : Bag × Bag) : Prop where
  a : BOk B.1
  b : BOk B.2
theorem POk.of {B : Bag × Bag} (h : POk B) {n : Str} : BOk (bagOf B n) := by
  unfold bagOf
  split
  · exact h.a
  · exact h.b
def difB (a b : Bag) : Bag := mk (a ++ scaleB b (-1))
theorem kv2_val {p q : Addr} {n : Str} (h : isAB n) : valV (kv2 p q) (.inr n) = some (.ref (if n = "a" then p else q)) := by
  rcases h with rfl | rfl
  · rfl
  · rfl
theorem bag_pick {H : Hp} {p q : Addr} {B : Bag × Bag} {n : Str} (h1 : BagAt H p B.1) (h2 : BagAt H q B.2) : BagAt H (if n = "a" then p else q) (bagOf B n) := by
  unfold bagOf
  split
  · exact h1
  · exact h2
theorem dgetAB {H : Hp} {d p q : Addr} {n : Str} (hn : isAB n) (hd : H d = some (.dK (kv2 p q))) : DGet H d (.str n) (some (.ref (if n = "a" then p else q))) := by
  have z := DGet.k (k := .inr n) hd
  rw [kv2_val hn] at z
  exact z
def spDiff (CB : Addr) : Sp := fun vs H Q _ => ∃ (x : Addr) (n : Str) (B S : Bag × Bag), vs = [.ref x, .str n] ∧ isAB n ∧ DSpec CB H x B S ∧ POk B ∧ POk S ∧ ∀ q H', Same H H' → BagAt H' q (difB (bagOf B n) (bagOf S n)) → Q (.ref q) H'
theorem ok_diff {CB : Addr} (F : FnM K "difference" "Branch.difference" s_Branch_difference f fd) (BC : BrC K mg CB) (CM : Cal P w K mg base "minus" 7 ["first", "second"] spMinus) : FnOk P w K mg base CX0 8 f fd ["self", "name"] (spDiff CB) := by
  refine F.ok sc_Branch_difference (fun vs H Q E h => ?_) (fun cdv A outer s H vs Q E hr h => ?_)
  · obtain ⟨x, n, B, S, rfl, _⟩ := h
    rfl
  · obtain ⟨x, n, B, S, rfl, hn, ⟨dx, v, sa, ba, hx, ⟨p, q, hd, b1, b2⟩, ⟨p', q', hd', b1', b2'⟩⟩, okB, okS, kk⟩ := h
    refine ⟨_, PSs.nox (pss_one (ps_ret (pe_cal CM hr.lt (pa_cons (pe_dget hr.u1 (pe_fld (pv 0) rfl) (pv 1) (fun _ _ => rfl)) (pa_cons (pe_dget hr.u1 (pe_fld (pv 0) rfl) (pv 1) (fun _ _ => rfl)) pa_nil))))), ?_⟩
    refine ⟨_, rfl, x, CB, dx, _, .ref ba, rfl, hx, BC.cl, BC.nB, rfl, _, rfl, ba, _, rfl, dgetAB hn hd, ?_⟩
    refine ⟨_, rfl, x, CB, dx, _, .ref sa, rfl, hx, BC.cl, BC.nS, rfl, _, rfl, sa, _, rfl, dgetAB hn hd', ?_⟩
    exact ⟨_, _, bagOf B n, bagOf S n, rfl, bag_pick b1 b2, bag_pick b1' b2', okB.of.len, okS.of.len, okB.of.row, okS.of.row, okS.of.bd, fun r H' s' hb' => kk r H' s' hb'⟩
end
end KA
set_option Elab.async false
set_option linter.all false
set_option maxRecDepth 100000
set_option maxHeartbeats 4000000
/-! an exception class of the program's own whose __init__ calls super().__init__(text) and keeps a name -/
namespace KA
open PySem PySem.Spec PyProof.Rows L2 NdefX
def supF (qual : Str) (st : Stmt) (cc cda : Addr) : NF := ⟨"__init__", qual, defArgs st, defBody st, defScope st, [("__class__", cc)], cda⟩
/-- what the written part says of such an __init__, of the class and of the class's place among the others -/
structure SupD (K : PySem.W.Frag) (P : Program) (qual : Str) (st : Stmt) (C f : Addr) (fd : FuncData) : Prop where
  ex : ∃ (oc : Value) (od : Option Addr) (osl : Array (Option Value)) (doc pm ctv : Value) (cc cda : Addr), fd = (supF qual st cc cda).fd doc pm ctv ∧ K.lookup f = some ⟨oc, od, .func fd, osl⟩ ∧ PySem.W.codeIn K (.ref cda) qual = true ∧
    (∃ (ccl : Value) (cdd : Option Addr) (vs : Array Value) (ccs : Array (Option Value)) (file : Str) (tf : Tok), K.lookup cda = some ⟨ccl, cdd, .fields vs, ccs⟩ ∧ vs[2]? = some (.str file tf) ∧ ((P.main.file : Str) == file) = true) ∧
    ∃ (cl : Value) (cld : Option Addr) (csl : Array (Option Value)), K.lookup cc = some ⟨cl, cld, .cell (some (.ref C)), csl⟩
  cls : ∃ cd, PySem.W.clsIn K C = some cd
  mro : PySem.W.mroIn K C (.ref C) = some true
  th : PySem.W.nsIn K PySem.cStatics "thirdparty.any" = some none
  up : PySem.W.ks_superIn K C C "__init__" = some (some (.builtin "ValueError.__init__"))
  ve : PySem.W.subIn K (.ref C) (.type "ValueError") = some true
/-- the __init__'s promise: the object's dict holds the name alone -/
def spSup (K : PySem.W.Frag) (C : Addr) : Sp := fun vs H Q _ => ∃ (a : Addr) (n : Str), vs = [.ref a, .str n] ∧ n.length ≤ 1000 ∧ H a = some (exo a C none) ∧ ∀ dx, H dx = none → dx ≠ a → Q .non (upd (upd H dx (exd dx [("name", .str n)])) a (exo a C (some dx)))
theorem wrapped_call {prog : Program} {w : World} {A : Around} {E : Value → Shared → Prop} {s : Shared} {i : String} {u x : Addr} {pos : Pos} {env : Env} {e : Expr} {Q : Value → Shared → Prop}
    (h : wpAny (model prog w) A (spliced (backTo pos (starEach [e] env))) (fun vs s1 => PySem.W.KxsAt i u x s1.heap ∧ wpAny (model prog w) A (call (.ref u) vs) Q E s1) E s) (he : starEach [e] env = (false, eval e env) :: starEach [] env) :
    wpAny (model prog w) A (callWith pos (.ref u) [] (backTo pos (starEach [e] env)) []) Q E s := by
  rw [he] at h ⊢
  refine PySem.W.kxs_callWith (i := i) (x := x) rfl ?_
  exact Calls.evalArgs_plain h
theorem pv3 {X : Cx} (i : Nat) {x : Str} {p : Pos} (hN : X.N[i]? = some x := by rfl) (hv : Vis X.env.scope x := by exact Or.inl rfl) (hd : (x == ("__debug__" : Str)) = false := by decide) (hcd : (x == ("__classdict__" : Str)) = false := by decide) : PE X (.Name x p) (tVar i) := pe_var hN hv hd hcd
section
variable {P : Program} {w : World} {K : PySem.W.Frag} {mg : Str → Option Value} {base : Heap} {f C : Addr} {fd : FuncData} {qual text : Str} {st : Stmt} {CX : CXT} {p0 p1 p2 p3 p4 p5 p6 p7 p8 q0 q1 q2 q3 : Pos} {tk : Tok}
theorem sup_ok {k : Nat} (D : SupD K P qual st C f fd) (T : OexC K C) (S : NScope ["self", "name", "__class__"] ["self", "name"] ["__class__"] (defScope st))
    (hb : defBody st = [.Expr (.Call (.Attribute (.Call (.Name "super" p0) [] [] p1) "__init__" p2) [.JoinedStr [.Constant (.str text) tk q0, .FormattedValue (.Name "name" q1) (-1) none q2] q3] [] p3) p4, .Assign [.Attribute (.Name "self" p5) "name" p6] (.Name "name" p7) p8])
    {ar : Arg} (hp : ((defArgs st).posonlyargs ++ (defArgs st).args).head? = some ar) (har : ar.arg = "self") (hsc : (defScope st).names.lookup ("super" : Str) = some .globalImplicit) (hm : mg "super" = none) (htop : (P.main.scope.names.lookup ("super" : Str)).isSome = false) (hz : text.length ≤ 100)
    (hno : PySem.W.findIn K (.ref C) "name" = some none) {pl : Addr → Addr → Addr → Addr → Sem Bool} (hin : ∀ (cc cda f L : Addr), interactive (envF (supF qual st cc cda) f L) = false)
    (hev : ∀ (cc cda f L : Addr), eval (.Call (.Attribute (.Call (.Name "super" p0) [] [] p1) "__init__" p2) [.JoinedStr [.Constant (.str text) tk q0, .FormattedValue (.Name "name" q1) (-1) none q2] q3] [] p3) (envF (supF qual st cc cda) f L) = (do
      let ov ← attributeBase (.Call (.Name "super" p0) [] [] p1) "__init__" (envF (supF qual st cc cda) f L) (eval (.Call (.Name "super" p0) [] [] p1) (envF (supF qual st cc cda) f L))
      standAt p2.atName
      let (g, first) ← holding [ov] (getMethod ov "__init__" (pl cc cda f L))
      callWith p3 g first (backTo p3 (starEach [.JoinedStr [.Constant (.str text) tk q0, .FormattedValue (.Name "name" q1) (-1) none q2] q3] (envF (supF qual st cc cda) f L))) []))
    (hst : ∀ (cc cda f L : Addr), starEach [.JoinedStr [.Constant (.str text) tk q0, .FormattedValue (.Name "name" q1) (-1) none q2] q3] (envF (supF qual st cc cda) f L) = (false, eval (.JoinedStr [.Constant (.str text) tk q0, .FormattedValue (.Name "name" q1) (-1) none q2] q3) (envF (supF qual st cc cda) f L)) :: starEach [] (envF (supF qual st cc cda) f L))
    (hsw : ∀ (cc cda f L : Addr), swapsWith (.Name "name" p7) (some (.Attribute (.Name "self" p5) "name" p6)) p8.line (envF (supF qual st cc cda) f L) = pure false) (hsx : ∀ (cc cda f L : Addr), swapsWith (.Call (.Attribute (.Call (.Name "super" p0) [] [] p1) "__init__" p2) [.JoinedStr [.Constant (.str text) tk q0, .FormattedValue (.Name "name" q1) (-1) none q2] q3] [] p3) none p4.line (envF (supF qual st cc cda) f L) = pure false) :
    FnOk P w K mg base CX (k + 1) f fd ["self", "name"] (spSup K C) := by
  refine ⟨fun vs H Q E h => by obtain ⟨a, n, rfl, _⟩ := h; rfl, fun A outer s H args us vs Q E hr e0 hb' r hsp => ?_⟩
  obtain ⟨a, n, rfl, hn, ha, q⟩ := hsp
  obtain ⟨oc, od, osl, doc, pm, ctv, cc, cda, rfl, lk, hcd, ⟨ccl, cdd, cvs, ccs, file, tf, hcode, hvs, hfile⟩, ⟨cl, cld, csl, hcell⟩⟩ := D.ex
  have KX : K.In s.heap := e0.mod.kin.keeps fun b o e => (e0.bs b o e).1
  have lim : s.heap.NoLimit := e0.mod.nolimit.keeps fun b o e => (e0.bs b o e).1
  refine codeAny_call_function hr.depth (KX _ _ lk) rfl S.co S.gen rfl (PySem.W.codeRec_of KX hcd) (hb' _ _ _ _ ?_)
  refine wpAny_newFunctionEnv S.nocell (fun ⟨n, _⟩ hy => S.par n (List.of_mem_zip hy).1) (fun h₁ hns hsb => ⟨lim.fresh _ hsb, ?_⟩) S.kind
  have kp : ∀ b o, s.heap.get? b = some o → h₁.get? b = some o := fun b o e => hsb.extBut b o (Nat.ne_of_lt (Heap.lt_size e)) (Heap.get?_push_of_some _ e)
  have HC : CellsAt (supF qual st cc cda).cl ["__class__"] [none] s.heap H := by
    refine ⟨rfl, fun y c e => ?_, fun x y c e1 e2 => ?_, fun i y e => ?_⟩
    · have e' : c = cc := by
        have z : List.lookup y [("__class__", cc)] = some c := e
        simp only [List.lookup] at z
        split at z
        · cases z; rfl
        · cases z
      subst e'
      have hb0 := e0.mod.kin _ _ hcell
      exact ⟨(e0.bs _ _ hb0).2, _, _, (e0.bs _ _ hb0).1, rfl⟩
    · have z1 : List.lookup x [("__class__", cc)] = some c := e1
      have z2 : List.lookup y [("__class__", cc)] = some c := e2
      simp only [List.lookup] at z1 z2
      have one : ∀ {x : Str} {c : Addr}, (match x == ("__class__" : Str) with | true => some cc | false => none) = some c → x = "__class__" := fun {x c} z => by
        cases hx : x == ("__class__" : Str) with
        | true => exact beq_iff_eq.mp hx
        | false => rw [hx] at z; cases z
      exact (one z1).trans (one z2).symm
    · match i, e with
      | 0, e =>
        cases e
        exact ⟨cc, rfl, fun v z => by cases z⟩
      | i + 1, e => cases e
  have I : Inv (ncx CX P w K mg base ["self", "name", "__class__"] (supF qual st cc cda) f A outer s H E) [] (startF ["self", "name", "__class__"] [.ref a, .str n] [none]) H { s with heap := h₁, toks := s.toks + (List.zip (["self", "name"] : List Str) us).length } := inv_startN S hr.hd e0 rfl r HC hns kp
  show codeAny _ _ (.func (defBody st) (envF (supF qual st cc cda) f s.heap.objs.size)) _ _
  refine ks_codeAny_funcAt ?_
  rw [hb]
  have hX := D.up
  obtain ⟨cdD, hcd0⟩ := D.cls
  have hC1 : ∃ oD, K.lookup C = some oD ∧ oD.data = .cls cdD := by
    have z := hcd0
    unfold PySem.W.clsIn at z
    split at z
    · rename_i c d cd' sl ho
      cases z
      exact ⟨_, ho, rfl⟩
    · cases z
  obtain ⟨oD, hDK, hDd⟩ := hC1
  refine ks_wpAt_execs_cons (ks_wpAt_Expr_any (ks_wpAt_MethodCall ?_ (hev _ _ _ _)) (hin _ _ _ _) (hsx _ _ _ _))
  refine ks_wpAt_super_base (f := f) (cc := cda) (ar := ar) (vs := cvs) (file := file) (tf := tf) hsc (S.frk "__class__" (by simp)) (by decide) rfl (I.kIn _ _ lk) rfl hp rfl (I.kIn _ _ hcode) rfl hvs hfile htop ?_
  have hk : (ncx CX P w K mg base ["self", "name", "__class__"] (supF qual st cc cda) f A outer s H E).env.scope.kind = .function := S.kind
  obtain ⟨mb, hb1, hb2⟩ := I.mod.blt
  refine PySem.W.ks_loadName_global hk hsc (Calls.loadGlobal_builtin (by exact I.mod.glob.keeps I.bk) hm (by exact hb1.keeps I.bk) ((hb2 _ (by decide)).trans (show bootBuiltins "super" = some (.type "super") by decide +kernel)) ⟨rfl, ?_⟩)
  refine wpAny_loadName_free S.kind (S.frk "__class__" (by simp)) rfl ⟨_, I.kIn _ _ hcell, rfl⟩ ?_
  obtain ⟨m0, hns0, hl0⟩ := I.loc
  obtain ⟨u0, ru, lk0⟩ := hl0 0 "self" (.ref a) rfl rfl (.inl (S.par "self" (by simp)))
  obtain rfl : u0 = Value.ref a := ru
  have lk1 : m0 "self" = some (.ref a) := by
    rcases lk0 with ⟨_, z⟩ | ⟨z, _⟩
    · exact z
    · have z1 : (defScope st).names.lookup ("self" : Str) = some .local := S.par "self" (by simp)
      have z2 : (defScope st).names.lookup ("self" : Str) = some .cell ∨ (defScope st).names.lookup ("self" : Str) = some .free := z
      rw [z1] at z2
      rcases z2 with z2 | z2 <;> cases z2
  rw [har]
  refine wpAny_loadName_local S.kind (S.par "self" (by simp)) hns0 lk1 ?_
  refine ks_wpAny_isType_cls (I.kIn _ _ hDK) hDd ⟨rfl, ?_⟩
  obtain ⟨t1, ho⟩ := exo_at I.hok ha
  refine ks_wpAny_call_super (C := C) (I.kIn _ _ hDK) hDd ho rfl (fun c z => by cases z) (PySem.W.looks_mroIn I.kIn D.mro) (fun h2 e2 k2 => ?_)
  have I2 : Inv (ncx CX P w K mg base ["self", "name", "__class__"] (supF qual st cc cda) f A outer s H E) [] (startF ["self", "name", "__class__"] [.ref a, .str n] [none]) H { s with heap := h2, toks := s.toks + (List.zip (["self", "name"] : List Str) us).length } := I.kept k2
  have hsup := D.up
  unfold PySem.W.ks_superIn at hsup
  rw [hcd0] at hsup
  have hI : PySem.W.Looks (model P w) h2 (isInstance (.ref a) (.type "ValueError")) true := (PySem.W.InstAt.type (x := a) (ox := { cls := .ref C, dict := none, data := .fields #[.ref t1, .none, .none, .none, .bool false, .none] }) (C := C) (od := none) ⟨k2 _ _ ho, rfl, rfl, trivial⟩).andThen (PySem.W.looks_subIn I2.kIn D.ve)
  have hxC : a ≠ C := fun z => by
    have e1 := I2.kIn _ _ hDK
    rw [← z, k2 _ _ ho] at e1
    have e3 := Option.some.inj e1
    rw [← e3] at hDd
    cases hDd
  refine PySem.W.kxs_getMethod PySem.W.kxs_ValueError e2 (PySem.W.looks_opaque I2.kIn D.th) (l₀ := cdD.mro) (fun A Q E s k q => wpAny_bind ((PySem.W.looks_clsIn I2.kIn hcd0) A _ E s k (wpAny_pure q))) rfl I2.kIn hsup hI hxC (by decide) ?_
  have I3 := (I2.kept (t' := s.toks + (List.zip (["self", "name"] : List Str) us).length + 1) (h' := h2.push (PySem.W.kxs_mw "ValueError.__init__" a)) fun b o e => Heap.get?_push_of_some _ e).pins_of (pins' := [(h2.objs.size, PySem.W.kxs_mw "ValueError.__init__" a)]) fun g hg => by
    obtain rfl := List.mem_singleton.mp hg
    exact ⟨Heap.get?_push_size _ rfl, I2.hok.fresh (Nat.le_refl _), (Nat.ne_of_lt I2.lt).symm, I2.nofs (Nat.le_refl _), fun v z => by cases z⟩
  have hargs : PA (ncx CX P w K mg base ["self", "name", "__class__"] (supF qual st cc cda) f A outer s H E) [.JoinedStr [.Constant (.str text) tk q0, .FormattedValue (.Name "name" q1) (-1) none q2] q3] _ := pa_cons (pe_joined (.cons pe_str (.cons (pe_fmt (pv3 1 rfl (.inl (S.par "name" (by simp))))) .nil))) pa_nil
  have hsz : text.length + n.length ≤ sizeLine := by rw [sizeLine_eq]; omega
  have hl0 : (Str.empty ++ text).length ≤ sizeLine := by
    rw [Str.length_append]
    show 0 + text.length ≤ sizeLine
    omega
  have hl1 : (Str.empty ++ text ++ n).length ≤ sizeLine := by
    rw [Str.length_append, Str.length_append]
    show 0 + text.length + n.length ≤ sizeLine
    omega
  dsimp only
  have hrun := hargs.run p3 _ _ _ H (fun vs H1 => vs = [.str (Str.empty ++ text ++ n)] ∧ H1 = H) I3 ⟨text, rfl, hl0, .str n, rfl, .inl ⟨n, rfl, by omega, n, rfl, hl1, rfl, rfl⟩⟩
  refine wrapped_call (i := "ValueError.__init__") (x := a) (wpAny_mono hrun (fun us4 s4 h4 => ?_) fun _ _ z => z) (hst _ _ _ _)
  obtain ⟨vs4, H4, I4, r4, e4, eH⟩ := h4
  subst e4 eH
  have hmw := (I4.pin (h2.objs.size, PySem.W.kxs_mw "ValueError.__init__" a) (List.mem_append_right _ (List.mem_singleton.mpr rfl))).1
  refine ⟨hmw, ?_⟩
  have hus4 : us4.length ≤ sizeLine := by
    rw [← r4.length, sizeLine_eq]
    show 1 ≤ _
    omega
  obtain ⟨t4, ho4⟩ := exo_at I4.hok ha
  obtain ⟨nm, qn, Nn, bs, bm, sn, sub, ab, col, dd, k0, k1, k2', k3, k5, hCx, hbm⟩ := T.cls
  obtain ⟨h4, g4, d4, tk4, os4⟩ := s4
  show wpAny (model P w) (A.deeper (envF (supF qual st cc cda) f s.heap.objs.size)) (call (.ref h2.objs.size) us4) _ _ _
  refine wpAny_call (codeAny_of_tree ?_)
  show wpAny _ (A.deeper (envF (supF qual st cc cda) f s.heap.objs.size)).in1 (callAny (.ref h2.objs.size) ⟨us4, []⟩) _ _ _
  simp only [callAny]
  refine wpAny_bind (wpAny_load hmw ?_)
  simp only [PySem.W.kxs_mw, show (Value.type "method-wrapper" == Value.type "method" || Value.type "method-wrapper" == Value.type "builtin_function_or_method" || Value.type "method-wrapper" == Value.type "method-wrapper") = true by decide, if_true]
  refine PySem.W.KFB.if_so (by decide) ?_
  refine wpAny_bind (PySem.W.check_bound_init F.excBase_ValueError.toExcCallFacts (I4.kIn _ _ hCx) ho4 rfl ?_)
  refine wpAny_bind (wpAny_pure (wpAny_pure ?_))
  refine ⟨plainId_quiet F.excBase_ValueError.init.plain _, codeAny_builtin F.excBase_ValueError.initEntry ?_⟩
  refine PySem.W.exc_init_tree (cls := .ref C) (t0 := t4) (dv := none) (c2 := .none) (c3 := .none) (b4 := .bool false) ho4 hus4 fun h5 k5' e5 _ => ?_
  have J := I4.write (t' := tk4) (x := a) (e := a) (o := exo a C none) (by rw [ha]; exact True.intro) (.inl rfl) k5' ⟨_, e5⟩ (exo_ok e5)
  have eu : upd H4 a (exo a C none) = H4 := by
    funext b
    by_cases hb : b = a
    · rw [hb, upd_same, ha]
    · rw [upd_ne hb]
  rw [eu] at J
  have J0 := J.pins_of (pins' := []) fun g hg => absurd hg (by simp)
  refine wpAt_of_wpAny ?_
  have hS2 : PSs (ncx CX P w K mg base ["self", "name", "__class__"] (supF qual st cc cda) f A outer s H4 E) [.Assign [.Attribute (.Name "self" p5) "name" p6] (.Name "name" p7) p8] _ := pss_one (ps_ost (pv3 0 rfl (.inl (S.par "self" (by simp)))) (pv3 1 rfl (.inl (S.par "name" (by simp)))) (hsw _ _ _ _))
  refine wpAny_mono (hS2.run [] _ _ H4 { nx := fun _ H' => Q .non H', rt := Q } J0 ?_) (fun fl s' hs => ?_) fun e s' hs => hs
  · exact ⟨.str n, rfl, .ref a, rfl, a, C, rfl, T, hno, .inl ⟨ha, fun dx h1 h2 => q dx h1 h2⟩⟩
  · have fin : ∀ {σ' : L2.St} {H' : Hp} {v : V} {u : Value}, Inv (ncx CX P w K mg base ["self", "name", "__class__"] (supF qual st cc cda) f A outer s H4 E) [] σ' H' s' → L2.RelV v u → Q v H' → CE outer P w H4 s Q u s' :=
      fun {σ' H' v u} J rv q => ⟨v, H', J.os, J.bare, J.base, J.hok, rv, q⟩
    cases fl with
    | ret u =>
      obtain ⟨v, σ', H', J, rv, q⟩ := hs
      exact fin J rv q
    | next =>
      obtain ⟨σ', H', J, q⟩ := hs
      exact fin (v := V.non) (u := Value.none) J rfl q
    | brk =>
      obtain ⟨_, _, _, q⟩ := hs
      exact False.elim q
    | cont =>
      obtain ⟨_, _, _, q⟩ := hs
      exact False.elim q
end
end KA
set_option Elab.async false
set_option linter.all false
set_option maxRecDepth 100000
set_option maxHeartbeats 4000000
/-! the tree as it stands; found, found_with, change -/
namespace KA
open PySem PySem.Spec PyProof.Rows L2
open PySem.W (EachIs)
/-- an exception class with its __init__ -/
structure ExC (P : Program) (w : World) (K : PySem.W.Frag) (mg : Str → Option Value) (base : Heap) (x : Str) (C : Addr) : Prop where
  ex : ∃ (fI : Addr) (fd : FuncData), OexC K C ∧ PySem.W.findIn K (.ref C) "__init__" = some (some (.ref fI)) ∧ PySem.W.typeIn K (.ref fI) = some (.type "function") ∧ FnOk P w K mg base CX0 1 fI fd ["self", "name"] (spSup K C) ∧ Binds K fd ["self", "name"] []
  mgC : mg x = some (.ref C)
theorem pe_mo {X : Cx} {a : Expr} {ta : TE} (ha : PE X a ta) : PE X a (fun σ H Q => ∃ Q1 : VK, ta σ H Q1 ∧ ∀ v H', Q1 v H' → Q v H') :=
  ⟨fun pins s σ H Q I ⟨Q1, h, k⟩ => thn (ha.run pins s σ H Q1 I h) fun u s1 ⟨v, H1, I1, r, q⟩ => ⟨v, H1, I1, r, k _ _ q⟩⟩
theorem ps_raiseN {X : Cx} {W : WX} {x : Str} {C : Addr} {a : Expr} {ta : TE} {p q r : Pos} (e : ExC X.prog X.w X.K X.mg X.base x C) (hr : Room 2 X.A) (hc : X.calm = true) (tk : Takes X W) (hg : Gl X x) (ha : PE X a ta)
    (hdb : (x == ("__debug__" : Str)) = false := by decide) (he : starEach [a] X.env = (false, eval a X.env) :: starEach [] X.env := by rfl) (hpl : (backTo q (starEach [] X.env)).any (·.1) = false := by rfl) :
    PS X (.Raise (some (.Call (.Name x p) [a] [] q)) none r) (fun _ σ H => ta σ H fun v H1 => ∃ n : Str, v = .str n ∧ n.length ≤ 1000 ∧ ∀ d, H1 d = none → W (.ref C) (some d) σ (upd H1 d (.xd [("name", .str n)]))) := by
  obtain ⟨fI, fd, T, iC, tI, F1, bI⟩ := e.ex
  refine ⟨fun pins s σ H D I h => ?_⟩
  refine (ps_raise (W := W) hc tk (pmk_oex (pos := q) (p := p) T iC tI F1 hr bI .nil pass0 hg e.mgC (pa_cons (pe_mo ha) pa_nil he) hdb he hpl)).run pins s σ H D I ?_
  refine ⟨_, h, ?_⟩
  rintro v H1 ⟨n, rfl, hn, k⟩
  refine ⟨(show 1 ≤ 1000 by decide), fun b hb => ⟨b, n, rfl, hn, upd_same, fun dx hd db => ?_⟩⟩
  have hd1 : H1 dx = none := by rwa [upd_ne db] at hd
  refine ⟨rfl, dx, _, upd_same, by rw [upd_ne db, upd_same], hd1, ?_⟩
  have e1 : upd (del (upd (upd (upd H1 b (exo b C none)) dx (exd dx [("name", .str n)])) b (exo b C (some dx))) b) dx (.xd [("name", .str n)]) = upd H1 dx (.xd [("name", .str n)]) := by
    funext c
    by_cases h1 : c = dx
    · rw [h1, upd_same, upd_same]
    · rw [upd_ne h1, upd_ne h1]
      by_cases h2 : c = b
      · rw [h2, del_same, hb]
      · rw [del_ne h2, upd_ne h2, upd_ne h1, upd_ne h2]
  rw [e1]
  exact k dx hd1
/-- the objects of a tree: the instance, its dict, the dict of the branches; each branch, its dict; the bags (0) and the start (1) of each -/
structure Geo where
  t : Addr
  dt : Addr
  bd : Addr
  X : Nat → Addr
  DX : Nat → Addr
  D : Nat → Nat → Addr
/-- what a tree says: how many branches, their names, whose child each is, their bags, what they began with -/
structure Stt where
  n : Nat
  nm : Nat → Str
  par : Nat → Nat
  cur : Nat → Bag × Bag
  sta : Nat → Bag × Bag
def parV (G : Geo) (par : Nat → Nat) (i : Nat) : V := if i = 0 then .non else .ref (G.X (par i))
def brKV (nm : Nat → Str) (X : Nat → Addr) (n : Nat) : List (L2.Key × V) := (List.range n).map fun i => (.inr (nm i), .ref (X i))
structure TreeAt (CT CB : Addr) (H : Hp) (G : Geo) (S : Stt) : Prop where
  ht : H G.t = some (.ins CT G.dt [("branches", .ref G.bd)])
  hb : H G.bd = some (.dK (brKV S.nm G.X S.n))
  hx : ∀ i, i < S.n → H (G.X i) = some (.ins CB (G.DX i) (brF (parV G S.par i) (G.D 1 i) (G.D 0 i)))
  h0 : ∀ i, i < S.n → DictB H (G.D 0 i) (S.cur i)
  h1 : ∀ i, i < S.n → DictB H (G.D 1 i) (S.sta i)
  ix : ∀ i, i < S.n → ∀ j, j < S.n → G.X i = G.X j → i = j
  id : ∀ k, k < 2 → ∀ i, i < S.n → ∀ k', k' < 2 → ∀ j, j < S.n → G.D k i = G.D k' j → k = k' ∧ i = j
  ib : ∀ k, k < 2 → ∀ i, i < S.n → G.D k i ≠ G.bd
structure SOk (S : Stt) : Prop where
  n1 : 1 ≤ S.n
  n6 : S.n ≤ 6
  par : ∀ i, i < S.n → i ≠ 0 → S.par i < i
  nmI : ∀ i, i < S.n → ∀ j, j < S.n → S.nm i = S.nm j → i = j
  nmL : ∀ i, i < S.n → (S.nm i).length ≤ 1000
  cur : ∀ i, i < S.n → POk (S.cur i)
  sta : ∀ i, i < S.n → POk (S.sta i)
  dif : ∀ i, i < S.n → POk (difB (S.cur i).1 (S.sta i).1, difB (S.cur i).2 (S.sta i).2)
theorem valV_mem {kvs : List (L2.Key × V)} {k : L2.Key} {v : V} (h : (k, v) ∈ kvs) (u : ∀ v', (k, v') ∈ kvs → v' = v) : valV kvs k = some v := by
  unfold valV
  cases e : kvs.find? fun kv => decide (kv.1 = k) with
  | none =>
    have := List.find?_eq_none.mp e _ h
    simp at this
  | some p =>
    have h1 := List.mem_of_find?_eq_some e
    have h2 := List.find?_some e
    simp only [decide_eq_true_eq] at h2
    obtain ⟨k', v'⟩ := p
    have h2' : k' = k := h2
    subst h2'
    rw [Option.map_some, u v' h1]
theorem valV_out {kvs : List (L2.Key × V)} {k : L2.Key} (h : ∀ v, (k, v) ∉ kvs) : valV kvs k = none := by
  unfold valV
  cases e : kvs.find? fun kv => decide (kv.1 = k) with
  | none => rfl
  | some p =>
    have h1 := List.mem_of_find?_eq_some e
    have h2 := List.find?_some e
    simp only [decide_eq_true_eq] at h2
    obtain ⟨k', v'⟩ := p
    have h2' : k' = k := h2
    subst h2'
    exact absurd h1 (h v')
theorem brKV_mem {nm : Nat → Str} {X : Nat → Addr} {n : Nat} {k : Str} {v : V} : ((.inr k : L2.Key), v) ∈ brKV nm X n ↔ ∃ i, i < n ∧ nm i = k ∧ v = .ref (X i) := by
  unfold brKV
  rw [List.mem_map]
  constructor
  · rintro ⟨i, hi, e⟩
    injection e with e1 e2
    injection e1 with e1
    exact ⟨i, List.mem_range.mp hi, e1, e2.symm⟩
  · rintro ⟨i, hi, rfl, rfl⟩
    exact ⟨i, List.mem_range.mpr hi, rfl⟩
theorem brKV_val {nm : Nat → Str} {X : Nat → Addr} {n : Nat} (inj : ∀ i, i < n → ∀ j, j < n → nm i = nm j → i = j) {i : Nat} (hi : i < n) : valV (brKV nm X n) (.inr (nm i)) = some (.ref (X i)) :=
  valV_mem (brKV_mem.mpr ⟨i, hi, rfl, rfl⟩) fun v' h => by
    obtain ⟨j, hj, e, rfl⟩ := brKV_mem.mp h
    rw [inj j hj i hi e]
theorem brKV_out {nm : Nat → Str} {X : Nat → Addr} {n : Nat} {k : Str} (h : ∀ i, i < n → nm i ≠ k) : valV (brKV nm X n) (.inr k) = none :=
  valV_out fun v hm => by
    obtain ⟨j, hj, e, _⟩ := brKV_mem.mp hm
    exact h j hj e
theorem dgetBr {CT CB : Addr} {H : Hp} {G : Geo} {S : Stt} (T : TreeAt CT CB H G S) (O : SOk S) {i : Nat} (hi : i < S.n) : DGet H G.bd (.str (S.nm i)) (some (.ref (G.X i))) := by
  have z := DGet.k (k := .inr (S.nm i)) T.hb
  rw [brKV_val O.nmI hi] at z
  exact z
theorem dgetNo {CT CB : Addr} {H : Hp} {G : Geo} {S : Stt} (T : TreeAt CT CB H G S) {k : Str} (h : ∀ i, i < S.n → S.nm i ≠ k) : DGet H G.bd (.str k) none := by
  have z := DGet.k (k := .inr k) T.hb
  rw [brKV_out h] at z
  exact z
/-- the way out of a call that names what is not there (or is there already) -/
def Out (C : Addr) (n : Str) (H : Hp) (E : XK) : Prop := ∀ d, H d = none → E (.ref C) (some d) (upd H d (.xd [("name", .str n)]))
section
variable {P : Program} {w : World} {K : PySem.W.Frag} {mg : Str → Option Value} {base : Heap} {f : Addr} {fd : FuncData}
def spFound (CT CB NU : Addr) : Sp := fun vs H Q E => ∃ (G : Geo) (S : Stt) (n : Str), vs = [.ref G.t, .str n] ∧ TreeAt CT CB H G S ∧ SOk S ∧ n.length ≤ 1000 ∧ (∀ i, i < S.n → S.nm i = n → Q (.ref (G.X i)) H) ∧ ((∀ i, i < S.n → S.nm i ≠ n) → Out NU n H E)
theorem ok_found {CT CB NU : Addr} (F : FnM K "found" "Tree.found" s_Tree_found f fd) (TC : TrC K mg CT) (XU : ExC P w K mg base "NameUnknown" NU) : FnOk P w K mg base (L2.CX P w) 3 f fd ["self", "branch"] (spFound CT CB NU) := by
  refine F.ok sc_Tree_found (fun vs H Q E h => ?_) (fun cdv A outer s H vs Q E hr h => ?_)
  · obtain ⟨G, S, n, rfl, _⟩ := h
    rfl
  · obtain ⟨G, S, n, rfl, T, O, hn, q, qe⟩ := h
    refine ⟨_, pss_cons (ps_if (pt_cmp (pc_dnotin hr.u1 (pv 1) (pe_fld (pv 0) rfl))) (pss_one (ps_raiseN XU hr rfl (takes_of rfl rfl rfl rfl) (by rfl) (pv 1))) pss_nil)
      (pss_one (ps_ret (pe_dget hr.u1 (pe_fld (pv 0) rfl) (pv 1) (fun _ _ => rfl)))), ?_⟩
    by_cases hm : ∃ i, i < S.n ∧ S.nm i = n
    · obtain ⟨i, hi, rfl⟩ := hm
      refine ⟨_, rfl, _, rfl, G.t, CT, G.dt, _, .ref G.bd, rfl, T.ht, TC.cl, TC.nB, rfl, G.bd, _, rfl, dgetBr T O hi, _, rfl, ?_⟩
      refine iteF ?_
      exact ⟨_, rfl, G.t, CT, G.dt, _, .ref G.bd, rfl, T.ht, TC.cl, TC.nB, rfl, _, rfl, G.bd, _, rfl, dgetBr T O hi, q i hi rfl⟩
    · have hm' : ∀ i, i < S.n → S.nm i ≠ n := fun i hi e => hm ⟨i, hi, e⟩
      refine ⟨_, rfl, _, rfl, G.t, CT, G.dt, _, .ref G.bd, rfl, T.ht, TC.cl, TC.nB, rfl, G.bd, _, rfl, dgetNo T hm', _, rfl, ?_⟩
      refine iteT ?_
      exact ⟨_, rfl, n, rfl, hn, fun d hd => qe hm' d hd⟩
end
end KA
set_option Elab.async false
set_option linter.all false
set_option maxRecDepth 100000
set_option maxHeartbeats 4000000
/-! found_with, change -/
namespace KA
open PySem PySem.Spec PyProof.Rows L2
open PySem.W (EachIs)
theorem kv2_out {p q : Addr} {n : Str} (h : ¬ isAB n) : valV (kv2 p q) (.inr n) = none := valV_out fun v hm => by
  have hm' : ((.inr n : L2.Key), v) = (.inr "a", .ref p) ∨ ((.inr n : L2.Key), v) = (.inr "b", .ref q) := by simpa [kv2] using hm
  rcases hm' with z | z
  · injection z with z1 _
    injection z1 with z1
    exact h (.inl z1)
  · injection z with z1 _
    injection z1 with z1
    exact h (.inr z1)
theorem dgetNAB {H : Hp} {d p q : Addr} {n : Str} (hn : ¬ isAB n) (hd : H d = some (.dK (kv2 p q))) : DGet H d (.str n) none := by
  have z := DGet.k (k := .inr n) hd
  rw [kv2_out hn] at z
  exact z
theorem TreeAt.dspec {CT CB : Addr} {H : Hp} {G : Geo} {S : Stt} (T : TreeAt CT CB H G S) {i : Nat} (hi : i < S.n) : DSpec CB H (G.X i) (S.cur i) (S.sta i) := ⟨_, _, _, _, T.hx i hi, T.h0 i hi, T.h1 i hi⟩
/-- a branch or not -/
theorem br_or (S : Stt) (n : Str) : (∃ i, i < S.n ∧ S.nm i = n) ∨ ∀ i, i < S.n → S.nm i ≠ n := by
  by_cases h : ∃ i, i < S.n ∧ S.nm i = n
  · exact .inl h
  · exact .inr fun i hi e => h ⟨i, hi, e⟩
section
variable {P : Program} {w : World} {K : PySem.W.Frag} {mg : Str → Option Value} {base : Heap} {f : Addr} {fd : FuncData}
abbrev FoundC (P : Program) (w : World) (K : PySem.W.Frag) (mg : Str → Option Value) (base : Heap) (CT CB NU : Addr) : Prop := MethG P w K mg base (L2.CX P w) CT "found" 3 ["self", "branch"] (spFound CT CB NU)
def spFoundW (CT CB NU : Addr) : Sp := fun vs H Q E => ∃ (G : Geo) (S : Stt) (n m : Str), vs = [.ref G.t, .str n, .str m] ∧ TreeAt CT CB H G S ∧ SOk S ∧ n.length ≤ 1000 ∧ m.length ≤ 1000 ∧ (∀ i, i < S.n → S.nm i = n → isAB m → Q (.ref (G.X i)) H) ∧
  ((∀ i, i < S.n → S.nm i ≠ n) → Out NU n H E) ∧ (∀ i, i < S.n → S.nm i = n → ¬ isAB m → Out NU m H E)
theorem ok_foundw {CT CB NU : Addr} (F : FnM K "found_with" "Tree.found_with" s_Tree_found_with f fd) (TC : TrC K mg CT) (BC : BrC K mg CB) (XU : ExC P w K mg base "NameUnknown" NU) (MF : FoundC P w K mg base CT CB NU) :
    FnOk P w K mg base (L2.CX P w) 4 f fd ["self", "branch", "name"] (spFoundW CT CB NU) := by
  obtain ⟨ff, fdf, mF, GF, bF⟩ := MF.ex
  refine F.ok sc_Tree_found_with (fun vs H Q E h => ?_) (fun cdv A outer s H vs Q E hr h => ?_)
  · obtain ⟨G, S, n, m, rfl, _⟩ := h
    rfl
  · obtain ⟨G, S, n, m, rfl, T, O, hn, hm, q, q1, q2⟩ := h
    refine ⟨_, pss_cons (ps_set (i := 3) sc_Tree_found_with.nd rfl (Or.inl rfl) (pe_meth (E := E) (pv 0) TC.cl mF GF hr bF .nil (passes_call (W := fun c d _ H' => E c d H') (takes_of rfl rfl rfl rfl) fun _ _ _ _ z => z) (pa_cons (pv 1) pa_nil)))
      (pss_cons (ps_if (pt_cmp (pc_dnotin hr.u1 (pv 2) (pe_fld (pv 3) rfl))) (pss_one (ps_raiseN XU hr.lt rfl (takes_of rfl rfl rfl rfl) (by rfl) (pv 2))) pss_nil)
      (pss_one (ps_ret (pv 3)))), ?_⟩
    refine ⟨_, rfl, G.t, G.dt, _, rfl, T.ht, rfl, _, rfl, G, S, n, rfl, T, O, hn, fun i hi e => ?_, fun hno => q1 hno⟩
    obtain ⟨p, r, hd, _, _⟩ := T.h0 i hi
    refine ⟨_, rfl, _, rfl, G.X i, CB, G.DX i, _, .ref (G.D 0 i), rfl, T.hx i hi, BC.cl, BC.nB, rfl, ?_⟩
    by_cases hab : isAB m
    · refine ⟨G.D 0 i, _, rfl, dgetAB hab hd, _, rfl, iteF ?_⟩
      exact ⟨_, rfl, q i hi e hab⟩
    · refine ⟨G.D 0 i, _, rfl, dgetNAB hab hd, _, rfl, iteT ?_⟩
      exact ⟨_, rfl, m, rfl, hm, fun d hd => q2 i hi e hab d hd⟩
abbrev FoundWC (P : Program) (w : World) (K : PySem.W.Frag) (mg : Str → Option Value) (base : Heap) (CT CB NU : Addr) : Prop := MethG P w K mg base (L2.CX P w) CT "found_with" 4 ["self", "branch", "name"] (spFoundW CT CB NU)
abbrev DiffC (P : Program) (w : World) (K : PySem.W.Frag) (mg : Str → Option Value) (base : Heap) (CB : Addr) : Prop := MethG P w K mg base CX0 CB "difference" 8 ["self", "name"] (spDiff CB)
/-- why a pair of names is refused -/
def Refused (NU : Addr) (S : Stt) (n m : Str) (H : Hp) (E : XK) : Prop := ((∀ i, i < S.n → S.nm i ≠ n) → Out NU n H E) ∧ (∀ i, i < S.n → S.nm i = n → ¬ isAB m → Out NU m H E)
def spChange (CT CB NU : Addr) : Sp := fun vs H Q E => ∃ (G : Geo) (S : Stt) (n m : Str), vs = [.ref G.t, .str n, .str m] ∧ TreeAt CT CB H G S ∧ SOk S ∧ n.length ≤ 1000 ∧ m.length ≤ 1000 ∧
  (∀ i, i < S.n → S.nm i = n → isAB m → ∀ q H', Same H H' → BagAt H' q (difB (bagOf (S.cur i) m) (bagOf (S.sta i) m)) → Q (.ref q) H') ∧ Refused NU S n m H E
theorem ok_change {CT CB NU : Addr} (F : FnM K "change" "Tree.change" s_Tree_change f fd) (TC : TrC K mg CT) (BC : BrC K mg CB) (MW : FoundWC P w K mg base CT CB NU) (MD : DiffC P w K mg base CB) :
    FnOk P w K mg base (L2.CX P w) 9 f fd ["self", "branch", "name"] (spChange CT CB NU) := by
  obtain ⟨ff, fdf, mF, GF, bF⟩ := MW.ex
  obtain ⟨fg, fdg, mG, GG, bG⟩ := MD.ex
  refine F.ok sc_Tree_change (fun vs H Q E h => ?_) (fun cdv A outer s H vs Q E hr h => ?_)
  · obtain ⟨G, S, n, m, rfl, _⟩ := h
    rfl
  · obtain ⟨G, S, n, m, rfl, T, O, hn, hm, q, q1, q2⟩ := h
    refine ⟨_, pss_cons (ps_set (i := 3) sc_Tree_change.nd rfl (Or.inl rfl) (pe_meth (E := E) (pv 0) TC.cl mF GF hr.lt bF .nil (passes_call (W := fun c d _ H' => E c d H') (takes_of rfl rfl rfl rfl) fun _ _ _ _ z => z) (pa_cons (pv 1) (pa_cons (pv 2) pa_nil))))
      (PSs.nox (pss_one (ps_ret (pe_meth (pv 3) BC.cl mG GG hr.lt bG .nil pass0 (pa_cons (pv 2) pa_nil))))), ?_⟩
    refine ⟨_, rfl, G.t, G.dt, _, rfl, T.ht, rfl, _, rfl, _, rfl, G, S, n, m, rfl, T, O, hn, hm, fun i hi e hab => ?_, q1, q2⟩
    refine ⟨_, rfl, G.X i, G.DX i, _, rfl, T.hx i hi, rfl, _, rfl, G.X i, m, _, _, rfl, hab, T.dspec hi, O.cur i hi, O.sta i hi, fun r H' s' hb' => ?_⟩
    exact q i hi e hab r H' s' hb'
end
end KA
set_option Elab.async false
set_option linter.all false
set_option maxRecDepth 100000
set_option maxHeartbeats 4000000
/-! feed, fork -/
namespace KA
open PySem PySem.Spec PyProof.Rows L2
open PySem.W (EachIs)
/-- a dict that the tree changes or may change -/
def OwnT (G : Geo) (n : Nat) (a : Addr) : Prop := a = G.bd ∨ ∃ k, k < 2 ∧ ∃ i, i < n ∧ a = G.D k i
/-- all but the tree's own dicts and its branches stay -/
def TKeep (CB : Addr) (G : Geo) (n : Nat) (H H' : Hp) : Prop := ∀ a o, H a = some o → ¬ OwnT G n a → (∀ dx fs, o ≠ .ins CB dx fs) → H' a = some o
/-- lists and tuples stay -/
def LKeep (H H' : Hp) : Prop := (∀ a xs, H a = some (.lst xs) → H' a = some (.lst xs)) ∧ ∀ a xs, H a = some (.tup xs) → H' a = some (.tup xs)
theorem TreeAt.own {CT CB : Addr} {H : Hp} {G : Geo} {S : Stt} (T : TreeAt CT CB H G S) {a : Addr} (h : OwnT G S.n a) : ∃ kvs, H a = some (.dK kvs) := by
  rcases h with rfl | ⟨k, hk, i, hi, rfl⟩
  · exact ⟨_, T.hb⟩
  · have hk' : k = 0 ∨ k = 1 := by omega
    rcases hk' with rfl | rfl
    · obtain ⟨p, q, h, _⟩ := T.h0 i hi
      exact ⟨_, h⟩
    · obtain ⟨p, q, h, _⟩ := T.h1 i hi
      exact ⟨_, h⟩
theorem TreeAt.not_own {CT CB : Addr} {H : Hp} {G : Geo} {S : Stt} (T : TreeAt CT CB H G S) {a : Addr} {o : HO} (h : H a = some o) (hn : ∀ kvs, o ≠ .dK kvs) : ¬ OwnT G S.n a := fun z => by
  obtain ⟨kvs, e⟩ := T.own z
  rw [h] at e
  exact hn kvs (Option.some.inj e)
theorem TreeAt.lkeep {CT CB : Addr} {H H' : Hp} {G : Geo} {S : Stt} (T : TreeAt CT CB H G S) (k : TKeep CB G S.n H H') : LKeep H H' :=
  ⟨fun a xs e => k a _ e (T.not_own e fun _ z => by cases z) (fun _ _ z => by cases z), fun a xs e => k a _ e (T.not_own e fun _ z => by cases z) (fun _ _ z => by cases z)⟩
theorem LKeep.of {H H' : Hp} (s : Same H H') : LKeep H H' := ⟨fun _ _ e => s _ _ e, fun _ _ e => s _ _ e⟩
theorem LKeep.trans {H H1 H2 : Hp} (a : LKeep H H1) (b : LKeep H1 H2) : LKeep H H2 := ⟨fun x xs e => b.1 x xs (a.1 x xs e), fun x xs e => b.2 x xs (a.2 x xs e)⟩
theorem LKeep.upd {H : Hp} {a : Addr} {o o' : HO} (h : H a = some o) (h1 : ∀ xs, o ≠ .lst xs) (h2 : ∀ xs, o ≠ .tup xs) : LKeep H (upd H a o') :=
  ⟨fun x xs e => by rw [upd_ne (fun z => by rw [z, h] at e; exact h1 xs (Option.some.inj e))]; exact e, fun x xs e => by rw [upd_ne (fun z => by rw [z, h] at e; exact h2 xs (Option.some.inj e))]; exact e⟩
theorem PairAt.lk {H H' : Hp} (k : LKeep H H') {t : Addr} {e : Row × Int} (h : PairAt H t e) : PairAt H' t e := by
  obtain ⟨q, h1, h2⟩ := h
  exact ⟨q, k.2 _ _ h1, k.2 _ _ h2⟩
theorem BagAt.lk {H H' : Hp} (k : LKeep H H') {p : Addr} {b : Bag} (h : BagAt H p b) : BagAt H' p b := by
  obtain ⟨ts, h1, h2⟩ := h
  exact ⟨ts, k.1 _ _ h1, h2.mono fun _ _ z => z.lk k⟩
theorem DictB.lk {H H' : Hp} (k : LKeep H H') {d : Addr} (e : H' d = H d) {B : Bag × Bag} (h : DictB H d B) : DictB H' d B := by
  obtain ⟨p, q, h1, h2, h3⟩ := h
  exact ⟨p, q, e.trans h1, h2.lk k, h3.lk k⟩
theorem DictB.mono {H H' : Hp} (s : Same H H') {d : Addr} {B : Bag × Bag} (h : DictB H d B) : DictB H' d B := by
  obtain ⟨p, q, h1, h2, h3⟩ := h
  exact ⟨p, q, s _ _ h1, h2.mono s, h3.mono s⟩
theorem TreeAt.mono {CT CB : Addr} {H H' : Hp} {G : Geo} {S : Stt} (s : Same H H') (T : TreeAt CT CB H G S) : TreeAt CT CB H' G S :=
  ⟨s _ _ T.ht, s _ _ T.hb, fun i hi => s _ _ (T.hx i hi), fun i hi => (T.h0 i hi).mono s, fun i hi => (T.h1 i hi).mono s, T.ix, T.id, T.ib⟩
def setB (B : Bag × Bag) (m : Str) (b : Bag) : Bag × Bag := if m = "a" then (b, B.2) else (B.1, b)
def addB (B : Bag × Bag) (m : Str) (c : Bag) : Bag × Bag := setB B m (mk (bagOf B m ++ c))
def feedS (S : Stt) (i : Nat) (m : Str) (c : Bag) : Stt := { S with cur := fun j => if j = i then addB (S.cur i) m c else S.cur j }
/-- a bag of a branch is put -/
theorem TreeAt.put0 {CT CB : Addr} {H : Hp} {G : Geo} {S : Stt} (T : TreeAt CT CB H G S) {i : Nat} (hi : i < S.n) {p q r : Addr} {m : Str} (hm : isAB m) {b : Bag} (hd : H (G.D 0 i) = some (.dK (kv2 p q))) (h1 : BagAt H p (S.cur i).1) (h2 : BagAt H q (S.cur i).2) (hr : BagAt H r b) :
    TreeAt CT CB (upd H (G.D 0 i) (.dK (putK (kv2 p q) (.inr m) (.ref r)))) G { S with cur := fun j => if j = i then setB (S.cur i) m b else S.cur j } ∧ TKeep CB G S.n H (upd H (G.D 0 i) (.dK (putK (kv2 p q) (.inr m) (.ref r)))) := by
  have lk : LKeep H (upd H (G.D 0 i) (.dK (putK (kv2 p q) (.inr m) (.ref r)))) := LKeep.upd hd (fun _ z => by cases z) (fun _ z => by cases z)
  have off : ∀ {a : Addr}, a ≠ G.D 0 i → upd H (G.D 0 i) (.dK (putK (kv2 p q) (.inr m) (.ref r))) a = H a := fun h => upd_ne h
  have kd : ∀ {a : Addr} {o : HO}, H a = some o → (∀ kvs, o ≠ .dK kvs) → a ≠ G.D 0 i := fun h h' z => by
    rw [z, hd] at h
    exact h' _ (Option.some.inj h).symm
  refine ⟨⟨?_, ?_, fun j hj => ?_, fun j hj => ?_, fun j hj => ?_, T.ix, T.id, T.ib⟩, fun a o e no _ => ?_⟩
  · rw [off (kd T.ht fun _ z => by cases z)]
    exact T.ht
  · rw [off (T.ib 0 (by decide) i hi).symm]
    exact T.hb
  · rw [off (kd (T.hx j hj) fun _ z => by cases z)]
    exact T.hx j hj
  · by_cases e : j = i
    · subst e
      show DictB _ _ (if j = j then setB (S.cur j) m b else S.cur j)
      rw [if_pos rfl]
      rcases hm with rfl | rfl
      · exact ⟨r, q, by rw [upd_same]; rfl, hr.lk lk, h2.lk lk⟩
      · exact ⟨p, r, by rw [upd_same]; rfl, h1.lk lk, hr.lk lk⟩
    · show DictB _ _ (if j = i then setB (S.cur i) m b else S.cur j)
      rw [if_neg e]
      exact (T.h0 j hj).lk lk (off fun z => e (T.id 0 (by decide) j hj 0 (by decide) i hi z).2)
  · exact (T.h1 j hj).lk lk (off fun z => absurd (T.id 1 (by decide) j hj 0 (by decide) i hi z).1 (by decide))
  · rw [off (fun z => no (.inr ⟨0, by decide, i, hi, z⟩))]
    exact e
section
variable {P : Program} {w : World} {K : PySem.W.Frag} {mg : Str → Option Value} {base : Heap} {f : Addr} {fd : FuncData}
def spFeed (CT CB NU : Addr) : Sp := fun vs H Q E => ∃ (G : Geo) (S : Stt) (n m : Str) (c : Addr) (ch : Bag), vs = [.ref G.t, .str n, .str m, .ref c] ∧ TreeAt CT CB H G S ∧ SOk S ∧ n.length ≤ 1000 ∧ m.length ≤ 1000 ∧ BagAt H c ch ∧ ch.length ≤ 400 ∧ RowB 1000 ch ∧
  (∀ i, i < S.n → S.nm i = n → isAB m → ∀ H', TKeep CB G S.n H H' → TreeAt CT CB H' G (feedS S i m ch) → Q .non H') ∧ Refused NU S n m H E
theorem ok_feed {CT CB NU : Addr} (F : FnM K "feed" "Tree.feed" s_Tree_feed f fd) (TC : TrC K mg CT) (BC : BrC K mg CB) (MW : FoundWC P w K mg base CT CB NU) (CP : Cal P w K mg base "plus" 6 ["first", "second"] spPlus) :
    FnOk P w K mg base (L2.CX P w) 7 f fd ["self", "branch", "name", "change"] (spFeed CT CB NU) := by
  obtain ⟨ff, fdf, mF, GF, bF⟩ := MW.ex
  refine F.ok sc_Tree_feed (fun vs H Q E h => ?_) (fun cdv A outer s H vs Q E hr h => ?_)
  · obtain ⟨G, S, n, m, c, ch, rfl, _⟩ := h
    rfl
  · obtain ⟨G, S, n, m, c, ch, rfl, T, O, hn, hm, hc, hcl, hcr, q, q1, q2⟩ := h
    refine ⟨_, pss_cons (ps_set (i := 4) sc_Tree_feed.nd rfl (Or.inl rfl) (pe_meth (E := E) (pv 0) TC.cl mF GF hr.lt bF .nil (passes_call (W := fun c d _ H' => E c d H') (takes_of rfl rfl rfl rfl) fun _ _ _ _ z => z) (pa_cons (pv 1) (pa_cons (pv 2) pa_nil))))
      (PSs.nox (pss_one (ps_dput hr.u1 (pe_fld (pv 4) rfl) (pv 2) (pe_cal CP hr (pa_cons (pe_dget hr.u1 (pe_fld (pv 4) rfl) (pv 2) (fun _ _ => rfl)) (pa_cons (pv 3) pa_nil))) rfl))), ?_⟩
    refine ⟨_, rfl, G.t, G.dt, _, rfl, T.ht, rfl, _, rfl, _, rfl, G, S, n, m, rfl, T, O, hn, hm, fun i hi e hab => ?_, q1, q2⟩
    obtain ⟨p, r, hd, b1, b2⟩ := T.h0 i hi
    refine ⟨_, rfl, G.X i, CB, G.DX i, _, .ref (G.D 0 i), rfl, T.hx i hi, BC.cl, BC.nB, rfl, _, rfl, G.D 0 i, _, rfl, dgetAB hab hd, ?_⟩
    have okb := (O.cur i hi).of (n := m)
    refine ⟨_, rfl, _, c, bagOf (S.cur i) m, ch, rfl, bag_pick b1 b2, hc, okb.len, hcl, okb.row, hcr, fun l H' s' hb' => ?_⟩
    have T' := T.mono s'
    refine ⟨_, rfl, G.X i, CB, G.DX i, _, .ref (G.D 0 i), rfl, T'.hx i hi, BC.cl, BC.nB, rfl, _, rfl, G.D 0 i, _, rfl, DPut.k (k := .inr m) (s' _ _ hd) (by show 2 < sizeLine; decide), ?_⟩
    obtain ⟨T2, k2⟩ := T'.put0 hi hab (s' _ _ hd) (b1.mono s') (b2.mono s') hb'
    exact q i hi e hab _ (fun a o ha no ni => k2 a o (s' _ _ ha) no ni) T2
end
end KA
set_option Elab.async false
set_option linter.all false
set_option maxRecDepth 100000
set_option maxHeartbeats 4000000
/-! fork -/
namespace KA
open PySem PySem.Spec PyProof.Rows L2
open PySem.W (EachIs)
def forkS (S : Stt) (i : Nat) (m : Str) : Stt := ⟨S.n + 1, fun j => if j = S.n then m else S.nm j, fun j => if j = S.n then i else S.par j, fun j => if j = S.n then S.cur i else S.cur j, fun j => if j = S.n then S.cur i else S.sta j⟩
def forkG (G : Geo) (n : Nat) (x dx b s : Addr) : Geo := ⟨G.t, G.dt, G.bd, fun j => if j = n then x else G.X j, fun j => if j = n then dx else G.DX j, fun k j => if j = n then (if k = 0 then b else s) else G.D k j⟩
theorem brKV_put {nm : Nat → Str} {X : Nat → Addr} {n : Nat} {m : Str} {x : Addr} (h : ∀ i, i < n → nm i ≠ m) : putK (brKV nm X n) (.inr m) (.ref x) = brKV (fun j => if j = n then m else nm j) (fun j => if j = n then x else X j) (n + 1) := by
  unfold putK
  rw [if_neg (fun z => by
    rw [List.any_eq_true] at z
    obtain ⟨kv, h1, h2⟩ := z
    rw [decide_eq_true_eq] at h2
    obtain ⟨k, v⟩ := kv
    have h2' : k = .inr m := h2
    subst h2'
    obtain ⟨i, hi, e, _⟩ := brKV_mem.mp h1
    exact h i hi e)]
  unfold brKV
  rw [List.range_succ, List.map_append]
  congr 1
  · refine List.map_congr_left fun i hi => ?_
    have hi' : i ≠ n := Nat.ne_of_lt (List.mem_range.mp hi)
    simp [hi']
  · simp
/-- a tree with one branch more -/
theorem TreeAt.fork {CT CB : Addr} {H G1 : Hp} {G : Geo} {S : Stt} (T : TreeAt CT CB H G S) (O : SOk S) {i : Nat} (hi : i < S.n) {m : Str} (hm : ∀ j, j < S.n → S.nm j ≠ m) {x dx b s : Addr} {kvs : List (L2.Key × V)} (hd : H (G.D 0 i) = some (.dK kvs))
    (nx : H x = none) (nb : H b = none) (ns : H s = none) (bs : b ≠ s) (e1 : G1 x = some (.ins CB dx (brF (.ref (G.X i)) s b))) (e2 : G1 b = some (.dK kvs)) (e3 : G1 s = some (.dK kvs)) (k : ∀ a o, H a = some o → G1 a = some o) :
    TreeAt CT CB (upd G1 G.bd (.dK (putK (brKV S.nm G.X S.n) (.inr m) (.ref x)))) (forkG G S.n x dx b s) (forkS S i m) ∧ TKeep CB G S.n H (upd G1 G.bd (.dK (putK (brKV S.nm G.X S.n) (.inr m) (.ref x)))) ∧
      ∀ a, OwnT (forkG G S.n x dx b s) (S.n + 1) a → OwnT G S.n a ∨ H a = none := by
  have s1 : Same H G1 := fun a o e => k a o e
  have hbd := s1 _ _ T.hb
  have lk : LKeep G1 (upd G1 G.bd (.dK (putK (brKV S.nm G.X S.n) (.inr m) (.ref x)))) := LKeep.upd hbd (fun _ z => by cases z) (fun _ z => by cases z)
  have lk2 : LKeep H (upd G1 G.bd (.dK (putK (brKV S.nm G.X S.n) (.inr m) (.ref x)))) := (LKeep.of s1).trans lk
  have off : ∀ {a : Addr}, a ≠ G.bd → upd G1 G.bd (.dK (putK (brKV S.nm G.X S.n) (.inr m) (.ref x))) a = G1 a := fun h => upd_ne h
  have nbd : ∀ {a : Addr}, H a = none → a ≠ G.bd := fun h z => by rw [z, T.hb] at h; cases h
  have kd : ∀ {a : Addr} {o : HO}, H a = some o → (∀ kvs, o ≠ .dK kvs) → a ≠ G.bd := fun h h' z => by
    rw [z, T.hb] at h
    exact h' _ (Option.some.inj h).symm
  obtain ⟨p, q, hd', b1, b2⟩ := T.h0 i hi
  have ekv : kvs = kv2 p q := by
    rw [hd] at hd'
    injection (Option.some.inj hd')
  subst ekv
  have ltn : ∀ {j : Nat}, j < S.n + 1 → j ≠ S.n → j < S.n := fun h1 h2 => by omega
  have newD : ∀ {c : Addr} (k' : Nat), k' < 2 → ∀ j, j < S.n → H c = none → c ≠ G.D k' j := fun {c} k' hk' j hj hc z => by
    obtain ⟨kvs, e⟩ := T.own (a := G.D k' j) (.inr ⟨k', hk', j, hj, rfl⟩)
    rw [← z, hc] at e
    cases e
  have newX : ∀ j, j < S.n → x ≠ G.X j := fun j hj z => by rw [z, T.hx j hj] at nx; cases nx
  refine ⟨⟨?_, ?_, fun j hj => ?_, fun j hj => ?_, fun j hj => ?_, fun j hj j' hj' e => ?_, fun a ha j hj a' ha' j' hj' e => ?_, fun a ha j hj => ?_⟩, fun a o e no _ => ?_, fun a ha => ?_⟩
  · show upd _ _ _ G.t = _
    rw [off (kd T.ht fun _ z => by cases z)]
    exact s1 _ _ T.ht
  · show upd _ _ _ G.bd = _
    rw [upd_same, brKV_put hm]
    rfl
  · by_cases e : j = S.n
    · subst e
      show upd _ _ _ (if S.n = S.n then x else G.X S.n) = some (.ins CB (if S.n = S.n then dx else G.DX S.n) (brF (parV (forkG G S.n x dx b s) (forkS S i m).par S.n) (if S.n = S.n then (if 1 = 0 then b else s) else G.D 1 S.n) (if S.n = S.n then (if 0 = 0 then b else s) else G.D 0 S.n)))
      have n0 : S.n ≠ 0 := by have := O.n1; omega
      have ep : parV (forkG G S.n x dx b s) (forkS S i m).par S.n = .ref (G.X i) := by
        unfold parV
        rw [if_neg n0]
        show V.ref (if (if S.n = S.n then i else S.par S.n) = S.n then x else G.X (if S.n = S.n then i else S.par S.n)) = _
        rw [if_pos rfl, if_neg (by omega)]
      rw [if_pos rfl, if_pos rfl, if_pos rfl, if_pos rfl, if_neg (by decide), if_pos rfl, ep, off (nbd nx)]
      exact e1
    · have hj' := ltn hj e
      have ep : parV (forkG G S.n x dx b s) (forkS S i m).par j = parV G S.par j := by
        unfold parV
        by_cases j0 : j = 0
        · rw [if_pos j0, if_pos j0]
        · rw [if_neg j0, if_neg j0]
          show V.ref (if (if j = S.n then i else S.par j) = S.n then x else G.X (if j = S.n then i else S.par j)) = _
          have := O.par j hj' j0
          rw [if_neg e, if_neg (by omega)]
      show upd _ _ _ (if j = S.n then x else G.X j) = some (.ins CB (if j = S.n then dx else G.DX j) (brF _ (if j = S.n then (if 1 = 0 then b else s) else G.D 1 j) (if j = S.n then (if 0 = 0 then b else s) else G.D 0 j)))
      rw [if_neg e, if_neg e, if_neg e, if_neg e, ep, off (kd (T.hx j hj') fun _ z => by cases z)]
      exact s1 _ _ (T.hx j hj')
  · by_cases e : j = S.n
    · subst e
      show DictB _ (if S.n = S.n then (if 0 = 0 then b else s) else G.D 0 S.n) (if S.n = S.n then S.cur i else S.cur S.n)
      rw [if_pos rfl, if_pos rfl, if_pos rfl]
      exact ⟨p, q, by rw [off (nbd nb)]; exact e2, b1.lk lk2, b2.lk lk2⟩
    · show DictB _ (if j = S.n then (if 0 = 0 then b else s) else G.D 0 j) (if j = S.n then S.cur i else S.cur j)
      rw [if_neg e, if_neg e]
      exact ((T.h0 j (ltn hj e)).mono s1).lk lk (off (T.ib 0 (by decide) j (ltn hj e)))
  · by_cases e : j = S.n
    · subst e
      show DictB _ (if S.n = S.n then (if 1 = 0 then b else s) else G.D 1 S.n) (if S.n = S.n then S.cur i else S.sta S.n)
      rw [if_pos rfl, if_pos rfl, if_neg (by decide)]
      exact ⟨p, q, by rw [off (nbd ns)]; exact e3, b1.lk lk2, b2.lk lk2⟩
    · show DictB _ (if j = S.n then (if 1 = 0 then b else s) else G.D 1 j) (if j = S.n then S.cur i else S.sta j)
      rw [if_neg e, if_neg e]
      exact ((T.h1 j (ltn hj e)).mono s1).lk lk (off (T.ib 1 (by decide) j (ltn hj e)))
  · have e' : (if j = S.n then x else G.X j) = if j' = S.n then x else G.X j' := e
    by_cases c : j = S.n <;> by_cases c' : j' = S.n
    · omega
    · rw [if_pos c, if_neg c'] at e'
      exact absurd e' (newX j' (ltn hj' c'))
    · rw [if_neg c, if_pos c'] at e'
      exact absurd e'.symm (newX j (ltn hj c))
    · rw [if_neg c, if_neg c'] at e'
      exact T.ix j (ltn hj c) j' (ltn hj' c') e'
  · have e' : (if j = S.n then (if a = 0 then b else s) else G.D a j) = if j' = S.n then (if a' = 0 then b else s) else G.D a' j' := e
    have nn : ∀ a : Nat, H (if a = 0 then b else s) = none := fun a => by split <;> assumption
    by_cases c : j = S.n <;> by_cases c' : j' = S.n
    · rw [if_pos c, if_pos c'] at e'
      refine ⟨?_, by omega⟩
      by_cases z : a = 0 <;> by_cases z' : a' = 0
      · omega
      · rw [if_pos z, if_neg z'] at e'
        exact absurd e' bs
      · rw [if_neg z, if_pos z'] at e'
        exact absurd e'.symm bs
      · omega
    · rw [if_pos c, if_neg c'] at e'
      exact absurd e' (newD a' ha' j' (ltn hj' c') (nn a))
    · rw [if_neg c, if_pos c'] at e'
      exact absurd e'.symm (newD a ha j (ltn hj c) (nn a'))
    · rw [if_neg c, if_neg c'] at e'
      exact T.id a ha j (ltn hj c) a' ha' j' (ltn hj' c') e'
  · show (if j = S.n then (if a = 0 then b else s) else G.D a j) ≠ G.bd
    by_cases c : j = S.n
    · rw [if_pos c]
      split
      · exact nbd nb
      · exact nbd ns
    · rw [if_neg c]
      exact T.ib a ha j (ltn hj c)
  · rw [off (fun z => no (.inl z))]
    exact s1 _ _ e
  · rcases ha with z | ⟨k', hk', j, hj, z⟩
    · exact .inl (.inl z)
    · have z' : a = if j = S.n then (if k' = 0 then b else s) else G.D k' j := z
      by_cases c : j = S.n
      · rw [if_pos c] at z'
        refine .inr ?_
        rw [z']
        split <;> assumption
      · rw [if_neg c] at z'
        exact .inl (.inr ⟨k', hk', j, ltn hj c, z'⟩)
section
variable {P : Program} {w : World} {K : PySem.W.Frag} {mg : Str → Option Value} {base : Heap} {f : Addr} {fd : FuncData}
def spFork (CT CB NU NT : Addr) : Sp := fun vs H Q E => ∃ (G : Geo) (S : Stt) (n m : Str), vs = [.ref G.t, .str n, .str m] ∧ TreeAt CT CB H G S ∧ SOk S ∧ n.length ≤ 1000 ∧ m.length ≤ 1000 ∧
  (∀ i, i < S.n → S.nm i = n → (∀ j, j < S.n → S.nm j ≠ m) → ∀ G' H', G'.t = G.t → TKeep CB G S.n H H' → (∀ a, OwnT G' (S.n + 1) a → OwnT G S.n a ∨ H a = none) → TreeAt CT CB H' G' (forkS S i m) → Q .non H') ∧
  ((∀ i, i < S.n → S.nm i ≠ n) → Out NU n H E) ∧ (∀ i, i < S.n → S.nm i = n → ∀ j, j < S.n → S.nm j = m → Out NT m H E)
theorem ok_fork {CT CB NU NT : Addr} (F : FnM K "fork" "Tree.fork" s_Tree_fork f fd) (TC : TrC K mg CT) (BC : BrC K mg CB) (XT : ExC P w K mg base "NameTaken" NT) (MF : FoundC P w K mg base CT CB NU) (MI : MakeG P w K mg base CX0 CB 2 ["self", "parent", "bags"] (spBInit CB)) :
    FnOk P w K mg base (L2.CX P w) 4 f fd ["self", "parent", "branch"] (spFork CT CB NU NT) := by
  obtain ⟨ff, fdf, mF, GF, bF⟩ := MF.ex
  obtain ⟨fi, fdi, MK, GI, bI⟩ := MI.ex
  refine F.ok sc_Tree_fork (fun vs H Q E h => ?_) (fun cdv A outer s H vs Q E hr h => ?_)
  · obtain ⟨G, S, n, m, rfl, _⟩ := h
    rfl
  · obtain ⟨G, S, n, m, rfl, T, O, hn, hm, q, q1, q2⟩ := h
    refine ⟨_, pss_cons (ps_set (i := 3) sc_Tree_fork.nd rfl (Or.inl rfl) (pe_meth (E := E) (pv 0) TC.cl mF GF hr bF .nil (passes_call (W := fun c d _ H' => E c d H') (takes_of rfl rfl rfl rfl) fun _ _ _ _ z => z) (pa_cons (pv 1) pa_nil)))
      (pss_cons (ps_if (pt_cmp (pc_din hr.u1 (pv 2) (pe_fld (pv 0) rfl))) (pss_one (ps_raiseN XT hr.lt rfl (takes_of rfl rfl rfl rfl) (by rfl) (pv 2))) pss_nil)
      (PSs.nox (pss_one (ps_dput hr.u1 (pe_fld (pv 0) rfl) (pv 2) (pe_make MK GI hr (by rfl) BC.mgC bI .nil pass0 (pa_cons (pv 3) (pa_cons (pe_fld (pv 3) rfl) pa_nil))) rfl)))), ?_⟩
    refine ⟨_, rfl, G.t, G.dt, _, rfl, T.ht, rfl, _, rfl, G, S, n, rfl, T, O, hn, fun i hi e => ?_, fun hno => q1 hno⟩
    refine ⟨_, rfl, _, rfl, G.t, CT, G.dt, _, .ref G.bd, rfl, T.ht, TC.cl, TC.nB, rfl, ?_⟩
    rcases br_or S m with ⟨j, hj, e2⟩ | no
    · subst e2
      refine ⟨G.bd, _, rfl, dgetBr T O hj, _, rfl, iteT ?_⟩
      exact ⟨_, rfl, _, rfl, hm, fun d hd => q2 i hi e j hj rfl d hd⟩
    · refine ⟨G.bd, _, rfl, dgetNo T no, _, rfl, iteF ?_⟩
      refine ⟨_, rfl, _, rfl, G.X i, CB, G.DX i, _, .ref (G.D 0 i), rfl, T.hx i hi, BC.cl, BC.nB, rfl, fun x dx nx ndx dxx => ?_⟩
      obtain ⟨p, r, hd, b1, b2⟩ := T.h0 i hi
      have k0 : ∀ a o, H a = some o → upd (upd H dx (.own x)) x (.ins CB dx []) a = some o := fun a o e => by
        rw [upd_ne (ne_of_none e nx), upd_ne (ne_of_none e ndx)]
        exact e
      refine ⟨x, dx, G.D 0 i, .ref (G.X i), _, rfl, upd_same, k0 _ _ hd, fun H' s1 b1' n1 n2 n12 e1 e2 e3 kk => ⟨rfl, ?_⟩⟩
      have s1x : s1 ≠ x := fun z => by rw [z, upd_same] at n1; cases n1
      have b1x : b1' ≠ x := fun z => by rw [z, upd_same] at n2; cases n2
      have back : ∀ {a : Addr}, a ≠ x → upd (upd H dx (.own x)) x (.ins CB dx []) a = none → H a = none := fun {a} hax h => by
        rw [upd_ne hax] at h
        by_cases z : a = dx
        · rw [z, upd_same] at h; cases h
        · rwa [upd_ne z] at h
      have k1 : ∀ a o, H a = some o → H' a = some o := fun a o e => kk a o (ne_of_none e nx) (k0 a o e)
      refine ⟨_, rfl, G.t, CT, G.dt, _, .ref G.bd, rfl, k1 _ _ T.ht, TC.cl, TC.nB, rfl, _, rfl, G.bd, _, rfl, DPut.k (k := .inr m) (k1 _ _ T.hb) ?_, ?_⟩
      · unfold brKV
        rw [List.length_map, List.length_range]
        have := O.n6
        exact Nat.lt_of_le_of_lt this (by decide)
      · obtain ⟨T2, k2, o2⟩ := T.fork O hi no hd nx (back b1x n2) (back s1x n1) n12.symm e3 e2 e1 k1
        exact q i hi e no (forkG G S.n x dx b1' s1) _ rfl k2 o2 T2
end
end KA
set_option Elab.async false
set_option linter.all false
set_option maxRecDepth 100000
set_option maxHeartbeats 4000000
/-! inputs: dict comprehensions over a branch's two bags -/
namespace KA
open PySem PySem.Spec PyProof.Rows L2
open PySem.W (EachIs)
theorem dk_it {J : It} {n : Nat} {Gd : Hp → Prop} {Y : Nat → Hp → V → Hp → Prop} (w : Walk J n Gd Y) {D : Addr} {g : TG} {tt : TT} {tk tv : TE} {σ : L2.St} {vs : List Nat} {H0 : Hp} {Qd : Hp → Prop} (Pv : Nat → Hp → Prop) (h0 : Pv 0 H0) (hG : ∀ i H, i ≤ n → Pv i H → Gd H)
    (hs : ∀ i x H H', i < n → Pv i H → Y i H x H' → g x (wipe σ vs) H' fun σ2 H2 => wipe σ2 vs = wipe σ vs ∧ tt σ2 H2 fun b H3 => if b = true then tk σ2 H3 fun y H4 => tv σ2 H4 fun z H5 => ∃ (kvs : List (L2.Key × V)) (k : L2.Key), y = kV k ∧ H5 D = some (.dK kvs) ∧ kvs.length < sizeLine ∧ Pv (i + 1) (upd H5 D (.dK (putK kvs k z))) else Pv (i + 1) H3)
    (hd : ∀ H, Pv n H → Qd H) :
    ∃ W : Nat → Nat → Hp → Prop, (∃ m, W 0 m H0) ∧ ∀ i m H, W i m H → (J.stop i H ∧ Qd H) ∨ (J.go i H ∧ ∃ Nx : Hp → Prop, (∀ H', Nx H' → ∃ m', m' < m ∧ W (i + 1) m' H') ∧ ∀ x H', J.yld i H x H' → g x (wipe σ vs) H' fun σ2 H2 => wipe σ2 vs = wipe σ vs ∧ tt σ2 H2 fun b H3 =>
      if b = true then tk σ2 H3 fun y H4 => tv σ2 H4 fun z H5 => ∃ (kvs : List (L2.Key × V)) (k : L2.Key), y = kV k ∧ H5 D = some (.dK kvs) ∧ kvs.length < sizeLine ∧ Nx (upd H5 D (.dK (putK kvs k z))) else Nx H3) := by
  refine ⟨fun i m H => m = n - i ∧ i ≤ n ∧ Pv i H, ⟨n, by simp, Nat.zero_le _, h0⟩, fun i m H ⟨em, hi, p⟩ => ?_⟩
  have q := hG i H hi p
  by_cases lt : i < n
  · exact .inr ⟨w.goes i H lt q, Pv (i + 1), fun H' p' => ⟨n - (i + 1), by omega, rfl, lt, p'⟩, fun x H' y => hs i x H H' lt p (w.yields i H x H' lt q y)⟩
  · obtain rfl : i = n := by omega
    exact .inl ⟨w.stops H q, hd H p⟩
/-- {name: .. for name in d}, d of the two bags -/
theorem dc_ab {tv : TE} {σ : L2.St} {i : Nat} {d D p q : Addr} {H1 : Hp} {Qd : Hp → Prop} {A B : Bag} {o : Obj} (FA FB : Addr → Prop) (hd : H1 d = some (.frz o (.dK (kv2 p q)))) (hD : H1 D = none) (hi : i < σ.length)
    (ha : ∀ G (R : VK), Same H1 G → (∀ u G', Same G G' → BagAt G' u A → FA u → R (.ref u) G') → tv ((wipe σ [i]).set i (some (.str "a"))) G R)
    (hb : ∀ G (R : VK), Same H1 G → (∀ u G', Same G G' → BagAt G' u B → FB u → R (.ref u) G') → tv ((wipe σ [i]).set i (some (.str "b"))) G R)
    (done : ∀ G r s, Same H1 G → G D = some (.dK (kv2 r s)) → BagAt G r A → BagAt G s B → FA r → FB s → Qd G) :
    ∃ W : Nat → Nat → Hp → Prop, (∃ m, W 0 m (upd H1 D (.dK []))) ∧ ∀ j m H, W j m H → ((Itk d o (kv2 p q)).stop j H ∧ Qd H) ∨ ((Itk d o (kv2 p q)).go j H ∧ ∃ Nx : Hp → Prop, (∀ H', Nx H' → ∃ m', m' < m ∧ W (j + 1) m' H') ∧ ∀ x H', (Itk d o (kv2 p q)).yld j H x H' →
      gName i x (wipe σ [i]) H' fun σ2 H2 => wipe σ2 [i] = wipe σ [i] ∧ tYes σ2 H2 fun b H3 => if b = true then tVar i σ2 H3 fun y H4 => tv σ2 H4 fun z H5 => ∃ (kvs : List (L2.Key × V)) (k : L2.Key), y = kV k ∧ H5 D = some (.dK kvs) ∧ kvs.length < sizeLine ∧ Nx (upd H5 D (.dK (putK kvs k z))) else Nx H3) := by
  have wp : ∀ v : Option V, wipe ((wipe σ [i]).set i v) [i] = wipe σ [i] := fun v => by
    show (((σ.set i none).set i v).set i none) = σ.set i none
    rw [List.set_set, List.set_set]
  have at_i : ∀ v : Option V, ((wipe σ [i]).set i v)[i]? = some v := fun v => by
    show ((σ.set i none).set i v)[i]? = _
    rw [List.getElem?_set_self (by rw [List.length_set]; exact hi)]
  have dD : d ≠ D := ne_of_none hd hD
  have updS : ∀ {G : Hp} {o : HO}, Same H1 G → Same H1 (upd G D o) := fun s => same_mut s hD
  refine dk_it (walk_keys (kvs := kv2 p q)) (fun j G => Same H1 G ∧ ((j = 0 ∧ G D = some (.dK [])) ∨ (j = 1 ∧ ∃ r, G D = some (.dK [(.inr "a", .ref r)]) ∧ BagAt G r A ∧ FA r) ∨ (j = 2 ∧ ∃ r s, G D = some (.dK (kv2 r s)) ∧ BagAt G r A ∧ BagAt G s B ∧ FA r ∧ FB s))) ⟨same_new hD, .inl ⟨rfl, upd_same⟩⟩
    (fun j G _ z => z.1 _ _ hd) ?_ ?_
  · rintro j x G G' hj ⟨s, c⟩ ⟨rfl, k, v, hk, rfl⟩
    rcases c with ⟨rfl, hG⟩ | ⟨rfl, r, hG, hr, fr⟩ | ⟨rfl, _⟩
    · have hk' : k = .inr "a" := by
        have z : some ((.inr "a" : L2.Key), V.ref p) = some (k, v) := hk
        injection z with z
        injection z with z1 _
        exact z1.symm
      subst hk'
      refine ⟨wp _, yes_in ⟨_, at_i _, ha _ _ s fun u G2 s2 hu fu => ?_⟩⟩
      refine ⟨[], .inr "a", rfl, s2 _ _ hG, (by show 0 < sizeLine; decide), updS (s.trans s2), .inr (.inl ⟨rfl, u, upd_same, hu.lk (LKeep.upd (s2 _ _ hG) (fun _ z => by cases z) (fun _ z => by cases z)), fu⟩)⟩
    · have hk' : k = .inr "b" := by
        have z : some ((.inr "b" : L2.Key), V.ref q) = some (k, v) := hk
        injection z with z
        injection z with z1 _
        exact z1.symm
      subst hk'
      refine ⟨wp _, yes_in ⟨_, at_i _, hb _ _ s fun u G2 s2 hu fu => ?_⟩⟩
      have lk : ∀ o, LKeep G2 (upd G2 D o) := fun o => LKeep.upd (s2 _ _ hG) (fun _ z => by cases z) (fun _ z => by cases z)
      refine ⟨_, .inr "b", rfl, s2 _ _ hG, (by show 1 < sizeLine; decide), updS (s.trans s2), .inr (.inr ⟨rfl, r, u, upd_same, (hr.mono s2).lk (lk _), hu.lk (lk _), fr, fu⟩)⟩
    · exact absurd hj (by show ¬ (2 < 2); decide)
  · rintro G ⟨s, c⟩
    rcases c with ⟨z, _⟩ | ⟨z, _⟩ | ⟨_, r, t, h1, h2, h3, h4, h5⟩
    · cases z
    · cases z
    · exact done G r t s h1 h2 h3 h4 h5
section
variable {P : Program} {w : World} {K : PySem.W.Frag} {mg : Str → Option Value} {base : Heap} {f : Addr} {fd : FuncData}
def spInputs (CT CB NU : Addr) : Sp := fun vs H Q E => ∃ (G : Geo) (S : Stt) (n : Str), vs = [.ref G.t, .str n] ∧ TreeAt CT CB H G S ∧ SOk S ∧ n.length ≤ 1000 ∧
  (∀ i, i < S.n → S.nm i = n → ∀ d p q H', Same H H' → H d = none → H p = none → H q = none → H' d = some (.dK (kv2 p q)) → BagAt H' p (S.cur i).1 → BagAt H' q (S.cur i).2 → Q (.ref d) H') ∧ ((∀ i, i < S.n → S.nm i ≠ n) → Out NU n H E)
theorem copy_bag {G : Hp} {p l : Addr} {b : Bag} {ts : List Addr} (h1 : G p = some (.lst (ts.map V.ref))) (h2 : EachIs (PairAt G) ts b) (hl : G l = none) : BagAt (upd G l (.lst (ts.map V.ref))) l b :=
  ⟨ts, upd_same, h2.mono fun _ _ z => z.mono (same_new hl)⟩
theorem ok_inputs {CT CB NU : Addr} (F : FnM K "inputs" "Tree.inputs" s_Tree_inputs f fd) (TC : TrC K mg CT) (BC : BrC K mg CB) (gL : mg "list" = none) (MF : FoundC P w K mg base CT CB NU) : FnOk P w K mg base (L2.CX P w) 4 f fd ["self", "branch"] (spInputs CT CB NU) := by
  obtain ⟨ff, fdf, mF, GF, bF⟩ := MF.ex
  refine F.ok sc_Tree_inputs (fun vs H Q E h => ?_) (fun cdv A outer s H vs Q E hr h => ?_)
  · obtain ⟨G, S, n, rfl, _⟩ := h
    rfl
  · obtain ⟨G, S, n, rfl, T, O, hn, q, q1⟩ := h
    refine ⟨_, pss_cons (ps_set (i := 2) sc_Tree_inputs.nd rfl (Or.inr rfl) (pe_fld (pe_meth (E := E) (pv 0) TC.cl mF GF hr bF .nil (passes_call (W := fun c d _ H' => E c d H') (takes_of rfl rfl rfl rfl) fun _ _ _ _ z => z) (pa_cons (pv 1) pa_nil)) rfl))
      (PSs.nox (pss_one (ps_ret (pe_lock (pe_dc (own := [("name", 3)]) (g := gName 3) (tk := tVar 3) (tt := tYes) (by rfl) sc_Tree_inputs.nd (pi_keys (pv 2))
        (blkOk_by (own := [("name", 3)]) (N := ["self", "branch", "bags", "name"]) (sc := defScope s_Tree_inputs) (by decide +kernel)) (fun _ _ _ _ _ => pg_name (i := 3) sc_Tree_inputs.nd rfl (Or.inl rfl)) (fun _ _ _ _ _ => pts_nil) (fun _ _ _ _ _ => pv 3)
        (fun _ _ _ _ _ => pe_callTy (T := "list") (r := fun xs H Q => ∃ (p : Addr) (ys : List V), xs = [.ref p] ∧ (SqL K H p ys ∨ SqT K H p ys) ∧ ∀ l, H l = none → Q (.ref l) (upd H l (.lst ys))) call_list_of (by rfl) gL (by decide +kernel) (pa_cons (pe_dget hr.u1 (pv 2) (pv 3) (fun _ _ => rfl)) pa_nil))))))), ?_⟩
    refine ⟨_, rfl, G.t, G.dt, _, rfl, T.ht, rfl, _, rfl, G, S, n, rfl, T, O, hn, fun i hi e => ?_, fun hno => q1 hno⟩
    obtain ⟨p, r, hd, b1, b2⟩ := T.h0 i hi
    refine ⟨G.X i, CB, G.DX i, _, .ref (G.D 0 i), rfl, T.hx i hi, BC.cl, BC.nB, rfl, ?_⟩
    refine ⟨G.D 0 i, _, hd, trivial, fun od => ?_⟩
    have lk : LKeep H (upd H (G.D 0 i) (.frz od (.dK (kv2 p r)))) := LKeep.upd hd (fun _ z => by cases z) (fun _ z => by cases z)
    refine ⟨_, rfl, G.D 0 i, od, rfl, .inl ⟨_, upd_same, fun D hD => ?_⟩⟩
    have nDb : D ≠ G.D 0 i := fun z => by rw [z, upd_same] at hD; cases hD
    have hD0 : H D = none := by rwa [upd_ne nDb] at hD
    have fresh : ∀ {G1 : Hp} {l : Addr}, Same (upd H (G.D 0 i) (.frz od (.dK (kv2 p r)))) G1 → G1 l = none → H l = none := fun {G1 l} s h => by
      cases z : H l with
      | none => rfl
      | some o =>
        by_cases c : l = G.D 0 i
        · have := s (G.D 0 i) _ upd_same
          rw [← c, h] at this
          cases this
        · have := s l o (by rw [upd_ne c]; exact z)
          rw [h] at this
          cases this
    refine dc_ab (A := (S.cur i).1) (B := (S.cur i).2) (fun l => H l = none) (fun l => H l = none) upd_same hD (by show 3 < 4; decide) ?_ ?_ ?_
    · intro G1 R s1 k
      obtain ⟨ts, h1, h2⟩ := (b1.lk lk).mono s1
      refine ⟨_, rfl, _, rfl, G.D 0 i, _, rfl, .inl ⟨_, .inr "a", .inr ⟨_, s1 _ _ upd_same⟩, rfl, rfl⟩, ?_⟩
      refine ⟨p, _, rfl, .inl (sq_l h1), fun l hl => k l _ (same_new hl) (copy_bag h1 h2 hl) (fresh s1 hl)⟩
    · intro G1 R s1 k
      obtain ⟨ts, h1, h2⟩ := (b2.lk lk).mono s1
      refine ⟨_, rfl, _, rfl, G.D 0 i, _, rfl, .inl ⟨_, .inr "b", .inr ⟨_, s1 _ _ upd_same⟩, rfl, rfl⟩, ?_⟩
      refine ⟨r, _, rfl, .inl (sq_l h1), fun l hl => k l _ (same_new hl) (copy_bag h1 h2 hl) (fresh s1 hl)⟩
    · intro G1 u v s1 hG hu hv fu fv
      refine ⟨s1 _ _ upd_same, ?_⟩
      have lk2 : LKeep G1 (upd G1 (G.D 0 i) (.dK (kv2 p r))) := LKeep.upd (s1 _ _ upd_same) (fun _ z => by cases z) (fun _ z => by cases z)
      refine q i hi e D u v _ (fun a o ha => ?_) hD0 fu fv (by rw [upd_ne nDb]; exact hG) (hu.lk lk2) (hv.lk lk2)
      by_cases c : a = G.D 0 i
      · rw [c, upd_same]
        rw [c, hd] at ha
        exact ha
      · rw [upd_ne c]
        exact s1 _ _ (by rw [upd_ne c]; exact ha)
end
end KA
set_option Elab.async false
set_option linter.all false
set_option maxRecDepth 100000
set_option maxHeartbeats 4000000
/-! merge -/
namespace KA
open PySem PySem.Spec PyProof.Rows L2
open PySem.W (EachIs)
def merB (S : Stt) (i : Nat) : Bag × Bag := (mk ((S.cur (S.par i)).1 ++ difB (S.cur i).1 (S.sta i).1), mk ((S.cur (S.par i)).2 ++ difB (S.cur i).2 (S.sta i).2))
def mergeS (S : Stt) (i : Nat) : Stt := { S with cur := fun j => if j = i then merB S i else if j = S.par i then merB S i else S.cur j, sta := fun j => if j = i then merB S i else S.sta j }
def mergeG (G : Geo) (i p : Nat) (d b s : Addr) : Geo := { G with D := fun k j => if j = i then (if k = 0 then b else s) else if j = p ∧ k = 0 then d else G.D k j }
theorem TreeAt.merge {CT CB : Addr} {H H' : Hp} {G : Geo} {S : Stt} (T : TreeAt CT CB H G S) (O : SOk S) {i : Nat} (hi : i < S.n) (i0 : i ≠ 0) {d b s r t : Addr} (nd : H d = none) (nb : H b = none) (ns : H s = none) (bs : b ≠ s) (db : d ≠ b) (ds : d ≠ s)
    (e1 : H' (G.X (S.par i)) = some (.ins CB (G.DX (S.par i)) (brF (parV G S.par (S.par i)) (G.D 1 (S.par i)) d))) (e2 : H' (G.X i) = some (.ins CB (G.DX i) (brF (.ref (G.X (S.par i))) s b))) (e3 : H' d = some (.dK (kv2 r t))) (e4 : H' b = some (.dK (kv2 r t))) (e5 : H' s = some (.dK (kv2 r t)))
    (h1 : BagAt H' r (merB S i).1) (h2 : BagAt H' t (merB S i).2) (k : ∀ a o, H a = some o → a ≠ G.X (S.par i) → a ≠ G.X i → H' a = some o) :
    TreeAt CT CB H' (mergeG G i (S.par i) d b s) (mergeS S i) ∧ TKeep CB G S.n H H' ∧ ∀ a, OwnT (mergeG G i (S.par i) d b s) S.n a → OwnT G S.n a ∨ H a = none := by
  have pi : S.par i < i := O.par i hi i0
  have hp : S.par i < S.n := by omega
  have pne : S.par i ≠ i := by omega
  have kk : ∀ {a : Addr} {o : HO}, H a = some o → (∀ dx fs, o ≠ .ins CB dx fs) → H' a = some o := fun {a o} h h' => k a o h (fun z => by rw [z, T.hx _ hp] at h; exact h' _ _ (Option.some.inj h).symm) (fun z => by rw [z, T.hx _ hi] at h; exact h' _ _ (Option.some.inj h).symm)
  have lk : LKeep H H' := ⟨fun a xs h => kk h (fun _ _ z => by cases z), fun a xs h => kk h (fun _ _ z => by cases z)⟩
  have newD : ∀ {c : Addr} (k' : Nat), k' < 2 → ∀ j, j < S.n → H c = none → c ≠ G.D k' j := fun {c} k' hk' j hj hc z => by
    obtain ⟨kvs, e⟩ := T.own (a := G.D k' j) (.inr ⟨k', hk', j, hj, rfl⟩)
    rw [← z, hc] at e
    cases e
  have nbd : ∀ {a : Addr}, H a = none → a ≠ G.bd := fun h z => by rw [z, T.hb] at h; cases h
  have dict : ∀ {a : Addr} {B : Bag × Bag}, DictB H a B → DictB H' a B := fun {a B} ⟨p, q, x, y, z⟩ => ⟨p, q, kk x (fun _ _ z => by cases z), y.lk lk, z.lk lk⟩
  have ht : ∀ j, G.X j = G.X j := fun _ => rfl
  refine ⟨⟨?_, ?_, fun j hj => ?_, fun j hj => ?_, fun j hj => ?_, T.ix, fun a ha j hj a' ha' j' hj' e => ?_, fun a ha j hj => ?_⟩, fun a o e _ ni => kk e ni, fun a ha => ?_⟩
  · by_cases c : ∃ dx fs, HO.ins CT G.dt [("branches", V.ref G.bd)] = HO.ins CB dx fs
    · refine k _ _ T.ht (fun z => ?_) (fun z => ?_)
      · have h1 := T.ht
        have z' : G.t = G.X (S.par i) := z
        rw [z', T.hx _ hp] at h1
        injection h1 with h1
        injection h1 with _ _ h1
        cases h1
      · have h1 := T.ht
        have z' : G.t = G.X i := z
        rw [z', T.hx _ hi] at h1
        injection h1 with h1
        injection h1 with _ _ h1
        cases h1
    · exact kk T.ht fun dx fs z => c ⟨dx, fs, z⟩
  · exact kk T.hb fun _ _ z => by cases z
  · show H' (G.X j) = some (.ins CB (G.DX j) (brF (parV (mergeG G i (S.par i) d b s) S.par j) (if j = i then (if 1 = 0 then b else s) else if j = S.par i ∧ 1 = 0 then d else G.D 1 j) (if j = i then (if 0 = 0 then b else s) else if j = S.par i ∧ 0 = 0 then d else G.D 0 j)))
    have ep : parV (mergeG G i (S.par i) d b s) S.par j = parV G S.par j := rfl
    rw [ep]
    by_cases ci : j = i
    · subst ci
      rw [if_pos rfl, if_pos rfl, if_neg (by decide), if_pos rfl]
      have : parV G S.par j = .ref (G.X (S.par j)) := by unfold parV; rw [if_neg i0]
      rw [this]
      exact e2
    · rw [if_neg ci, if_neg ci, if_neg (by rintro ⟨_, z⟩; cases z)]
      by_cases cp : j = S.par i
      · rw [if_pos ⟨cp, rfl⟩, cp]
        exact e1
      · rw [if_neg (fun z => cp z.1)]
        refine k _ _ (T.hx j hj) (fun z => cp (T.ix j hj _ hp z)) (fun z => ci (T.ix j hj _ hi z))
  · show DictB H' (if j = i then (if 0 = 0 then b else s) else if j = S.par i ∧ 0 = 0 then d else G.D 0 j) (if j = i then merB S i else if j = S.par i then merB S i else S.cur j)
    by_cases ci : j = i
    · rw [if_pos ci, if_pos ci, if_pos rfl]
      exact ⟨r, t, e4, h1, h2⟩
    · rw [if_neg ci, if_neg ci]
      by_cases cp : j = S.par i
      · rw [if_pos ⟨cp, rfl⟩, if_pos cp]
        exact ⟨r, t, e3, h1, h2⟩
      · rw [if_neg (fun z => cp z.1), if_neg cp]
        exact dict (T.h0 j hj)
  · show DictB H' (if j = i then (if 1 = 0 then b else s) else if j = S.par i ∧ 1 = 0 then d else G.D 1 j) (if j = i then merB S i else S.sta j)
    by_cases ci : j = i
    · rw [if_pos ci, if_pos ci, if_neg (by decide)]
      exact ⟨r, t, e5, h1, h2⟩
    · rw [if_neg ci, if_neg ci, if_neg (by rintro ⟨_, z⟩; cases z)]
      exact dict (T.h1 j hj)
  · have e' : (if j = i then (if a = 0 then b else s) else if j = S.par i ∧ a = 0 then d else G.D a j) = if j' = i then (if a' = 0 then b else s) else if j' = S.par i ∧ a' = 0 then d else G.D a' j' := e
    have nn : ∀ a : Nat, H (if a = 0 then b else s) = none := fun a => by split <;> assumption
    have dd : ∀ a : Nat, d ≠ (if a = 0 then b else s) := fun a => by split <;> assumption
    by_cases c : j = i <;> by_cases c' : j' = i
    · rw [if_pos c, if_pos c'] at e'
      refine ⟨?_, by omega⟩
      by_cases z : a = 0 <;> by_cases z' : a' = 0
      · omega
      · rw [if_pos z, if_neg z'] at e'
        exact absurd e' bs
      · rw [if_neg z, if_pos z'] at e'
        exact absurd e'.symm bs
      · omega
    · rw [if_pos c, if_neg c'] at e'
      by_cases z : j' = S.par i ∧ a' = 0
      · rw [if_pos z] at e'
        exact absurd e'.symm (dd a)
      · rw [if_neg z] at e'
        exact absurd e' (newD a' ha' j' hj' (nn a))
    · rw [if_neg c, if_pos c'] at e'
      by_cases z : j = S.par i ∧ a = 0
      · rw [if_pos z] at e'
        exact absurd e' (dd a')
      · rw [if_neg z] at e'
        exact absurd e'.symm (newD a ha j hj (nn a'))
    · rw [if_neg c, if_neg c'] at e'
      by_cases z : j = S.par i ∧ a = 0 <;> by_cases z' : j' = S.par i ∧ a' = 0
      · exact ⟨z.2.trans z'.2.symm, z.1.trans z'.1.symm⟩
      · rw [if_pos z, if_neg z'] at e'
        exact absurd e' (newD a' ha' j' hj' nd)
      · rw [if_neg z, if_pos z'] at e'
        exact absurd e'.symm (newD a ha j hj nd)
      · rw [if_neg z, if_neg z'] at e'
        exact T.id a ha j hj a' ha' j' hj' e'
  · show (if j = i then (if a = 0 then b else s) else if j = S.par i ∧ a = 0 then d else G.D a j) ≠ G.bd
    split
    · split
      · exact nbd nb
      · exact nbd ns
    · split
      · exact nbd nd
      · exact T.ib a ha j hj
  · rcases ha with z | ⟨k', hk', j, hj, z⟩
    · exact .inl (.inl z)
    · have z' : a = if j = i then (if k' = 0 then b else s) else if j = S.par i ∧ k' = 0 then d else G.D k' j := z
      by_cases c : j = i
      · rw [if_pos c] at z'
        refine .inr ?_
        rw [z']
        split <;> assumption
      · rw [if_neg c] at z'
        by_cases c2 : j = S.par i ∧ k' = 0
        · rw [if_pos c2] at z'
          rw [z']
          exact .inr nd
        · rw [if_neg c2] at z'
          exact .inl (.inr ⟨k', hk', j, hj, z'⟩)
end KA
set_option Elab.async false
set_option linter.all false
set_option maxRecDepth 100000
set_option maxHeartbeats 4000000
/-! merge, the method; a new tree -/
namespace KA
open PySem PySem.Spec PyProof.Rows L2
open PySem.W (EachIs)
section
variable {P : Program} {w : World} {K : PySem.W.Frag} {mg : Str → Option Value} {base : Heap} {f : Addr} {fd : FuncData}
def spMerge (CT CB NU : Addr) : Sp := fun vs H Q E => ∃ (G : Geo) (S : Stt) (n : Str), vs = [.ref G.t, .str n] ∧ TreeAt CT CB H G S ∧ SOk S ∧ n.length ≤ 1000 ∧
  (∀ i, i < S.n → S.nm i = n → i ≠ 0 → ∀ G' H', G'.t = G.t → TKeep CB G S.n H H' → (∀ a, OwnT G' S.n a → OwnT G S.n a ∨ H a = none) → TreeAt CT CB H' G' (mergeS S i) → Q .non H') ∧ ((∀ i, i < S.n → S.nm i ≠ n) → Out NU n H E) ∧ (S.nm 0 = n → Out NU n H E)
theorem ok_merge {CT CB NU : Addr} (F : FnM K "merge" "Tree.merge" s_Tree_merge f fd) (TC : TrC K mg CT) (BC : BrC K mg CB) (XU : ExC P w K mg base "NameUnknown" NU) (MF : FoundC P w K mg base CT CB NU) (MD : DiffC P w K mg base CB) (MB : MethG P w K mg base CX0 CB "begin" 1 ["self", "bags"] (spBegin CB))
    (CP : Cal P w K mg base "plus" 6 ["first", "second"] spPlus) : FnOk P w K mg base (L2.CX P w) 9 f fd ["self", "branch"] (spMerge CT CB NU) := by
  obtain ⟨ff, fdf, mF, GF, bF⟩ := MF.ex
  obtain ⟨fg, fdg, mG, GG, bG⟩ := MD.ex
  obtain ⟨fb, fdb, mB, GB, bB⟩ := MB.ex
  refine F.ok sc_Tree_merge (fun vs H Q E h => ?_) (fun cdv A outer s H vs Q E hr h => ?_)
  · obtain ⟨G, S, n, rfl, _⟩ := h
    rfl
  · obtain ⟨G, S, n, rfl, T, O, hn, q, q1, q2⟩ := h
    refine ⟨_, pss_cons (ps_set (i := 2) sc_Tree_merge.nd rfl (Or.inr rfl) (pe_meth (E := E) (pv 0) TC.cl mF GF hr.lt bF .nil (passes_call (W := fun c d _ H' => E c d H') (takes_of rfl rfl rfl rfl) fun _ _ _ _ z => z) (pa_cons (pv 1) pa_nil)))
      (pss_cons (ps_if (pt_cmpR op_isN (pe_fld (pv 2) rfl) pe_non (nomark _)) (pss_one (ps_raiseN XU hr.lt rfl (takes_of rfl rfl rfl rfl) (by rfl) (pv 1))) pss_nil)
      (PSs.nox (pss_cons (ps_set (i := 3) sc_Tree_merge.nd rfl (Or.inr rfl) (pe_fld (pe_fld (pv 2) rfl) rfl))
        (pss_cons (ps_fld (pe_fld (pv 2) rfl) (pe_lock (pe_dc (own := [("name", 4)]) (g := gName 4) (tk := tVar 4) (tt := tYes) (by rfl) sc_Tree_merge.nd (pi_keys (pv 3))
          (blkOk_by (own := [("name", 4)]) (N := ["self", "branch", "found", "bags", "name"]) (sc := defScope s_Tree_merge) (by decide +kernel)) (fun _ _ _ _ _ => pg_name (i := 4) sc_Tree_merge.nd rfl (Or.inl rfl)) (fun _ _ _ _ _ => pts_nil) (fun _ _ _ _ _ => pv 4)
          (fun _ _ _ _ _ => pe_cal CP hr.lt (pa_cons (pe_dget hr.u1 (pv 3) (pv 4) (fun _ _ => rfl)) (pa_cons (pe_meth (pv 2) BC.cl mG GG hr bG .nil pass0 (pa_cons (pv 4) pa_nil)) pa_nil))))) rfl)
        (pss_one (ps_expr (pe_meth (pv 2) BC.cl mB GB hr.lt bB .nil pass0 (pa_cons (pe_fld (pe_fld (pv 2) rfl) rfl) pa_nil)))))))), ?_⟩
    refine ⟨_, rfl, G.t, G.dt, _, rfl, T.ht, rfl, _, rfl, G, S, n, rfl, T, O, hn, fun i hi e => ?_, fun hno => q1 hno⟩
    refine ⟨_, rfl, G.X i, CB, G.DX i, _, parV G S.par i, rfl, T.hx i hi, BC.cl, BC.nP, rfl, rfl, _, rfl, ?_⟩
    by_cases i0 : i = 0
    · subst i0
      have : parV G S.par 0 = .non := by unfold parV; rw [if_pos rfl]
      rw [this]
      refine iteT ?_
      exact ⟨_, rfl, n, rfl, hn, fun d hd => q2 e d hd⟩
    · have ep : parV G S.par i = .ref (G.X (S.par i)) := by unfold parV; rw [if_neg i0]
      rw [ep]
      refine iteF ?_
      have hxi := T.hx i hi
      rw [ep] at hxi
      have pi : S.par i < i := O.par i hi i0
      have hp : S.par i < S.n := by omega
      have xne : G.X (S.par i) ≠ G.X i := fun z => by have := T.ix _ hp _ hi z; omega
      have hxp := T.hx _ hp
      obtain ⟨p, r, hd, b1, b2⟩ := T.h0 _ hp
      refine ⟨_, rfl, G.X i, CB, G.DX i, _, _, rfl, hxi, BC.cl, BC.nP, rfl, G.X (S.par i), CB, G.DX (S.par i), _, .ref (G.D 0 (S.par i)), rfl, hxp, BC.cl, BC.nB, rfl, ?_⟩
      refine ⟨G.D 0 (S.par i), _, hd, trivial, fun od => ?_⟩
      have lk : LKeep H (upd H (G.D 0 (S.par i)) (.frz od (.dK (kv2 p r)))) := LKeep.upd hd (fun _ z => by cases z) (fun _ z => by cases z)
      have kf : ∀ {a : Addr} {o : HO}, H a = some o → a ≠ G.D 0 (S.par i) → upd H (G.D 0 (S.par i)) (.frz od (.dK (kv2 p r))) a = some o := fun h h' => by rw [upd_ne h']; exact h
      refine ⟨_, rfl, G.D 0 (S.par i), od, rfl, .inl ⟨_, upd_same, fun D hD => ?_⟩⟩
      have nDb : D ≠ G.D 0 (S.par i) := fun z => by rw [z, upd_same] at hD; cases hD
      have hD0 : H D = none := by rwa [upd_ne nDb] at hD
      have dsp : DSpec CB (upd H (G.D 0 (S.par i)) (.frz od (.dK (kv2 p r)))) (G.X i) (S.cur i) (S.sta i) := by
        refine ⟨_, _, _, _, kf hxi (fun z => by rw [z, hd] at hxi; cases hxi), (T.h0 i hi).lk lk (upd_ne fun z => ?_), (T.h1 i hi).lk lk (upd_ne fun z => ?_)⟩
        · have := (T.id 0 (by decide) i hi 0 (by decide) _ hp z).2
          omega
        · exact absurd (T.id 1 (by decide) i hi 0 (by decide) _ hp z).1 (by decide)
      have okp := O.cur _ hp
      have okd := O.dif i hi
      refine dc_ab (A := (merB S i).1) (B := (merB S i).2) (fun _ => True) (fun _ => True) upd_same hD (by show 4 < 5; decide) ?_ ?_ ?_
      · intro G1 R s1 k
        refine ⟨_, rfl, _, rfl, G.D 0 (S.par i), _, rfl, .inl ⟨_, .inr "a", .inr ⟨_, s1 _ _ upd_same⟩, rfl, rfl⟩, ?_⟩
        obtain ⟨dx', v', sa', ba', hx', hb', hs'⟩ := dsp
        refine ⟨_, rfl, G.X i, dx', _, rfl, s1 _ _ hx', rfl, _, rfl, G.X i, "a", S.cur i, S.sta i, rfl, .inl rfl, ⟨dx', v', sa', ba', s1 _ _ hx', hb'.mono s1, hs'.mono s1⟩, O.cur i hi, O.sta i hi, fun u G2 s2 hu => ?_⟩
        exact ⟨p, u, (S.cur (S.par i)).1, _, rfl, ((b1.lk lk).mono s1).mono s2, hu, okp.a.len, okd.a.len, okp.a.row, okd.a.row, fun u2 G3 s3 hu2 => k u2 G3 (s2.trans s3) hu2 trivial⟩
      · intro G1 R s1 k
        refine ⟨_, rfl, _, rfl, G.D 0 (S.par i), _, rfl, .inl ⟨_, .inr "b", .inr ⟨_, s1 _ _ upd_same⟩, rfl, rfl⟩, ?_⟩
        obtain ⟨dx', v', sa', ba', hx', hb', hs'⟩ := dsp
        refine ⟨_, rfl, G.X i, dx', _, rfl, s1 _ _ hx', rfl, _, rfl, G.X i, "b", S.cur i, S.sta i, rfl, .inr rfl, ⟨dx', v', sa', ba', s1 _ _ hx', hb'.mono s1, hs'.mono s1⟩, O.cur i hi, O.sta i hi, fun u G2 s2 hu => ?_⟩
        exact ⟨r, u, (S.cur (S.par i)).2, _, rfl, ((b2.lk lk).mono s1).mono s2, hu, okp.b.len, okd.b.len, okp.b.row, okd.b.row, fun u2 G3 s3 hu2 => k u2 G3 (s2.trans s3) hu2 trivial⟩
      · intro G1 u v s1 hG hu hv _ _
        refine ⟨s1 _ _ upd_same, ?_⟩
        have lk2 : LKeep G1 (upd G1 (G.D 0 (S.par i)) (.dK (kv2 p r))) := LKeep.upd (s1 _ _ upd_same) (fun _ z => by cases z) (fun _ z => by cases z)
        have sH : Same H (upd G1 (G.D 0 (S.par i)) (.dK (kv2 p r))) := fun a o ha => by
          by_cases c : a = G.D 0 (S.par i)
          · rw [c, upd_same]
            rw [c, hd] at ha
            exact ha
          · rw [upd_ne c]
            exact s1 _ _ (by rw [upd_ne c]; exact ha)
        have hD2 : upd G1 (G.D 0 (S.par i)) (.dK (kv2 p r)) D = some (.dK (kv2 u v)) := by rw [upd_ne nDb]; exact hG
        have hu2 := hu.lk lk2
        have hv2 := hv.lk lk2
        generalize upd G1 (G.D 0 (S.par i)) (.dK (kv2 p r)) = G2 at sH hD2 hu2 hv2 ⊢
        refine ⟨_, rfl, G.X i, CB, G.DX i, _, _, rfl, sH _ _ hxi, BC.cl, BC.nP, rfl, G.X (S.par i), CB, G.DX (S.par i), _, rfl, sH _ _ hxp, BC.cl, BC.nB, (by show 3 < 1000; decide), ?_⟩
        have Dxp : D ≠ G.X (S.par i) := fun z => by rw [z, hxp] at hD0; cases hD0
        refine ⟨_, rfl, G.X i, G.DX i, _, rfl, by rw [upd_ne xne.symm]; exact sH _ _ hxi, rfl, ?_⟩
        refine ⟨_, rfl, G.X i, CB, G.DX i, _, _, rfl, by rw [upd_ne xne.symm]; exact sH _ _ hxi, BC.cl, BC.nP, rfl, G.X (S.par i), CB, G.DX (S.par i), _, .ref D, rfl, upd_same, BC.cl, BC.nB, rfl, ?_⟩
        refine ⟨G.X i, G.DX i, D, .ref (G.X (S.par i)), _, kv2 u v, rfl, by rw [upd_ne xne.symm]; exact sH _ _ hxi, .inr ⟨_, _, rfl⟩, by rw [upd_ne Dxp]; exact hD2, fun H' s1' b1' n1 n2 n12 e1 e2 e3 kk => ?_⟩
        have back : ∀ {a : Addr}, upd G2 (G.X (S.par i)) (.ins CB (G.DX (S.par i)) (brF (parV G S.par (S.par i)) (G.D 1 (S.par i)) D)) a = none → H a = none := fun {a} h => by
          cases z : H a with
          | none => rfl
          | some o =>
            by_cases c : a = G.X (S.par i)
            · rw [c, upd_same] at h; cases h
            · rw [upd_ne c, sH _ _ z] at h; cases h
        have aD : upd G2 (G.X (S.par i)) (.ins CB (G.DX (S.par i)) (brF (parV G S.par (S.par i)) (G.D 1 (S.par i)) D)) D = some (.dK (kv2 u v)) := by rw [upd_ne Dxp]; exact hD2
        have kd : LKeep G2 H' := ⟨fun a xs h => kk a _ (fun z => by rw [z, sH _ _ hxi] at h; cases h) (by rw [upd_ne (fun z => by rw [z, sH _ _ hxp] at h; cases h)]; exact h), fun a xs h => kk a _ (fun z => by rw [z, sH _ _ hxi] at h; cases h) (by rw [upd_ne (fun z => by rw [z, sH _ _ hxp] at h; cases h)]; exact h)⟩
        obtain ⟨T2, k2, o2⟩ := T.merge O hi i0 (d := D) (b := b1') (s := s1') (r := u) (t := v) hD0 (back n2) (back n1) n12.symm (ne_of_none aD n2) (ne_of_none aD n1)
          (kk _ _ xne upd_same) e3 (kk _ _ (fun z => by rw [z, hxi] at hD0; cases hD0) aD) e2 e1 (hu2.lk kd) (hv2.lk kd) (fun a o h h1 h2 => kk a o h2 (by rw [upd_ne h1]; exact sH _ _ h))
        exact q i hi e i0 (mergeG G i (S.par i) D b1' s1') _ rfl k2 o2 T2
end
end KA
set_option Elab.async false
set_option linter.all false
set_option maxRecDepth 100000
set_option maxHeartbeats 4000000
/-! a new tree -/
namespace KA
open PySem PySem.Spec PyProof.Rows L2
open PySem.W (EachIs)
def newS : Stt := ⟨1, fun _ => "trunk", fun _ => 0, fun _ => ([], []), fun _ => ([], [])⟩
theorem bag_nil {H : Hp} {q : Addr} (h : H q = some (.lst [])) : BagAt H q [] := ⟨[], h, .nil⟩
section
variable {P : Program} {w : World} {K : PySem.W.Frag} {mg : Str → Option Value} {base : Heap} {f : Addr} {fd : FuncData}
def spTInit (CT CB : Addr) : Sp := fun vs H Q _ => ∃ (t dt nl : Addr), vs = [.ref t, .ref nl] ∧ H t = some (.ins CT dt []) ∧ H nl = some (.lst [.str "a", .str "b"]) ∧
  ∀ G H', G.t = t → (∀ a o, a ≠ t → H a = some o → H' a = some o) → (∀ a, OwnT G 1 a → H a = none) → TreeAt CT CB H' G newS → Q .non H'
theorem ok_tinit {CT CB : Addr} (F : FnM K "__init__" "Tree.__init__" s_Tree___init__ f fd) (TC : TrC K mg CT) (BC : BrC K mg CB) (MI : MakeG P w K mg base CX0 CB 2 ["self", "parent", "bags"] (spBInit CB)) :
    FnOk P w K mg base CX0 4 f fd ["self", "names"] (spTInit CT CB) := by
  obtain ⟨fi, fdi, MK, GI, bI⟩ := MI.ex
  refine F.ok sc_Tree___init__ (fun vs H Q E h => ?_) (fun cdv A outer s H vs Q E hr h => ?_)
  · obtain ⟨t, dt, nl, rfl, _⟩ := h
    rfl
  · obtain ⟨t, dt, nl, rfl, ht, hnl, q⟩ := h
    refine ⟨_, PSs.nox (pss_one (ps_fld (pv 0) (pe_disp (pps_cons pe_str (pe_make MK GI hr (by rfl) BC.mgC bI .nil pass0 (pa_cons pe_non (pa_cons (pe_dc (own := [("name", 2)]) (g := gName 2) (tk := tVar 2) (tv := tLst tNil) (tt := tYes) (by rfl) sc_Tree___init__.nd (pi_list (pv 1))
        (blkOk_by (own := [("name", 2)]) (N := ["self", "names", "name"]) (sc := defScope s_Tree___init__) (by decide +kernel)) (fun _ _ _ _ _ => pg_name (i := 2) sc_Tree___init__.nd rfl (Or.inl rfl)) (fun _ _ _ _ _ => pts_nil) (fun _ _ _ _ _ => pv 2)
        (fun _ _ _ _ _ => pe_lst pa_nil)) pa_nil))) pps_nil) (by rfl) (by rfl) (fun z => by cases z) (by decide)) rfl)), ?_⟩
    refine fun pd hpd => ?_
    have s0 : Same H (upd H pd (.dK [])) := same_new hpd
    refine ⟨_, rfl, nl, rfl, ⟨_, sq_l (s0 _ _ hnl)⟩, fun D hD => ?_⟩
    have nDp : D ≠ pd := fun z => by rw [z, upd_same] at hD; cases hD
    have hD0 : H D = none := by rwa [upd_ne nDp] at hD
    have sD : ∀ {G : Hp} {o : HO}, Same (upd H pd (.dK [])) G → Same (upd H pd (.dK [])) (upd G D o) := fun s => same_mut s hD
    refine dk_it (walk_list (xs := [V.str "a", V.str "b"])) (fun j G => Same (upd H pd (.dK [])) G ∧ ((j = 0 ∧ G D = some (.dK [])) ∨ (j = 1 ∧ ∃ r, G D = some (.dK [(.inr "a", .ref r)]) ∧ BagAt G r []) ∨ (j = 2 ∧ ∃ r t, G D = some (.dK (kv2 r t)) ∧ BagAt G r [] ∧ BagAt G t [])))
      ⟨same_new hD, .inl ⟨rfl, upd_same⟩⟩ (fun j G _ z => sq_l (z.1 _ _ (s0 _ _ hnl))) ?_ ?_
    · rintro j x G0 G' hj ⟨s, c⟩ ⟨rfl, hx⟩
      rcases c with ⟨rfl, hG⟩ | ⟨rfl, r, hG, hr'⟩ | ⟨rfl, _⟩
      · obtain rfl : x = .str "a" := (Option.some.inj hx).symm
        refine ⟨rfl, yes_in ⟨_, rfl, (by show 0 ≤ sizeLine; decide), fun u hu => ?_⟩⟩
        have uD : D ≠ u := ne_of_none hG hu
        refine ⟨[], .inr "a", rfl, by rw [upd_ne uD]; exact hG, (by show 0 < sizeLine; decide), sD (s.trans (same_new hu)), .inr (.inl ⟨rfl, u, upd_same, bag_nil (by rw [upd_ne uD.symm]; exact upd_same)⟩)⟩
      · obtain rfl : x = .str "b" := (Option.some.inj hx).symm
        refine ⟨rfl, yes_in ⟨_, rfl, (by show 0 ≤ sizeLine; decide), fun u hu => ?_⟩⟩
        have uD : D ≠ u := ne_of_none hG hu
        have lk : ∀ o, LKeep (upd G' u (.lst [])) (upd (upd G' u (.lst [])) D o) := fun o => LKeep.upd (o := .dK [(.inr "a", .ref r)]) (by rw [upd_ne uD]; exact hG) (fun _ z => by cases z) (fun _ z => by cases z)
        exact ⟨_, .inr "b", rfl, by rw [upd_ne uD]; exact hG, (by show 1 < sizeLine; decide), sD (s.trans (same_new hu)), .inr (.inr ⟨rfl, r, u, upd_same, (hr'.mono (same_new hu)).lk (lk _), bag_nil (by rw [upd_ne uD.symm]; exact upd_same)⟩)⟩
      · exact absurd hj (by show ¬ (2 < 2); decide)
    · rintro G1 ⟨s1, c⟩
      rcases c with ⟨z, _⟩ | ⟨z, _⟩ | ⟨_, r, v, h1, h2, h3⟩
      · cases z
      · cases z
      refine fun x dx nx ndx dxx => ?_
      have k0 : ∀ a o, G1 a = some o → upd (upd G1 dx (.own x)) x (.ins CB dx []) a = some o := fun a o e => by
        rw [upd_ne (ne_of_none e nx), upd_ne (ne_of_none e ndx)]
        exact e
      refine ⟨x, dx, D, .non, _, rfl, upd_same, k0 _ _ h1, fun H' e1a e1b n1 n2 n12 e1 e2 e3 kk => ⟨rfl, ?_⟩⟩
      have back : ∀ {a : Addr}, upd (upd G1 dx (.own x)) x (.ins CB dx []) a = none → G1 a = none := fun {a} h => by
        cases z : G1 a with
        | none => rfl
        | some o => rw [k0 _ _ z] at h; cases h
      have back0 : ∀ {a : Addr}, G1 a = none → H a = none ∧ a ≠ pd := fun {a} h => by
        refine ⟨?_, fun z => ?_⟩
        · cases z : H a with
          | none => rfl
          | some o => rw [s1 _ _ (s0 _ _ z)] at h; cases h
        · rw [z, s1 _ _ upd_same] at h
          cases h
      have k1 : ∀ a o, G1 a = some o → H' a = some o := fun a o e => kk a o (ne_of_none e nx) (k0 a o e)
      have hpd' : H' pd = some (.dK []) := k1 _ _ (s1 _ _ upd_same)
      refine ⟨hpd', [(.inr "trunk", .ref x)], rfl, (by show 1 ≤ 15; decide), ?_⟩
      have tpd : t ≠ pd := ne_of_none ht hpd
      have hkt : H' t = some (.ins CT dt []) := k1 _ _ (s1 _ _ (s0 _ _ ht))
      refine ⟨_, rfl, t, CT, dt, [], rfl, by rw [upd_ne tpd]; exact hkt, TC.cl, TC.nB, by decide, ?_⟩
      obtain ⟨x0, xpd⟩ := back0 nx
      obtain ⟨b0, bpd⟩ := back0 (back n2)
      obtain ⟨a0, apd⟩ := back0 (back n1)
      have tx : x ≠ t := fun z => by rw [z, ht] at x0; cases x0
      have tb : e1b ≠ t := fun z => by rw [z, ht] at b0; cases b0
      have ta : e1a ≠ t := fun z => by rw [z, ht] at a0; cases a0
      have fin : ∀ {a : Addr} {o : HO}, a ≠ t → a ≠ pd → H' a = some o → ∀ u v, upd (upd H' pd u) t v a = some o := fun h1 h2 h u v => by rw [upd_ne h1, upd_ne h2]; exact h
      have lk : ∀ u v, LKeep H' (upd (upd H' pd u) t v) := fun u v => (LKeep.upd hpd' (fun _ z => by cases z) (fun _ z => by cases z)).trans (LKeep.upd (o := .ins CT dt []) (by rw [upd_ne tpd]; exact hkt) (fun _ z => by cases z) (fun _ z => by cases z))
      have s2 : ∀ {p : Addr}, BagAt G1 p [] → BagAt H' p [] := fun h => h.lk ⟨fun a xs e => k1 _ _ e, fun a xs e => k1 _ _ e⟩
      refine q ⟨t, dt, pd, fun _ => x, fun _ => dx, fun k _ => if k = 0 then e1b else e1a⟩ _ rfl (fun a o na ha => ?_) (fun a ha => ?_) ⟨upd_same, ?_, fun i hi => ?_, fun i hi => ?_, fun i hi => ?_, fun i hi j hj _ => ?_, fun k hk i hi k' hk' j hj e => ?_, fun k hk i hi => ?_⟩
      · exact fin na (ne_of_none ha hpd) (k1 _ _ (s1 _ _ (s0 _ _ ha))) _ _
      · rcases ha with z | ⟨k', _, _, _, z⟩
        · rw [z]
          exact hpd
        · have z' : a = if k' = 0 then e1b else e1a := z
          rw [z']
          split <;> assumption
      · show upd (upd H' pd _) t _ pd = _
        rw [upd_ne tpd.symm, upd_same]
        rfl
      · obtain rfl : i = 0 := by have : i < 1 := hi; omega
        exact fin tx xpd e3 _ _
      · exact ⟨r, v, fin tb bpd e2 _ _, (s2 h2).lk (lk _ _), (s2 h3).lk (lk _ _)⟩
      · exact ⟨r, v, fin ta apd e1 _ _, (s2 h2).lk (lk _ _), (s2 h3).lk (lk _ _)⟩
      · have h1 : i < 1 := hi
        have h2 : j < 1 := hj
        omega
      · have h1 : i < 1 := hi
        have h2 : j < 1 := hj
        refine ⟨?_, by omega⟩
        have e' : (if k = 0 then e1b else e1a) = if k' = 0 then e1b else e1a := e
        by_cases z : k = 0 <;> by_cases z' : k' = 0
        · omega
        · rw [if_pos z, if_neg z'] at e'
          exact absurd e'.symm n12
        · rw [if_neg z, if_pos z'] at e'
          exact absurd e' n12
        · omega
      · show (if k = 0 then e1b else e1a) ≠ pd
        split <;> assumption
end
end KA
set_option Elab.async false
set_option linter.all false
set_option maxRecDepth 100000
set_option maxHeartbeats 4000000
/-! several except clauses that name what they catch; isinstance of a caught exception that has a dict -/
namespace KA
open PySem PySem.Spec PyProof.Rows L2
def wNamed (K : PySem.W.Frag) (i : Nat) (out : WX) (D : Ends) : List (Value × (Addr → Value → Option Addr → TS)) → WX
  | [] => out
  | (c, ts) :: rest => fun cls d τ G => ∃ y, PySem.W.exmOne K cls c = some y ∧ (y = true → ∀ a, G a = none → ts a cls d { nx := fun τ' G' => D.nx (τ'.set i none) G', rt := D.rt, bk := fun τ' G' => D.bk (τ'.set i none) G', ct := fun τ' G' => D.ct (τ'.set i none) G' } (τ.set i (some (.ref a))) G) ∧
    (y = false → wNamed K i out D rest cls d τ G)
inductive NamedH (X : Cx) (n : Str) : List ExceptHandler → List (Value × (Addr → Value → Option Addr → TS)) → Prop where
  | nil : NamedH X n [] []
  | cons {x : Str} {c : Value} {ts : Addr → Value → Option Addr → TS} {b0 : Stmt} {su : List Stmt} {np ps : Pos} {hr : List ExceptHandler} {lr : List (Value × (Addr → Value → Option Addr → TS))} (nm : Names X x c)
      (go : ∀ (a : Addr) (oa : Obj) (cls : Value) (d : Option Addr) (pl : List (Addr × Obj)), Zc cls d oa → (∃ fs, oa.data = .fields fs) → PSs (X.suite a ((a, oa) :: pl)) (b0 :: su) (ts a cls d)) (more : NamedH X n hr lr) :
      NamedH X n (.ExceptHandler (some (.Name x np)) (some n) (b0 :: su) ps :: hr) ((c, ts) :: lr)
section
variable {X : Cx} {n : Str} {i : Nat} {body : List Stmt} {h0 : ExceptHandler} {hr : List ExceptHandler} {l : List (Value × (Addr → Value → Option Addr → TS))} {pos : Pos} {tb : WX → TS} {out : WX}
theorem ps_try_named (stk : X.stack = X.env :: X.outer) (frm : X.env.frame = some X.env.locals) (nodup : X.N.Nodup) (slot : X.N[i]? = some n) (lcl : X.env.kindOf n = some .local) (tk : Takes X out)
    (run : ∀ (W : WX) (pl : List (Addr × Obj)) (xe : Value → Shared → Prop), Takes (X.tr pl xe) W → PassesOwn (model X.prog X.w) X.A X.env xe → PSs (X.tr pl xe) body (tb W))
    (hh : NamedH X n (h0 :: hr) l) : PS X (.Try body (h0 :: hr) [] [] pos) (fun D τ G => tb (wNamed X.K i out D l) D τ G) := by
  refine ⟨fun pins s τ G D I h => ?_⟩
  have well := I.ok
  have frames : X.A.frames = some (X.env :: X.outer) := by rw [well.frames, stk]
  have place : Loc X.env.scope n := .inl lcl
  refine wpAny_Try_except ?_
  refine wpAny_mono ((run (wNamed X.K i out D l) (X.pn ++ pins) (fun e s1 => wpAny (model X.prog X.w) X.A (noteFrame e X.env) (fun _ s2 => wpAny (model X.prog X.w) X.A (setFlight e none) (fun _ s3 => wpAny (model X.prog X.w) X.A (handleBy e X.env (h0 :: hr)) (SP X pins D) X.xe s3) X.xe s2) X.xe s1)
    (fun u s' caught => ?_) PassesOwn.looking).run [] s τ G D (I.toTry _) h) (fun f s1 fine => ?_) (fun e s1 z => z)
  · obtain ⟨a, B, sI, pins', τ', G', cls, d, rfl, Jt, nb, up, sky, na, osEq, bare, w⟩ := caught
    have J : Inv X pins τ' G' sI := Jt.ofTry well
    have skyX : Sky B (X.env :: X.outer) a (Zc cls d) X.env.locals s'.heap := by rw [← stk]; exact sky
    show wpAny (model X.prog X.w) X.A (noteFrame (.ref a) X.env) _ _ _
    refine Sky.land Zc.steady frames frm skyX fun hA flA upA => ?_
    have JA : Inv X pins τ' G' { s' with heap := hA } := J.landed nb flA.1 (up.trans upA) osEq bare
    obtain ⟨oa, fsA, atA, zA, dA⟩ := flA.there
    have notFrame : a ∉ frs (X.env :: X.outer) := fun mem => by
      obtain ⟨_, o', e', hnf⟩ := flA.2.2.1.mem mem
      rw [atA] at e'
      cases e'
      exact hnf _ dA
    have nL : a ≠ X.env.locals := fun z => notFrame (List.mem_filterMap.mpr ⟨X.env, List.mem_cons_self, by rw [frm, z]⟩)
    have nF : a ∉ X.fs := fun mem => by
      obtain ⟨e, he, q⟩ := List.mem_filterMap.mp mem
      exact notFrame (List.mem_filterMap.mpr ⟨e, List.mem_cons_of_mem _ he, q⟩)
    have SA := JA.suite atA dA na nL nF
    suffices each : ∀ {hs : List ExceptHandler} {ls : List (Value × (Addr → Value → Option Addr → TS))}, NamedH X n hs ls → wNamed X.K i out D ls cls d τ' G' → wpAny (model X.prog X.w) X.A (handleBy (.ref a) X.env hs) (SP X pins D) X.xe { s' with heap := hA } from each hh w
    intro hs ls named
    induction named with
    | nil =>
      intro way
      refine wpAny_handleBy_nil ?_
      obtain ⟨c1, c2, c3, o4, fs4, T4, oT4, ts4, at4, z4, d4, first4, r4⟩ := id flA
      unfold PySem.passOn
      refine wpAny_bind (wpAny_field at4 d4 first4 ?_)
      have isRef : ¬ ((Value.ref T4 == Value.none) = true) := by simp
      rw [if_neg isRef]
      have thrown : wpAny (model X.prog X.w) X.A (setFlight (.ref a) X.env.frame) (fun _ s4 => wpAny (model X.prog X.w) X.A (throw (.ref a) : Sem Flow) (SP X pins D) X.xe s4) X.xe { s' with heap := hA } := by
        rw [frm]
        exact HandSPX.setFlight_upZ flA fun hB inB upB => wpAny_throw (tk _ _ ⟨a, B, sI, pins, τ', G', cls, d, rfl, J, nb, (up.trans upA).trans upB, .inr (.inr (by rw [stk]; exact inB)), na, osEq, bare, way⟩)
      first
        | exact wpAny_bind (wpAny_pure (wpAny_bind thrown))
        | exact wpAny_bind thrown
    | @cons x c ts b0 su np ps hr2 lr2 nm go more ih =>
      intro way
      obtain ⟨y, says, yes, no⟩ := way
      refine wpAny_handleBy_cons (codeAny_handlers_test ?_) (by intro q; cases q)
      have kind : PySem.W.Looks (model X.prog X.w) hA (typeOf (.ref a)) cls := fun A Q E s k q => wpAny_typeOf_ref (k _ _ atA) (by rw [zA.1]; exact q)
      have fits := PySem.W.exm_one (M := model X.prog X.w) (JA.kIn) kind says
      have look : ∀ {Q : Value → Shared → Prop} {E : Value → Shared → Prop}, Q c { s' with heap := hA } → wpAny (model X.prog X.w) (X.A.mark (some (.ref a))) (eval (.Name x np) X.env) Q E { s' with heap := hA } := fun {Q E} q => by
        obtain ⟨hg, hdbg, hm | ⟨hm, hv, hnn⟩⟩ := nm
        · exact ld_glob (X := X.suite a ((a, oa) :: (X.pn ++ pins))) SA hg hm q hdbg
        · exact ld_blt (X := X.suite a ((a, oa) :: (X.pn ++ pins))) SA hg hm hv q hnn hdbg
      refine look (fits.here ?_)
      cases y with
      | false => exact ih (no rfl)
      | true =>
        refine codeAny_handlers_suite_as ?_
        refine HandSPX.lands_againZ flA fun hB flB upB => ?_
        have JB : Inv X pins τ' G' { s' with heap := hB } := J.landed nb flB.1 ((up.trans upA).trans upB) osEq bare
        obtain ⟨ob, fsB, atB, zB, dB⟩ := flB.there
        have SB := JB.suite atB dB na nL nF
        refine store_ok (X := X.suite a ((a, ob) :: (X.pn ++ pins))) (v := .ref a) SB nodup slot place rfl (fun s5 S5 => ?_) (.inr lcl)
        refine wpAny_mono ((go a ob cls d (X.pn ++ pins) zB ⟨_, dB⟩).run [] s5 _ G' _ S5 (yes rfl a na)) (fun f s6 fine => ?_) (fun _ _ z => False.elim z)
        have letGo : ∀ {τ6 : L2.St} {G6 : Hp} {Q : Shared → Prop}, Inv (X.suite a ((a, ob) :: (X.pn ++ pins))) [] τ6 G6 s6 → (∀ s7, Inv X pins (τ6.set i none) G6 s7 → Q s7) → wpAny (model X.prog X.w) X.A (do bindName X.env n .none; unbindBehindTheSuite X.env n ps) (fun _ s7 => Q s7) X.xe s6 :=
          fun {τ6 G6 Q} S6 hq => gone_ok (S6.unsuite well) nodup slot lcl hq
        cases f with
        | ret u =>
          obtain ⟨v6, τ6, G6, S6, r6, q6⟩ := fine
          exact letGo S6 fun s7 J7 => ⟨_, _, _, J7, r6, q6⟩
        | next =>
          obtain ⟨τ6, G6, S6, q6⟩ := fine
          exact letGo S6 fun s7 J7 => ⟨_, _, J7, q6⟩
        | brk =>
          obtain ⟨τ6, G6, S6, q6⟩ := fine
          exact letGo S6 fun s7 J7 => ⟨_, _, J7, q6⟩
        | cont =>
          obtain ⟨τ6, G6, S6, q6⟩ := fine
          exact letGo S6 fun s7 J7 => ⟨_, _, J7, q6⟩
  · cases f with
    | ret u =>
      obtain ⟨v, τ', G', J', r, q⟩ := fine
      exact ⟨v, τ', G', J'.ofTry well, r, q⟩
    | next =>
      obtain ⟨τ', G', J', q⟩ := fine
      exact wpAny_execs_nil ⟨τ', G', J'.ofTry well, q⟩
    | brk =>
      obtain ⟨τ', G', J', q⟩ := fine
      exact ⟨τ', G', J'.ofTry well, q⟩
    | cont =>
      obtain ⟨τ', G', J', q⟩ := fine
      exact ⟨τ', G', J'.ofTry well, q⟩
end
end KA
set_option Elab.async false
set_option linter.all false
set_option maxRecDepth 100000
set_option maxHeartbeats 4000000
/-! isinstance of a caught exception that has a dict -/
namespace KA
open PySem PySem.Spec PySem.Calls PyProof.Rows L2
open PySem.W (looks_findIn looks_subIn looks_find InstAt)
section
variable {prog : Program} {w : World} {A : Around} {E : Value → Shared → Prop} {s : Shared} {K : PySem.W.Frag} {x D : Addr} {ox : Obj} {od : Option Obj}
theorem class_found (T : ExcC K D) : PySem.W.findObj K D od "__class__" = some (.bind (.builtin "getset_descriptor.__get__") (.builtin "object.__class__")) := by
  obtain ⟨cd, hc, _⟩ := PySem.W.any_some T.hd
  unfold PySem.W.findObj
  rw [hc, Option.bind_some, T.ha, Option.bind_some]
  simp [T.hn, T.ht]
theorem class_asked {Q : Option Value → Shared → Prop} (T : ExcC K D) (inK : K.In s.heap) (I : InstAt s.heap x ox D od) (q : Q (some (.ref D)) { s with toks := s.toks + 1 }) : wpAny (model prog w) A (getAttr? (.ref x) "__class__") Q E s := by
  obtain ⟨hp, g, dr, t, os⟩ := s
  have ty := I.type (M := model prog w)
  have l1 := looks_findIn (M := model prog w) inK T.hg
  have l2 := looks_findIn (M := model prog w) inK T.hk
  have l3 := looks_find (M := model prog w) inK I (class_found T)
  have isExc : PySem.W.Looks (model prog w) hp (isInstance (.ref x) (.type "BaseException")) true := ty.andThen (looks_subIn inK T.hs)
  have c0 : (false && onTheHeap (Value.builtin "BaseException.__getattribute__")) = false := rfl
  have c1 : (Value.builtin "BaseException.__getattribute__" == Value.builtin "object.__getattribute__") = false := by decide +kernel
  have c2 : (onTheHeap (Value.ref D) && Value.builtin "BaseException.__getattribute__" == Value.builtin "object.__getattribute__") = false := by rw [c1]; rfl
  unfold getAttr? getAttrBy? getAttrBy
  refine wpAny_bind (wpAny_mkText (wpAny_bind (wpAny_attempt (wpAny_holding (wpAny_bind (ty.at (wpAny_bind (l1.at ?_))))))))
  show wpAny _ _ (if (onTheHeap (Value.ref D) && Value.builtin "BaseException.__getattribute__" == Value.builtin "object.__getattribute__") = true then _ else _) _ _ _
  rw [c2, if_neg Bool.false_ne_true]
  unfold getAttrByItsOwn hookBefore
  refine wpAny_bind ?_
  have onHeap : onTheHeap (Value.ref D) = true := rfl
  rw [if_pos onHeap]
  refine l2.at ?_
  refine wpAny_bind (wpAny_attempt (wpAny_holding ?_))
  unfold callGetattribute
  rw [c0, if_neg Bool.false_ne_true]
  unfold boundAndCalled
  rw [PySem.F.excAttr_ValueError.ga.bind (.ref x)]
  refine wpAny_bind (wpAny_pure ?_)
  show wpAny _ _ (call (.builtin "BaseException.__getattribute__") [.ref x, .str "__class__" t]) _ _ _
  refine wpAny_call (codeAny_call_builtin PySem.F.excAttr_ValueError.ga.plain PySem.F.entry_bexc_ga ?_)
  refine @PySem.W.check_slot (model prog w) _ _ ⟨hp, g, dr, t + 1, os⟩ "BaseException.__getattribute__" "BaseException" "__getattribute__" (.ref x) [.str "__class__" t] [] _ (by decide +kernel) (by decide +kernel) isExc (PySem.F.args_bexc_ga (.ref x) (.str "__class__" t)) ?_
  unfold Builtin.«object.__getattribute__»
  refine wpAny_bind (wpAny_of_eq (a := ((Value.ref x : Value), [Value.str "__class__" t])) (by first | rfl | (simp only [slotArgs]; rfl)) ?_)
  refine wpAny_bind (wpAny_pure (wpAny_bind (ty.at (wpAny_bind (l3.at ?_)))))
  show wpAny _ _ (holding [Value.builtin "object.__class__"] (call (.builtin "getset_descriptor.__get__") [.builtin "object.__class__", .ref x, .ref D]) >>= ret) _ _ _
  refine wpAny_bind (wpAny_holding (wpAny_call (PySem.W.class_get (s := ⟨hp, g, dr, t + 1, os⟩) (ox := ox) (od := od) inK I T.hm ?_)))
  refine wpAny_pure ?_
  show wpAny _ _ (handedOut (.ref D)) _ _ _
  rw [PySem.W.handedOut_of (v := .ref D) rfl]
  first
    | exact wpAny_pure (wpAny_pure q)
    | exact wpAny_pure q
    | exact wpAny_pure (wpAny_bind (wpAny_pure (wpAny_pure q)))
theorem kit_exc (T : ExcC K D) : PySem.W.KitX K (.ref x) (.ref D) (fun h => InstAt h x ox D od) where
  ty := fun _ _ _ I => I.type
  it := fun _ _ inK _ => by
    obtain ⟨cd, hc, _⟩ := PySem.W.any_some T.hd
    unfold PySem.W.clsIn at hc
    split at hc
    · rename_i c5 d5 cd5 sl5 at5
      intro A5 Q5 E5 s5 k q
      unfold isType loadHead
      exact wpAny_bind (wpAny_loadPart (k _ _ (inK _ _ at5)) (wpAny_pure q))
    · cases hc
  ne := fun h tp dd its n sl inK htp => by
    obtain ⟨cd, hc, _⟩ := PySem.W.any_some T.hd
    refine Bool.eq_false_iff.mpr fun q => ?_
    have same : D = tp := Value.ref.inj (beq_iff_eq.mp q)
    subst same
    unfold PySem.W.clsIn at hc
    split at hc
    · rename_i c5 d5 cd5 sl5 at5
      have z := (inK _ _ at5).symm.trans htp
      cases z
    · cases hc
  ca := fun inK I k => class_asked T inK I k
end
/-- isinstance(e, c), e the caught exception, which has the dict dd -/
def rIsX (K : PySem.W.Frag) (cls : Value) (d : Option Addr) (a : Addr) : List V → Hp → VK → Prop := fun xs H Q => ∃ (D dd : Addr) (c : V) (cv : Value) (y : Bool) (fs : List (Str × V)), cls = .ref D ∧ d = some dd ∧ ExcC K D ∧ xs = [.ref a, c] ∧ (∀ u, RelV c u → u = cv) ∧ PySem.W.kitOne K (.ref D) cv = some y ∧ H dd = some (.xd fs) ∧ Q (.bl y) H
theorem call_isX {X : Cx} {a : Addr} {cls : Value} {d : Option Addr} {oe : Obj} {pl : List (Addr × Obj)} (hz : Zc cls d oe) (hf : ∃ fs, oe.data = .fields fs) : CallR (X.suite a ((a, oe) :: pl)) (.builtin "isinstance") (rIsX X.K cls d a) := by
  intro pins s σ H xs us Q I r h
  obtain ⟨D, dd, c, cv, y, fs, rfl, rfl, T, rfl, hcv, e, hd, q⟩ := h
  cases r with
  | cons rx rr =>
    cases rr with
    | cons rt rr =>
      cases rr
      cases rx
      have ec := hcv _ rt
      subst ec
      obtain ⟨hget, _⟩ := I.pin (a, oe) (List.mem_append.mpr (.inl List.mem_cons_self))
      obtain ⟨vs, hv⟩ := hf
      have hx : ObjOk X.prog X.w H s.heap dd (.xd fs) := I.hok dd _ hd
      obtain ⟨mA, hns, _⟩ := hx
      obtain ⟨od, ho, _⟩ := lookIn_ns hns
      have J : InstAt s.heap a oe D (some od) := ⟨hget, hz.1, by unfold PySem.W.notCls; rw [hv] <;> rfl, by rw [hz.2]; exact ho⟩
      exact PySem.W.kia_one (kit_exc T) I.kIn J e (fun z => nomatch z) fun tk => ⟨.bl y, H, I.kept (t' := tk) fun _ _ z => z, rfl, q⟩
end KA
set_option Elab.async false
set_option linter.all false
set_option maxRecDepth 100000
set_option maxHeartbeats 4000000
/-! what a refused call tells -/
namespace KA
open PySem PySem.Spec PyProof.Rows L2
open PySem.W (EachIs)
/-- o.m(e, ..) whose way out may look at the slots -/
def tMethW (C : Addr) (m : Str) (sp : Sp) (E : L2.St → XK) (to : TE) (t : TA) : TE := fun τ H Q => to τ H fun x G => ∃ (a dx : Addr) (fs : List (Str × V)), x = .ref a ∧ G a = some (.ins C dx fs) ∧ fs.lookup m = none ∧ t τ G fun vs G2 => sp (x :: vs) G2 Q (E τ)
theorem pe_methW {X : Cx} {CX : CXT} {k : Nat} {g C : Addr} {fd : FuncData} {ps : List Str} {sp : Sp} {E : L2.St → XK} {m : Str} {apos pos : Pos} {e o : Expr} {es : List Expr} {to : TE} {t : TA} {pl : Sem Bool} (ho : PE X o to) (c : Cls X.K C) (hm : Meth X.K C m g) (F : FnOk X.prog X.w X.K X.mg X.base CX k g fd ps sp)
    (hr : Room k X.A) (hb : Binds X.K fd ps []) (way : ∀ τ, PassesAt CX X τ (E τ)) (ha : PA X (e :: es) t) (star : starEach (e :: es) X.env = (false, eval e X.env) :: starEach es X.env := by rfl) (plain : (backTo pos (starEach es X.env)).any (·.1) = false := by rfl)
    (tree : eval (.Call (.Attribute o m apos) (e :: es) [] pos) X.env = (do
      let v0 ← eval o X.env
      standAt apos.atName
      let (fn, one) ← holding [v0] (getMethod v0 m pl)
      callWith pos fn one (backTo pos (starEach (e :: es) X.env)) (backToKw pos (keywordEach [] X.env))) := by rfl) :
    PE X (.Call (.Attribute o m apos) (e :: es) [] pos) (tMethW C m sp E to t) := by
  refine ⟨fun pins s τ H Q I h => ?_⟩
  refine PySem.W.methodCall_KW (pl := pl) (thn (ho.run pins s τ H _ I h) fun u s1 got => ?_) tree
  obtain ⟨x, G, J, rx, a, dx, fs, ex, ea, none, q⟩ := got
  subst ex
  obtain rfl : u = Value.ref a := rx
  refine getmeth_ok J ea c hm none ?_
  refine PySem.W.callWith_K (first := [.ref a]) (h₀ := X.base) J.ok.mod.kin hm.kp (thn (ha.run pos pins s1 τ G _ J q) fun us s2 args => ?_) star plain
  obtain ⟨vs, G2, J2, r2, q2⟩ := args
  exact ⟨J2.kIn, run_fnS (us := .ref a :: us) (vs := .ref a :: vs) F hr hb (way τ) J2 (.cons rfl r2) q2⟩
/-- a class of errors, as the law catches it -/
structure CatC (K : PySem.W.Frag) (C LE : Addr) : Prop where
  xc : ExcC K C
  xf : XfC K C
  no : PySem.W.findIn K (.ref C) "name" = some none
  is : PySem.W.kitOne K (.ref C) (.ref LE) = some true
section
variable {P : Program} {w : World} {K : PySem.W.Frag} {mg : Str → Option Value} {base : Heap} {f : Addr} {fd : FuncData}
theorem scTold : FnScope ["tree", "kind", "first", "second", "e"] ["tree", "kind", "first", "second"] (defScope s__law_told) := ⟨rfl, rfl, rfl, by decide +kernel, rfl, by decide +kernel, by decide +kernel⟩
/-- the suites' reading -/
def tSay (K : PySem.W.Frag) (LE C : Addr) (pre : Str) (a : Addr) (cls : Value) (d : Option Addr) : TS := tRet (tIf (tB (tCB (rIsX K cls d a) (tCons (tVar 4) (tCons (tC (.ref LE)) tNil))))
  (tOp (fun x y H Q => ∃ i j, x = V.str i ∧ y = V.str j ∧ i.length + j.length ≤ sizeLine ∧ Q (V.str (i ++ j)) H) (tC (.str pre)) (tXf a cls d C "name" (tVar 4))) (tC (.str "wrong")))
theorem say_ok {K : PySem.W.Frag} {LE C a d : Addr} {pre n : Str} {σ : L2.St} {G : Hp} {D : Ends} (T : CatC K C LE) (hσ : σ[4]? = some (some (.ref a))) (hd : G d = some (.xd [("name", .str n)])) (hp : pre.length ≤ 100) (hn : n.length ≤ 1000) (h : D.rt (.str (pre ++ n)) G) : tSay K LE C pre a (.ref C) (some d) D σ G := by
  refine ⟨_, hσ, C, d, .ref LE, _, true, _, rfl, rfl, T.xc, rfl, (fun u z => z), T.is, hd, ?_⟩
  refine ⟨true, rfl, ?_⟩
  show (if true = true then _ else _)
  rw [if_pos rfl]
  refine ⟨_, hσ, rfl, rfl, d, _, _, rfl, hd, rfl, pre, n, rfl, rfl, ?_, h⟩
  rw [sizeLine_eq]
  omega
abbrev tellW (K : PySem.W.Frag) (LE NT NU : Addr) (D : Ends) : WX := wNamed K 4 (fun _ _ _ _ => False) D [(.ref NT, tSay K LE NT "taken "), (.ref NU, tSay K LE NU "unknown ")]
theorem out_NU {K : PySem.W.Frag} {LE NT NU : Addr} {D : Ends} {σ : L2.St} {H : Hp} {n : Str} (CU : CatC K NU LE) (e2 : PySem.W.exmOne K (.ref NU) (.ref NT) = some false) (e3 : PySem.W.exmOne K (.ref NU) (.ref NU) = some true) (hσ : 4 < σ.length) (hn : n.length ≤ 1000)
    (h : ∀ G, Same H G → D.rt (.str ("unknown " ++ n)) G) : Out NU n H (WE (tellW K LE NT NU D) σ) := fun d hd =>
  ⟨false, e2, (fun z => nomatch z), fun _ => ⟨true, e3, fun _ a ha => say_ok CU (by rw [List.getElem?_set_self hσ]) upd_same (by decide) hn (h _ (same_new hd)), (fun z => nomatch z)⟩⟩
theorem out_NT {K : PySem.W.Frag} {LE NT NU : Addr} {D : Ends} {σ : L2.St} {H : Hp} {n : Str} (CN : CatC K NT LE) (e1 : PySem.W.exmOne K (.ref NT) (.ref NT) = some true) (hσ : 4 < σ.length) (hn : n.length ≤ 1000)
    (h : ∀ G, Same H G → D.rt (.str ("taken " ++ n)) G) : Out NT n H (WE (tellW K LE NT NU D) σ) := fun d hd =>
  ⟨true, e1, fun _ a ha => say_ok CN (by rw [List.getElem?_set_self hσ]) upd_same (by decide) hn (h _ (same_new hd)), (fun z => nomatch z)⟩
/-- why a call is refused, and what is told -/
def Due (S : Stt) (kind : Int) (n m : Str) (due : Str) : Prop :=
  ((∀ i, i < S.n → S.nm i ≠ n) ∧ due = "unknown " ++ n) ∨ ((kind = 0 ∨ kind = 4) ∧ (∃ i, i < S.n ∧ S.nm i = n) ∧ ¬ isAB m ∧ due = "unknown " ++ m) ∨ (kind = 1 ∧ (∃ i, i < S.n ∧ S.nm i = n) ∧ (∃ j, j < S.n ∧ S.nm j = m) ∧ due = "taken " ++ m) ∨ (kind = 2 ∧ S.nm 0 = n ∧ due = "unknown " ++ n)
def spTold (CT CB : Addr) : Sp := fun vs H Q _ => ∃ (G : Geo) (S : Stt) (kind : Int) (n m due : Str), vs = [.ref G.t, .int kind, .str n, .str m] ∧ 0 ≤ kind ∧ kind ≤ 4 ∧ n.length ≤ 1000 ∧ m.length ≤ 1000 ∧ TreeAt CT CB H G S ∧ SOk S ∧ Due S kind n m due ∧ ∀ H', Same H H' → Q (.str due) H'
theorem ok_told {CT CB NU NT LE : Addr} (F : FnP K "_law_told" s__law_told f fd) (TC : TrC K mg CT) (gI : mg "isinstance" = none) (gL : mg "LoomError" = some (.ref LE)) (XU : ExC P w K mg base "NameUnknown" NU) (XT : ExC P w K mg base "NameTaken" NT) (CU : CatC K NU LE) (CN : CatC K NT LE)
    (e1 : PySem.W.exmOne K (.ref NT) (.ref NT) = some true) (e2 : PySem.W.exmOne K (.ref NU) (.ref NT) = some false) (e3 : PySem.W.exmOne K (.ref NU) (.ref NU) = some true)
    (MF : MethG P w K mg base (L2.CX P w) CT "feed" 7 ["self", "branch", "name", "change"] (spFeed CT CB NU)) (MK : MethG P w K mg base (L2.CX P w) CT "fork" 4 ["self", "parent", "branch"] (spFork CT CB NU NT)) (MM : MethG P w K mg base (L2.CX P w) CT "merge" 9 ["self", "branch"] (spMerge CT CB NU))
    (MI : MethG P w K mg base (L2.CX P w) CT "inputs" 4 ["self", "branch"] (spInputs CT CB NU)) (MC : MethG P w K mg base (L2.CX P w) CT "change" 9 ["self", "branch", "name"] (spChange CT CB NU)) : FnOk P w K mg base CX0 10 f fd ["tree", "kind", "first", "second"] (spTold CT CB) := by
  obtain ⟨f1, d1, m1, G1, b1⟩ := MF.ex
  obtain ⟨f2, d2, m2, G2, b2⟩ := MK.ex
  obtain ⟨f3, d3, m3, G3, b3⟩ := MM.ex
  obtain ⟨f4, d4, m4, G4, b4⟩ := MI.ex
  obtain ⟨f5, d5, m5, G5, b5⟩ := MC.ex
  refine F.ok scTold (fun vs H Q E h => ?_) (fun cdv A outer s H vs Q E hr h => ?_)
  · obtain ⟨G, S, kind, n, m, due, rfl, _⟩ := h
    rfl
  · obtain ⟨G, S, kind, n, m, due, rfl, k0, k4, hn, hm, T, O, hdue, q⟩ := h
    refine ⟨_, PSs.nox (pss_cons (ps_try_named (i := 4) (n := "e") rfl rfl scTold.nd rfl rfl takes0 (fun W pl xe tk _ =>
        pss_one (ps_if (pt_cmpR op_eq (pv 1) pe_int (nomark _)) (pss_one (ps_expr (pe_methW (pv 0) TC.cl m1 G1 hr.lt b1 (fun τ => passAt tk τ) (pa_cons (pv 2) (pa_cons (pv 3) (pa_cons (pe_lst (pa_cons (pe_tup (pa_cons (pe_tup (pa_cons pe_int pa_nil)) (pa_cons pe_int pa_nil))) pa_nil)) pa_nil))))))
        (pss_one (ps_if (pt_cmpR op_eq (pv 1) pe_int (nomark _)) (pss_one (ps_expr (pe_methW (pv 0) TC.cl m2 G2 hr.lt b2 (fun τ => passAt tk τ) (pa_cons (pv 2) (pa_cons (pv 3) pa_nil)))))
        (pss_one (ps_if (pt_cmpR op_eq (pv 1) pe_int (nomark _)) (pss_one (ps_expr (pe_methW (pv 0) TC.cl m3 G3 hr b3 (fun τ => passAt tk τ) (pa_cons (pv 2) pa_nil))))
        (pss_one (ps_if (pt_cmpR op_eq (pv 1) pe_int (nomark _)) (pss_one (ps_expr (pe_methW (pv 0) TC.cl m4 G4 hr.lt b4 (fun τ => passAt tk τ) (pa_cons (pv 2) pa_nil))))
          (pss_one (ps_expr (pe_methW (pv 0) TC.cl m5 G5 hr b5 (fun τ => passAt tk τ) (pa_cons (pv 2) (pa_cons (pv 3) pa_nil)))))))))))))
        (.cons (c := .ref NT) ⟨rfl, by decide, .inl XT.mgC⟩ (fun a oe cls d pl hz hf => pss_one (ps_ret (pe_ifExp (pt_val (pe_callB (call_isX hz hf) (by rfl) gI (by decide +kernel) (pa_cons (pv 4) (pa_cons (pe_glob (v := .ref LE) rfl gL rfl) pa_nil)))) (pe_op op_add_str pe_str (pe_xf CN.xf CN.no hz hf (pv 4))) pe_str)))
        (.cons (c := .ref NU) ⟨rfl, by decide, .inl XU.mgC⟩ (fun a oe cls d pl hz hf => pss_one (ps_ret (pe_ifExp (pt_val (pe_callB (call_isX hz hf) (by rfl) gI (by decide +kernel) (pa_cons (pv 4) (pa_cons (pe_glob (v := .ref LE) rfl gL rfl) pa_nil)))) (pe_op op_add_str pe_str (pe_xf CU.xf CU.no hz hf (pv 4))) pe_str)))
        .nil)))
      (pss_one (ps_ret pe_str))), ?_⟩
    have hk : kind = 0 ∨ kind = 1 ∨ kind = 2 ∨ kind = 3 ∨ kind = 4 := by omega
    have known : ∀ {k : Str}, (∀ i, i < S.n → S.nm i ≠ k) → (∃ i, i < S.n ∧ S.nm i = k) → False := fun h ⟨i, hi, e⟩ => h i hi e
    refine ⟨_, rfl, rfl, _, rfl, ?_⟩
    rcases hk with rfl | rfl | rfl | rfl | rfl
    · refine iteT ?_
      refine ⟨_, rfl, G.t, G.dt, _, rfl, T.ht, rfl, _, rfl, _, rfl, (by show 1 ≤ sizeLine; decide), fun t1 ht1 => ⟨(by show 2 ≤ sizeLine; decide), fun t2 ht2 => ⟨(by show 1 ≤ sizeLine; decide), fun c hc => ?_⟩⟩⟩
      have s1 : Same H (upd (upd (upd H t1 (.tup [.int 1])) t2 (.tup [.ref t1, .int 1])) c (.lst [.ref t2])) := ((same_new ht1).trans (same_new ht2)).trans (same_new hc)
      have nt12 : t1 ≠ t2 := fun z => by rw [← z, upd_same] at ht2; cases ht2
      have nct1 : t1 ≠ c := fun z => by rw [← z, upd_ne nt12, upd_same] at hc; cases hc
      have nct2 : t2 ≠ c := fun z => by rw [← z, upd_same] at hc; cases hc
      have hbag : BagAt (upd (upd (upd H t1 (.tup [.int 1])) t2 (.tup [.ref t1, .int 1])) c (.lst [.ref t2])) c [([.inl 1], 1)] :=
        ⟨[t2], upd_same, .cons ⟨t1, by rw [upd_ne nct2, upd_same], by unfold RowAt; rw [upd_ne nct1, upd_ne nt12, upd_same]; rfl⟩ .nil⟩
      refine ⟨G, S, n, m, c, _, rfl, T.mono s1, O, hn, hm, hbag, by decide, (fun e he => by rw [List.mem_singleton.mp he]; decide), fun i hi e hab => ?_, fun no => ?_, fun i hi e nab => ?_⟩
      · rcases hdue with ⟨h, _⟩ | ⟨_, _, h, _⟩ | ⟨h, _⟩ | ⟨h, _⟩
        · exact absurd e (h i hi)
        · exact absurd hab h
        · omega
        · omega
      · refine out_NU CU e2 e3 (by show 4 < 5; decide) hn fun G' s' => ?_
        rcases hdue with ⟨_, h⟩ | ⟨_, h, _⟩ | ⟨h, _⟩ | ⟨h, _⟩
        · rw [← h]; exact q G' (s1.trans s')
        · exact (known no h).elim
        · omega
        · omega
      · refine out_NU CU e2 e3 (by show 4 < 5; decide) hm fun G' s' => ?_
        rcases hdue with ⟨h, _⟩ | ⟨_, _, _, h⟩ | ⟨h, _⟩ | ⟨h, _⟩
        · exact absurd e (h i hi)
        · rw [← h]; exact q G' (s1.trans s')
        · omega
        · omega
    · refine iteF ⟨_, rfl, rfl, _, rfl, iteT ?_⟩
      refine ⟨_, rfl, G.t, G.dt, _, rfl, T.ht, rfl, _, rfl, _, rfl, G, S, n, m, rfl, T, O, hn, hm, fun i hi e no => ?_, fun no => ?_, fun i hi e j hj e' => ?_⟩
      · rcases hdue with ⟨h, _⟩ | ⟨h, _⟩ | ⟨_, _, ⟨j, hj, e'⟩, _⟩ | ⟨h, _⟩
        · exact absurd e (h i hi)
        · omega
        · exact absurd e' (no j hj)
        · omega
      · refine out_NU CU e2 e3 (by show 4 < 5; decide) hn fun G' s' => ?_
        rcases hdue with ⟨_, h⟩ | ⟨h, _⟩ | ⟨_, h, _⟩ | ⟨h, _⟩
        · rw [← h]; exact q G' s'
        · omega
        · exact (known no h).elim
        · omega
      · refine out_NT CN e1 (by show 4 < 5; decide) hm fun G' s' => ?_
        rcases hdue with ⟨h, _⟩ | ⟨h, _⟩ | ⟨_, _, _, h⟩ | ⟨h, _⟩
        · exact absurd e (h i hi)
        · omega
        · rw [← h]; exact q G' s'
        · omega
    · refine iteF ⟨_, rfl, rfl, _, rfl, iteF ⟨_, rfl, rfl, _, rfl, iteT ?_⟩⟩
      refine ⟨_, rfl, G.t, G.dt, _, rfl, T.ht, rfl, _, rfl, G, S, n, rfl, T, O, hn, fun i hi e i0 => ?_, fun no => ?_, fun e => ?_⟩
      · rcases hdue with ⟨h, _⟩ | ⟨h, _⟩ | ⟨h, _⟩ | ⟨_, h, _⟩
        · exact absurd e (h i hi)
        · omega
        · omega
        · exact absurd (O.nmI i hi 0 (by have := O.n1; omega) (e.trans h.symm)) i0
      · refine out_NU CU e2 e3 (by show 4 < 5; decide) hn fun G' s' => ?_
        rcases hdue with ⟨_, h⟩ | ⟨h, _⟩ | ⟨h, _⟩ | ⟨_, h, _⟩
        · rw [← h]; exact q G' s'
        · omega
        · omega
        · exact absurd h (no 0 (by have := O.n1; omega))
      · refine out_NU CU e2 e3 (by show 4 < 5; decide) hn fun G' s' => ?_
        rcases hdue with ⟨_, h⟩ | ⟨h, _⟩ | ⟨h, _⟩ | ⟨_, _, h⟩
        · rw [← h]; exact q G' s'
        · omega
        · omega
        · rw [← h]; exact q G' s'
    · refine iteF ⟨_, rfl, rfl, _, rfl, iteF ⟨_, rfl, rfl, _, rfl, iteF ⟨_, rfl, rfl, _, rfl, iteT ?_⟩⟩⟩
      have nobr : (∀ i, i < S.n → S.nm i ≠ n) ∧ due = "unknown " ++ n := by
        rcases hdue with h | ⟨h, _⟩ | ⟨h, _⟩ | ⟨h, _⟩
        · exact h
        · omega
        · omega
        · omega
      refine ⟨_, rfl, G.t, G.dt, _, rfl, T.ht, rfl, _, rfl, G, S, n, rfl, T, O, hn, fun i hi e => absurd e (nobr.1 i hi), fun no => ?_⟩
      refine out_NU CU e2 e3 (by show 4 < 5; decide) hn fun G' s' => ?_
      rw [← nobr.2]
      exact q G' s'
    · refine iteF ⟨_, rfl, rfl, _, rfl, iteF ⟨_, rfl, rfl, _, rfl, iteF ⟨_, rfl, rfl, _, rfl, iteF ?_⟩⟩⟩
      refine ⟨_, rfl, G.t, G.dt, _, rfl, T.ht, rfl, _, rfl, _, rfl, G, S, n, m, rfl, T, O, hn, hm, fun i hi e hab => ?_, fun no => ?_, fun i hi e nab => ?_⟩
      · rcases hdue with ⟨h, _⟩ | ⟨_, _, h, _⟩ | ⟨h, _⟩ | ⟨h, _⟩
        · exact absurd e (h i hi)
        · exact absurd hab h
        · omega
        · omega
      · refine out_NU CU e2 e3 (by show 4 < 5; decide) hn fun G' s' => ?_
        rcases hdue with ⟨_, h⟩ | ⟨_, h, _⟩ | ⟨h, _⟩ | ⟨h, _⟩
        · rw [← h]; exact q G' s'
        · exact (known no h).elim
        · omega
        · omega
      · refine out_NU CU e2 e3 (by show 4 < 5; decide) hm fun G' s' => ?_
        rcases hdue with ⟨h, _⟩ | ⟨_, _, _, h⟩ | ⟨h, _⟩ | ⟨h, _⟩
        · exact absurd e (h i hi)
        · rw [← h]; exact q G' s'
        · omega
        · omega
end
end KA
set_option Elab.async false
set_option linter.all false
set_option maxRecDepth 100000
set_option maxHeartbeats 0
/-! the head's run: besides the defs and classes, the two exception classes and their __init__ -/
namespace KA
open PySem PySem.Spec PyProof.Rows L2
abbrev R : PySem.W.OpenRow := PySem.W.OpenLaw.row PySem.Challenge.rw_deltaloom_k12_branches_that_merge
def ts : List He.Tab := []
def fa2 : List He.Fa := fa ++ [.free "super"]
def lawFile : Str := PySem.Challenge.rw_deltaloom_k12_branches_that_merge.prog.main.file
def fileB (K : PySem.W.Frag) (c : Addr) : Bool := match K.lookup c with
  | some ⟨_, _, .fields vs, _⟩ => (match (vs[2]? : Option Value) with
    | some (Value.str file _) => lawFile == file
    | _ => false)
  | _ => false
def cellB (K : PySem.W.Frag) (c C : Addr) : Bool := match K.lookup c with
  | some ⟨_, _, .cell (some (.ref D)), _⟩ => D == C
  | _ => false
def supB (K : PySem.W.Frag) (f C : Addr) : Bool := match K.lookup f with
  | some ⟨_, _, .func fd, _⟩ => (match fd.closure, fd.code with
    | [(n, cc)], .ref cda => n == "__class__" && (PySem.W.codeIn K (.ref cda) fd.qualname && (fileB K cda && cellB K cc C))
    | _, _ => false)
  | _ => false
def oexB (K : PySem.W.Frag) (C : Addr) : Bool := match K.lookup C with
  | some ⟨.type "type", _, .cls cd, sl⟩ => (match cd.mro, sl.toList with
    | .ref C' :: bm, [_, _, _, _, some (.builtin n), _] => C' == C && (n == "ValueError.__new__" && (!cd.hasDel && (cd.hasDict && PySem.HandSPX.refsVE bm)))
    | _, _ => false)
  | _ => false
abbrev eqO (a b : Option (Option Value)) : Bool := decide (a = b)
def isT (a : Option Bool) : Bool := decide (a = some true)
def clsFs (K : PySem.W.Frag) (C : Addr) : List Bool :=
  [oexB K C, eqO (PySem.W.findIn K (.ref C) "__setattr__") (some (some (.builtin "object.__setattr__"))), isT (PySem.W.subIn K (.ref C) (.type "BaseException")), decide (PySem.W.typeIn K (.ref C) = some (.type "type")), PySem.W.keepIn K (.ref C),
   eqO (PySem.W.findIn K (.ref C) "__init__") (some (some (.ref (He.ma K C "__init__")))), decide (PySem.W.typeIn K (.ref (He.ma K C "__init__")) = some (.type "function")), eqO (PySem.W.findIn K (.ref C) "name") (some none),
   supB K (He.ma K C "__init__") C, (PySem.W.clsIn K C).isSome, isT (PySem.W.mroIn K C (.ref C)), eqO (PySem.W.nsIn K PySem.cStatics "thirdparty.any") (some none), eqO (PySem.W.ks_superIn K C C "__init__") (some (some (.builtin "ValueError.__init__"))), isT (PySem.W.subIn K (.ref C) (.type "ValueError")),
   eqO (PySem.W.findIn K (.ref C) "__getattribute__") (some (some (.builtin "BaseException.__getattribute__"))), eqO (PySem.W.findIn K (.ref C) "__getattr__") (some none), PySem.W.hasDictIn K C, eqO (PySem.W.findIn K (.ref C) "__class__") (some (some (.builtin "object.__class__"))),
   eqO (PySem.W.specialIn K (.builtin "object.__class__") "__get__") (some (some (.builtin "getset_descriptor.__get__"))), isT (PySem.W.takesIn K (.builtin "object.__class__")), isT (PySem.W.mroIn K C (.type "object")), isT (PySem.W.kitOne K (.ref C) (.ref (He.ga K "LoomError")))]
def exB (K : PySem.W.Frag) : Bool := (clsFs K (He.ga K "NameUnknown")).all id && ((clsFs K (He.ga K "NameTaken")).all id && (isT (PySem.W.exmOne K (.ref (He.ga K "NameTaken")) (.ref (He.ga K "NameTaken"))) && (decide (PySem.W.exmOne K (.ref (He.ga K "NameUnknown")) (.ref (He.ga K "NameTaken")) = some false) &&
  isT (PySem.W.exmOne K (.ref (He.ga K "NameUnknown")) (.ref (He.ga K "NameUnknown"))))))
abbrev FnX : Type := Option (Str × Str × Arguments × FuncBody × Scope × Addr × Addr × Value × Value × Option Addr)
def obF (K : PySem.W.Frag) (x : Str) : FnX := match K.lookup (He.ma K (He.ga K x) "__init__") with
  | some ⟨_, _, .func fd, _⟩ => some (fd.name, fd.qualname, fd.params, fd.body, fd.scope, fd.globals, fd.builtins, fd.defaults, fd.kwdefaults, fd.annotations)
  | _ => none
def vF (q : Str) (st : Stmt) : FnX := some ("__init__", q, defArgs st, .stmts (defBody st), defScope st, mainGlobals, builtinsNs, .none, .none, none)
def KK (g : Addr → Option Obj) : PySem.W.Frag := He.frT g (PySem.cStatics :: He.asD g 4)
abbrev AlK : Type := (He.AlT × Bool) × (FnX × FnX)
def obK (g : Addr → Option Obj) : AlK := ((He.obsT fa2 fn ts (KK g), exB (KK g)), (obF (KK g) "NameUnknown", obF (KK g) "NameTaken"))
def vaK (w : World) : AlK := ((He.valT fn ts w, true), (vF "NameUnknown.__init__" s_NameUnknown___init__, vF "NameTaken.__init__" s_NameTaken___init__))
structure SaysK (w : World) (K : PySem.W.Frag) : Prop where
  t : He.SaysT fa2 fn ts w K
  ex : exB K = true
  u : obF K "NameUnknown" = vF "NameUnknown.__init__" s_NameUnknown___init__
  n : obF K "NameTaken" = vF "NameTaken.__init__" s_NameTaken___init__
abbrev hk : PySem.W.Hook where
  α := AlK
  obs := fun s => obK s.heap.get?
  val := fun w => vaK w
  says := fun w h => ∃ K : PySem.W.Frag, K.In h ∧ SaysK w K
  of := fun w s e => ⟨KK s.heap.get?, He.frT_in, ⟨congrArg (fun z : AlK => z.1.1) e, congrArg (fun z : AlK => z.1.2) e, congrArg (fun z : AlK => z.2.1) e, congrArg (fun z : AlK => z.2.2) e⟩⟩
  keeps := fun w h h' ⟨K, hK, c⟩ k => ⟨K, PySem.W.Frag.In.keeps hK k, c⟩
def ob (s : PySem.W.SharedT) : AlK := obK (HandSHeadRun.getT s)
theorem ob_eq (s : PySem.W.SharedT) : ob s = hk.obs s.abs := by
  have e : HandSHeadRun.getT s = s.abs.heap.get? := funext (HandSHeadRun.getT_eq s)
  unfold ob
  rw [e]
def loose : List PySem.Str := (["rank", "row_rank", "make_bag", "plus", "minus", "scaled", "LoomError", "NameUnknown", "NameTaken", "Tree", "Branch", "_law_state", "_law_draw", "_law_one", "_law_row", "_law_key", "_law_canon", "_law_bag", "_law_told", "_law_refusals", "_law_same", "_law_deed", "_law_either_order"] : List PySem.Str)
theorem run (w : World) : HandSHeadRun.RunEq R (PySem.W.view R.prog [28]) hk ob 8000 loose w := by
  intro os
  kernel_rfl
end KA
set_option Elab.async false
set_option linter.all false
set_option maxRecDepth 100000
set_option maxHeartbeats 4000000
/-! the refusals that the law asks -/
namespace KA
open PySem PySem.Spec PyProof.Rows L2
open PySem.W (EachIs)
structure Ask where
  k : Int
  a : Str
  b : Str
  due : Str
abbrev q4 (d : Ask) : HO := .tup [.int d.k, .str d.a, .str d.b, .str d.due]
def QAt (H : Hp) (t : Addr) (d : Ask) : Prop := H t = some (q4 d)
def AsksAt (H : Hp) (l : Addr) (ts : List Addr) (ds : List Ask) : Prop := H l = some (.lst (ts.map V.ref)) ∧ EachIs (QAt H) ts ds
theorem each_app {α β : Type} {R : α → β → Prop} {as as' : List α} {bs bs' : List β} (h : EachIs R as bs) (h' : EachIs R as' bs') : EachIs R (as ++ as') (bs ++ bs') := by
  induction h with
  | nil => exact h'
  | cons x _ ih => exact .cons x ih
theorem asks_one {H : Hp} {l t1 c p : Addr} {ts : List Addr} {ds : List Ask} {d1 : Ask} (h : AsksAt H l ts ds) (n1 : H t1 = none) (n3 : upd H t1 (q4 d1) c = none) (n4 : upd (upd H t1 (q4 d1)) c (.lst [.ref t1]) p = none) :
    Same H (upd (upd (upd H t1 (q4 d1)) c (.lst [.ref t1])) p (.lst (ts.map V.ref ++ [.ref t1]))) ∧ AsksAt (upd (upd (upd H t1 (q4 d1)) c (.lst [.ref t1])) p (.lst (ts.map V.ref ++ [.ref t1]))) p (ts ++ [t1]) (ds ++ [d1]) := by
  have s3 : Same (upd H t1 (q4 d1)) (upd (upd (upd H t1 (q4 d1)) c (.lst [.ref t1])) p (.lst (ts.map V.ref ++ [.ref t1]))) := (same_new n3).trans (same_new n4)
  have s0 := (same_new (o := q4 d1) n1).trans s3
  exact ⟨s0, by rw [List.map_append]; exact upd_same, each_app (h.2.mono fun _ _ z => s0 _ _ z) (.cons (s3 _ _ upd_same) .nil)⟩
theorem asks_two {H : Hp} {l t1 t2 c p : Addr} {ts : List Addr} {ds : List Ask} {d1 d2 : Ask} (h : AsksAt H l ts ds) (n1 : H t1 = none) (n2 : upd H t1 (q4 d1) t2 = none) (n3 : upd (upd H t1 (q4 d1)) t2 (q4 d2) c = none) (n4 : upd (upd (upd H t1 (q4 d1)) t2 (q4 d2)) c (.lst [.ref t1, .ref t2]) p = none) :
    Same H (upd (upd (upd (upd H t1 (q4 d1)) t2 (q4 d2)) c (.lst [.ref t1, .ref t2])) p (.lst (ts.map V.ref ++ [.ref t1, .ref t2]))) ∧
      AsksAt (upd (upd (upd (upd H t1 (q4 d1)) t2 (q4 d2)) c (.lst [.ref t1, .ref t2])) p (.lst (ts.map V.ref ++ [.ref t1, .ref t2]))) p (ts ++ [t1, t2]) (ds ++ [d1, d2]) := by
  have s3 : Same (upd (upd H t1 (q4 d1)) t2 (q4 d2)) (upd (upd (upd (upd H t1 (q4 d1)) t2 (q4 d2)) c (.lst [.ref t1, .ref t2])) p (.lst (ts.map V.ref ++ [.ref t1, .ref t2]))) := (same_new n3).trans (same_new n4)
  have s2 := (same_new (o := q4 d2) n2).trans s3
  have s0 := (same_new (o := q4 d1) n1).trans s2
  exact ⟨s0, by rw [List.map_append]; exact upd_same, each_app (h.2.mono fun _ _ z => s0 _ _ z) (.cons (s2 _ _ upd_same) (.cons (s3 _ _ upd_same) .nil))⟩
def AsksE (H : Hp) (l : Addr) (ds : List Ask) : Prop := ∃ ts, AsksAt H l ts ds
abbrev st7 (a b : V) (c : Option V) : L2.St := [some a, some b, c, none, none, none, none]
theorem seq_set {te : TE} {u : TS} {D : Ends} {a b : V} {c : Option V} {H : Hp} (h : te (st7 a b c) H fun x H1 => u D (st7 a b (some x)) H1) : tSeq (tAsg te (gName 2)) u D (st7 a b c) H := h
theorem seq_op {r : R2} {tb : TE} {u : TS} {D : Ends} {a b x : V} {H : Hp} (h : tb (st7 a b (some x)) H fun y H2 => r x y H2 fun z H3 => u D (st7 a b (some z)) H3) : tSeq (tAsg (tOp r (tVar 2) tb) (gName 2)) u D (st7 a b (some x)) H := ⟨x, rfl, h⟩
theorem wipe7 (a b c : Option V) (d e f g : Option V) : wipe (((((wipe [a, b, c, none, none, none, none] [3, 4, 5, 6]).set 3 d).set 4 e).set 5 f).set 6 g) [3, 4, 5, 6] = wipe [a, b, c, none, none, none, none] [3, 4, 5, 6] := rfl
/-- an expression that lays the asked row d -/
def Lays (te : TE) (σ : L2.St) (d : Ask) : Prop := ∀ (G : Hp) (Q : VK), (∀ t, G t = none → Q (.ref t) (upd G t (q4 d))) → te σ G Q
theorem lays_c {σ : L2.St} (d : Ask) : Lays (tTup (tCons (tC (.int d.k)) (tCons (tC (.str d.a)) (tCons (tC (.str d.b)) (tCons (tC (.str d.due)) tNil))))) σ d := fun G Q k => ⟨(by show 4 ≤ sizeLine; decide), k⟩
theorem start2 {σ : L2.St} {H : Hp} {Q : VK} {te1 te2 : TE} {d1 d2 : Ask} (h1 : Lays te1 σ d1) (h2 : Lays te2 σ d2) (k : ∀ G p, Same H G → AsksE G p [d1, d2] → Q (.ref p) G) : tLst (tCons te1 (tCons te2 tNil)) σ H Q :=
  h1 _ _ fun t1 n1 => h2 _ _ fun t2 n2 => ⟨(by show 2 ≤ sizeLine; decide), fun c hc => k _ c (((same_new n1).trans (same_new n2)).trans (same_new hc)) ⟨[t1, t2], upd_same, .cons (((same_new n2).trans (same_new hc)) _ _ upd_same) (.cons ((same_new hc) _ _ upd_same) .nil)⟩⟩
theorem asks_len {H : Hp} {l : Addr} {ts : List Addr} {ds : List Ask} (h : AsksAt H l ts ds) (n : ds.length ≤ 15) {k : Nat} (hk : k ≤ 5) : (ts.map V.ref).length + k ≤ sizeLine := by
  rw [List.length_map, h.2.length, sizeLine_eq]
  omega
theorem cat1 {σ : L2.St} {H : Hp} {Q : VK} {te1 : TE} {d1 : Ask} {l : Addr} {ds : List Ask} (a : AsksE H l ds) (n : ds.length ≤ 15) (h1 : Lays te1 σ d1) (k : ∀ G p, Same H G → AsksE G p (ds ++ [d1]) → Q (.ref p) G) : tLst (tCons te1 tNil) σ H (fun y H2 => rCat (.ref l) y H2 Q) := by
  obtain ⟨ts, at_⟩ := a
  refine h1 _ _ fun t1 n1 => ⟨(by show 1 ≤ sizeLine; decide), fun c hc => ⟨l, c, _, _, rfl, rfl, ((same_new n1).trans (same_new hc)) _ _ at_.1, upd_same, asks_len at_ n (k := 1) (by decide), fun p hp => ?_⟩⟩
  obtain ⟨s, r⟩ := asks_one at_ n1 hc hp
  exact k _ p s ⟨_, r⟩
theorem cat2 {σ : L2.St} {H : Hp} {Q : VK} {te1 te2 : TE} {d1 d2 : Ask} {l : Addr} {ds : List Ask} (a : AsksE H l ds) (n : ds.length ≤ 15) (h1 : Lays te1 σ d1) (h2 : Lays te2 σ d2) (k : ∀ G p, Same H G → AsksE G p (ds ++ [d1, d2]) → Q (.ref p) G) :
    tLst (tCons te1 (tCons te2 tNil)) σ H (fun y H2 => rCat (.ref l) y H2 Q) := by
  obtain ⟨ts, at_⟩ := a
  refine h1 _ _ fun t1 n1 => h2 _ _ fun t2 n2 => ⟨(by show 2 ≤ sizeLine; decide), fun c hc => ⟨l, c, _, _, rfl, rfl, (((same_new n1).trans (same_new n2)).trans (same_new hc)) _ _ at_.1, upd_same, asks_len at_ n (k := 2) (by decide), fun p hp => ?_⟩⟩
  obtain ⟨s, r⟩ := asks_two at_ n1 n2 hc hp
  exact k _ p s ⟨_, r⟩
section
variable {P : Program} {w : World} {K : PySem.W.Frag} {mg : Str → Option Value} {base : Heap} {f : Addr} {fd : FuncData}
def spRefusals (CT CB : Addr) : Sp := fun vs H Q _ => ∃ (G : Geo) (S : Stt) (i : Nat), vs = [.ref G.t, .str (S.nm i)] ∧ i < S.n ∧ TreeAt CT CB H G S ∧ SOk S ∧ S.nm 0 = "trunk" ∧ (∀ j, j < S.n → S.nm j ≠ "nobody") ∧ ∀ H', Same H H' → Q (.bl true) H'
def asks (k : Str) : List Ask := [⟨0, "nobody", "a", "unknown nobody"⟩, ⟨0, "trunk", "zz", "unknown zz"⟩] ++ [⟨0, "nobody", "zz", "unknown nobody"⟩] ++ [⟨1, "nobody", "trunk", "unknown nobody"⟩, ⟨1, "trunk", k, "taken " ++ k⟩] ++ [⟨2, "trunk", "", "unknown trunk"⟩, ⟨2, "nobody", "", "unknown nobody"⟩] ++
  [⟨3, "nobody", "", "unknown nobody"⟩] ++ [⟨4, "nobody", "a", "unknown nobody"⟩, ⟨4, k, "zz", "unknown zz"⟩]
theorem asks_ok {S : Stt} {i : Nat} (hi : i < S.n) (O : SOk S) (h0 : S.nm 0 = "trunk") (hn : ∀ j, j < S.n → S.nm j ≠ "nobody") : ∀ d ∈ asks (S.nm i), 0 ≤ d.k ∧ d.k ≤ 4 ∧ d.a.length ≤ 1000 ∧ d.b.length ≤ 1000 ∧ Due S d.k d.a d.b d.due := by
  have n0 : 0 < S.n := by have := O.n1; omega
  have tr : ∃ j, j < S.n ∧ S.nm j = "trunk" := ⟨0, n0, h0⟩
  have kn : ∃ j, j < S.n ∧ S.nm j = S.nm i := ⟨i, hi, rfl⟩
  have zz : ¬ isAB "zz" := by unfold isAB; decide
  have len := O.nmL i hi
  have l : ∀ {x : Str}, x.length ≤ 10 → x.length ≤ 1000 := fun h => by omega
  intro d hd
  have hd' : d = ⟨0, "nobody", "a", "unknown nobody"⟩ ∨ d = ⟨0, "trunk", "zz", "unknown zz"⟩ ∨ d = ⟨0, "nobody", "zz", "unknown nobody"⟩ ∨ d = ⟨1, "nobody", "trunk", "unknown nobody"⟩ ∨ d = ⟨1, "trunk", S.nm i, "taken " ++ S.nm i⟩ ∨ d = ⟨2, "trunk", "", "unknown trunk"⟩ ∨ d = ⟨2, "nobody", "", "unknown nobody"⟩ ∨
      d = ⟨3, "nobody", "", "unknown nobody"⟩ ∨ d = ⟨4, "nobody", "a", "unknown nobody"⟩ ∨ d = ⟨4, S.nm i, "zz", "unknown zz"⟩ := by simpa [asks] using hd
  rcases hd' with rfl | rfl | rfl | rfl | rfl | rfl | rfl | rfl | rfl | rfl
  · exact ⟨by decide, by decide, l (by decide +kernel), l (by decide +kernel), .inl ⟨hn, by decide +kernel⟩⟩
  · exact ⟨by decide, by decide, l (by decide +kernel), l (by decide +kernel), .inr (.inl ⟨.inl rfl, tr, zz, by decide +kernel⟩)⟩
  · exact ⟨by decide, by decide, l (by decide +kernel), l (by decide +kernel), .inl ⟨hn, by decide +kernel⟩⟩
  · exact ⟨by decide, by decide, l (by decide +kernel), l (by decide +kernel), .inl ⟨hn, by decide +kernel⟩⟩
  · exact ⟨(by show (0 : Int) ≤ 1; decide), (by show (1 : Int) ≤ 4; decide), l (x := "trunk") (by decide +kernel), len, .inr (.inr (.inl ⟨rfl, tr, kn, rfl⟩))⟩
  · exact ⟨by decide, by decide, l (by decide +kernel), l (by decide +kernel), .inr (.inr (.inr ⟨rfl, h0, by decide +kernel⟩))⟩
  · exact ⟨by decide, by decide, l (by decide +kernel), l (by decide +kernel), .inl ⟨hn, by decide +kernel⟩⟩
  · exact ⟨by decide, by decide, l (by decide +kernel), l (by decide +kernel), .inl ⟨hn, by decide +kernel⟩⟩
  · exact ⟨by decide, by decide, l (by decide +kernel), l (by decide +kernel), .inl ⟨hn, by decide +kernel⟩⟩
  · exact ⟨(by show (0 : Int) ≤ 4; decide), (by show (4 : Int) ≤ 4; decide), len, l (x := "zz") (by decide +kernel), .inr (.inl ⟨.inr rfl, kn, zz, (by show ("unknown zz" : Str) = "unknown " ++ "zz"; decide +kernel)⟩)⟩
abbrev ToldC (P : Program) (w : World) (K : PySem.W.Frag) (mg : Str → Option Value) (base : Heap) (CT CB : Addr) : Prop := Cal P w K mg base "_law_told" 10 ["tree", "kind", "first", "second"] (spTold CT CB)
theorem ok_refusals {CT CB : Addr} (F : FnP K "_law_refusals" s__law_refusals f fd) (gA : mg "all" = none) (CL : ToldC P w K mg base CT CB) : FnOk P w K mg base CX0 11 f fd ["tree", "known"] (spRefusals CT CB) := by
  refine F.ok sc__law_refusals (fun vs H Q E h => ?_) (fun cdv A outer s H vs Q E hr h => ?_)
  · obtain ⟨G, S, i, rfl, _⟩ := h
    rfl
  · obtain ⟨G, S, i, rfl, hi, T, O, h0, hn, q⟩ := h
    have nd := sc__law_refusals.nd
    refine ⟨_, PSs.nox (pss_cons (ps_set (i := 2) nd rfl (Or.inl rfl) (pe_lst (pa_cons (pe_tup (pa_cons pe_int (pa_cons pe_str (pa_cons pe_str (pa_cons pe_str pa_nil))))) (pa_cons (pe_tup (pa_cons pe_int (pa_cons pe_str (pa_cons pe_str (pa_cons pe_str pa_nil))))) pa_nil))))
      (pss_cons (ps_set (i := 2) nd rfl (Or.inl rfl) (pe_op op_cat (pv 2) (pe_lst (pa_cons (pe_tup (pa_cons pe_int (pa_cons pe_str (pa_cons pe_str (pa_cons pe_str pa_nil))))) pa_nil))))
      (pss_cons (ps_set (i := 2) nd rfl (Or.inl rfl) (pe_op op_cat (pv 2) (pe_lst (pa_cons (pe_tup (pa_cons pe_int (pa_cons pe_str (pa_cons pe_str (pa_cons pe_str pa_nil))))) (pa_cons (pe_tup (pa_cons pe_int (pa_cons pe_str (pa_cons (pv 1) (pa_cons (pe_op op_add_str pe_str (pv 1)) pa_nil))))) pa_nil)))))
      (pss_cons (ps_set (i := 2) nd rfl (Or.inl rfl) (pe_op op_cat (pv 2) (pe_lst (pa_cons (pe_tup (pa_cons pe_int (pa_cons pe_str (pa_cons pe_str (pa_cons pe_str pa_nil))))) (pa_cons (pe_tup (pa_cons pe_int (pa_cons pe_str (pa_cons pe_str (pa_cons pe_str pa_nil))))) pa_nil)))))
      (pss_cons (ps_set (i := 2) nd rfl (Or.inl rfl) (pe_op op_cat (pv 2) (pe_lst (pa_cons (pe_tup (pa_cons pe_int (pa_cons pe_str (pa_cons pe_str (pa_cons pe_str pa_nil))))) pa_nil))))
      (pss_cons (ps_set (i := 2) nd rfl (Or.inl rfl) (pe_op op_cat (pv 2) (pe_lst (pa_cons (pe_tup (pa_cons pe_int (pa_cons pe_str (pa_cons pe_str (pa_cons pe_str pa_nil))))) (pa_cons (pe_tup (pa_cons pe_int (pa_cons (pv 1) (pa_cons pe_str (pa_cons pe_str pa_nil))))) pa_nil)))))
      (pss_one (ps_ret (pe_callB (cr_all rfl) (by rfl) gA (by decide +kernel) (pa_cons (pe_lc (own := [("kind", 3), ("first", 4), ("second", 5), ("due", 6)]) (g := gTup K 4 (gCons (gName 3) (gCons (gName 4) (gCons (gName 5) (gCons (gName 6) gNil))))) (tt := tYes) (by rfl) nd (pi_list (pv 2))
        (blkOk_by (own := [("kind", 3), ("first", 4), ("second", 5), ("due", 6)]) (N := ["tree", "known", "rows", "kind", "first", "second", "due"]) (sc := defScope s__law_refusals) (by decide +kernel))
        (fun _ _ _ _ _ => pg_tup rfl (pgs_cons (pg_name (i := 3) nd rfl (Or.inl rfl)) (pgs_cons (pg_name (i := 4) nd rfl (Or.inl rfl)) (pgs_cons (pg_name (i := 5) nd rfl (Or.inl rfl)) (pgs_cons (pg_name (i := 6) nd rfl (Or.inl rfl)) pgs_nil))))) (fun _ _ _ _ _ => pts_nil)
        (fun _ _ _ _ _ => pe_cmpR op_eq (pe_cal CL hr (pa_cons (pv 0) (pa_cons (pv 3) (pa_cons (pv 4) (pa_cons (pv 5) pa_nil))))) (pv 6) (nomark _))) pa_nil)))))))))), ?_⟩
    have ln : (S.nm i).length ≤ 1000 := O.nmL i hi
    refine seq_set (a := .ref G.t) (b := .str (S.nm i)) (c := none) ?_
    refine start2 (d1 := ⟨0, "nobody", "a", "unknown nobody"⟩) (d2 := ⟨0, "trunk", "zz", "unknown zz"⟩) (lays_c _) (lays_c _) fun G1 l1 s1 a1 => ?_
    refine seq_op (cat1 a1 (by show 2 ≤ 15; decide) (lays_c ⟨0, "nobody", "zz", "unknown nobody"⟩) fun G2 l2 s2 a2 => ?_)
    refine seq_op (cat2 a2 (by show 3 ≤ 15; decide) (lays_c ⟨1, "nobody", "trunk", "unknown nobody"⟩) (d2 := ⟨1, "trunk", S.nm i, "taken " ++ S.nm i⟩) (fun G' Q' k' => ⟨_, rfl, _, rfl, "taken ", S.nm i, rfl, rfl, ?_, (by show 4 ≤ sizeLine; decide), k'⟩) fun G3 l3 s3 a3 => ?_)
    · rw [sizeLine_eq]
      have : ("taken " : Str).length = 6 := by decide +kernel
      omega
    refine seq_op (cat2 a3 (by show 5 ≤ 15; decide) (lays_c ⟨2, "trunk", "", "unknown trunk"⟩) (lays_c ⟨2, "nobody", "", "unknown nobody"⟩) fun G4 l4 s4 a4 => ?_)
    refine seq_op (cat1 a4 (by show 7 ≤ 15; decide) (lays_c ⟨3, "nobody", "", "unknown nobody"⟩) fun G5 l5 s5 a5 => ?_)
    refine seq_op (cat2 a5 (by show 8 ≤ 15; decide) (lays_c ⟨4, "nobody", "a", "unknown nobody"⟩) (d2 := ⟨4, S.nm i, "zz", "unknown zz"⟩) (fun G' Q' k' => ⟨_, rfl, (by show 4 ≤ sizeLine; decide), k'⟩) fun G6 l6 s6 a6 => ?_)
    have sT := ((((s1.trans s2).trans s3).trans s4).trans s5).trans s6
    obtain ⟨ts, aT⟩ : AsksE G6 l6 (asks (S.nm i)) := a6
    refine ⟨_, rfl, l6, rfl, ⟨_, sq_l aT.1⟩, fun D hD => ?_⟩
    have al := aT.2.length
    refine lc_same (walk_list (xs := List.map V.ref _)) (asks (S.nm i)) (by rw [List.length_map]; exact al.symm) (fun _ => true) (fun _ v _ => v = .bl true) (fun _ _ _ _ _ z => z) hD (fun H' s' => sq_l (s' _ _ aT.1)) (by rw [List.length_map, al]; show 10 ≤ 100000; decide) ?_ ?_
    · rintro j x d _ H1 hj he s7 ⟨rfl, hx⟩ Q' Qn k1 _
      obtain ⟨t, ht, rfl⟩ := ref_at hx
      have qd0 := each_get (R := QAt _) aT.2 ht he
      have qd : H1 t = some (q4 d) := s7 _ _ qd0
      obtain ⟨k0, k4, la, lb, due⟩ := asks_ok hi O h0 hn d (List.mem_of_getElem? he)
      refine ⟨t, _, rfl, sq_t qd, rfl, ?_⟩
      refine ⟨_, _, rfl, _, _, rfl, _, _, rfl, _, _, rfl, rfl, ?_⟩
      refine ⟨wipe7 _ _ _ _ _ _ _, ?_⟩
      refine yes_in ?_
      refine ⟨_, rfl, _, rfl, _, rfl, _, rfl, ?_⟩
      refine ⟨G, S, d.k, d.a, d.b, d.due, rfl, k0, k4, la, lb, T.mono (sT.trans s7), O, due, fun H2 s8 => ?_⟩
      refine ⟨_, rfl, rfl, k1 rfl _ _ s8 ?_⟩
      simp
    · intro H1 acc s7 ha he
      rw [filter_true] at he
      obtain ⟨bs, rfl, hb⟩ : ∃ bs : List Bool, acc = bs.map V.bl ∧ bs.all id = true := by
        clear ha al
        generalize asks (S.nm i) = ds at he
        induction he with
        | nil => exact ⟨[], rfl, rfl⟩
        | cons h _ ih =>
          obtain ⟨bs, rfl, e⟩ := ih
          exact ⟨true :: bs, by rw [h]; rfl, by simpa using e⟩
      refine ⟨D, bs, rfl, sq_l ha, ?_⟩
      rw [hb]
      exact q H1 (sT.trans s7)
end
end KA
set_option Elab.async false
set_option linter.all false
set_option maxRecDepth 100000
set_option maxHeartbeats 4000000
/-! the law's own model of the tree; the two held against each other -/
namespace KA
open PySem PySem.Spec PyProof.Rows L2
open PySem.W (EachIs)
theorem pair_plain (e : Row × Int) : (pairD e).plain = true := by
  have h := row_plain e.1
  simp only [pairD, PyData.plain, PyData.plainAll, h, Bool.and_self]
theorem bag_plain (b : Bag) : (bagD b).plain = true := by
  show PyData.plainAll (b.map pairD) = true
  induction b with
  | nil => rfl
  | cons e t ih => simp [PyData.plainAll, pair_plain e, ih]
theorem pair_depth (e : Row × Int) : (pairD e).depth ≤ 4 := by
  have h := row_depth e.1
  simp only [pairD, PyData.depth, PyData.depthAll]
  omega
theorem bag_depth (b : Bag) : (bagD b).depth ≤ 5 := by
  have key : ∀ b : Bag, PyData.depthAll (b.map pairD) ≤ 4 := fun b => by
    induction b with
    | nil => simp [PyData.depthAll]
    | cons e t ih =>
      have h := pair_depth e
      simp only [List.map_cons, PyData.depthAll]
      omega
  have h := key b
  simp only [bagD, PyData.depth]
  omega
structure MGeo where
  m : Addr
  L : Nat → Addr
  D : Nat → Nat → Addr
def parN (S : Stt) (i : Nat) : Str := if i = 0 then "" else S.nm (S.par i)
structure ModelAt (H : Hp) (M : MGeo) (S : Stt) : Prop where
  hm : H M.m = some (.dK (brKV S.nm M.L S.n))
  hl : ∀ i, i < S.n → H (M.L i) = some (.lst [.ref (M.D 0 i), .ref (M.D 1 i), .str (parN S i)])
  h0 : ∀ i, i < S.n → DictB H (M.D 0 i) (S.cur i)
  h1 : ∀ i, i < S.n → DictB H (M.D 1 i) (S.sta i)
  iL : ∀ i, i < S.n → ∀ j, j < S.n → M.L i = M.L j → i = j
  id : ∀ k, k < 2 → ∀ i, i < S.n → ∀ k', k' < 2 → ∀ j, j < S.n → M.D k i = M.D k' j → k = k' ∧ i = j
  im : ∀ k, k < 2 → ∀ i, i < S.n → M.D k i ≠ M.m
def OwnM (M : MGeo) (n : Nat) (a : Addr) : Prop := a = M.m ∨ ∃ k, k < 2 ∧ ∃ i, i < n ∧ a = M.D k i
theorem ModelAt.own {H : Hp} {M : MGeo} {S : Stt} (T : ModelAt H M S) {a : Addr} (h : OwnM M S.n a) : ∃ kvs, H a = some (.dK kvs) := by
  rcases h with rfl | ⟨k, hk, i, hi, rfl⟩
  · exact ⟨_, T.hm⟩
  · have hk' : k = 0 ∨ k = 1 := by omega
    rcases hk' with rfl | rfl
    · obtain ⟨p, q, h, _⟩ := T.h0 i hi
      exact ⟨_, h⟩
    · obtain ⟨p, q, h, _⟩ := T.h1 i hi
      exact ⟨_, h⟩
/-- bags stay -/
def BKeep (H H' : Hp) : Prop := ∀ p b, BagAt H p b → BagAt H' p b
theorem LKeep.bk {H H' : Hp} (k : LKeep H H') : BKeep H H' := fun _ _ h => h.lk k
theorem BKeep.trans {H H1 H2 : Hp} (a : BKeep H H1) (b : BKeep H1 H2) : BKeep H H2 := fun p x h => b p x (a p x h)
theorem BKeep.of {H H' : Hp} (s : Same H H') : BKeep H H' := fun _ _ h => h.mono s
theorem DictB.bk {H H' : Hp} (k : BKeep H H') {d : Addr} {B : Bag × Bag} (e : ∀ kvs, H d = some (.dK kvs) → H' d = some (.dK kvs)) (h : DictB H d B) : DictB H' d B := by
  obtain ⟨p, q, h1, h2, h3⟩ := h
  exact ⟨p, q, e _ h1, k _ _ h2, k _ _ h3⟩
theorem TreeAt.keep {CT CB : Addr} {H H' : Hp} {G : Geo} {S : Stt} (T : TreeAt CT CB H G S) (kb : BKeep H H') (ko : ∀ a kvs, OwnT G S.n a → H a = some (.dK kvs) → H' a = some (.dK kvs)) (ki : ∀ a C dx fs, H a = some (.ins C dx fs) → H' a = some (.ins C dx fs)) : TreeAt CT CB H' G S :=
  ⟨ki _ _ _ _ T.ht, ko _ _ (.inl rfl) T.hb, fun i hi => ki _ _ _ _ (T.hx i hi), fun i hi => (T.h0 i hi).bk kb fun _ => ko _ _ (.inr ⟨0, by decide, i, hi, rfl⟩), fun i hi => (T.h1 i hi).bk kb fun _ => ko _ _ (.inr ⟨1, by decide, i, hi, rfl⟩), T.ix, T.id, T.ib⟩
theorem ModelAt.keep {H H' : Hp} {M : MGeo} {S : Stt} (T : ModelAt H M S) (kb : BKeep H H') (ko : ∀ a kvs, OwnM M S.n a → H a = some (.dK kvs) → H' a = some (.dK kvs)) (kl : ∀ i, i < S.n → H' (M.L i) = H (M.L i)) : ModelAt H' M S :=
  ⟨ko _ _ (.inl rfl) T.hm, fun i hi => (kl i hi).trans (T.hl i hi), fun i hi => (T.h0 i hi).bk kb fun _ => ko _ _ (.inr ⟨0, by decide, i, hi, rfl⟩), fun i hi => (T.h1 i hi).bk kb fun _ => ko _ _ (.inr ⟨1, by decide, i, hi, rfl⟩), T.iL, T.id, T.im⟩
theorem ModelAt.mono {H H' : Hp} {M : MGeo} {S : Stt} (T : ModelAt H M S) (s : Same H H') : ModelAt H' M S := T.keep (.of s) (fun _ _ _ h => s _ _ h) fun i hi => (s _ _ (T.hl i hi)).trans (T.hl i hi).symm
def Apart (G : Geo) (M : MGeo) (n : Nat) : Prop := ∀ a, OwnT G n a → ¬ OwnM M n a
theorem BKeep.dict {H : Hp} {d : Addr} {kvs : List (L2.Key × V)} {o : HO} (hd : H d = some (.dK kvs)) : BKeep H (upd H d o) := (LKeep.upd hd (fun _ z => by cases z) (fun _ z => by cases z)).bk
theorem same_frz {H G : Hp} {d : Addr} {u : HO} {od : Obj} (hd : H d = some u) (s : Same (upd H d (.frz od u)) G) : Same H (upd G d u) := fun a o h => by
  by_cases c : a = d
  · rw [c, upd_same, ← hd, ← c]
    exact h
  · rw [upd_ne c]
    exact s _ _ (by rw [upd_ne c]; exact h)
section
variable {P : Program} {w : World} {K : PySem.W.Frag} {mg : Str → Option Value} {base : Heap} {f : Addr} {fd : FuncData}
def spSame (CT CB : Addr) : Sp := fun vs H Q _ => ∃ (G : Geo) (M : MGeo) (S : Stt), vs = [.ref G.t, .ref M.m] ∧ TreeAt CT CB H G S ∧ ModelAt H M S ∧ SOk S ∧ Apart G M S.n ∧ ∀ H', Same H H' → Q (.bl true) H'
abbrev InputsC (P : Program) (w : World) (K : PySem.W.Frag) (mg : Str → Option Value) (base : Heap) (CT CB NU : Addr) : Prop := MethG P w K mg base (L2.CX P w) CT "inputs" 4 ["self", "branch"] (spInputs CT CB NU)
abbrev ChangeC (P : Program) (w : World) (K : PySem.W.Frag) (mg : Str → Option Value) (base : Heap) (CT CB NU : Addr) : Prop := MethG P w K mg base (L2.CX P w) CT "change" 9 ["self", "branch", "name"] (spChange CT CB NU)
theorem dd_bags {K : PySem.W.Frag} {H : Hp} {d d' : Addr} {p q p' q' : Addr} {A B : Bag} (h1 : H d = some (.dK (kv2 p q))) (h2 : H d' = some (.dK (kv2 p' q'))) (a1 : BagAt H p A) (b1 : BagAt H q B) (a2 : BagAt H p' A) (b2 : BagAt H q' B) : DDs K H (.ref d) (.ref d') := by
  refine ⟨d, d', _, _, rfl, rfl, h1, h2, rfl, fun e he => ?_⟩
  have he' : e = (.inr "a", .ref p) ∨ e = (.inr "b", .ref q) := by simpa [kv2] using he
  have pl : ∀ b : Bag, (bagD b).plain = true := bag_plain
  have dp : ∀ b : Bag, (bagD b).depth ≤ 40 := fun b => Nat.le_trans (bag_depth b) (by decide)
  rcases he' with rfl | rfl
  · exact ⟨.ref p', bagD A, rfl, dp_bag a1, dp_bag a2, pl A, dp A⟩
  · exact ⟨.ref q', bagD B, rfl, dp_bag b1, dp_bag b2, pl B, dp B⟩
theorem ok_same {CT CB NU : Addr} (F : FnP K "_law_same" s__law_same f fd) (TC : TrC K mg CT) (MI : InputsC P w K mg base CT CB NU) (MC : ChangeC P w K mg base CT CB NU) (CM : Cal P w K mg base "minus" 7 ["first", "second"] spMinus) :
    FnOk P w K mg base CX0 10 f fd ["tree", "m"] (spSame CT CB) := by
  obtain ⟨f1, d1, m1, G1, b1⟩ := MI.ex
  obtain ⟨f2, d2, m2, G2, b2⟩ := MC.ex
  refine F.ok sc__law_same (fun vs H Q E h => ?_) (fun cdv A outer s H vs Q E hr h => ?_)
  · obtain ⟨G, M, S, rfl, _⟩ := h
    rfl
  · obtain ⟨G, M, S, rfl, T, MA, O, ap, q⟩ := h
    have nd := sc__law_same.nd
    refine ⟨_, PSs.nox (pss_cons (ps_lock (ps_for PassesOwn.never rfl (pi_keys (pv 1)) (pg_name (i := 2) nd rfl (Or.inl rfl))
        (pss_cons (ps_if (pt_cmpR (op_neDD hr.u64) (pe_meth (E := E0) (pv 0) TC.cl m1 G1 hr.lt b1 .nil passL (pa_cons (pv 2) pa_nil)) (pe_ix ix_list (pe_dget hr.u1 (pv 1) (pv 2) (fun _ _ => rfl)) pe_int (fun _ _ => rfl)) (nomark _)) (pss_one (ps_ret pe_bl)) pss_nil)
        (pss_one (ps_for PassesOwn.never rfl (pi_tup (pe_tup (pa_cons pe_str (pa_cons pe_str pa_nil)))) (pg_name (i := 3) nd rfl (Or.inl rfl))
          (pss_one (ps_if (pt_cmpR (op_neP hr.u64) (pe_meth (E := E0) (pv 0) TC.cl m2 G2 hr b2 .nil passL (pa_cons (pv 2) (pa_cons (pv 3) pa_nil)))
            (pe_cal CM hr.lt (pa_cons (pe_dget hr.u1 (pe_ix ix_list (pe_dget hr.u1 (pv 1) (pv 2) (fun _ _ => rfl)) pe_int (fun _ _ => rfl)) (pv 3) (fun _ _ => rfl)) (pa_cons (pe_dget hr.u1 (pe_ix ix_list (pe_dget hr.u1 (pv 1) (pv 2) (fun _ _ => rfl)) pe_int (fun _ _ => rfl)) (pv 3) (fun _ _ => rfl)) pa_nil))) (nomark _)) (pss_one (ps_ret pe_bl)) pss_nil)))))))
      (pss_one (ps_ret pe_bl))), ?_⟩
    refine ⟨M.m, _, MA.hm, trivial, fun od => ?_⟩
    have kb : BKeep H (upd H M.m (.frz od (.dK (brKV S.nm M.L S.n)))) := BKeep.dict MA.hm
    have kf : ∀ {a : Addr} {o : HO}, H a = some o → a ≠ M.m → upd H M.m (.frz od (.dK (brKV S.nm M.L S.n))) a = some o := fun h h' => by rw [upd_ne h']; exact h
    have Tf : TreeAt CT CB (upd H M.m (.frz od (.dK (brKV S.nm M.L S.n)))) G S := T.keep kb (fun a kvs ho h => kf h fun z => ap a ho (.inl z)) (fun a C dx fs h => kf h fun z => by rw [z, MA.hm] at h; cases h)
    have hfm : upd H M.m (.frz od (.dK (brKV S.nm M.L S.n))) M.m = some (.frz od (.dK (brKV S.nm M.L S.n))) := upd_same
    have lf : ∀ i, i < S.n → upd H M.m (.frz od (.dK (brKV S.nm M.L S.n))) (M.L i) = some (.lst [.ref (M.D 0 i), .ref (M.D 1 i), .str (parN S i)]) := fun i hi => kf (MA.hl i hi) fun z => by have := MA.hl i hi; rw [z, MA.hm] at this; cases this
    have d0 : ∀ i, i < S.n → DictB (upd H M.m (.frz od (.dK (brKV S.nm M.L S.n)))) (M.D 0 i) (S.cur i) := fun i hi => (MA.h0 i hi).bk kb fun _ h => kf h (MA.im 0 (by decide) i hi)
    have d1' : ∀ i, i < S.n → DictB (upd H M.m (.frz od (.dK (brKV S.nm M.L S.n)))) (M.D 1 i) (S.sta i) := fun i hi => (MA.h1 i hi).bk kb fun _ h => kf h (MA.im 1 (by decide) i hi)
    have sH : ∀ {G1 : Hp}, Same (upd H M.m (.frz od (.dK (brKV S.nm M.L S.n)))) G1 → Same H (upd G1 M.m (.dK (brKV S.nm M.L S.n))) := fun s => same_frz MA.hm s
    generalize upd H M.m (.frz od (.dK (brKV S.nm M.L S.n))) = Hf at Tf hfm lf d0 d1' sH ⊢
    have kln : (brKV S.nm M.L S.n).length = S.n := by unfold brKV; rw [List.length_map, List.length_range]
    refine ⟨_, rfl, M.m, od, rfl, .inl ⟨_, hfm, ?_⟩⟩
    refine for_it (walk_keys (kvs := brKV S.nm M.L S.n)) (fun i σ G1 => Same Hf G1 ∧ ∃ a b, σ = [some (.ref G.t), some (.ref M.m), a, b]) ⟨Same.refl _, _, _, rfl⟩ (fun i σ G1 _ z => z.1 _ _ hfm) ?_ ?_
    · rintro j x σ _ Ga hj ⟨sa, a, b, rfl⟩ ⟨rfl, k, v, hk, rfl⟩
      rw [kln] at hj
      have hk' : (k, v) = (.inr (S.nm j), .ref (M.L j)) := by
        unfold brKV at hk
        rw [List.getElem?_map, List.getElem?_range hj] at hk
        exact (Option.some.inj hk).symm
      injection hk' with e1 e2
      subst e1 e2
      have dg : ∀ {Gx : Hp}, Same Hf Gx → DGet Gx M.m (.str (S.nm j)) (some (.ref (M.L j))) := fun s => .inl ⟨_, .inr (S.nm j), .inr ⟨_, s _ _ hfm⟩, rfl, (brKV_val O.nmI hj).symm⟩
      obtain ⟨p, r, hd, ba, bb⟩ := d0 j hj
      obtain ⟨p', r', hd', ba', bb'⟩ := d1' j hj
      refine ⟨_, rfl, G.t, G.dt, _, rfl, sa _ _ Tf.ht, rfl, _, rfl, G, S, S.nm j, rfl, Tf.mono sa, O, O.nmL j hj, fun i hi e D pd qd Gb sb _ _ _ hD hp hq => ?_, fun no => absurd rfl (no j hj)⟩
      obtain rfl : i = j := O.nmI i hi j hj e
      have sab := sa.trans sb
      refine ⟨_, rfl, _, rfl, M.m, _, rfl, dg sab, M.L i, _, 0, .ref (M.D 0 i), rfl, rfl, sq_l (sab _ _ (lf i hi)), atI_nat (j := 0) rfl, ?_⟩
      refine ⟨dd_bags hD (sab _ _ hd) hp hq (ba.mono sab) (bb.mono sab), _, rfl, iteF ?_⟩
      refine ⟨(by show 2 ≤ sizeLine; decide), fun tp htp => ⟨tp, rfl, ⟨_, sq_t upd_same⟩, ?_⟩⟩
      have sc : Same Hf (upd Gb tp (.tup [.str "a", .str "b"])) := sab.trans (same_new htp)
      have htp' : upd Gb tp (.tup [.str "a", .str "b"]) tp = some (.tup [.str "a", .str "b"]) := upd_same
      generalize upd Gb tp (.tup [.str "a", .str "b"]) = Gc at sc htp' ⊢
      refine for_it (walk_tup (xs := [V.str "a", V.str "b"])) (fun l σ G2 => Same Gc G2 ∧ ∃ b, σ = [some (.ref G.t), some (.ref M.m), some (.str (S.nm i)), b]) ⟨Same.refl _, _, rfl⟩ (fun l σ G2 _ z => sq_t (z.1 _ _ htp')) ?_ ?_
      · rintro l x σ _ Gd hl ⟨sd, b', rfl⟩ ⟨rfl, hx⟩
        obtain ⟨c, rfl, hc⟩ : ∃ c : Str, x = .str c ∧ isAB c := by
          match l, hx with
          | 0, hx => exact ⟨"a", (Option.some.inj hx).symm, .inl rfl⟩
          | 1, hx => exact ⟨"b", (Option.some.inj hx).symm, .inr rfl⟩
          | l + 2, hx => cases hx
        have se := sc.trans sd
        refine ⟨_, rfl, G.t, G.dt, _, rfl, se _ _ Tf.ht, rfl, _, rfl, _, rfl, G, S, S.nm i, c, rfl, Tf.mono se, O, O.nmL i hi, (by rcases hc with rfl | rfl <;> decide +kernel), fun i2 hi2 e' hab u Ge sf hu => ?_, fun no => absurd rfl (no i hi), fun i2 hi2 _ nab => absurd hc nab⟩
        obtain rfl : i2 = i := O.nmI i2 hi2 i hi e'
        have sg := se.trans sf
        refine ⟨_, rfl, _, rfl, M.m, _, rfl, dg sg, M.L i2, _, 0, .ref (M.D 0 i2), rfl, rfl, sq_l (sg _ _ (lf i2 hi)), atI_nat (j := 0) rfl, _, rfl, M.D 0 i2, _, rfl, dgetAB hc (sg _ _ hd), ?_⟩
        refine ⟨_, rfl, _, rfl, M.m, _, rfl, dg sg, M.L i2, _, 1, .ref (M.D 1 i2), rfl, rfl, sq_l (sg _ _ (lf i2 hi)), atI_nat (j := 1) rfl, _, rfl, M.D 1 i2, _, rfl, dgetAB hc (sg _ _ hd'), ?_⟩
        have okB := (O.cur i2 hi).of (n := c)
        have okS := (O.sta i2 hi).of (n := c)
        refine ⟨_, _, bagOf (S.cur i2) c, bagOf (S.sta i2) c, rfl, bag_pick (ba.mono sg) (bb.mono sg), bag_pick (ba'.mono sg) (bb'.mono sg), okB.len, okS.len, okB.row, okS.row, okS.bd, fun u2 Gh sh hu2 => ?_⟩
        refine ⟨bagD (difB (bagOf (S.cur i2) c) (bagOf (S.sta i2) c)), bagD (difB (bagOf (S.cur i2) c) (bagOf (S.sta i2) c)), dp_bag (hu.mono sh), dp_bag hu2, bag_plain _, bag_plain _, Nat.le_trans (bag_depth _) (by decide), ?_⟩
        rw [SeqAt.eqv_refl_plain _ (bag_plain _)]
        exact ⟨_, rfl, iteF ⟨(sd.trans sf).trans sh, _, rfl⟩⟩
      · rintro σ Gz ⟨sz, b', rfl⟩
        exact ⟨sc.trans sz, _, _, rfl⟩
    · rintro σ Gz ⟨sz, a, b, rfl⟩
      exact ⟨sz _ _ hfm, q _ (sH sz)⟩
end
end KA
set_option Elab.async false
set_option linter.all false
set_option maxRecDepth 100000
set_option maxHeartbeats 4000000
/-! the sizes of what the law makes -/
namespace KA
open PySem PySem.Spec PyProof.Rows L2
open PySem.W (EachIs)
structure Bnd (U : List Row) (β : Nat) (b : Bag) : Prop where
  canon : Canon b
  rows : ∀ e ∈ b, e.1 ∈ U
  bd : BdB β b
structure BndP (U : List Row) (β : Nat) (B : Bag × Bag) : Prop where
  a : Bnd U β B.1
  b : Bnd U β B.2
theorem tot_le {β : Nat} {b : Bag} (hc : Canon b) (hb : BdB β b) (r : Row) : (tot b r).natAbs ≤ β := by
  by_cases h : ∃ e ∈ b, e.1 = r
  · obtain ⟨e, he, rfl⟩ := h
    rw [tot_in hc.nodup he]
    exact hb e he
  · rw [tot_out fun e he z => h ⟨e, he, z⟩]
    exact Nat.zero_le _
theorem mk_bnd {U : List Row} {γ : Nat} {ps : Bag} (hU : ∀ e ∈ ps, e.1 ∈ U) (hγ : ∀ r, (tot ps r).natAbs ≤ γ) : Bnd U γ (mk ps) := by
  refine ⟨mk_canon ps, fun e he => ?_, fun e he => ?_⟩
  · obtain ⟨e', h1, h2⟩ := mk_rows he
    rw [← h2]
    exact hU e' h1
  · obtain ⟨r, hr, rfl⟩ := List.mem_map.mp he
    exact hγ r
theorem bnd_add {U : List Row} {β γ : Nat} {a b : Bag} (ha : Bnd U β a) (hb : Bnd U γ b) : Bnd U (β + γ) (mk (a ++ b)) := by
  refine mk_bnd (fun e he => (List.mem_append.mp he).elim (ha.rows e) (hb.rows e)) fun r => ?_
  rw [tot_app]
  have h1 := tot_le ha.canon ha.bd r
  have h2 := tot_le hb.canon hb.bd r
  omega
theorem scale_rows {b : Bag} {m : Int} {e : Row × Int} (h : e ∈ scaleB b m) : ∃ e' ∈ b, e'.1 = e.1 := by
  unfold scaleB at h
  split at h
  · cases h
  · obtain ⟨x, hx, rfl⟩ := List.mem_map.mp h
    exact ⟨x, hx, rfl⟩
theorem bnd_dif {U : List Row} {β γ : Nat} {a b : Bag} (ha : Bnd U β a) (hb : Bnd U γ b) : Bnd U (β + γ) (difB a b) := by
  refine mk_bnd (fun e he => (List.mem_append.mp he).elim (ha.rows e) fun z => ?_) fun r => ?_
  · obtain ⟨e', h1, h2⟩ := scale_rows z
    rw [← h2]
    exact hb.rows e' h1
  · rw [tot_app, scale_tot]
    have h1 := tot_le ha.canon ha.bd r
    have h2 := tot_le hb.canon hb.bd r
    omega
theorem Bnd.mono {U U' : List Row} {β β' : Nat} {b : Bag} (h : Bnd U β b) (hU : ∀ r ∈ U, r ∈ U') (hβ : β ≤ β') : Bnd U' β' b := ⟨h.canon, fun e he => hU _ (h.rows e he), fun e he => Nat.le_trans (h.bd e he) hβ⟩
theorem BndP.mono {U U' : List Row} {β β' : Nat} {B : Bag × Bag} (h : BndP U β B) (hU : ∀ r ∈ U, r ∈ U') (hβ : β ≤ β') : BndP U' β' B := ⟨h.a.mono hU hβ, h.b.mono hU hβ⟩
theorem nodup_len {α : Type} [DecidableEq α] : ∀ {l U : List α}, l.Nodup → (∀ x ∈ l, x ∈ U) → l.length ≤ U.length
  | [], _, _, _ => Nat.zero_le _
  | x :: t, U, hn, hs => by
    obtain ⟨h1, h2⟩ := List.nodup_cons.mp hn
    have hx := hs x List.mem_cons_self
    have ih := nodup_len (U := U.erase x) h2 fun y hy => (List.mem_erase_of_ne (fun z => h1 (by rw [← z]; exact hy))).mpr (hs y (List.mem_cons_of_mem _ hy))
    rw [List.length_erase_of_mem hx] at ih
    have hp : 0 < U.length := List.length_pos_of_mem hx
    rw [List.length_cons]
    omega
theorem Bnd.ok {U : List Row} {β : Nat} {b : Bag} (h : Bnd U β b) (hU : U.length ≤ 400) (hr : ∀ r ∈ U, r.length ≤ 1000) (hβ : β ≤ 2 ^ 60) : BOk b := by
  refine ⟨?_, fun e he => hr _ (h.rows e he), fun e he => Nat.le_trans (h.bd e he) hβ⟩
  have q := nodup_len (U := U) h.canon.nodup fun r hr => by
    obtain ⟨e, he, rfl⟩ := List.mem_map.mp hr
    exact h.rows e he
  rw [List.length_map] at q
  omega
theorem BndP.ok {U : List Row} {β : Nat} {B : Bag × Bag} (h : BndP U β B) (hU : U.length ≤ 400) (hr : ∀ r ∈ U, r.length ≤ 1000) (hβ : β ≤ 2 ^ 60) : POk B := ⟨h.a.ok hU hr hβ, h.b.ok hU hr hβ⟩
/-- the law's own names -/
def nmL (i : Nat) : Str := match i with
  | 0 => "trunk"
  | 1 => "xb"
  | 2 => "xc"
  | 3 => "xd"
  | 4 => "xe"
  | _ => "xf"
/-- a state after k deeds: its names, its sizes -/
structure Sized (U : List Row) (β : Nat) (S : Stt) : Prop where
  n1 : 1 ≤ S.n
  n6 : S.n ≤ 6
  par : ∀ i, i < S.n → i ≠ 0 → S.par i < i
  nmI : ∀ i, i < S.n → ∀ j, j < S.n → S.nm i = S.nm j → i = j
  nmL : ∀ i, i < S.n → (S.nm i).length ≤ 1000
  cur : ∀ i, i < S.n → BndP U β (S.cur i)
  sta : ∀ i, i < S.n → BndP U β (S.sta i)
theorem Sized.ok {U : List Row} {β : Nat} {S : Stt} (h : Sized U β S) (hU : U.length ≤ 400) (hr : ∀ r ∈ U, r.length ≤ 1000) (hβ : β + β ≤ 2 ^ 60) : SOk S :=
  ⟨h.n1, h.n6, h.par, h.nmI, h.nmL, fun i hi => (h.cur i hi).ok hU hr (by omega), fun i hi => (h.sta i hi).ok hU hr (by omega), fun i hi => ⟨(bnd_dif (h.cur i hi).a (h.sta i hi).a).ok hU hr hβ, (bnd_dif (h.cur i hi).b (h.sta i hi).b).ok hU hr hβ⟩⟩
theorem Sized.feed {U U' : List Row} {β γ β' : Nat} {S : Stt} (h : Sized U β S) {i : Nat} (hi : i < S.n) {m : Str} {c : Bag} (hc : Bnd U' γ c) (hU : ∀ r ∈ U, r ∈ U') (hβ : β + γ ≤ β') : Sized U' β' (feedS S i m c) := by
  refine ⟨h.n1, h.n6, h.par, h.nmI, h.nmL, fun j hj => ?_, fun j hj => (h.sta j hj).mono hU (by omega)⟩
  show BndP U' β' (if j = i then addB (S.cur i) m c else S.cur j)
  have hB := h.cur i hi
  split
  · unfold addB setB bagOf
    split
    · exact ⟨(bnd_add (hB.a.mono hU (Nat.le_refl _)) hc).mono (fun _ z => z) hβ, hB.b.mono hU (by omega)⟩
    · exact ⟨hB.a.mono hU (by omega), (bnd_add (hB.b.mono hU (Nat.le_refl _)) hc).mono (fun _ z => z) hβ⟩
  · exact (h.cur j hj).mono hU (by omega)
theorem Sized.fork {U : List Row} {β β' : Nat} {S : Stt} (h : Sized U β S) {i : Nat} (hi : i < S.n) (h6 : S.n < 6) {m : Str} (hm : ∀ j, j < S.n → S.nm j ≠ m) (hl : m.length ≤ 1000) (hβ : β ≤ β') : Sized U β' (forkS S i m) := by
  have lt : ∀ {j : Nat}, j < S.n + 1 → j ≠ S.n → j < S.n := fun h1 h2 => by omega
  refine ⟨Nat.le_add_left 1 _, h6, fun j hj j0 => ?_, fun j hj j' hj' e => ?_, fun j hj => ?_, fun j hj => ?_, fun j hj => ?_⟩
  · show (if j = S.n then i else S.par j) < j
    split
    · omega
    · exact h.par j (lt hj ‹_›) j0
  · have e' : (if j = S.n then m else S.nm j) = if j' = S.n then m else S.nm j' := e
    by_cases c : j = S.n <;> by_cases c' : j' = S.n
    · omega
    · rw [if_pos c, if_neg c'] at e'
      exact absurd e'.symm (hm j' (lt hj' c'))
    · rw [if_neg c, if_pos c'] at e'
      exact absurd e' (hm j (lt hj c))
    · rw [if_neg c, if_neg c'] at e'
      exact h.nmI j (lt hj c) j' (lt hj' c') e'
  · show (if j = S.n then m else S.nm j).length ≤ 1000
    split
    · exact hl
    · exact h.nmL j (lt hj ‹_›)
  · show BndP U β' (if j = S.n then S.cur i else S.cur j)
    split
    · exact (h.cur i hi).mono (fun _ z => z) hβ
    · exact (h.cur j (lt hj ‹_›)).mono (fun _ z => z) hβ
  · show BndP U β' (if j = S.n then S.cur i else S.sta j)
    split
    · exact (h.cur i hi).mono (fun _ z => z) hβ
    · exact (h.sta j (lt hj ‹_›)).mono (fun _ z => z) hβ
theorem Sized.merge {U : List Row} {β β' : Nat} {S : Stt} (h : Sized U β S) {i : Nat} (hi : i < S.n) (i0 : i ≠ 0) (hβ : β + (β + β) ≤ β') : Sized U β' (mergeS S i) := by
  have hp : S.par i < S.n := by have := h.par i hi i0; omega
  have key : BndP U β' (merB S i) := ⟨(bnd_add (h.cur _ hp).a (bnd_dif (h.cur i hi).a (h.sta i hi).a)).mono (fun _ z => z) hβ, (bnd_add (h.cur _ hp).b (bnd_dif (h.cur i hi).b (h.sta i hi).b)).mono (fun _ z => z) hβ⟩
  refine ⟨h.n1, h.n6, h.par, h.nmI, h.nmL, fun j hj => ?_, fun j hj => ?_⟩
  · show BndP U β' (if j = i then merB S i else if j = S.par i then merB S i else S.cur j)
    split
    · exact key
    · split
      · exact key
      · exact (h.cur j hj).mono (fun _ z => z) (by omega)
  · show BndP U β' (if j = i then merB S i else S.sta j)
    split
    · exact key
    · exact (h.sta j hj).mono (fun _ z => z) (by omega)
end KA
set_option Elab.async false
set_option linter.all false
set_option maxRecDepth 100000
set_option maxHeartbeats 4000000
/-! the law's model is changed -/
namespace KA
open PySem PySem.Spec PyProof.Rows L2
open PySem.W (EachIs)
structure Wld (CT CB : Addr) (H : Hp) (st cl : Addr) (G : Geo) (M : MGeo) (S : Stt) : Prop where
  T : TreeAt CT CB H G S
  A : ModelAt H M S
  ap : Apart G M S.n
  ok : StOk H st cl
theorem three_away {H : Hp} {st cl a x y : Addr} {z : Str} (ok : StOk H st cl) (h : H a = some (.lst [.ref x, .ref y, .str z])) : a ≠ st ∧ a ≠ cl := by
  obtain ⟨c, s, th, S⟩ := ok
  refine ⟨fun e => ?_, fun e => ?_⟩
  · rw [e, S.hs] at h
    have h' : [V.ref cl, V.int s, V.int th] = [V.ref x, V.ref y, V.str z] := by injection (Option.some.inj h)
    injection h' with _ h'
    injection h' with h' _
    cases h'
  · rw [e, S.hc] at h
    have h' : c.map V.int = [V.ref x, V.ref y, V.str z] := by injection (Option.some.inj h)
    cases c with
    | nil => cases h'
    | cons c t => injection h' with h' _; cases h'
theorem kind_away {H : Hp} {st cl a : Addr} {o : HO} (ok : StOk H st cl) (h : H a = some o) (hn : ∀ xs, o ≠ .lst xs) : a ≠ st ∧ a ≠ cl := by
  obtain ⟨c, s, th, S⟩ := ok
  exact ⟨fun e => by rw [e, S.hs] at h; exact hn _ (Option.some.inj h).symm, fun e => by rw [e, S.hc] at h; exact hn _ (Option.some.inj h).symm⟩
/-- a world stays behind a draw -/
theorem Wld.drawn {CT CB : Addr} {H H' : Hp} {st cl : Addr} {G : Geo} {M : MGeo} {S : Stt} (W : Wld CT CB H st cl G M S) (d : L2.Same H H' ∨ KA.Drawn st cl H H') : Wld CT CB H' st cl G M S := by
  have dr : KA.Drawn st cl H H' := d.elim (fun s => Drawn.of_same s W.ok) id
  have kb : BKeep H H' := fun p b h => h.drawn dr W.ok
  have kd : ∀ {a : Addr} {o : HO}, H a = some o → (∀ xs, o ≠ .lst xs) → H' a = some o := fun h hn => dr.but _ _ (kind_away W.ok h hn).1 (kind_away W.ok h hn).2 h
  refine ⟨W.T.keep kb (fun a kvs _ h => kd h fun _ z => by cases z) (fun a C dx fs h => kd h fun _ z => by cases z), W.A.keep kb (fun a kvs _ h => kd h fun _ z => by cases z) (fun i hi => ?_), W.ap, dr.ok⟩
  have h := W.A.hl i hi
  rw [h]
  exact dr.but _ _ (three_away W.ok h).1 (three_away W.ok h).2 h
/-- .. behind a deed of the tree -/
theorem Wld.tree {CT CB : Addr} {H H' : Hp} {st cl : Addr} {G : Geo} {M : MGeo} {S : Stt} (W : Wld CT CB H st cl G M S) (k : TKeep CB G S.n H H') : ModelAt H' M S ∧ StOk H' st cl ∧ BKeep H H' := by
  have lk := W.T.lkeep k
  refine ⟨W.A.keep lk.bk (fun a kvs ho h => k a _ h (fun z => W.ap a z ho) (fun _ _ z => by cases z)) (fun i hi => ?_), ?_, lk.bk⟩
  · have h := W.A.hl i hi
    rw [h]
    exact lk.1 _ _ h
  · obtain ⟨c, s, th, S0⟩ := W.ok
    exact ⟨c, s, th, lk.1 _ _ S0.hs, lk.1 _ _ S0.hc, S0.lo, S0.hi, S0.len, S0.nn⟩
/-- all but the model's own stays -/
def MKeep (M : MGeo) (n : Nat) (H H' : Hp) : Prop := ∀ a o, H a = some o → ¬ OwnM M n a → (∀ i, i < n → a ≠ M.L i) → H' a = some o
theorem MKeep.trans {M : MGeo} {n : Nat} {H H1 H2 : Hp} (a : MKeep M n H H1) (b : MKeep M n H1 H2) : MKeep M n H H2 := fun x o h h1 h2 => b x o (a x o h h1 h2) h1 h2
theorem MKeep.of {M : MGeo} {n : Nat} {H H' : Hp} (s : Same H H') : MKeep M n H H' := fun a o h _ _ => s a o h
theorem MKeep.tree {CT CB : Addr} {H H' : Hp} {st cl : Addr} {G : Geo} {M : MGeo} {S S' : Stt} (T : TreeAt CT CB H G S') (A : ModelAt H M S) (ap : ∀ a, OwnT G S'.n a → ¬ OwnM M S.n a) (ok : StOk H st cl) (k : MKeep M S.n H H') (kb : BKeep H H') : TreeAt CT CB H' G S' ∧ StOk H' st cl := by
  have nl : ∀ {a : Addr} {o : HO}, H a = some o → (∀ xs, o ≠ .lst xs) → ∀ i, i < S.n → a ≠ M.L i := fun h hn i hi z => by rw [z, A.hl i hi] at h; exact hn _ (Option.some.inj h).symm
  have nd : ∀ {a : Addr} {o : HO}, H a = some o → (∀ kvs, o ≠ .dK kvs) → ¬ OwnM M S.n a := fun h hn z => by
    obtain ⟨kvs, e⟩ := A.own z
    rw [h] at e
    exact hn _ (Option.some.inj e)
  refine ⟨T.keep kb (fun a kvs ho h => k a _ h (ap a ho) (nl h fun _ z => by cases z)) (fun a C dx fs h => k a _ h (nd h fun _ z => by cases z) (nl h fun _ z => by cases z)), ?_⟩
  have away : ∀ i, i < S.n → st ≠ M.L i ∧ cl ≠ M.L i := fun i hi => ⟨fun z => (three_away ok (A.hl i hi)).1 z.symm, fun z => (three_away ok (A.hl i hi)).2 z.symm⟩
  obtain ⟨c, s, th, S0⟩ := ok
  exact ⟨c, s, th, k _ _ S0.hs (nd S0.hs fun _ z => by cases z) (fun i hi => (away i hi).1), k _ _ S0.hc (nd S0.hc fun _ z => by cases z) (fun i hi => (away i hi).2), S0.lo, S0.hi, S0.len, S0.nn⟩
theorem BKeep.three {H : Hp} {l x y : Addr} {z : Str} {o : HO} (h : H l = some (.lst [.ref x, .ref y, .str z])) : BKeep H (upd H l o) := fun p b ⟨ts, h1, h2⟩ => by
  have pl : p ≠ l := fun e => by
    rw [e, h] at h1
    have h' : [V.ref x, V.ref y, V.str z] = ts.map V.ref := by injection (Option.some.inj h1)
    match ts, h' with
    | [], h' => cases h'
    | [_], h' => injection h' with _ h'; cases h'
    | [_, _], h' => injection h' with _ h'; injection h' with _ h'; cases h'
    | _ :: _ :: _ :: _, h' =>
      injection h' with _ h'
      injection h' with _ h'
      injection h' with h' _
      cases h'
  have tk : ∀ {a : Addr} {xs : List V}, H a = some (.tup xs) → upd H l o a = some (.tup xs) := fun e => by rw [upd_ne (fun c => by rw [c, h] at e; cases e)]; exact e
  refine ⟨ts, by rw [upd_ne pl]; exact h1, h2.mono fun t e ⟨q, q1, q2⟩ => ⟨q, tk q1, tk q2⟩⟩
/-- a bag of the model is put -/
theorem ModelAt.put0 {H : Hp} {M : MGeo} {S : Stt} (A : ModelAt H M S) {i : Nat} (hi : i < S.n) {p q r : Addr} {m : Str} (hm : isAB m) {b : Bag} (hd : H (M.D 0 i) = some (.dK (kv2 p q))) (h1 : BagAt H p (S.cur i).1) (h2 : BagAt H q (S.cur i).2) (hr : BagAt H r b) :
    ModelAt (upd H (M.D 0 i) (.dK (putK (kv2 p q) (.inr m) (.ref r)))) M { S with cur := fun j => if j = i then setB (S.cur i) m b else S.cur j } ∧ MKeep M S.n H (upd H (M.D 0 i) (.dK (putK (kv2 p q) (.inr m) (.ref r)))) ∧ BKeep H (upd H (M.D 0 i) (.dK (putK (kv2 p q) (.inr m) (.ref r)))) := by
  have kb : BKeep H (upd H (M.D 0 i) (.dK (putK (kv2 p q) (.inr m) (.ref r)))) := BKeep.dict hd
  have off : ∀ {a : Addr}, a ≠ M.D 0 i → upd H (M.D 0 i) (.dK (putK (kv2 p q) (.inr m) (.ref r))) a = H a := fun h => upd_ne h
  refine ⟨⟨?_, fun j hj => ?_, fun j hj => ?_, fun j hj => ?_, A.iL, A.id, A.im⟩, fun a o e no _ => ?_, kb⟩
  · rw [off (A.im 0 (by decide) i hi).symm]
    exact A.hm
  · have h := A.hl j hj
    rw [off (fun z => by rw [z, hd] at h; cases h)]
    exact h
  · by_cases e : j = i
    · subst e
      show DictB _ _ (if j = j then setB (S.cur j) m b else S.cur j)
      rw [if_pos rfl]
      rcases hm with rfl | rfl
      · exact ⟨r, q, by rw [upd_same]; rfl, kb _ _ hr, kb _ _ h2⟩
      · exact ⟨p, r, by rw [upd_same]; rfl, kb _ _ h1, kb _ _ hr⟩
    · show DictB _ _ (if j = i then setB (S.cur i) m b else S.cur j)
      rw [if_neg e]
      exact (A.h0 j hj).bk kb fun kvs h => by rw [off fun z => e (A.id 0 (by decide) j hj 0 (by decide) i hi z).2]; exact h
  · exact (A.h1 j hj).bk kb fun kvs h => by rw [off fun z => absurd (A.id 1 (by decide) j hj 0 (by decide) i hi z).1 (by decide)]; exact h
  · rw [off (fun z => no (.inr ⟨0, by decide, i, hi, z⟩))]
    exact e
def forkM (M : MGeo) (n : Nat) (l d s : Addr) : MGeo := ⟨M.m, fun j => if j = n then l else M.L j, fun k j => if j = n then (if k = 0 then d else s) else M.D k j⟩
theorem ModelAt.fork {H G1 : Hp} {M : MGeo} {S : Stt} (A : ModelAt H M S) (n1 : 1 ≤ S.n) (par : ∀ i, i < S.n → i ≠ 0 → S.par i < i) {i : Nat} (hi : i < S.n) {m : Str} (hm : ∀ j, j < S.n → S.nm j ≠ m) {l b s : Addr} {kvs : List (L2.Key × V)} (hd : H (M.D 0 i) = some (.dK kvs)) (nl : H l = none) (nb : H b = none) (ns : H s = none) (bs : b ≠ s)
    (e1 : G1 l = some (.lst [.ref b, .ref s, .str (S.nm i)])) (e2 : G1 b = some (.dK kvs)) (e3 : G1 s = some (.dK kvs)) (k : Same H G1) :
    ModelAt (upd G1 M.m (.dK (putK (brKV S.nm M.L S.n) (.inr m) (.ref l)))) (forkM M S.n l b s) (forkS S i m) ∧ MKeep M S.n H (upd G1 M.m (.dK (putK (brKV S.nm M.L S.n) (.inr m) (.ref l)))) ∧ BKeep H (upd G1 M.m (.dK (putK (brKV S.nm M.L S.n) (.inr m) (.ref l)))) ∧
      ∀ a, OwnM (forkM M S.n l b s) (S.n + 1) a → OwnM M S.n a ∨ H a = none := by
  have hmm := k _ _ A.hm
  have kb : BKeep H (upd G1 M.m (.dK (putK (brKV S.nm M.L S.n) (.inr m) (.ref l)))) := (BKeep.of k).trans (BKeep.dict hmm)
  have off : ∀ {a : Addr}, a ≠ M.m → upd G1 M.m (.dK (putK (brKV S.nm M.L S.n) (.inr m) (.ref l))) a = G1 a := fun h => upd_ne h
  have nm : ∀ {a : Addr}, H a = none → a ≠ M.m := fun h z => by rw [z, A.hm] at h; cases h
  obtain ⟨p, q, hd', b1, b2⟩ := A.h0 i hi
  have ekv : kvs = kv2 p q := by
    rw [hd] at hd'
    injection (Option.some.inj hd')
  subst ekv
  have ltn : ∀ {j : Nat}, j < S.n + 1 → j ≠ S.n → j < S.n := fun h1 h2 => by omega
  have newD : ∀ {c : Addr} (k' : Nat), k' < 2 → ∀ j, j < S.n → H c = none → c ≠ M.D k' j := fun {c} k' hk' j hj hc z => by
    obtain ⟨kvs, e⟩ := A.own (a := M.D k' j) (.inr ⟨k', hk', j, hj, rfl⟩)
    rw [← z, hc] at e
    cases e
  have newL : ∀ j, j < S.n → l ≠ M.L j := fun j hj z => by rw [z, A.hl j hj] at nl; cases nl
  have nn : ∀ a : Nat, H (if a = 0 then b else s) = none := fun a => by split <;> assumption
  refine ⟨⟨?_, fun j hj => ?_, fun j hj => ?_, fun j hj => ?_, fun j hj j' hj' e => ?_, fun a ha j hj a' ha' j' hj' e => ?_, fun a ha j hj => ?_⟩, fun a o e no _ => ?_, kb, fun a ha => ?_⟩
  · show upd _ _ _ M.m = _
    rw [upd_same, brKV_put hm]
    rfl
  · by_cases e : j = S.n
    · subst e
      show upd _ _ _ (if S.n = S.n then l else M.L S.n) = some (.lst [.ref (if S.n = S.n then (if 0 = 0 then b else s) else M.D 0 S.n), .ref (if S.n = S.n then (if 1 = 0 then b else s) else M.D 1 S.n), .str (parN (forkS S i m) S.n)])
      have ep : parN (forkS S i m) S.n = S.nm i := by
        unfold parN
        rw [if_neg (by omega)]
        show (if (if S.n = S.n then i else S.par S.n) = S.n then m else S.nm (if S.n = S.n then i else S.par S.n)) = _
        rw [if_pos rfl, if_neg (by omega)]
      rw [if_pos rfl, if_pos rfl, if_pos rfl, if_pos rfl, if_neg (by decide), ep, off (nm nl)]
      exact e1
    · have hj' := ltn hj e
      have ep : parN (forkS S i m) j = parN S j := by
        unfold parN
        by_cases j0 : j = 0
        · rw [if_pos j0, if_pos j0]
        · rw [if_neg j0, if_neg j0]
          show (if (if j = S.n then i else S.par j) = S.n then m else S.nm (if j = S.n then i else S.par j)) = _
          have := par j hj' j0
          rw [if_neg e, if_neg (by omega)]
      show upd _ _ _ (if j = S.n then l else M.L j) = some (.lst [.ref (if j = S.n then (if 0 = 0 then b else s) else M.D 0 j), .ref (if j = S.n then (if 1 = 0 then b else s) else M.D 1 j), .str (parN (forkS S i m) j)])
      have h := A.hl j hj'
      rw [if_neg e, if_neg e, if_neg e, ep, off (fun z => by rw [z, A.hm] at h; cases h)]
      exact k _ _ h
  · by_cases e : j = S.n
    · subst e
      show DictB _ (if S.n = S.n then (if 0 = 0 then b else s) else M.D 0 S.n) (if S.n = S.n then S.cur i else S.cur S.n)
      rw [if_pos rfl, if_pos rfl, if_pos rfl]
      exact ⟨p, q, by rw [off (nm nb)]; exact e2, kb _ _ b1, kb _ _ b2⟩
    · show DictB _ (if j = S.n then (if 0 = 0 then b else s) else M.D 0 j) (if j = S.n then S.cur i else S.cur j)
      rw [if_neg e, if_neg e]
      exact (A.h0 j (ltn hj e)).bk kb fun kvs h => by rw [off (A.im 0 (by decide) j (ltn hj e))]; exact k _ _ h
  · by_cases e : j = S.n
    · subst e
      show DictB _ (if S.n = S.n then (if 1 = 0 then b else s) else M.D 1 S.n) (if S.n = S.n then S.cur i else S.sta S.n)
      rw [if_pos rfl, if_pos rfl, if_neg (by decide)]
      exact ⟨p, q, by rw [off (nm ns)]; exact e3, kb _ _ b1, kb _ _ b2⟩
    · show DictB _ (if j = S.n then (if 1 = 0 then b else s) else M.D 1 j) (if j = S.n then S.cur i else S.sta j)
      rw [if_neg e, if_neg e]
      exact (A.h1 j (ltn hj e)).bk kb fun kvs h => by rw [off (A.im 1 (by decide) j (ltn hj e))]; exact k _ _ h
  · have e' : (if j = S.n then l else M.L j) = if j' = S.n then l else M.L j' := e
    by_cases c : j = S.n <;> by_cases c' : j' = S.n
    · omega
    · rw [if_pos c, if_neg c'] at e'
      exact absurd e' (newL j' (ltn hj' c'))
    · rw [if_neg c, if_pos c'] at e'
      exact absurd e'.symm (newL j (ltn hj c))
    · rw [if_neg c, if_neg c'] at e'
      exact A.iL j (ltn hj c) j' (ltn hj' c') e'
  · have e' : (if j = S.n then (if a = 0 then b else s) else M.D a j) = if j' = S.n then (if a' = 0 then b else s) else M.D a' j' := e
    by_cases c : j = S.n <;> by_cases c' : j' = S.n
    · rw [if_pos c, if_pos c'] at e'
      refine ⟨?_, by omega⟩
      by_cases z : a = 0 <;> by_cases z' : a' = 0
      · omega
      · rw [if_pos z, if_neg z'] at e'
        exact absurd e' bs
      · rw [if_neg z, if_pos z'] at e'
        exact absurd e'.symm bs
      · omega
    · rw [if_pos c, if_neg c'] at e'
      exact absurd e' (newD a' ha' j' (ltn hj' c') (nn a))
    · rw [if_neg c, if_pos c'] at e'
      exact absurd e'.symm (newD a ha j (ltn hj c) (nn a'))
    · rw [if_neg c, if_neg c'] at e'
      exact A.id a ha j (ltn hj c) a' ha' j' (ltn hj' c') e'
  · show (if j = S.n then (if a = 0 then b else s) else M.D a j) ≠ M.m
    by_cases c : j = S.n
    · rw [if_pos c]
      exact nm (nn a)
    · rw [if_neg c]
      exact A.im a ha j (ltn hj c)
  · rw [off (fun z => no (.inl z))]
    exact k _ _ e
  · rcases ha with z | ⟨k', hk', j, hj, z⟩
    · exact .inl (.inl z)
    · have z' : a = if j = S.n then (if k' = 0 then b else s) else M.D k' j := z
      by_cases c : j = S.n
      · rw [if_pos c] at z'
        refine .inr ?_
        rw [z']
        exact nn k'
      · rw [if_neg c] at z'
        exact .inl (.inr ⟨k', hk', j, ltn hj c, z'⟩)
end KA
set_option Elab.async false
set_option linter.all false
set_option maxRecDepth 100000
set_option maxHeartbeats 4000000
/-! the model behind a merge; a deed -/
namespace KA
open PySem PySem.Spec PyProof.Rows L2
open PySem.W (EachIs)
theorem BKeep.but {H H' : Hp} {l x y : Addr} {z : Str} (h : H l = some (.lst [.ref x, .ref y, .str z])) (k : ∀ a o, a ≠ l → H a = some o → H' a = some o) : BKeep H H' := fun p b ⟨ts, h1, h2⟩ => by
  have pl : p ≠ l := fun e => by
    rw [e, h] at h1
    have h' : [V.ref x, V.ref y, V.str z] = ts.map V.ref := by injection (Option.some.inj h1)
    match ts, h' with
    | [], h' => cases h'
    | [_], h' => injection h' with _ h'; cases h'
    | [_, _], h' => injection h' with _ h'; injection h' with _ h'; cases h'
    | _ :: _ :: _ :: _, h' =>
      injection h' with _ h'
      injection h' with _ h'
      injection h' with h' _
      cases h'
  have tk : ∀ {a : Addr} {xs : List V}, H a = some (.tup xs) → H' a = some (.tup xs) := fun e => k _ _ (fun c => by rw [c, h] at e; cases e) e
  exact ⟨ts, k _ _ pl h1, h2.mono fun t e ⟨q, q1, q2⟩ => ⟨q, tk q1, tk q2⟩⟩
def resetM (M : MGeo) (i : Nat) (d s : Addr) : MGeo := { M with D := fun k j => if j = i then (if k = 0 then d else s) else M.D k j }
def midS (S : Stt) (i : Nat) : Stt := { S with cur := fun j => if j = S.par i then merB S i else S.cur j }
theorem ModelAt.reset {H H' : Hp} {M : MGeo} {S : Stt} {i : Nat} (A : ModelAt H M (midS S i)) (hi : i < S.n) (pi : S.par i < i) {d s r t : Addr} (nd : H d = none) (ns : H s = none) (ds : d ≠ s) (hp : H (M.D 0 (S.par i)) = some (.dK (kv2 r t))) (h1 : BagAt H r (merB S i).1) (h2 : BagAt H t (merB S i).2)
    (e1 : H' (M.L i) = some (.lst [.ref d, .ref s, .str (parN S i)])) (e2 : H' d = some (.dK (kv2 r t))) (e3 : H' s = some (.dK (kv2 r t))) (k : ∀ a o, a ≠ M.L i → H a = some o → H' a = some o) :
    ModelAt H' (resetM M i d s) (mergeS S i) ∧ MKeep M S.n H H' ∧ BKeep H H' ∧ ∀ a, OwnM (resetM M i d s) S.n a → OwnM M S.n a ∨ H a = none := by
  have hLi : H (M.L i) = some (.lst [.ref (M.D 0 i), .ref (M.D 1 i), .str (parN S i)]) := A.hl i hi
  have kb : BKeep H H' := BKeep.but hLi k
  have kd : ∀ {a : Addr} {kvs : List (L2.Key × V)}, H a = some (.dK kvs) → H' a = some (.dK kvs) := fun h => k _ _ (fun z => by rw [z, hLi] at h; cases h) h
  have nn : ∀ a : Nat, H (if a = 0 then d else s) = none := fun a => by split <;> assumption
  have newD : ∀ {c : Addr} (k' : Nat), k' < 2 → ∀ j, j < S.n → H c = none → c ≠ M.D k' j := fun {c} k' hk' j hj hc z => by
    obtain ⟨kvs, e⟩ := A.own (a := M.D k' j) (.inr ⟨k', hk', j, hj, rfl⟩)
    rw [← z, hc] at e
    cases e
  refine ⟨⟨kd A.hm, fun j hj => ?_, fun j hj => ?_, fun j hj => ?_, A.iL, fun a ha j hj a' ha' j' hj' e => ?_, fun a ha j hj => ?_⟩, fun a o e _ nl => k a o (nl i hi) e, kb, fun a ha => ?_⟩
  · show H' (M.L j) = some (.lst [.ref (if j = i then (if 0 = 0 then d else s) else M.D 0 j), .ref (if j = i then (if 1 = 0 then d else s) else M.D 1 j), .str (parN S j)])
    by_cases c : j = i
    · subst c
      rw [if_pos rfl, if_pos rfl, if_pos rfl, if_neg (by decide)]
      exact e1
    · rw [if_neg c, if_neg c]
      exact k _ _ (fun z => c (A.iL j hj i hi z)) (A.hl j hj)
  · show DictB H' (if j = i then (if 0 = 0 then d else s) else M.D 0 j) (if j = i then merB S i else if j = S.par i then merB S i else S.cur j)
    by_cases c : j = i
    · rw [if_pos c, if_pos c, if_pos rfl]
      exact ⟨r, t, e2, kb _ _ h1, kb _ _ h2⟩
    · rw [if_neg c, if_neg c]
      exact (A.h0 j hj).bk kb fun kvs h => kd h
  · show DictB H' (if j = i then (if 1 = 0 then d else s) else M.D 1 j) (if j = i then merB S i else S.sta j)
    by_cases c : j = i
    · rw [if_pos c, if_pos c, if_neg (by decide)]
      exact ⟨r, t, e3, kb _ _ h1, kb _ _ h2⟩
    · rw [if_neg c, if_neg c]
      exact (A.h1 j hj).bk kb fun kvs h => kd h
  · have e' : (if j = i then (if a = 0 then d else s) else M.D a j) = if j' = i then (if a' = 0 then d else s) else M.D a' j' := e
    by_cases c : j = i <;> by_cases c' : j' = i
    · rw [if_pos c, if_pos c'] at e'
      refine ⟨?_, by omega⟩
      by_cases z : a = 0 <;> by_cases z' : a' = 0
      · omega
      · rw [if_pos z, if_neg z'] at e'
        exact absurd e' ds
      · rw [if_neg z, if_pos z'] at e'
        exact absurd e'.symm ds
      · omega
    · rw [if_pos c, if_neg c'] at e'
      exact absurd e' (newD a' ha' j' hj' (nn a))
    · rw [if_neg c, if_pos c'] at e'
      exact absurd e'.symm (newD a ha j hj (nn a'))
    · rw [if_neg c, if_neg c'] at e'
      exact A.id a ha j hj a' ha' j' hj' e'
  · show (if j = i then (if a = 0 then d else s) else M.D a j) ≠ M.m
    split
    · exact fun z => by have := nn a; rw [z, A.hm] at this; cases this
    · exact A.im a ha j hj
  · rcases ha with z | ⟨k', hk', j, hj, z⟩
    · exact .inl (.inl z)
    · have z' : a = if j = i then (if k' = 0 then d else s) else M.D k' j := z
      by_cases c : j = i
      · rw [if_pos c] at z'
        refine .inr ?_
        rw [z']
        exact nn k'
      · rw [if_neg c] at z'
        exact .inl (.inr ⟨k', hk', j, hj, z'⟩)
/-- the law's state after at most k deeds -/
structure Deeds (CT CB : Addr) (H : Hp) (st cl : Addr) (G : Geo) (M : MGeo) (S : Stt) (k : Nat) : Prop where
  W : Wld CT CB H st cl G M S
  nm : ∀ i, i < S.n → S.nm i = nmL i
  sz : ∃ U, Sized U (4 ^ k * 10000000) S ∧ U.length ≤ 10 * k ∧ ∀ r ∈ U, r.length ≤ 1000
theorem Deeds.ok {CT CB : Addr} {H : Hp} {st cl : Addr} {G : Geo} {M : MGeo} {S : Stt} {k : Nat} (D : Deeds CT CB H st cl G M S k) (hk : k ≤ 16) : SOk S := by
  obtain ⟨U, h1, h2, h3⟩ := D.sz
  have : (4 : Nat) ^ k ≤ 4 ^ 16 := Nat.pow_le_pow_right (by decide) hk
  have h16 : (4 : Nat) ^ 16 = 4294967296 := by decide
  have h60 : (2 : Nat) ^ 60 = 1152921504606846976 := by decide
  exact h1.ok (by omega) h3 (by omega)
theorem nmL_inj : ∀ i, i < 6 → ∀ j, j < 6 → nmL i = nmL j → i = j := by decide +kernel
theorem good_bnd {c : Bag} (g : GoodBag c) : Bnd (c.map (·.1)) 10000000 c := ⟨g.canon, fun e he => List.mem_map.mpr ⟨e, he, rfl⟩, g.bd⟩
end KA
set_option Elab.async false
set_option linter.all false
set_option maxRecDepth 100000
set_option maxHeartbeats 4000000
/-! _law_deed -/
namespace KA
open PySem PySem.Spec PyProof.Rows L2
open PySem.W (EachIs)
theorem dgetMo {H : Hp} {M : MGeo} {S : Stt} (A : ModelAt H M S) (inj : ∀ i, i < S.n → ∀ j, j < S.n → S.nm i = S.nm j → i = j) {i : Nat} (hi : i < S.n) : DGet H M.m (.str (S.nm i)) (some (.ref (M.L i))) := by
  have z := DGet.k (k := .inr (S.nm i)) A.hm
  rw [brKV_val inj hi] at z
  exact z
theorem Deeds.drawn {CT CB : Addr} {H H' : Hp} {st cl : Addr} {G : Geo} {M : MGeo} {S : Stt} {k : Nat} (D : Deeds CT CB H st cl G M S k) (d : L2.Same H H' ∨ KA.Drawn st cl H H') : Deeds CT CB H' st cl G M S k := ⟨D.W.drawn d, D.nm, D.sz⟩
theorem pow_step (k : Nat) : 4 ^ (k + 1) * 10000000 = 4 * (4 ^ k * 10000000) := by rw [Nat.pow_succ]; omega
theorem Sized.mono {U : List Row} {β β' : Nat} {S : Stt} (h : Sized U β S) (hβ : β ≤ β') : Sized U β' S := ⟨h.n1, h.n6, h.par, h.nmI, h.nmL, fun i hi => (h.cur i hi).mono (fun _ z => z) hβ, fun i hi => (h.sta i hi).mono (fun _ z => z) hβ⟩
theorem Deeds.more {CT CB : Addr} {H : Hp} {st cl : Addr} {G : Geo} {M : MGeo} {S : Stt} {k : Nat} (D : Deeds CT CB H st cl G M S k) : Deeds CT CB H st cl G M S (k + 1) := by
  obtain ⟨U, h1, h2, h3⟩ := D.sz
  exact ⟨D.W, D.nm, U, h1.mono (by rw [pow_step]; omega), by omega, h3⟩
theorem pick_str {ys : List Str} {v : Int} (v0 : 0 ≤ v) (v1 : v < (ys.length : Nat)) : ∃ b, b ∈ ys ∧ atI (ys.map V.str) v = some (.str b) := by
  obtain ⟨n, rfl⟩ : ∃ n : Nat, v = (n : Int) := ⟨v.toNat, by omega⟩
  have hn : n < ys.length := by omega
  refine ⟨ys[n], List.getElem_mem hn, atI_nat ?_⟩
  rw [List.getElem?_map, List.getElem?_eq_getElem hn]
  rfl
theorem keys_names (nm : Nat → Str) (X : Nat → Addr) (n : Nat) : (brKV nm X n).map (·.1) = ((List.range n).map nm).map Sum.inr := by
  unfold brKV
  rw [List.map_map, List.map_map]
  rfl
theorem ab_at {v : Int} (v0 : 0 ≤ v) (v1 : v < 2) : ∃ c : Str, isAB c ∧ atI [V.str "a", V.str "b"] v = some (.str c) := by
  have h : v = 0 ∨ v = 1 := by omega
  rcases h with rfl | rfl
  · exact ⟨"a", .inl rfl, rfl⟩
  · exact ⟨"b", .inr rfl, rfl⟩
theorem fresh_nm : ∀ n : Nat, n < 6 → 1 ≤ n → ∃ c, atI ("abcdef" : Str).cps.toList ((n : Nat) : Int) = some c ∧ ("x" : Str) ++ (⟨#[c]⟩ : Str) = nmL n := by
  intro n h1 h2
  have h : n = 1 ∨ n = 2 ∨ n = 3 ∨ n = 4 ∨ n = 5 := by omega
  rcases h with rfl | rfl | rfl | rfl | rfl
  · exact ⟨_, rfl, by decide +kernel⟩
  · exact ⟨_, rfl, by decide +kernel⟩
  · exact ⟨_, rfl, by decide +kernel⟩
  · exact ⟨_, rfl, by decide +kernel⟩
  · exact ⟨_, rfl, by decide +kernel⟩
theorem dget_raw {H : Hp} {m : Addr} {nm : Nat → Str} {X : Nat → Addr} {n : Nat} (hm : H m = some (.dK (brKV nm X n))) (inj : ∀ i, i < n → ∀ j, j < n → nm i = nm j → i = j) {i : Nat} (hi : i < n) : DGet H m (.str (nm i)) (some (.ref (X i))) := by
  have z := DGet.k (k := .inr (nm i)) hm
  rw [brKV_val inj hi] at z
  exact z
def mB (S : Stt) (i l : Nat) : Bag × Bag := if l = 0 then S.cur (S.par i) else if l = 1 then ((merB S i).1, (S.cur (S.par i)).2) else merB S i
def stepS (S : Stt) (i l : Nat) : Stt := { S with cur := fun j => if j = S.par i then mB S i l else S.cur j }
theorem stepS0 (S : Stt) (i : Nat) : stepS S i 0 = S := by
  have e : (fun j => if j = S.par i then mB S i 0 else S.cur j) = S.cur := by
    funext j
    by_cases h : j = S.par i
    · rw [if_pos h, h]
      rfl
    · rw [if_neg h]
  unfold stepS
  rw [e]
theorem stepS_next {S : Stt} {i l : Nat} {one : Str} (h : (l = 0 ∧ one = "a") ∨ (l = 1 ∧ one = "b")) :
    ({ stepS S i l with cur := fun j => if j = S.par i then setB ((stepS S i l).cur (S.par i)) one (mk (bagOf (mB S i l) one ++ difB (bagOf (S.cur i) one) (bagOf (S.sta i) one))) else (stepS S i l).cur j } : Stt) = stepS S i (l + 1) := by
  have e : (fun j => if j = S.par i then setB ((stepS S i l).cur (S.par i)) one (mk (bagOf (mB S i l) one ++ difB (bagOf (S.cur i) one) (bagOf (S.sta i) one))) else (stepS S i l).cur j) = (stepS S i (l + 1)).cur := by
    funext j
    show (if j = S.par i then setB (if S.par i = S.par i then mB S i l else S.cur (S.par i)) one _ else if j = S.par i then mB S i l else S.cur j) = if j = S.par i then mB S i (l + 1) else S.cur j
    by_cases c : j = S.par i
    · rw [if_pos c, if_pos c, if_pos rfl]
      rcases h with ⟨rfl, rfl⟩ | ⟨rfl, rfl⟩
      · rfl
      · rfl
    · rw [if_neg c, if_neg c, if_neg c]
  rw [e]
  rfl
theorem mB_bag {S : Stt} {i l : Nat} {one : Str} (h : (l = 0 ∧ one = "a") ∨ (l = 1 ∧ one = "b")) : bagOf (mB S i l) one = bagOf (S.cur (S.par i)) one := by
  rcases h with ⟨rfl, rfl⟩ | ⟨rfl, rfl⟩ <;> rfl
theorem dif_bag {A B : Bag × Bag} {one : Str} (h : isAB one) : bagOf (difB A.1 B.1, difB A.2 B.2) one = difB (bagOf A one) (bagOf B one) := by
  rcases h with rfl | rfl <;> rfl
theorem nmL_len : ∀ n, n < 6 → (nmL n).length ≤ 1000 := by decide +kernel
theorem ab_len {c : Str} (h : isAB c) : c.length ≤ 1000 := by rcases h with rfl | rfl <;> decide +kernel
section
variable {P : Program} {w : World} {K : PySem.W.Frag} {mg : Str → Option Value} {base : Heap} {f : Addr} {fd : FuncData}
def spDeed (CT CB : Addr) : Sp := fun vs H Q _ => ∃ (st cl : Addr) (G : Geo) (M : MGeo) (S : Stt) (k : Nat), vs = [.ref st, .ref G.t, .ref M.m] ∧ k < 16 ∧ Deeds CT CB H st cl G M S k ∧ ∀ G' M' S' H', G'.t = G.t → M'.m = M.m → Deeds CT CB H' st cl G' M' S' (k + 1) → Q .non H'
abbrev BagC (P : Program) (w : World) (K : PySem.W.Frag) (mg : Str → Option Value) (base : Heap) : Prop := Cal P w K mg base "_law_bag" 5 ["state", "most"] spBag
theorem ok_deed {CT CB NU NT : Addr} (F : FnP K "_law_deed" s__law_deed f fd) (TC : TrC K mg CT) (gS : mg "sorted" = none) (gL : mg "len" = none) (gD : mg "dict" = none) (CD : DrawC P w K mg base) (CG : BagC P w K mg base) (CP : Cal P w K mg base "plus" 6 ["first", "second"] spPlus) (CM : Cal P w K mg base "minus" 7 ["first", "second"] spMinus)
    (MF : MethG P w K mg base (L2.CX P w) CT "feed" 7 ["self", "branch", "name", "change"] (spFeed CT CB NU)) (MK : MethG P w K mg base (L2.CX P w) CT "fork" 4 ["self", "parent", "branch"] (spFork CT CB NU NT)) (MM : MethG P w K mg base (L2.CX P w) CT "merge" 9 ["self", "branch"] (spMerge CT CB NU)) :
    FnOk P w K mg base CX0 10 f fd ["state", "tree", "m"] (spDeed CT CB) := by
  obtain ⟨f1, d1, m1, G1, b1⟩ := MF.ex
  obtain ⟨f2, d2, m2, G2, b2⟩ := MK.ex
  obtain ⟨f3, d3, m3, G3, b3⟩ := MM.ex
  refine F.ok sc__law_deed (fun vs H Q E h => ?_) (fun cdv A outer s H vs Q E hr h => ?_)
  · obtain ⟨st, cl, G, M, S, k, rfl, _⟩ := h
    rfl
  · obtain ⟨st, cl, G, M, S, k, rfl, hk, DD, q⟩ := h
    have nd := sc__law_deed.nd
    refine ⟨_, PSs.nox (pss_cons (ps_set (i := 3) nd rfl (Or.inl rfl) (pe_callB (call_sortedD rfl) (by rfl) gS (by decide +kernel) (pa_cons (pv 2) pa_nil)))
      (pss_cons (ps_set (i := 4) nd rfl (Or.inl rfl) (pe_ix ix_list (pv 3) (pe_cal CD hr.lt (pa_cons (pv 0) (pa_cons (pe_callB call_len_seq (by rfl) gL PySem.boot_len (pa_cons (pv 3) pa_nil)) pa_nil))) (fun _ _ => rfl)))
      (pss_cons (ps_set (i := 5) nd rfl (Or.inl rfl) (pe_ix ix_list (pe_lst (pa_cons pe_str (pa_cons pe_str pa_nil))) (pe_cal CD hr.lt (pa_cons (pv 0) (pa_cons pe_int pa_nil))) (fun _ _ => rfl)))
      (pss_cons (ps_set (i := 6) nd rfl (Or.inl rfl) (pe_cal CD hr.lt (pa_cons (pv 0) (pa_cons pe_int pa_nil))))
      (pss_one (ps_if (pt_cmpR op_lt (pv 6) pe_int (nomark _))
        (pss_cons (ps_set (i := 7) nd rfl (Or.inl rfl) (pe_cal CG hr.lt (pa_cons (pv 0) (pa_cons pe_int pa_nil))))
        (pss_cons (ps_expr (pe_meth (E := E0) (pv 1) TC.cl m1 G1 hr.lt b1 .nil passL (pa_cons (pv 4) (pa_cons (pv 5) (pa_cons (pv 7) pa_nil)))))
        (pss_one (ps_dput hr.u1 (pe_ix ix_list (pe_dget hr.u1 (pv 2) (pv 4) (fun _ _ => rfl)) pe_int (fun _ _ => rfl)) (pv 5) (pe_cal CP hr.lt (pa_cons (pe_dget hr.u1 (pe_ix ix_list (pe_dget hr.u1 (pv 2) (pv 4) (fun _ _ => rfl)) pe_int (fun _ _ => rfl)) (pv 5) (fun _ _ => rfl)) (pa_cons (pv 7) pa_nil))) rfl))))
        (pss_one (ps_if (PW.pt (pw_and (pt_cmpR op_lt (pv 6) pe_int (nomark _)) (pw_and1 (pt_cmpR op_lt (pe_callB call_len_seq (by rfl) gL PySem.boot_len (pa_cons (pv 3) pa_nil)) pe_int (nomark _)))))
          (pss_cons (ps_set (i := 8) nd rfl (Or.inl rfl) (pe_op op_add_str pe_str (pe_ix ix_str pe_str (pe_callB call_len_seq (by rfl) gL PySem.boot_len (pa_cons (pv 3) pa_nil)) (fun _ _ => rfl))))
          (pss_cons (ps_expr (pe_meth (E := E0) (pv 1) TC.cl m2 G2 hr.lt b2 .nil passL (pa_cons (pv 4) (pa_cons (pv 8) pa_nil))))
          (pss_one (ps_dput hr.u1 (pv 2) (pv 8) (pe_lst (pa_cons (pe_callTy call_dictD (by rfl) gD (by decide +kernel) (pa_cons (pe_ix ix_list (pe_dget hr.u1 (pv 2) (pv 4) (fun _ _ => rfl)) pe_int (fun _ _ => rfl)) pa_nil))
            (pa_cons (pe_callTy call_dictD (by rfl) gD (by decide +kernel) (pa_cons (pe_ix ix_list (pe_dget hr.u1 (pv 2) (pv 4) (fun _ _ => rfl)) pe_int (fun _ _ => rfl)) pa_nil)) (pa_cons (pv 4) pa_nil)))) rfl))))
          (pss_one (ps_if (pt_cmpR op_ne (pv 4) pe_str (nomark _))
            (pss_cons (ps_expr (pe_meth (E := E0) (pv 1) TC.cl m3 G3 hr b3 .nil passL (pa_cons (pv 4) pa_nil)))
            (pss_cons (ps_set (i := 9) nd rfl (Or.inl rfl) (pe_ix ix_list (pe_dget hr.u1 (pv 2) (pv 4) (fun _ _ => rfl)) pe_int (fun _ _ => rfl)))
            (pss_cons (ps_for PassesOwn.never rfl (pi_tup (pe_tup (pa_cons pe_str (pa_cons pe_str pa_nil)))) (pg_name (i := 10) nd rfl (Or.inl rfl))
              (pss_one (ps_dput hr.u1 (pe_ix ix_list (pe_dget hr.u1 (pv 2) (pv 9) (fun _ _ => rfl)) pe_int (fun _ _ => rfl)) (pv 10)
                (pe_cal CP hr.lt (pa_cons (pe_dget hr.u1 (pe_ix ix_list (pe_dget hr.u1 (pv 2) (pv 9) (fun _ _ => rfl)) pe_int (fun _ _ => rfl)) (pv 10) (fun _ _ => rfl))
                  (pa_cons (pe_cal CM hr.lt (pa_cons (pe_dget hr.u1 (pe_ix ix_list (pe_dget hr.u1 (pv 2) (pv 4) (fun _ _ => rfl)) pe_int (fun _ _ => rfl)) (pv 10) (fun _ _ => rfl)) (pa_cons (pe_dget hr.u1 (pe_ix ix_list (pe_dget hr.u1 (pv 2) (pv 4) (fun _ _ => rfl)) pe_int (fun _ _ => rfl)) (pv 10) (fun _ _ => rfl)) pa_nil))) pa_nil))) rfl)))
            (pss_cons (ps_asg (pe_callTy call_dictD (by rfl) gD (by decide +kernel) (pa_cons (pe_ix ix_list (pe_dget hr.u1 (pv 2) (pv 9) (fun _ _ => rfl)) pe_int (fun _ _ => rfl)) pa_nil)) (pg_sub (pe_dget hr.u1 (pv 2) (pv 4) (fun _ _ => rfl)) pe_int set_list (fun _ => rfl)))
            (pss_one (ps_asg (pe_callTy call_dictD (by rfl) gD (by decide +kernel) (pa_cons (pe_ix ix_list (pe_dget hr.u1 (pv 2) (pv 9) (fun _ _ => rfl)) pe_int (fun _ _ => rfl)) pa_nil)) (pg_sub (pe_dget hr.u1 (pv 2) (pv 4) (fun _ _ => rfl)) pe_int set_list (fun _ => rfl))))))))
            pss_nil)))))))))), ?_⟩
    have kln : (brKV S.nm M.L S.n).length = S.n := by unfold brKV; rw [List.length_map, List.length_range]
    have O := DD.ok (by omega)
    refine ⟨_, rfl, M.m, _, (List.range S.n).map S.nm, rfl, .inl DD.W.A.hm, keys_names _ _ _, (by rw [List.length_map, List.length_range]; have := O.n6; omega), fun ys p perm _ hp => ?_⟩
    have ysl : ys.length = S.n := by rw [perm.length_eq, List.length_map, List.length_range]
    have D1 := DD.drawn (.inl (same_new (o := .lst (ys.map V.str)) hp))
    have hp1 : upd H p (.lst (ys.map V.str)) p = some (.lst (ys.map V.str)) := upd_same
    have pne : p ≠ st ∧ p ≠ cl := by
      obtain ⟨c, s, th, S0⟩ := DD.W.ok
      exact S0.away hp
    generalize upd H p (.lst (ys.map V.str)) = Ha at D1 hp1 ⊢
    refine ⟨_, rfl, _, rfl, _, rfl, p, _, rfl, .inl (sq_l hp1), st, cl, _, rfl, D1.W.ok, (by rw [List.length_map, ysl]; have := O.n1; omega), (by rw [List.length_map, ysl]; have := O.n6; omega), fun v1 Hb db v10 v11 => ?_⟩
    have D2 := D1.drawn (.inr db)
    have hp2 := db.but _ _ pne.1 pne.2 hp1
    obtain ⟨br, hbr, hat⟩ := pick_str (ys := ys) v10 (by rw [List.length_map] at v11; exact v11)
    obtain ⟨i, hi, ei⟩ : ∃ i, i < S.n ∧ S.nm i = br := by
      obtain ⟨i, h1, h2⟩ := List.mem_map.mp (perm.mem_iff.mp hbr)
      exact ⟨i, List.mem_range.mp h1, h2⟩
    subst ei
    refine ⟨p, _, v1, _, rfl, rfl, sq_l hp2, hat, ?_⟩
    refine ⟨(by show 2 ≤ sizeLine; decide), fun pl hpl => ?_⟩
    have D3 := D2.drawn (.inl (same_new (o := .lst [.str "a", .str "b"]) hpl))
    have hp3 : upd Hb pl (.lst [.str "a", .str "b"]) p = some (.lst (ys.map V.str)) := (same_new hpl) _ _ hp2
    have hpl3 : upd Hb pl (.lst [.str "a", .str "b"]) pl = some (.lst [.str "a", .str "b"]) := upd_same
    have plne : pl ≠ st ∧ pl ≠ cl := by
      obtain ⟨c, s, th, S0⟩ := D2.W.ok
      exact S0.away hpl
    generalize upd Hb pl (.lst [.str "a", .str "b"]) = Hc at D3 hp3 hpl3 ⊢
    refine ⟨_, rfl, st, cl, 2, rfl, D3.W.ok, by decide, by decide, fun v2 Hd dd v20 v21 => ?_⟩
    have D4 := D3.drawn (.inr dd)
    have hp4 := dd.but _ _ pne.1 pne.2 hp3
    obtain ⟨c, hc, hcat⟩ := ab_at v20 v21
    refine ⟨pl, _, v2, _, rfl, rfl, sq_l (dd.but _ _ plne.1 plne.2 hpl3), hcat, ?_⟩
    refine ⟨_, rfl, st, cl, 5, rfl, D4.W.ok, by decide, by decide, fun kind He de k0 k5 => ?_⟩
    have D5 := D4.drawn (.inr de)
    have hp5 := de.but _ _ pne.1 pne.2 hp4
    have nmI := O.nmI
    refine ⟨_, rfl, _, _, rfl, rfl, _, rfl, ?_⟩
    by_cases hk2 : kind < 2
    · rw [decide_eq_true hk2]
      refine iteT ?_
      refine ⟨_, rfl, st, cl, 2, rfl, by decide, by decide, D5.W.ok, fun pb ch Hf df hb gb _ => ?_⟩
      have D6 := D5.drawn (.inr df)
      have gb0 := good_bnd gb
      have hcl : ch.length ≤ 400 := by have := gb.len; omega
      refine ⟨_, rfl, G.t, G.dt, _, rfl, D6.W.T.ht, rfl, _, rfl, _, rfl, _, rfl, G, S, S.nm i, c, pb, ch, rfl, D6.W.T, O, O.nmL i hi, ab_len hc, hb, hcl, gb.rows.rowB, fun i' hi' e hab Hg kg Tg => ?_, fun no => absurd rfl (no i hi), fun _ _ _ nab => absurd hc nab⟩
      obtain rfl : i' = i := nmI i' hi' i hi e
      obtain ⟨Ag, okg, bkg⟩ := D6.W.tree kg
      have hbg := bkg _ _ hb
      obtain ⟨pa, pq, hd, ba, bb⟩ := Ag.h0 i' hi
      refine ⟨_, rfl, _, rfl, M.m, _, rfl, dgetMo Ag nmI hi, M.L i', _, 0, .ref (M.D 0 i'), rfl, rfl, sq_l (Ag.hl i' hi), atI_nat (j := 0) rfl, _, rfl, M.D 0 i', _, rfl, dgetAB hc hd, ?_⟩
      have okb := (O.cur i' hi).of (n := c)
      refine ⟨_, rfl, _, pb, bagOf (S.cur i') c, ch, rfl, bag_pick ba bb, hbg, okb.len, hcl, okb.row, gb.rows.rowB, fun u Hh sh hu => ?_⟩
      have Ah := Ag.mono sh
      have Th := Tg.mono sh
      have okh := okg.same sh
      refine ⟨_, rfl, _, rfl, M.m, _, rfl, dgetMo Ah nmI hi, M.L i', _, 0, .ref (M.D 0 i'), rfl, rfl, sq_l (Ah.hl i' hi), atI_nat (j := 0) rfl, _, rfl, M.D 0 i', _, rfl, DPut.k (k := .inr c) (sh _ _ hd) (by show 2 < sizeLine; decide), ?_⟩
      obtain ⟨A2, mk2, kb2⟩ := Ah.put0 hi hc (sh _ _ hd) (ba.mono sh) (bb.mono sh) hu
      obtain ⟨T2, ok2⟩ := MKeep.tree Th Ah D6.W.ap okh mk2 kb2
      obtain ⟨U, h1, h2, h3⟩ := D6.sz
      refine q G M (feedS S i' c ch) _ rfl rfl ⟨⟨T2, A2, D6.W.ap, ok2⟩, D6.nm, U ++ ch.map (·.1), h1.feed hi (gb0.mono (fun r hr => List.mem_append_right _ hr) (Nat.le_refl _)) (fun r hr => List.mem_append_left _ hr) ?_, ?_, fun r hr => ?_⟩
      · rw [pow_step]
        have : 1 ≤ 4 ^ k := Nat.one_le_pow _ _ (by decide)
        omega
      · rw [List.length_append, List.length_map]
        have := gb.len
        omega
      · rcases List.mem_append.mp hr with z | z
        · exact h3 r z
        · obtain ⟨e, he, rfl⟩ := List.mem_map.mp z
          exact Nat.le_trans (gb.rows e he).1 (by decide)
    · rw [decide_eq_false hk2]
      refine iteF ?_
      refine ⟨_, rfl, _, _, rfl, rfl, _, rfl, ?_⟩
      by_cases hBr : kind < 4 ∧ S.n < 6
      · obtain ⟨hk4, h6⟩ := hBr
        rw [decide_eq_true hk4]
        refine iteT ⟨_, rfl, p, _, rfl, .inl (sq_l hp5), _, _, rfl, rfl, _, rfl, ?_⟩
        rw [List.length_map, ysl, decide_eq_true (by omega : ((S.n : Nat) : Int) < 6)]
        refine iteT ?_
        obtain ⟨ch, hch, hfr⟩ := fresh_nm S.n h6 O.n1
        refine ⟨_, rfl, p, _, rfl, .inl (sq_l hp5), "abcdef", _, ch, rfl, rfl, (by show 6 ≤ sizeLine; decide), ?_, "x", _, rfl, rfl, (by show 1 + 1 ≤ sizeLine; decide), ?_⟩
        · rw [List.length_map, ysl]
          exact hch
        rw [hfr]
        have no : ∀ j, j < S.n → S.nm j ≠ nmL S.n := fun j hj e => by
          rw [DD.nm j hj] at e
          have := nmL_inj j (by omega) S.n h6 e
          omega
        refine ⟨_, rfl, G.t, G.dt, _, rfl, D5.W.T.ht, rfl, _, rfl, _, rfl, G, S, S.nm i, nmL S.n, rfl, D5.W.T, O, O.nmL i hi, nmL_len _ h6, fun i' hi' e _ G' Hg et kg own Tg => ?_, fun no' => absurd rfl (no' i hi), fun _ _ _ j hj e => absurd e (no j hj)⟩
        obtain rfl : i' = i := nmI i' hi' i hi e
        obtain ⟨Ag, okg, bkg⟩ := D5.W.tree kg
        obtain ⟨pa, pq, hd, ba, bb⟩ := Ag.h0 i' hi
        refine ⟨_, rfl, _, rfl, M.m, _, rfl, dgetMo Ag nmI hi, M.L i', _, 0, .ref (M.D 0 i'), rfl, rfl, sq_l (Ag.hl i' hi), atI_nat (j := 0) rfl, M.D 0 i', _, rfl, .inl hd, fun da hda => ?_⟩
        have sa := same_new (o := HO.dK (kv2 pa pq)) hda
        have Aa := Ag.mono sa
        refine ⟨_, rfl, _, rfl, M.m, _, rfl, dgetMo Aa nmI hi, M.L i', _, 0, .ref (M.D 0 i'), rfl, rfl, sq_l (Aa.hl i' hi), atI_nat (j := 0) rfl, M.D 0 i', _, rfl, .inl (sa _ _ hd), fun ds hds => ?_⟩
        have sb := sa.trans (same_new (o := HO.dK (kv2 pa pq)) hds)
        refine ⟨_, rfl, (by show 3 ≤ sizeLine; decide), fun l hl => ?_⟩
        have sc := sb.trans (same_new (o := HO.lst [.ref da, .ref ds, .str (S.nm i')]) hl)
        refine ⟨_, rfl, _, rfl, M.m, _, rfl, DPut.k (k := .inr (nmL S.n)) (sc _ _ Ag.hm) (by rw [kln]; have := O.n6; exact Nat.lt_of_le_of_lt this (by decide)), ?_⟩
        have dads : da ≠ ds := fun z => by rw [← z, upd_same] at hds; cases hds
        have dal : da ≠ l := fun z => by rw [← z, upd_ne dads, upd_same] at hl; cases hl
        have dsl : ds ≠ l := fun z => by rw [← z, upd_same] at hl; cases hl
        have hds0 : Hg ds = none := by rwa [upd_ne dads.symm] at hds
        have hl0 : Hg l = none := by rwa [upd_ne dsl.symm, upd_ne dal.symm] at hl
        obtain ⟨A2, mk2, kb2, ow2⟩ := Ag.fork O.n1 O.par hi no hd hl0 hda hds0 dads upd_same (by rw [upd_ne dal, upd_ne dads, upd_same]) (by rw [upd_ne dsl, upd_same]) sc
        have ap2 : ∀ a, OwnT G' (S.n + 1) a → ¬ OwnM M S.n a := fun a ho hm => by
          rcases own a ho with z | z
          · exact D5.W.ap a z hm
          · obtain ⟨kvs, e⟩ := D5.W.A.own hm
            rw [z] at e
            cases e
        obtain ⟨T2, ok2⟩ := MKeep.tree (S' := forkS S i' (nmL S.n)) Tg Ag ap2 okg mk2 kb2
        obtain ⟨U, h1, h2, h3⟩ := D5.sz
        refine q G' (forkM M S.n l da ds) (forkS S i' (nmL S.n)) _ et rfl ⟨⟨T2, A2, fun a ho hm => ?_, ok2⟩, fun j hj => ?_, U, h1.fork hi h6 no (nmL_len _ h6) (by rw [pow_step]; omega), by omega, h3⟩
        · rcases ow2 a hm with z | z
          · exact ap2 a ho z
          · obtain ⟨kvs, e⟩ := Tg.own ho
            rw [z] at e
            cases e
        · show (if j = S.n then nmL S.n else S.nm j) = nmL j
          have hj' : j < S.n + 1 := hj
          split
          · rename_i c
            rw [c]
          · exact DD.nm j (by omega)
      · have hC : (¬ kind < 4) ∨ (kind < 4 ∧ ¬ S.n < 6) := by
          by_cases h : kind < 4
          · exact .inr ⟨h, fun z => hBr ⟨h, z⟩⟩
          · exact .inl h
        have cond : decide (V.str (S.nm i) = V.str "trunk") = decide (i = 0) := by
          by_cases i0 : i = 0
          · subst i0
            have e : S.nm 0 = "trunk" := DD.nm 0 hi
            rw [e]
            simp
          · have e : S.nm i ≠ "trunk" := fun z => i0 (nmI i hi 0 (by have := O.n1; omega) (z.trans (DD.nm 0 (by have := O.n1; omega)).symm))
            have e2 : ¬ (V.str (S.nm i) = V.str "trunk") := fun z => e (by injection z)
            rw [decide_eq_false e2, decide_eq_false i0]
        rcases hC with h | ⟨h, h'⟩
        · rw [decide_eq_false h]
          refine iteF (iteF ⟨_, rfl, rfl, _, rfl, ?_⟩)
          rw [cond]
          by_cases i0 : i = 0
          · rw [decide_eq_true i0]
            refine iteF ?_
            exact q G M S _ rfl rfl D5.more
          · rw [decide_eq_false i0]
            refine iteT ?_
            refine ⟨_, rfl, G.t, G.dt, _, rfl, D5.W.T.ht, rfl, _, rfl, G, S, S.nm i, rfl, D5.W.T, O, O.nmL i hi, fun i' hi' e i0' G' Hg et kg own Tg => ?_, fun no' => absurd rfl (no' i hi), fun e => absurd (nmI 0 (by omega) i hi e).symm i0⟩
            obtain rfl : i' = i := nmI i' hi' i hi e
            obtain ⟨Ag, okg, bkg⟩ := D5.W.tree kg
            have pi : S.par i' < i' := O.par i' hi i0
            have hpn : S.par i' < S.n := by omega
            have pne' : i' ≠ S.par i' := by omega
            have epN : parN S i' = S.nm (S.par i') := if_neg i0
            have hli := Ag.hl i' hi
            refine ⟨_, rfl, _, rfl, M.m, _, rfl, dgetMo Ag nmI hi, M.L i', _, 2, .str (parN S i'), rfl, rfl, sq_l hli, atI_nat (j := 2) rfl, ?_⟩
            rw [epN]
            refine ⟨(by show 2 ≤ sizeLine; decide), fun tp htp => ⟨tp, rfl, ⟨_, sq_t upd_same⟩, ?_⟩⟩
            have sh := same_new (o := HO.tup [.str "a", .str "b"]) htp
            have A0 : ModelAt (upd Hg tp (.tup [.str "a", .str "b"])) M (stepS S i' 0) := by rw [stepS0]; exact Ag.mono sh
            have T0 := Tg.mono sh
            have ok0 := okg.same sh
            have tp0 : upd Hg tp (.tup [.str "a", .str "b"]) tp = some (.tup [.str "a", .str "b"]) := upd_same
            have ap2 : ∀ a, OwnT G' S.n a → ¬ OwnM M S.n a := fun a ho hm => by
              rcases own a ho with z | z
              · exact D5.W.ap a z hm
              · obtain ⟨kvs, e⟩ := D5.W.A.own hm
                rw [z] at e
                cases e
            generalize upd Hg tp (.tup [.str "a", .str "b"]) = Hh at A0 T0 ok0 tp0 ⊢
            refine for_it (walk_tup (xs := [V.str "a", V.str "b"])) (fun l σ Gx => (∃ x, σ = [some (.ref st), some (.ref G.t), some (.ref M.m), some (.ref p), some (.str (S.nm i')), some (.str c), some (.int kind), none, none, some (.str (S.nm (S.par i'))), x]) ∧ TreeAt CT CB Gx G' (mergeS S i') ∧ ModelAt Gx M (stepS S i' l) ∧ StOk Gx st cl ∧ Gx tp = some (.tup [.str "a", .str "b"]))
              ⟨⟨_, rfl⟩, T0, A0, ok0, tp0⟩ (fun l σ Gx _ z => sq_t z.2.2.2.2) ?_ ?_
            · rintro l x σ _ Ga hl ⟨⟨x0, rfl⟩, Ta, Aa, oka, tpa⟩ ⟨rfl, hx⟩
              obtain ⟨one, rfl, hone⟩ : ∃ one : Str, x = .str one ∧ ((l = 0 ∧ one = "a") ∨ (l = 1 ∧ one = "b")) := by
                match l, hx with
                | 0, hx => exact ⟨"a", (Option.some.inj hx).symm, .inl ⟨rfl, rfl⟩⟩
                | 1, hx => exact ⟨"b", (Option.some.inj hx).symm, .inr ⟨rfl, rfl⟩⟩
                | l + 2, hx => cases hx
              have hab : isAB one := by rcases hone with ⟨_, h⟩ | ⟨_, h⟩ <;> first | exact .inl h | exact .inr h
              obtain ⟨pa, pq, hdp, bpa, bpb⟩ := Aa.h0 (S.par i') hpn
              have eP : (stepS S i' l).cur (S.par i') = mB S i' l := if_pos rfl
              have eI : (stepS S i' l).cur i' = S.cur i' := if_neg pne'
              have hI := Aa.h0 i' hi
              rw [eI] at hI
              obtain ⟨ia, ib, hdi, bia, bib⟩ := hI
              obtain ⟨sa', sb', hds, bsa, bsb⟩ := Aa.h1 i' hi
              have hlp := Aa.hl (S.par i') hpn
              have hli2 := Aa.hl i' hi
              have okc := (O.cur i' hi).of (n := one)
              have oks := (O.sta i' hi).of (n := one)
              have okp := (O.cur (S.par i') hpn).of (n := one)
              have okd := (O.dif i' hi).of (n := one)
              rw [dif_bag hab] at okd
              have hb1 : BagAt Ga (if one = "a" then pa else pq) (bagOf (S.cur (S.par i')) one) := by
                rw [← mB_bag hone, ← eP]
                exact bag_pick bpa bpb
              refine ⟨_, rfl, _, rfl, M.m, _, rfl, dget_raw Aa.hm nmI hpn, M.L (S.par i'), _, 0, .ref (M.D 0 (S.par i')), rfl, rfl, sq_l hlp, atI_nat (j := 0) rfl, _, rfl, M.D 0 (S.par i'), _, rfl, dgetAB hab hdp, ?_⟩
              refine ⟨_, rfl, _, rfl, M.m, _, rfl, dget_raw Aa.hm nmI hi, M.L i', _, 0, .ref (M.D 0 i'), rfl, rfl, sq_l hli2, atI_nat (j := 0) rfl, _, rfl, M.D 0 i', _, rfl, dgetAB hab hdi, ?_⟩
              refine ⟨_, rfl, _, rfl, M.m, _, rfl, dget_raw Aa.hm nmI hi, M.L i', _, 1, .ref (M.D 1 i'), rfl, rfl, sq_l hli2, atI_nat (j := 1) rfl, _, rfl, M.D 1 i', _, rfl, dgetAB hab hds, ?_⟩
              refine ⟨_, _, bagOf (S.cur i') one, bagOf (S.sta i') one, rfl, bag_pick bia bib, bag_pick bsa bsb, okc.len, oks.len, okc.row, oks.row, oks.bd, fun u1 Gb s1 hu1 => ?_⟩
              refine ⟨_, u1, bagOf (S.cur (S.par i')) one, _, rfl, hb1.mono s1, hu1, okp.len, okd.len, okp.row, okd.row, fun u2 Gc s2 hu2 => ?_⟩
              have s12 := s1.trans s2
              have Ac := Aa.mono s12
              refine ⟨_, rfl, _, rfl, M.m, _, rfl, dget_raw Ac.hm nmI hpn, M.L (S.par i'), _, 0, .ref (M.D 0 (S.par i')), rfl, rfl, sq_l (s12 _ _ hlp), atI_nat (j := 0) rfl, _, rfl, M.D 0 (S.par i'), _, rfl, DPut.k (k := .inr one) (s12 _ _ hdp) (by show 2 < sizeLine; decide), ?_⟩
              rw [← mB_bag hone] at hu2
              obtain ⟨A2, mk2, kb2⟩ := Ac.put0 hpn hab (s12 _ _ hdp) (bpa.mono s12) (bpb.mono s12) hu2
              obtain ⟨T2, ok2⟩ := MKeep.tree (S := stepS S i' l) (S' := mergeS S i') (Ta.mono s12) Ac ap2 (oka.same s12) mk2 kb2
              have tp2 := s12 _ _ tpa
              have A3 := A2
              have eS := stepS_next (S := S) (i := i') hone
              refine ⟨⟨_, rfl⟩, T2, ?_, ok2, ?_⟩
              · rw [← eS]
                exact A2
              · rw [upd_ne (fun z => by have h := s12 _ _ hdp; rw [← z, tp2] at h; cases h)]
                exact tp2
            · rintro σ Ge ⟨⟨x0, rfl⟩, Te, Ae, oke, tpe⟩
              have Am : ModelAt Ge M (midS S i') := Ae
              obtain ⟨r, t, hdp, b1', b2'⟩ := Am.h0 (S.par i') hpn
              have eP : (midS S i').cur (S.par i') = merB S i' := if_pos rfl
              rw [eP] at b1' b2'
              have hlp := Am.hl (S.par i') hpn
              have hli2 := Am.hl i' hi
              have hmm := Am.hm
              have Lne : M.L (S.par i') ≠ M.L i' := fun z => by have := Am.iL _ hpn _ hi z; omega
              refine ⟨_, rfl, _, rfl, M.m, _, rfl, dget_raw hmm nmI hpn, M.L (S.par i'), _, 0, .ref (M.D 0 (S.par i')), rfl, rfl, sq_l hlp, atI_nat (j := 0) rfl, M.D 0 (S.par i'), _, rfl, .inl hdp, fun da hda => ?_⟩
              have sa := same_new (o := HO.dK (kv2 r t)) hda
              refine ⟨_, rfl, _, rfl, M.m, _, rfl, dget_raw (sa _ _ hmm) nmI hi, M.L i', _, 0, 0, rfl, rfl, sa _ _ hli2, rfl, ?_⟩
              have kG : ∀ a o, a ≠ M.L i' → Ge a = some o → upd (upd Ge da (.dK (kv2 r t))) (M.L i') (.lst [.ref da, .ref (M.D 1 i'), .str (parN S i')]) a = some o := fun a o na h => by rw [upd_ne na]; exact sa _ _ h
              have mne : M.m ≠ M.L i' := fun z => by rw [z, hli2] at hmm; cases hmm
              have dne : M.D 0 (S.par i') ≠ M.L i' := fun z => by rw [z, hli2] at hdp; cases hdp
              have dal : da ≠ M.L i' := fun z => by rw [z, hli2] at hda; cases hda
              have hda4 : upd (upd Ge da (.dK (kv2 r t))) (M.L i') (.lst [.ref da, .ref (M.D 1 i'), .str (parN S i')]) da = some (.dK (kv2 r t)) := by rw [upd_ne dal, upd_same]
              refine ⟨_, rfl, _, rfl, M.m, _, rfl, dget_raw (kG _ _ mne hmm) nmI hpn, M.L (S.par i'), _, 0, .ref (M.D 0 (S.par i')), rfl, rfl, sq_l (kG _ _ Lne hlp), atI_nat (j := 0) rfl, M.D 0 (S.par i'), _, rfl, .inl (kG _ _ dne hdp), fun ds hds => ?_⟩
              have sb := same_new (o := HO.dK (kv2 r t)) hds
              refine ⟨_, rfl, _, rfl, M.m, _, rfl, dget_raw (sb _ _ (kG _ _ mne hmm)) nmI hi, M.L i', _, 1, 1, rfl, rfl, sb _ _ upd_same, rfl, ?_⟩
              have dsl : ds ≠ M.L i' := fun z => by rw [z, upd_same] at hds; cases hds
              have dads : da ≠ ds := ne_of_none hda4 hds
              have hds0 : Ge ds = none := by
                cases z : Ge ds with
                | none => rfl
                | some o => exact absurd ((kG _ _ dsl z).symm.trans hds) (by simp)
              obtain ⟨A6, mk6, kb6, ow6⟩ := ModelAt.reset (H' := upd (upd (upd (upd Ge da (.dK (kv2 r t))) (M.L i') (.lst [.ref da, .ref (M.D 1 i'), .str (parN S i')])) ds (.dK (kv2 r t))) (M.L i') (.lst [.ref da, .ref ds, .str (parN S i')])) Am hi pi hda hds0 dads hdp b1' b2'
                upd_same (by rw [upd_ne dal]; exact sb _ _ hda4) (by rw [upd_ne dsl, upd_same]) (fun a o na h => by rw [upd_ne na]; exact sb _ _ (kG _ _ na h))
              obtain ⟨T6, ok6⟩ := MKeep.tree (S := midS S i') (S' := mergeS S i') Te Am ap2 oke mk6 kb6
              obtain ⟨U, h1, h2, h3⟩ := D5.sz
              refine q G' (resetM M i' da ds) (mergeS S i') _ et rfl ⟨⟨T6, A6, fun a ho hm => ?_, ok6⟩, DD.nm, U, h1.merge hi i0 (by rw [pow_step]; omega), by omega, h3⟩
              rcases ow6 a hm with z | z
              · exact ap2 a ho z
              · obtain ⟨kvs, e⟩ := Te.own ho
                rw [z] at e
                cases e
        · rw [decide_eq_true h]
          refine iteT ⟨_, rfl, p, _, rfl, .inl (sq_l hp5), _, _, rfl, rfl, _, rfl, ?_⟩
          rw [List.length_map, ysl, decide_eq_false (by omega : ¬ ((S.n : Nat) : Int) < 6)]
          refine iteF ⟨_, rfl, rfl, _, rfl, ?_⟩
          rw [cond]
          by_cases i0 : i = 0
          · rw [decide_eq_true i0]
            refine iteF ?_
            exact q G M S _ rfl rfl D5.more
          · rw [decide_eq_false i0]
            refine iteT ?_
            refine ⟨_, rfl, G.t, G.dt, _, rfl, D5.W.T.ht, rfl, _, rfl, G, S, S.nm i, rfl, D5.W.T, O, O.nmL i hi, fun i' hi' e i0' G' Hg et kg own Tg => ?_, fun no' => absurd rfl (no' i hi), fun e => absurd (nmI 0 (by omega) i hi e).symm i0⟩
            obtain rfl : i' = i := nmI i' hi' i hi e
            obtain ⟨Ag, okg, bkg⟩ := D5.W.tree kg
            have pi : S.par i' < i' := O.par i' hi i0
            have hpn : S.par i' < S.n := by omega
            have pne' : i' ≠ S.par i' := by omega
            have epN : parN S i' = S.nm (S.par i') := if_neg i0
            have hli := Ag.hl i' hi
            refine ⟨_, rfl, _, rfl, M.m, _, rfl, dgetMo Ag nmI hi, M.L i', _, 2, .str (parN S i'), rfl, rfl, sq_l hli, atI_nat (j := 2) rfl, ?_⟩
            rw [epN]
            refine ⟨(by show 2 ≤ sizeLine; decide), fun tp htp => ⟨tp, rfl, ⟨_, sq_t upd_same⟩, ?_⟩⟩
            have sh := same_new (o := HO.tup [.str "a", .str "b"]) htp
            have A0 : ModelAt (upd Hg tp (.tup [.str "a", .str "b"])) M (stepS S i' 0) := by rw [stepS0]; exact Ag.mono sh
            have T0 := Tg.mono sh
            have ok0 := okg.same sh
            have tp0 : upd Hg tp (.tup [.str "a", .str "b"]) tp = some (.tup [.str "a", .str "b"]) := upd_same
            have ap2 : ∀ a, OwnT G' S.n a → ¬ OwnM M S.n a := fun a ho hm => by
              rcases own a ho with z | z
              · exact D5.W.ap a z hm
              · obtain ⟨kvs, e⟩ := D5.W.A.own hm
                rw [z] at e
                cases e
            generalize upd Hg tp (.tup [.str "a", .str "b"]) = Hh at A0 T0 ok0 tp0 ⊢
            refine for_it (walk_tup (xs := [V.str "a", V.str "b"])) (fun l σ Gx => (∃ x, σ = [some (.ref st), some (.ref G.t), some (.ref M.m), some (.ref p), some (.str (S.nm i')), some (.str c), some (.int kind), none, none, some (.str (S.nm (S.par i'))), x]) ∧ TreeAt CT CB Gx G' (mergeS S i') ∧ ModelAt Gx M (stepS S i' l) ∧ StOk Gx st cl ∧ Gx tp = some (.tup [.str "a", .str "b"]))
              ⟨⟨_, rfl⟩, T0, A0, ok0, tp0⟩ (fun l σ Gx _ z => sq_t z.2.2.2.2) ?_ ?_
            · rintro l x σ _ Ga hl ⟨⟨x0, rfl⟩, Ta, Aa, oka, tpa⟩ ⟨rfl, hx⟩
              obtain ⟨one, rfl, hone⟩ : ∃ one : Str, x = .str one ∧ ((l = 0 ∧ one = "a") ∨ (l = 1 ∧ one = "b")) := by
                match l, hx with
                | 0, hx => exact ⟨"a", (Option.some.inj hx).symm, .inl ⟨rfl, rfl⟩⟩
                | 1, hx => exact ⟨"b", (Option.some.inj hx).symm, .inr ⟨rfl, rfl⟩⟩
                | l + 2, hx => cases hx
              have hab : isAB one := by rcases hone with ⟨_, h⟩ | ⟨_, h⟩ <;> first | exact .inl h | exact .inr h
              obtain ⟨pa, pq, hdp, bpa, bpb⟩ := Aa.h0 (S.par i') hpn
              have eP : (stepS S i' l).cur (S.par i') = mB S i' l := if_pos rfl
              have eI : (stepS S i' l).cur i' = S.cur i' := if_neg pne'
              have hI := Aa.h0 i' hi
              rw [eI] at hI
              obtain ⟨ia, ib, hdi, bia, bib⟩ := hI
              obtain ⟨sa', sb', hds, bsa, bsb⟩ := Aa.h1 i' hi
              have hlp := Aa.hl (S.par i') hpn
              have hli2 := Aa.hl i' hi
              have okc := (O.cur i' hi).of (n := one)
              have oks := (O.sta i' hi).of (n := one)
              have okp := (O.cur (S.par i') hpn).of (n := one)
              have okd := (O.dif i' hi).of (n := one)
              rw [dif_bag hab] at okd
              have hb1 : BagAt Ga (if one = "a" then pa else pq) (bagOf (S.cur (S.par i')) one) := by
                rw [← mB_bag hone, ← eP]
                exact bag_pick bpa bpb
              refine ⟨_, rfl, _, rfl, M.m, _, rfl, dget_raw Aa.hm nmI hpn, M.L (S.par i'), _, 0, .ref (M.D 0 (S.par i')), rfl, rfl, sq_l hlp, atI_nat (j := 0) rfl, _, rfl, M.D 0 (S.par i'), _, rfl, dgetAB hab hdp, ?_⟩
              refine ⟨_, rfl, _, rfl, M.m, _, rfl, dget_raw Aa.hm nmI hi, M.L i', _, 0, .ref (M.D 0 i'), rfl, rfl, sq_l hli2, atI_nat (j := 0) rfl, _, rfl, M.D 0 i', _, rfl, dgetAB hab hdi, ?_⟩
              refine ⟨_, rfl, _, rfl, M.m, _, rfl, dget_raw Aa.hm nmI hi, M.L i', _, 1, .ref (M.D 1 i'), rfl, rfl, sq_l hli2, atI_nat (j := 1) rfl, _, rfl, M.D 1 i', _, rfl, dgetAB hab hds, ?_⟩
              refine ⟨_, _, bagOf (S.cur i') one, bagOf (S.sta i') one, rfl, bag_pick bia bib, bag_pick bsa bsb, okc.len, oks.len, okc.row, oks.row, oks.bd, fun u1 Gb s1 hu1 => ?_⟩
              refine ⟨_, u1, bagOf (S.cur (S.par i')) one, _, rfl, hb1.mono s1, hu1, okp.len, okd.len, okp.row, okd.row, fun u2 Gc s2 hu2 => ?_⟩
              have s12 := s1.trans s2
              have Ac := Aa.mono s12
              refine ⟨_, rfl, _, rfl, M.m, _, rfl, dget_raw Ac.hm nmI hpn, M.L (S.par i'), _, 0, .ref (M.D 0 (S.par i')), rfl, rfl, sq_l (s12 _ _ hlp), atI_nat (j := 0) rfl, _, rfl, M.D 0 (S.par i'), _, rfl, DPut.k (k := .inr one) (s12 _ _ hdp) (by show 2 < sizeLine; decide), ?_⟩
              rw [← mB_bag hone] at hu2
              obtain ⟨A2, mk2, kb2⟩ := Ac.put0 hpn hab (s12 _ _ hdp) (bpa.mono s12) (bpb.mono s12) hu2
              obtain ⟨T2, ok2⟩ := MKeep.tree (S := stepS S i' l) (S' := mergeS S i') (Ta.mono s12) Ac ap2 (oka.same s12) mk2 kb2
              have tp2 := s12 _ _ tpa
              have A3 := A2
              have eS := stepS_next (S := S) (i := i') hone
              refine ⟨⟨_, rfl⟩, T2, ?_, ok2, ?_⟩
              · rw [← eS]
                exact A2
              · rw [upd_ne (fun z => by have h := s12 _ _ hdp; rw [← z, tp2] at h; cases h)]
                exact tp2
            · rintro σ Ge ⟨⟨x0, rfl⟩, Te, Ae, oke, tpe⟩
              have Am : ModelAt Ge M (midS S i') := Ae
              obtain ⟨r, t, hdp, b1', b2'⟩ := Am.h0 (S.par i') hpn
              have eP : (midS S i').cur (S.par i') = merB S i' := if_pos rfl
              rw [eP] at b1' b2'
              have hlp := Am.hl (S.par i') hpn
              have hli2 := Am.hl i' hi
              have hmm := Am.hm
              have Lne : M.L (S.par i') ≠ M.L i' := fun z => by have := Am.iL _ hpn _ hi z; omega
              refine ⟨_, rfl, _, rfl, M.m, _, rfl, dget_raw hmm nmI hpn, M.L (S.par i'), _, 0, .ref (M.D 0 (S.par i')), rfl, rfl, sq_l hlp, atI_nat (j := 0) rfl, M.D 0 (S.par i'), _, rfl, .inl hdp, fun da hda => ?_⟩
              have sa := same_new (o := HO.dK (kv2 r t)) hda
              refine ⟨_, rfl, _, rfl, M.m, _, rfl, dget_raw (sa _ _ hmm) nmI hi, M.L i', _, 0, 0, rfl, rfl, sa _ _ hli2, rfl, ?_⟩
              have kG : ∀ a o, a ≠ M.L i' → Ge a = some o → upd (upd Ge da (.dK (kv2 r t))) (M.L i') (.lst [.ref da, .ref (M.D 1 i'), .str (parN S i')]) a = some o := fun a o na h => by rw [upd_ne na]; exact sa _ _ h
              have mne : M.m ≠ M.L i' := fun z => by rw [z, hli2] at hmm; cases hmm
              have dne : M.D 0 (S.par i') ≠ M.L i' := fun z => by rw [z, hli2] at hdp; cases hdp
              have dal : da ≠ M.L i' := fun z => by rw [z, hli2] at hda; cases hda
              have hda4 : upd (upd Ge da (.dK (kv2 r t))) (M.L i') (.lst [.ref da, .ref (M.D 1 i'), .str (parN S i')]) da = some (.dK (kv2 r t)) := by rw [upd_ne dal, upd_same]
              refine ⟨_, rfl, _, rfl, M.m, _, rfl, dget_raw (kG _ _ mne hmm) nmI hpn, M.L (S.par i'), _, 0, .ref (M.D 0 (S.par i')), rfl, rfl, sq_l (kG _ _ Lne hlp), atI_nat (j := 0) rfl, M.D 0 (S.par i'), _, rfl, .inl (kG _ _ dne hdp), fun ds hds => ?_⟩
              have sb := same_new (o := HO.dK (kv2 r t)) hds
              refine ⟨_, rfl, _, rfl, M.m, _, rfl, dget_raw (sb _ _ (kG _ _ mne hmm)) nmI hi, M.L i', _, 1, 1, rfl, rfl, sb _ _ upd_same, rfl, ?_⟩
              have dsl : ds ≠ M.L i' := fun z => by rw [z, upd_same] at hds; cases hds
              have dads : da ≠ ds := ne_of_none hda4 hds
              have hds0 : Ge ds = none := by
                cases z : Ge ds with
                | none => rfl
                | some o => exact absurd ((kG _ _ dsl z).symm.trans hds) (by simp)
              obtain ⟨A6, mk6, kb6, ow6⟩ := ModelAt.reset (H' := upd (upd (upd (upd Ge da (.dK (kv2 r t))) (M.L i') (.lst [.ref da, .ref (M.D 1 i'), .str (parN S i')])) ds (.dK (kv2 r t))) (M.L i') (.lst [.ref da, .ref ds, .str (parN S i')])) Am hi pi hda hds0 dads hdp b1' b2'
                upd_same (by rw [upd_ne dal]; exact sb _ _ hda4) (by rw [upd_ne dsl, upd_same]) (fun a o na h => by rw [upd_ne na]; exact sb _ _ (kG _ _ na h))
              obtain ⟨T6, ok6⟩ := MKeep.tree (S := midS S i') (S' := mergeS S i') Te Am ap2 oke mk6 kb6
              obtain ⟨U, h1, h2, h3⟩ := D5.sz
              refine q G' (resetM M i' da ds) (mergeS S i') _ et rfl ⟨⟨T6, A6, fun a ho hm => ?_, ok6⟩, DD.nm, U, h1.merge hi i0 (by rw [pow_step]; omega), by omega, h3⟩
              rcases ow6 a hm with z | z
              · exact ap2 a ho z
              · obtain ⟨kvs, e⟩ := Te.own ho
                rw [z] at e
                cases e
end
end KA
set_option Elab.async false
set_option linter.all false
set_option maxRecDepth 100000
set_option maxHeartbeats 4000000
/-! the two orders: what the two ends hold -/
namespace KA
open PySem PySem.Spec PyProof.Rows L2
open PySem.W (EachIs)
def eS2 : Stt := forkS (forkS newS 0 "xa") 0 "xb"
def eS3 (c0 : Bag) : Stt := feedS eS2 1 "a" c0
def eS4 (c0 c1 : Bag) : Stt := feedS (eS3 c0) 2 "a" c1
def eS5 (c0 c1 : Bag) (o1 : Nat) : Stt := mergeS (eS4 c0 c1) o1
def eS6 (c0 c1 c2 : Bag) (o1 : Nat) : Stt := feedS (eS5 c0 c1 o1) 0 "a" c2
def eS7 (c0 c1 c2 : Bag) (o1 o2 : Nat) : Stt := mergeS (eS6 c0 c1 c2 o1) o2
def endB (c0 c1 c2 : Bag) : Bag := mk (mk (c0 ++ c1) ++ c2)
theorem nil_canon : Canon [] := ⟨List.Pairwise.nil, fun e he => by cases he⟩
theorem mk_zero {ps : Bag} (h : ∀ r, tot ps r = 0) : mk ps = [] := Canon.ext (mk_canon ps) nil_canon fun r => by rw [mk_tot, h, tot_nil]
theorem dif_tot (a b : Bag) (r : Row) : tot (difB a b) r = tot a r - tot b r := by
  unfold difB
  rw [mk_tot, tot_app, scale_tot]
  omega
theorem end12 (c0 c1 c2 : Bag) : (eS7 c0 c1 c2 1 2).cur 0 = (endB c0 c1 c2, []) := by
  have h : (eS7 c0 c1 c2 1 2).cur 0 = (mk (mk (mk ([] ++ difB (mk ([] ++ c0)) []) ++ c2) ++ difB (mk ([] ++ c1)) []), mk (mk ([] ++ difB [] []) ++ difB [] [])) := rfl
  rw [h]
  congr 1
  · exact mk_ext fun r => by simp only [tot_app, mk_tot, dif_tot, tot_nil]; omega
  · exact mk_zero fun r => by simp only [tot_app, mk_tot, dif_tot, tot_nil]; omega
theorem end21 (c0 c1 c2 : Bag) : (eS7 c0 c1 c2 2 1).cur 0 = (endB c0 c1 c2, []) := by
  have h : (eS7 c0 c1 c2 2 1).cur 0 = (mk (mk (mk ([] ++ difB (mk ([] ++ c1)) []) ++ c2) ++ difB (mk ([] ++ c0)) []), mk (mk ([] ++ difB [] []) ++ difB [] [])) := rfl
  rw [h]
  congr 1
  · exact mk_ext fun r => by simp only [tot_app, mk_tot, dif_tot, tot_nil]; omega
  · exact mk_zero fun r => by simp only [tot_app, mk_tot, dif_tot, tot_nil]; omega
theorem bnd_nil (U : List Row) (β : Nat) : BndP U β ([], []) := ⟨⟨nil_canon, (fun e he => (List.not_mem_nil he).elim), (fun e he => (List.not_mem_nil he).elim)⟩, ⟨nil_canon, (fun e he => (List.not_mem_nil he).elim), (fun e he => (List.not_mem_nil he).elim)⟩⟩
theorem sized_new (U : List Row) (β : Nat) : Sized U β newS :=
  ⟨Nat.le_refl 1, (by show 1 ≤ 6; decide), fun i hi i0 => by have : i < 1 := hi; omega, fun i hi j hj _ => by have h1 : i < 1 := hi; have h2 : j < 1 := hj; omega, fun i hi => (by show ("trunk" : Str).length ≤ 1000; decide +kernel), fun i hi => bnd_nil U β, fun i hi => bnd_nil U β⟩
section
variable {U : List Row} {c0 c1 c2 : Bag} {o1 o2 : Nat}
theorem sized1 : Sized U 10000000 (forkS newS 0 "xa") := (sized_new U 10000000).fork (by decide) (by decide) (fun j hj => by show ("trunk" : Str) ≠ "xa"; decide +kernel) (by decide +kernel) (Nat.le_refl _)
theorem no_xb : ∀ j, j < (forkS newS 0 "xa").n → (forkS newS 0 "xa").nm j ≠ "xb" := fun j hj => by
  show (if j = 1 then ("xa" : Str) else "trunk") ≠ "xb"
  split <;> decide +kernel
theorem sized2 : Sized U 10000000 eS2 := sized1.fork (by decide) (by decide) no_xb (by decide +kernel) (Nat.le_refl _)
theorem sized3 (h0 : Bnd U 10000000 c0) : Sized U 20000000 (eS3 c0) := sized2.feed (by show 1 < 3; decide) h0 (fun _ z => z) (by decide)
theorem sized4 (h0 : Bnd U 10000000 c0) (h1 : Bnd U 10000000 c1) : Sized U 30000000 (eS4 c0 c1) := (sized3 h0).feed (by show 2 < 3; decide) h1 (fun _ z => z) (by decide)
theorem sized5 (h0 : Bnd U 10000000 c0) (h1 : Bnd U 10000000 c1) (ho : o1 = 1 ∨ o1 = 2) : Sized U 90000000 (eS5 c0 c1 o1) := (sized4 h0 h1).merge (by show o1 < 3; omega) (by omega) (by decide)
theorem sized6 (h0 : Bnd U 10000000 c0) (h1 : Bnd U 10000000 c1) (h2 : Bnd U 10000000 c2) (ho : o1 = 1 ∨ o1 = 2) : Sized U 100000000 (eS6 c0 c1 c2 o1) := (sized5 h0 h1 ho).feed (by show 0 < 3; decide) h2 (fun _ z => z) (by decide)
theorem sized7 (h0 : Bnd U 10000000 c0) (h1 : Bnd U 10000000 c1) (h2 : Bnd U 10000000 c2) (ho : o1 = 1 ∨ o1 = 2) (ho2 : o2 = 1 ∨ o2 = 2) : Sized U 300000000 (eS7 c0 c1 c2 o1 o2) := (sized6 h0 h1 h2 ho).merge (by show o2 < 3; omega) (by omega) (by decide)
end
/-- a tree's run beside what stood before -/
structure Run (CT CB : Addr) (Ga : Hp) (es : List Addr) (Gx : Hp) (G : Geo) (S : Stt) : Prop where
  T : TreeAt CT CB Gx G S
  lk : LKeep Ga Gx
  dk : ∀ d ∈ es, ∀ kvs, Ga d = some (.dK kvs) → Gx d = some (.dK kvs) ∧ ¬ OwnT G S.n d
theorem Run.step {CT CB : Addr} {Ga Gx Gy : Hp} {es : List Addr} {G G' : Geo} {S S' : Stt} (R : Run CT CB Ga es Gx G S) (k : TKeep CB G S.n Gx Gy) (own : ∀ a, OwnT G' S'.n a → OwnT G S.n a ∨ Gx a = none) (T : TreeAt CT CB Gy G' S') : Run CT CB Ga es Gy G' S' := by
  refine ⟨T, R.lk.trans (R.T.lkeep k), fun d hd kvs h => ?_⟩
  obtain ⟨h1, h2⟩ := R.dk d hd kvs h
  refine ⟨k d _ h1 h2 (fun _ _ z => by cases z), fun z => ?_⟩
  rcases own d z with y | y
  · exact h2 y
  · rw [h1] at y
    cases y
theorem Run.same {CT CB : Addr} {Ga Gx Gy : Hp} {es : List Addr} {G : Geo} {S : Stt} (R : Run CT CB Ga es Gx G S) (s : Same Gx Gy) : Run CT CB Ga es Gy G S :=
  ⟨R.T.mono s, R.lk.trans (.of s), fun d hd kvs h => ⟨s _ _ (R.dk d hd kvs h).1, (R.dk d hd kvs h).2⟩⟩
theorem BagAt.off {H : Hp} {l p : Addr} {xs ys : List V} {b : Bag} (hl : H l = some (.lst xs)) (h : BagAt H p b) (ne : p ≠ l) : BagAt (upd H l (.lst ys)) p b := by
  obtain ⟨ts, h1, h2⟩ := h
  have tk : ∀ {a : Addr} {zs : List V}, H a = some (.tup zs) → upd H l (.lst ys) a = some (.tup zs) := fun e => by rw [upd_ne (fun c => by rw [c, hl] at e; cases e)]; exact e
  exact ⟨ts, by rw [upd_ne ne]; exact h1, h2.mono fun t e ⟨q, q1, q2⟩ => ⟨q, tk q1, tk q2⟩⟩
theorem lk_it {J : It} {n : Nat} {Gd : Hp → Prop} {Y : Nat → Hp → V → Hp → Prop} (w : Walk J n Gd Y) {D : Addr} {g : TG} {tt : TT} {te : TE} {σ : L2.St} {vs : List Nat} {H0 : Hp} {Qd : Hp → Prop} (Pv : Nat → Hp → Prop) (h0 : Pv 0 H0) (hG : ∀ i H, i ≤ n → Pv i H → Gd H)
    (hs : ∀ i x H H', i < n → Pv i H → Y i H x H' → g x (wipe σ vs) H' fun σ2 H2 => wipe σ2 vs = wipe σ vs ∧ tt σ2 H2 fun b H3 => if b = true then te σ2 H3 fun y H4 => ∃ acc, H4 D = some (.lst acc) ∧ acc.length < sizeLine ∧ Pv (i + 1) (upd H4 D (.lst (acc ++ [y]))) else Pv (i + 1) H3)
    (hd : ∀ H, Pv n H → Qd H) :
    ∃ W : Nat → Nat → Hp → Prop, (∃ m, W 0 m H0) ∧ ∀ i m H, W i m H → (J.stop i H ∧ Qd H) ∨ (J.go i H ∧ ∃ Nx : Hp → Prop, (∀ H', Nx H' → ∃ m', m' < m ∧ W (i + 1) m' H') ∧ ∀ x H', J.yld i H x H' → g x (wipe σ vs) H' fun σ2 H2 => wipe σ2 vs = wipe σ vs ∧ tt σ2 H2 fun b H3 =>
      if b = true then te σ2 H3 fun y H4 => ∃ acc, H4 D = some (.lst acc) ∧ acc.length < sizeLine ∧ Nx (upd H4 D (.lst (acc ++ [y]))) else Nx H3) := by
  refine ⟨fun i m H => m = n - i ∧ i ≤ n ∧ Pv i H, ⟨n, by simp, Nat.zero_le _, h0⟩, fun i m H ⟨em, hi, p⟩ => ?_⟩
  have q := hG i H hi p
  by_cases lt : i < n
  · exact .inr ⟨w.goes i H lt q, Pv (i + 1), fun H' p' => ⟨n - (i + 1), by omega, rfl, lt, p'⟩, fun x H' y => hs i x H H' lt p (w.yields i H x H' lt q y)⟩
  · obtain rfl : i = n := by omega
    exact .inl ⟨w.stops H q, hd H p⟩
end KA
set_option Elab.async false
set_option linter.all false
set_option maxRecDepth 100000
set_option maxHeartbeats 4000000
/-! _law_either_order -/
namespace KA
open PySem PySem.Spec PyProof.Rows L2
open PySem.W (EachIs)
abbrev st6 (s c o : V) (tr : Option V) (e : V) : L2.St := [some s, some c, none, some e, some o, tr]
theorem rowB_mk {n : Nat} {ps : Bag} (h : RowB n ps) : RowB n (mk ps) := fun e he => by
  obtain ⟨e', h1, h2⟩ := mk_rows he
  rw [← h2]
  exact h e' h1
theorem each3 {R : Addr → Bag → Prop} {p0 p1 p2 : Addr} {bs : List Bag} (h : EachIs R [p0, p1, p2] bs) : ∃ c0 c1 c2, R p0 c0 ∧ R p1 c1 ∧ R p2 c2 := by
  cases h with
  | cons h0 he =>
    cases he with
    | cons h1 he =>
      cases he with
      | cons h2 he => exact ⟨_, _, _, h0, h1, h2⟩
section
variable {P : Program} {w : World} {K : PySem.W.Frag} {mg : Str → Option Value} {base : Heap} {f : Addr} {fd : FuncData}
def spEither : Sp := fun vs H Q _ => ∃ (st cl : Addr), vs = [.ref st] ∧ StOk H st cl ∧ ∀ H', Q (.bl true) H'
/-- what a turn of the two leaves -/
structure EndAt (H : Hp) (le d : Addr) (E : Bag) : Prop where
  ex : ∃ p q, H d = some (.dK (kv2 p q)) ∧ BagAt H p E ∧ BagAt H q [] ∧ p ≠ le ∧ q ≠ le
structure Given (H : Hp) (lc : Addr) (le : Addr) (c0 c1 c2 : Bag) : Prop where
  ex : ∃ p0 p1 p2, H lc = some (.lst [.ref p0, .ref p1, .ref p2]) ∧ BagAt H p0 c0 ∧ BagAt H p1 c1 ∧ BagAt H p2 c2 ∧ p0 ≠ le ∧ p1 ≠ le ∧ p2 ≠ le ∧ lc ≠ le
theorem Given.lk {H H' : Hp} {lc le : Addr} {c0 c1 c2 : Bag} (g : Given H lc le c0 c1 c2) (k : LKeep H H') : Given H' lc le c0 c1 c2 := by
  obtain ⟨p0, p1, p2, h, b0, b1, b2, n⟩ := g.ex
  exact ⟨p0, p1, p2, k.1 _ _ h, b0.lk k, b1.lk k, b2.lk k, n⟩
theorem Given.off {H : Hp} {lc le : Addr} {xs ys : List V} {c0 c1 c2 : Bag} (hl : H le = some (.lst xs)) (g : Given H lc le c0 c1 c2) : Given (upd H le (.lst ys)) lc le c0 c1 c2 := by
  obtain ⟨p0, p1, p2, h, b0, b1, b2, n0, n1, n2, nl⟩ := g.ex
  exact ⟨p0, p1, p2, by rw [upd_ne nl]; exact h, b0.off hl n0, b1.off hl n1, b2.off hl n2, n0, n1, n2, nl⟩
theorem EndAt.off {H : Hp} {le d : Addr} {xs ys : List V} {E : Bag} (hl : H le = some (.lst xs)) (g : EndAt H le d E) : EndAt (upd H le (.lst ys)) le d E := by
  obtain ⟨p, q, h, b0, b1, n0, n1⟩ := g.ex
  exact ⟨p, q, by rw [upd_ne (fun z => by rw [z, hl] at h; cases h)]; exact h, b0.off hl n0, b1.off hl n1, n0, n1⟩
theorem ok_either {CT CB NU NT : Addr} (F : FnP K "_law_either_order" s__law_either_order f fd) (TC : TrC K mg CT) (gR : mg "range" = none) (CG : BagC P w K mg base) (CP : Cal P w K mg base "plus" 6 ["first", "second"] spPlus) (MI : MakeG P w K mg base CX0 CT 4 ["self", "names"] (spTInit CT CB))
    (MF : MethG P w K mg base (L2.CX P w) CT "feed" 7 ["self", "branch", "name", "change"] (spFeed CT CB NU)) (MK : MethG P w K mg base (L2.CX P w) CT "fork" 4 ["self", "parent", "branch"] (spFork CT CB NU NT)) (MM : MethG P w K mg base (L2.CX P w) CT "merge" 9 ["self", "branch"] (spMerge CT CB NU)) (MN : InputsC P w K mg base CT CB NU) :
    FnOk P w K mg base CX0 10 f fd ["state"] spEither := by
  obtain ⟨f0, d0, m0, G0, b0⟩ := MI.ex
  obtain ⟨f1, d1, m1, G1, b1⟩ := MF.ex
  obtain ⟨f2, d2, m2, G2, b2⟩ := MK.ex
  obtain ⟨f3, d3, m3, G3, b3⟩ := MM.ex
  obtain ⟨f4, d4, m4, G4, b4⟩ := MN.ex
  refine F.ok sc__law_either_order (fun vs H Q E h => ?_) (fun cdv A outer s H vs Q E hr h => ?_)
  · obtain ⟨st, cl, rfl, _⟩ := h
    rfl
  · obtain ⟨st, cl, rfl, hS, q⟩ := h
    have nd := sc__law_either_order.nd
    refine ⟨_, PSs.nox (pss_cons (ps_setLc (i := 1) (own := [("k", 2)]) (g := gName 2) (tt := tYes) (te := tCall spBag [] E0 (tCons (tVar 0) (tCons (tC (.int 3)) tNil))) (by rfl) nd rfl rfl (sw_true rfl rfl rfl (by decide +kernel)) (pi_range1 rfl gR (pa_cons pe_int pa_nil))
        (blkOk_by (own := [("k", 2)]) (N := ["state", "changes", "k", "ends", "order", "tree"]) (sc := defScope s__law_either_order) (by decide +kernel)) (fun _ _ _ _ _ => pg_name (i := 2) nd rfl (Or.inl rfl)) (fun _ _ _ _ _ => pts_nil) (fun _ _ _ _ _ => pe_cal CG hr.lt (pa_cons (pv 0) (pa_cons pe_int pa_nil))))
      (pss_cons (ps_set (i := 3) nd rfl (Or.inl rfl) (pe_lst pa_nil))
      (pss_cons (ps_for PassesOwn.never rfl (pi_tup (pe_tup (pa_cons (pe_lst (pa_cons pe_str (pa_cons pe_str pa_nil))) (pa_cons (pe_lst (pa_cons pe_str (pa_cons pe_str pa_nil))) pa_nil)))) (pg_name (i := 4) nd rfl (Or.inl rfl))
        (pss_cons (ps_set (i := 5) nd rfl (Or.inl rfl) (pe_make m0 G0 hr.lt (by rfl) TC.mgC b0 .nil pass0 (pa_cons (pe_lst (pa_cons pe_str (pa_cons pe_str pa_nil))) pa_nil)))
        (pss_cons (ps_expr (pe_meth (E := E0) (pv 5) TC.cl m2 G2 hr.lt b2 .nil passL (pa_cons pe_str (pa_cons pe_str pa_nil))))
        (pss_cons (ps_expr (pe_meth (E := E0) (pv 5) TC.cl m2 G2 hr.lt b2 .nil passL (pa_cons pe_str (pa_cons pe_str pa_nil))))
        (pss_cons (ps_expr (pe_meth (E := E0) (pv 5) TC.cl m1 G1 hr.lt b1 .nil passL (pa_cons pe_str (pa_cons pe_str (pa_cons (pe_ix ix_list (pv 1) pe_int (fun _ _ => rfl)) pa_nil)))))
        (pss_cons (ps_expr (pe_meth (E := E0) (pv 5) TC.cl m1 G1 hr.lt b1 .nil passL (pa_cons pe_str (pa_cons pe_str (pa_cons (pe_ix ix_list (pv 1) pe_int (fun _ _ => rfl)) pa_nil)))))
        (pss_cons (ps_expr (pe_meth (E := E0) (pv 5) TC.cl m3 G3 hr b3 .nil passL (pa_cons (pe_ix ix_list (pv 4) pe_int (fun _ _ => rfl)) pa_nil)))
        (pss_cons (ps_expr (pe_meth (E := E0) (pv 5) TC.cl m1 G1 hr.lt b1 .nil passL (pa_cons pe_str (pa_cons pe_str (pa_cons (pe_ix ix_list (pv 1) pe_int (fun _ _ => rfl)) pa_nil)))))
        (pss_cons (ps_expr (pe_meth (E := E0) (pv 5) TC.cl m3 G3 hr b3 .nil passL (pa_cons (pe_ix ix_list (pv 4) pe_int (fun _ _ => rfl)) pa_nil)))
        (pss_one (ps_expr (pe_bm PySem.F.plainAttrs_list PySem.F.slot_list_append PySem.F.type_list_append mt_append (pv 3) (pa_cons (pe_meth (E := E0) (pv 5) TC.cl m4 G4 hr.lt b4 .nil passL (pa_cons pe_str pa_nil)) pa_nil)))))))))))))
      (pss_one (ps_ret (pe_and (pe_cmpR (op_eqDD hr.u64) (pe_ix ix_list (pv 3) pe_int (fun _ _ => rfl)) (pe_ix ix_list (pv 3) pe_int (fun _ _ => rfl)) (nomark _))
        (pe_one (pe_cmpR (op_eqP hr.u64) (pe_dget hr.u1 (pe_ix ix_list (pv 3) pe_int (fun _ _ => rfl)) pe_str (fun _ _ => rfl))
          (pe_cal CP hr.lt (pa_cons (pe_cal CP hr.lt (pa_cons (pe_ix ix_list (pv 1) pe_int (fun _ _ => rfl)) (pa_cons (pe_ix ix_list (pv 1) pe_int (fun _ _ => rfl)) pa_nil))) (pa_cons (pe_ix ix_list (pv 1) pe_int (fun _ _ => rfl)) pa_nil))) (nomark _))))))))), ?_⟩
    refine ⟨3, rfl, by decide, by decide, fun D hD => ?_⟩
    have Dne : D ≠ st ∧ D ≠ cl := by
      obtain ⟨c, z, th, S0⟩ := hS
      exact S0.away hD
    refine lk_it walk_range (fun j G => StOk G st cl ∧ ∃ (ps : List Addr) (bs : List Bag), G D = some (.lst (ps.map V.ref)) ∧ ps.length = j ∧ EachIs (fun p b => (BagAt G p b ∧ p ≠ D) ∧ GoodBag b) ps bs) ⟨hS.new hD, [], [], upd_same, rfl, .nil⟩ (fun _ _ _ _ => trivial) ?_ ?_
    · rintro j x Ga G hj ⟨ok, ps, bs, hG, hl, he⟩ ⟨rfl, rfl⟩
      refine ⟨rfl, yes_in ⟨_, rfl, st, cl, 3, rfl, by decide, by decide, ok, fun p b G2 dr hb gb hn => ?_⟩⟩
      have hG2 := dr.but D _ Dne.1 Dne.2 hG
      have pD : p ≠ D := fun z => by rw [z, hG] at hn; cases hn
      refine ⟨_, hG2, by rw [List.length_map, hl]; exact Nat.lt_of_lt_of_le hj (by show 3 ≤ sizeLine; decide), ?_, ps ++ [p], bs ++ [b], by rw [List.map_append]; exact upd_same, by rw [List.length_append, hl]; rfl, each_app (he.mono fun t e z => ⟨⟨BagAt.off hG2 (z.1.1.drawn dr ok) z.1.2, z.1.2⟩, z.2⟩) (.cons ⟨⟨BagAt.off hG2 hb pD, pD⟩, gb⟩ .nil)⟩
      obtain ⟨c, z, th, S0⟩ := dr.ok
      exact ⟨c, z, th, by rw [upd_ne Dne.1.symm]; exact S0.hs, by rw [upd_ne Dne.2.symm]; exact S0.hc, S0.lo, S0.hi, S0.len, S0.nn⟩
    · rintro Gd ⟨ok, ps, bs, hG, hl, he⟩
      obtain ⟨p0, p1, p2, rfl⟩ : ∃ p0 p1 p2, ps = [p0, p1, p2] := by
        match ps, hl with
        | [a, b, c], _ => exact ⟨a, b, c, rfl⟩
      obtain ⟨c0, c1, c2, ⟨⟨hb0, q0⟩, g0⟩, ⟨⟨hb1, q1⟩, g1⟩, ⟨⟨hb2, q2⟩, g2⟩⟩ := each3 he
      refine ⟨(by show 0 ≤ sizeLine; decide), fun le hle => ?_⟩
      have s1 := same_new (o := HO.lst []) hle
      refine ⟨(by show 2 ≤ sizeLine; decide), fun lo1 hlo1 => ⟨(by show 2 ≤ sizeLine; decide), fun lo2 hlo2 => ⟨(by show 2 ≤ sizeLine; decide), fun tp htp => ⟨tp, rfl, ⟨_, sq_t upd_same⟩, ?_⟩⟩⟩⟩
      have s2 := same_new (o := HO.lst [.str "xa", .str "xb"]) hlo1
      have s3 := same_new (o := HO.lst [.str "xb", .str "xa"]) hlo2
      have s4 := same_new (o := HO.tup [.ref lo1, .ref lo2]) htp
      have s234 := (s2.trans s3).trans s4
      have sall := s1.trans s234
      have alive : ∀ {a : Addr} {o : HO}, Gd a = some o → a ≠ le := fun h => ne_of_none h hle
      have bagAl : ∀ {p : Addr} {b : Bag}, BagAt Gd p b → p ≠ le := fun ⟨ts, h, _⟩ => alive h
      have given0 : Given (upd (upd (upd (upd Gd le (.lst [])) lo1 (.lst [.str "xa", .str "xb"])) lo2 (.lst [.str "xb", .str "xa"])) tp (.tup [.ref lo1, .ref lo2])) D le c0 c1 c2 :=
        ⟨p0, p1, p2, sall _ _ hG, hb0.mono sall, hb1.mono sall, hb2.mono sall, bagAl hb0, bagAl hb1, bagAl hb2, alive hG⟩
      have le0 := s234 _ _ (upd_same (H := Gd) (a := le) (o := .lst []))
      have l10 := (s3.trans s4) _ _ (upd_same (a := lo1) (o := .lst [.str "xa", .str "xb"]))
      have l20 := s4 _ _ (upd_same (a := lo2) (o := .lst [.str "xb", .str "xa"]))
      have tp0 := upd_same (H := upd (upd (upd Gd le (.lst [])) lo1 (.lst [.str "xa", .str "xb"])) lo2 (.lst [.str "xb", .str "xa"])) (a := tp) (o := .tup [.ref lo1, .ref lo2])
      generalize upd (upd (upd (upd Gd le (.lst [])) lo1 (.lst [.str "xa", .str "xb"])) lo2 (.lst [.str "xb", .str "xa"])) tp (.tup [.ref lo1, .ref lo2]) = Hs at given0 le0 l10 l20 tp0 ⊢
      have U0 : ∃ U : List Row, U = c0.map (·.1) ++ (c1.map (·.1) ++ c2.map (·.1)) := ⟨_, rfl⟩
      obtain ⟨U, eU⟩ := U0
      have B0 : Bnd U 10000000 c0 := (good_bnd g0).mono (fun r hr => by rw [eU]; exact List.mem_append_left _ hr) (Nat.le_refl _)
      have B1 : Bnd U 10000000 c1 := (good_bnd g1).mono (fun r hr => by rw [eU]; exact List.mem_append_right _ (List.mem_append_left _ hr)) (Nat.le_refl _)
      have B2 : Bnd U 10000000 c2 := (good_bnd g2).mono (fun r hr => by rw [eU]; exact List.mem_append_right _ (List.mem_append_right _ hr)) (Nat.le_refl _)
      have OKs : ∀ {S : Stt} {β : Nat}, Sized U β S → β ≤ 300000000 → SOk S := fun h hβ => h.ok (by rw [eU]; simp only [List.length_append, List.length_map]; have := g0.len; have := g1.len; have := g2.len; omega) (fun r hr => by
        rw [eU] at hr
        have key : ∀ {c : Bag}, GoodBag c → r ∈ c.map (·.1) → r.length ≤ 1000 := fun g hm => by
          obtain ⟨e, he, rfl⟩ := List.mem_map.mp hm
          exact g.rows.rowB e he
        rcases List.mem_append.mp hr with z | z
        · exact key g0 z
        · rcases List.mem_append.mp z with z | z
          · exact key g1 z
          · exact key g2 z) (Nat.le_trans (Nat.add_le_add hβ hβ) (by decide))
      have w0 : c0.length ≤ 400 := by have := g0.len; omega
      have w1 : c1.length ≤ 400 := by have := g1.len; omega
      have w2 : c2.length ≤ 400 := by have := g2.len; omega
      refine for_it (walk_tup (xs := [V.ref lo1, V.ref lo2])) (fun l σ G => (∃ a b, σ = [some (.ref st), some (.ref D), none, some (.ref le), a, b]) ∧ Given G D le c0 c1 c2 ∧ G tp = some (.tup [.ref lo1, .ref lo2]) ∧ G lo1 = some (.lst [.str "xa", .str "xb"]) ∧ G lo2 = some (.lst [.str "xb", .str "xa"]) ∧
        ∃ es : List Addr, G le = some (.lst (es.map V.ref)) ∧ es.length = l ∧ ∀ d ∈ es, EndAt G le d (endB c0 c1 c2)) ⟨⟨_, _, rfl⟩, given0, tp0, l10, l20, [], le0, rfl, fun d hd => (List.not_mem_nil hd).elim⟩ (fun l σ G _ z => sq_t z.2.2.1) ?_ ?_
      · rintro l x σ _ Ga hl2 ⟨⟨a, b, rfl⟩, gv, tpa, la1, la2, es, hle', hes, hends⟩ ⟨rfl, hx⟩
        obtain ⟨lo, n1, n2, o1, o2, rfl, hlo, ho⟩ : ∃ (lo : Addr) (n1 n2 : Str) (o1 o2 : Nat), x = .ref lo ∧ Ga lo = some (.lst [.str n1, .str n2]) ∧ ((o1 = 1 ∧ o2 = 2 ∧ n1 = "xa" ∧ n2 = "xb") ∨ (o1 = 2 ∧ o2 = 1 ∧ n1 = "xb" ∧ n2 = "xa")) := by
          match l, hx with
          | 0, hx => exact ⟨lo1, "xa", "xb", 1, 2, (Option.some.inj hx).symm, la1, .inl ⟨rfl, rfl, rfl, rfl⟩⟩
          | 1, hx => exact ⟨lo2, "xb", "xa", 2, 1, (Option.some.inj hx).symm, la2, .inr ⟨rfl, rfl, rfl, rfl⟩⟩
          | l + 2, hx => cases hx
        have ho1 : o1 = 1 ∨ o1 = 2 := by rcases ho with ⟨h, _⟩ | ⟨h, _⟩ <;> omega
        have ho2 : o2 = 1 ∨ o2 = 2 := by rcases ho with ⟨_, h, _⟩ | ⟨_, h, _⟩ <;> omega
        refine ⟨(by show 2 ≤ sizeLine; decide), fun nl hnl => fun x dx nx ndx dxx => ?_⟩
        have sn := same_new (o := HO.lst [.str "a", .str "b"]) hnl
        have k0 : ∀ {y : Addr} {o : HO}, upd Ga nl (.lst [.str "a", .str "b"]) y = some o → upd (upd (upd Ga nl (.lst [.str "a", .str "b"])) dx (.own x)) x (.ins CT dx []) y = some o := fun h => by
          rw [upd_ne (ne_of_none h nx), upd_ne (ne_of_none h ndx)]
          exact h
        refine ⟨x, dx, nl, rfl, upd_same, k0 upd_same, fun Gt Hb et keep own T => ⟨rfl, ?_⟩⟩
        have alv : ∀ {y : Addr} {o : HO}, Ga y = some o → Hb y = some o := fun {y o} h => keep y o (ne_of_none (sn _ _ h) nx) (k0 (sn _ _ h))
        have R1 : Run CT CB Ga es Hb Gt newS := ⟨T, ⟨fun y xs h => alv h, fun y xs h => alv h⟩, fun d hd kvs h => ⟨alv h, fun z => by have := own d z; rw [k0 (sn _ _ h)] at this; cases this⟩⟩
        subst et
        have len : ∀ {x : Str}, x.length ≤ 10 → x.length ≤ 1000 := fun h => by omega
        refine ⟨_, rfl, Gt.t, Gt.dt, _, rfl, R1.T.ht, rfl, Gt, newS, "trunk", "xa", rfl, R1.T, OKs (sized_new U 10000000) (by decide), len (by decide +kernel), len (by decide +kernel), fun i hi e _ G5 H5 et5 k5 ow5 T5 => ?_, fun no => absurd rfl (no 0 (by decide)), fun i hi _ j hj ej => absurd ej (by show ("trunk" : Str) ≠ "xa"; decide +kernel)⟩
        obtain rfl : i = 0 := by have : i < 1 := hi; omega
        have R5 := R1.step (S' := forkS newS 0 "xa") k5 ow5 T5
        have eN := (sized2 (U := [])).nmI
        have nn1 : eS2.nm o1 = n1 := by rcases ho with ⟨rfl, _, rfl, _⟩ | ⟨rfl, _, rfl, _⟩ <;> rfl
        have nn2 : eS2.nm o2 = n2 := by rcases ho with ⟨_, rfl, _, rfl⟩ | ⟨_, rfl, _, rfl⟩ <;> rfl
        have l3 : ∀ {o : Nat}, o = 1 ∨ o = 2 → o < 3 := fun h => by omega
        have ln1 : n1.length ≤ 1000 := by rcases ho with ⟨_, _, rfl, _⟩ | ⟨_, _, rfl, _⟩ <;> exact len (by decide +kernel)
        have ln2 : n2.length ≤ 1000 := by rcases ho with ⟨_, _, _, rfl⟩ | ⟨_, _, _, rfl⟩ <;> exact len (by decide +kernel)
        have atrunk : ("trunk" : Str).length ≤ 1000 := len (by decide +kernel)
        have aa : ("a" : Str).length ≤ 1000 := len (by decide +kernel)
        have axa : ("xa" : Str).length ≤ 1000 := len (by decide +kernel)
        have axb : ("xb" : Str).length ≤ 1000 := len (by decide +kernel)
        have ht5 := R5.T.ht
        rw [et5] at ht5
        refine ⟨_, rfl, Gt.t, G5.dt, _, rfl, ht5, rfl, G5, forkS newS 0 "xa", "trunk", "xb", (by rw [et5]; rfl), R5.T, OKs sized1 (by decide), atrunk, axb, fun i hi e _ G6 H6 et6 k6 ow6 T6 => ?_, fun no => absurd rfl (no 0 (by show 0 < 2; decide)), fun i hi _ j hj ej => absurd ej (no_xb j hj)⟩
        obtain rfl : i = 0 := (sized1 (U := [])).nmI i hi 0 (by show 0 < 2; decide) e
        have R6 := R5.step (S' := eS2) k6 ow6 T6
        have t6 : G6.t = Gt.t := et6.trans et5
        have ht6 := R6.T.ht
        rw [t6] at ht6
        obtain ⟨a0, a1, a2, hc6, hb6, _, _, _⟩ := (gv.lk R6.lk).ex
        refine ⟨_, rfl, Gt.t, G6.dt, _, rfl, ht6, rfl, _, rfl, D, _, 0, .ref a0, rfl, rfl, sq_l hc6, atI_nat (j := 0) rfl, G6, eS2, "xa", "a", a0, c0, (by rw [t6]; rfl), R6.T, OKs sized2 (by decide), axa, aa, hb6, w0, g0.rows.rowB, fun i hi e _ H7 k7 T7 => ?_, fun no => absurd rfl (no 1 (by show 1 < 3; decide)), fun i hi e nab => absurd (.inl rfl) nab⟩
        obtain rfl : i = 1 := eN i hi 1 (by show 1 < 3; decide) e
        have R7 := R6.step (G' := G6) (S' := eS3 c0) k7 (fun a h => .inl h) T7
        have ht7 := R7.T.ht
        rw [t6] at ht7
        obtain ⟨a3, a4, a5, hc7, _, hb7, _, _⟩ := (gv.lk R7.lk).ex
        refine ⟨_, rfl, Gt.t, G6.dt, _, rfl, ht7, rfl, _, rfl, D, _, 1, .ref a4, rfl, rfl, sq_l hc7, atI_nat (j := 1) rfl, G6, eS3 c0, "xb", "a", a4, c1, (by rw [t6]; rfl), R7.T, OKs (sized3 B0) (by decide), axb, aa, hb7, w1, g1.rows.rowB, fun i hi e _ H8 k8 T8 => ?_, fun no => absurd rfl (no 2 (by show 2 < 3; decide)), fun i hi e nab => absurd (.inl rfl) nab⟩
        obtain rfl : i = 2 := eN i hi 2 (by show 2 < 3; decide) e
        have R8 := R7.step (G' := G6) (S' := eS4 c0 c1) k8 (fun a h => .inl h) T8
        have ht8 := R8.T.ht
        rw [t6] at ht8
        refine ⟨_, rfl, Gt.t, G6.dt, _, rfl, ht8, rfl, _, rfl, lo, _, 0, .str n1, rfl, rfl, sq_l (R8.lk.1 _ _ hlo), atI_nat (j := 0) rfl, G6, eS4 c0 c1, n1, (by rw [t6]; rfl), R8.T, OKs (sized4 B0 B1) (by decide), ln1, fun i hi e i0 G9 H9 et9 k9 ow9 T9 => ?_, fun no => absurd nn1 (no o1 (l3 ho1)), fun e => absurd (eN 0 (by show 0 < 3; decide) o1 (l3 ho1) (Eq.trans e nn1.symm)) (by omega)⟩
        obtain rfl : i = o1 := eN i hi o1 (l3 ho1) (Eq.trans e nn1.symm)
        have R9 := R8.step (S' := eS5 c0 c1 i) k9 ow9 T9
        have t9 : G9.t = Gt.t := et9.trans t6
        have ht9 := R9.T.ht
        rw [t9] at ht9
        obtain ⟨a6, a7, a8, hc9, _, _, hb9, _⟩ := (gv.lk R9.lk).ex
        refine ⟨_, rfl, Gt.t, G9.dt, _, rfl, ht9, rfl, _, rfl, D, _, 2, .ref a8, rfl, rfl, sq_l hc9, atI_nat (j := 2) rfl, G9, eS5 c0 c1 i, "trunk", "a", a8, c2, (by rw [t9]; rfl), R9.T, OKs (sized5 B0 B1 ho1) (by decide), atrunk, aa, hb9, w2, g2.rows.rowB, fun i' hi' e' _ H10 k10 T10 => ?_, fun no => absurd rfl (no 0 (by show 0 < 3; decide)), fun i hi e nab => absurd (.inl rfl) nab⟩
        obtain rfl : i' = 0 := eN i' hi' 0 (by show 0 < 3; decide) e'
        have R10 := R9.step (G' := G9) (S' := eS6 c0 c1 c2 i) k10 (fun a h => .inl h) T10
        have ht10 := R10.T.ht
        rw [t9] at ht10
        refine ⟨_, rfl, Gt.t, G9.dt, _, rfl, ht10, rfl, _, rfl, lo, _, 1, .str n2, rfl, rfl, sq_l (R10.lk.1 _ _ hlo), atI_nat (j := 1) rfl, G9, eS6 c0 c1 c2 i, n2, (by rw [t9]; rfl), R10.T, OKs (sized6 B0 B1 B2 ho1) (by decide), ln2, fun i2 hi2 e2 _ G11 H11 et11 k11 ow11 T11 => ?_, fun no => absurd nn2 (no o2 (l3 ho2)), fun e => absurd (eN 0 (by show 0 < 3; decide) o2 (l3 ho2) (Eq.trans e nn2.symm)) (by omega)⟩
        obtain rfl : i2 = o2 := eN i2 hi2 o2 (l3 ho2) (Eq.trans e2 nn2.symm)
        have R11 := R10.step (S' := eS7 c0 c1 c2 i i2) k11 ow11 T11
        have t11 : G11.t = Gt.t := et11.trans t9
        have ht11 := R11.T.ht
        rw [t11] at ht11
        have hle11 := R11.lk.1 _ _ hle'
        refine ⟨_, rfl, .inl ⟨rfl, _, sq_l hle11⟩, ?_⟩
        refine ⟨_, rfl, Gt.t, G11.dt, _, rfl, ht11, rfl, G11, eS7 c0 c1 c2 i i2, "trunk", (by rw [t11]; rfl), R11.T, OKs (sized7 B0 B1 B2 ho1 ho2) (by decide), atrunk, fun i3 hi3 e3 d p q' H12 s12 hd0 hp0 hq0 hd bp bq => ?_, fun no => absurd rfl (no 0 (by show 0 < 3; decide))⟩
        obtain rfl : i3 = 0 := eN i3 hi3 0 (by show 0 < 3; decide) e3
        have R12 := R11.same s12
        have hle12 := R12.lk.1 _ _ hle'
        have eEnd : (eS7 c0 c1 c2 i i2).cur 0 = (endB c0 c1 c2, []) := by
          rcases ho with ⟨rfl, rfl, _, _⟩ | ⟨rfl, rfl, _, _⟩
          · exact end12 c0 c1 c2
          · exact end21 c0 c1 c2
        rw [eEnd] at bp bq
        refine ⟨le, _, .ref d, rfl, rfl, hle12, by rw [List.length_map, hes]; exact Nat.lt_of_lt_of_le hl2 (by show 2 ≤ sizeLine; decide), ?_⟩
        have lne : ∀ {y : Addr} {u v : Str}, H12 y = some (.lst [.str u, .str v]) → y ≠ le := fun {y u v} h z => by
          rw [z, hle12] at h
          have h' : es.map V.ref = [V.str u, V.str v] := by injection (Option.some.inj h)
          match es, h' with
          | [], h' => cases h'
          | _ :: _, h' => injection h' with h' _; cases h'
        have tpn : tp ≠ le := fun z => by have h := R12.lk.2 _ _ tpa; rw [z, hle12] at h; cases h
        refine ⟨⟨_, _, rfl⟩, (gv.lk R12.lk).off hle12, by rw [upd_ne tpn]; exact R12.lk.2 _ _ tpa, by rw [upd_ne (lne (R12.lk.1 _ _ la1))]; exact R12.lk.1 _ _ la1, by rw [upd_ne (lne (R12.lk.1 _ _ la2))]; exact R12.lk.1 _ _ la2, es ++ [d], by rw [List.map_append]; exact upd_same, by rw [List.length_append, hes]; rfl, fun d' hd' => ?_⟩
        rcases List.mem_append.mp hd' with z | z
        · obtain ⟨p', q'', h, b1', b2', n1', n2'⟩ := (hends d' z).ex
          exact EndAt.off hle12 ⟨p', q'', (R12.dk d' z _ h).1, b1'.lk R12.lk, b2'.lk R12.lk, n1', n2'⟩
        · rw [List.mem_singleton.mp z]
          exact EndAt.off hle12 ⟨p, q', hd, bp, bq, (fun y => by rw [y, hle11] at hp0; cases hp0), (fun y => by rw [y, hle11] at hq0; cases hq0)⟩
      · rintro σ Gz ⟨⟨a, b, rfl⟩, gv, _, _, _, es, hle', hes, hends⟩
        obtain ⟨d1, d2, rfl⟩ : ∃ d1 d2, es = [d1, d2] := by
          match es, hes with
          | [x, y], _ => exact ⟨x, y, rfl⟩
        obtain ⟨p1', q1', hd1, bp1, bq1, _, _⟩ := (hends d1 (by simp)).ex
        obtain ⟨p2', q2', hd2, bp2, bq2, _, _⟩ := (hends d2 (by simp)).ex
        obtain ⟨x0, x1, x2, hc, hx0, hx1, hx2, _⟩ := gv.ex
        refine ⟨_, rfl, le, _, 0, .ref d1, rfl, rfl, sq_l hle', atI_nat (j := 0) rfl, _, rfl, le, _, 1, .ref d2, rfl, rfl, sq_l hle', atI_nat (j := 1) rfl, dd_bags hd1 hd2 bp1 bq1 bp2 bq2, true, rfl, ?_⟩
        rw [if_pos rfl]
        refine ⟨_, rfl, le, _, 0, .ref d1, rfl, rfl, sq_l hle', atI_nat (j := 0) rfl, d1, _, rfl, dgetAB (.inl rfl) hd1, ?_⟩
        refine ⟨_, rfl, D, _, 0, .ref x0, rfl, rfl, sq_l hc, atI_nat (j := 0) rfl, _, rfl, D, _, 1, .ref x1, rfl, rfl, sq_l hc, atI_nat (j := 1) rfl, x0, x1, c0, c1, rfl, hx0, hx1, w0, w1, g0.rows.rowB, g1.rows.rowB, fun u Hu su hu => ?_⟩
        have lm := mk_len (c0 ++ c1)
        rw [List.length_append] at lm
        refine ⟨_, rfl, D, _, 2, .ref x2, rfl, rfl, sq_l (su _ _ hc), atI_nat (j := 2) rfl, u, x2, mk (c0 ++ c1), c2, rfl, hu, hx2.mono su, (by have := g0.len; have := g1.len; omega), w2, rowB_mk (g0.rows.rowB.app g1.rows.rowB), g2.rows.rowB, fun v Hv sv hv => ?_⟩
        refine ⟨bagD (endB c0 c1 c2), bagD (endB c0 c1 c2), dp_bag (bp1.mono (su.trans sv)), dp_bag hv, bag_plain _, bag_plain _, Nat.le_trans (bag_depth _) (by decide), ?_⟩
        rw [SeqAt.eqv_refl_plain _ (bag_plain _)]
        exact q Hv
end
end KA
set_option Elab.async false
set_option linter.all false
set_option maxRecDepth 100000
set_option maxHeartbeats 4000000
/-! the law itself -/
namespace KA
open PySem PySem.Spec PyProof.Rows L2
open PySem.W (EachIs)
theorem lay_ab {σ : L2.St} {H : Hp} {Q : VK} (k : ∀ G d, Same H G → H d = none → DictB G d ([], []) → Q (.ref d) G) : tDisp [(tC (.str "a"), tLst tNil), (tC (.str "b"), tLst tNil)] σ H Q := by
  refine fun d hd => ⟨(by show 0 ≤ sizeLine; decide), fun l1 h1 => ⟨(by show 0 ≤ sizeLine; decide), fun l2 h2 => ?_⟩⟩
  have d1 : d ≠ l1 := fun z => by rw [← z, upd_same] at h1; cases h1
  have d2 : d ≠ l2 := fun z => by rw [← z, upd_ne d1, upd_same] at h2; cases h2
  have l12 : l1 ≠ l2 := fun z => by rw [← z, upd_same] at h2; cases h2
  refine ⟨by rw [upd_ne d2, upd_ne d1, upd_same], [(.inr "a", .ref l1), (.inr "b", .ref l2)], rfl, (by show 2 ≤ 15; decide), ?_⟩
  refine k _ d (same_mut (((same_new hd).trans (same_new h1)).trans (same_new h2)) hd) hd ⟨l1, l2, by rw [upd_same]; rfl, bag_nil (by rw [upd_ne d1.symm, upd_ne l12, upd_same]), bag_nil (by rw [upd_ne d2.symm, upd_same])⟩
theorem trunk_len : ("trunk" : Str).length ≤ 1000 := by
  have h : ("trunk" : Str).length ≤ 10 := by decide +kernel
  omega
theorem seqG {te : TE} {g : TG} {u : TS} {D : Ends} {σ : L2.St} {H : Hp} (h : te σ H fun x H1 => g x σ H1 (u D)) : tSeq (tAsg te g) u D σ H := h
theorem lay_m {σ : L2.St} {H : Hp} {Q : VK} (k : ∀ Hf pm L e1 e2, Same H Hf → H pm = none → H e1 = none → H e2 = none → e1 ≠ pm → e2 ≠ pm → e1 ≠ e2 → DictB Hf e1 ([], []) → DictB Hf e2 ([], []) → Hf pm = some (.dK (brKV newS.nm (fun _ => L) 1)) → Hf L = some (.lst [.ref e1, .ref e2, .str ""]) → Q (.ref pm) Hf) :
    tDisp [(tC (.str "trunk"), tLst (tCons (tDisp [(tC (.str "a"), tLst tNil), (tC (.str "b"), tLst tNil)]) (tCons (tDisp [(tC (.str "a"), tLst tNil), (tC (.str "b"), tLst tNil)]) (tCons (tC (.str "")) tNil))))] σ H Q := by
  refine fun pm hpm => ?_
  have spm := same_new (o := HO.dK []) hpm
  dsimp only [tPairs, tLst, tCons, tNil, tC]
  refine lay_ab fun Gx e1 sx ne1 D1 => ?_
  refine lay_ab fun Gy e2 sy ne2 D2 => ?_
  refine ⟨(by show 3 ≤ sizeLine; decide), fun L hL => ?_⟩
  have sL := same_new (o := HO.lst [.ref e1, .ref e2, .str ""]) hL
  have sAll := ((spm.trans sx).trans sy).trans sL
  have hpm3 : upd Gy L (.lst [.ref e1, .ref e2, .str ""]) pm = some (.dK []) := (sx.trans (sy.trans sL)) _ _ upd_same
  refine ⟨hpm3, [(.inr "trunk", .ref L)], rfl, (by show 1 ≤ 15; decide), ?_⟩
  have e1pm : e1 ≠ pm := fun z => by rw [z, upd_same] at ne1; cases ne1
  have e2pm : e2 ≠ pm := fun z => by rw [z, sx _ _ upd_same] at ne2; cases ne2
  have e12 : e1 ≠ e2 := fun z => by
    obtain ⟨pp, qq, h, _⟩ := D1
    rw [z, ne2] at h
    cases h
  have Lpm : L ≠ pm := fun z => by rw [z, sy _ _ (sx _ _ upd_same)] at hL; cases hL
  have kbF : BKeep (upd Gy L (.lst [.ref e1, .ref e2, .str ""])) (upd (upd Gy L (.lst [.ref e1, .ref e2, .str ""])) pm (.dK (mergeK [] [((.inr "trunk" : L2.Key), V.ref L)]))) := BKeep.dict hpm3
  have hb1 : H e1 = none := by rwa [upd_ne e1pm] at ne1
  have hb2 : H e2 = none := by
    cases z : H e2 with
    | none => rfl
    | some o => rw [(spm.trans sx) _ _ z] at ne2; cases ne2
  refine k _ pm L e1 e2 (same_mut sAll hpm) hpm hb1 hb2 e1pm e2pm e12 ((D1.mono (sy.trans sL)).bk kbF fun kvs h => by rw [upd_ne e1pm]; exact h) ((D2.mono sL).bk kbF fun kvs h => by rw [upd_ne e2pm]; exact h) (by rw [upd_same]; rfl) (by rw [upd_ne Lpm, upd_same])
theorem nobody : ∀ j, j < 6 → nmL j ≠ "nobody" := by decide +kernel
section
variable {P : Program} {w : World} {K : PySem.W.Frag} {mg : Str → Option Value} {base : Heap} {f : Addr} {fd : FuncData}
def spLaw (K : PySem.W.Frag) : Sp := fun vs H Q _ => ∃ (a : Addr) (ns : List Int), vs = [.ref a] ∧ SqL K H a (ns.map V.int) ∧ ns.length ≤ 63 ∧ ∀ H', Q (.bl true) H'
theorem ok_law {CT CB NU NT LE : Addr} (F : FnP K "law" s_law f fd) (TC : TrC K mg CT) (gR : mg "range" = none) (gS : mg "sorted" = none) (gL : mg "len" = none) (CS : Cal P w K mg base "_law_state" 1 ["script"] (spState K)) (CD : DrawC P w K mg base) (CE : Cal P w K mg base "_law_deed" 10 ["state", "tree", "m"] (spDeed CT CB))
    (CA : Cal P w K mg base "_law_same" 10 ["tree", "m"] (spSame CT CB)) (CR : Cal P w K mg base "_law_refusals" 11 ["tree", "known"] (spRefusals CT CB)) (CO : Cal P w K mg base "_law_either_order" 10 ["state"] spEither) (MI : MakeG P w K mg base CX0 CT 4 ["self", "names"] (spTInit CT CB)) (MN : InputsC P w K mg base CT CB NU) :
    FnOk P w K mg base CX0 12 f fd ["script"] (spLaw K) := by
  obtain ⟨f0, d0, m0, G0, b0⟩ := MI.ex
  obtain ⟨f4, d4, m4, G4, b4⟩ := MN.ex
  refine F.ok sc_law (fun vs H Q E h => ?_) (fun cdv A outer s H vs Q E hr h => ?_)
  · obtain ⟨a, ns, rfl, _⟩ := h
    rfl
  · obtain ⟨a, ns, rfl, hS, few, q⟩ := h
    have nd := sc_law.nd
    refine ⟨_, PSs.nox (pss_cons (ps_set (i := 1) nd rfl (Or.inl rfl) (pe_cal CS hr.lt (pa_cons (pv 0) pa_nil)))
      (pss_cons (ps_set (i := 2) nd rfl (Or.inl rfl) (pe_make m0 G0 hr.lt (by rfl) TC.mgC b0 .nil pass0 (pa_cons (pe_lst (pa_cons pe_str (pa_cons pe_str pa_nil))) pa_nil)))
      (pss_cons (ps_set (i := 3) nd rfl (Or.inl rfl) (pe_disp (pps_cons pe_str (pe_lst (pa_cons (pe_disp (pps_cons pe_str (pe_lst pa_nil) (pps_cons pe_str (pe_lst pa_nil) pps_nil)) (by rfl) (by rfl) (fun z => by cases z) (by decide)) (pa_cons (pe_disp (pps_cons pe_str (pe_lst pa_nil) (pps_cons pe_str (pe_lst pa_nil) pps_nil)) (by rfl) (by rfl) (fun z => by cases z) (by decide)) (pa_cons pe_str pa_nil)))) pps_nil) (by rfl) (by rfl) (fun z => by cases z) (by decide)))
      (pss_cons (ps_for PassesOwn.never rfl (pi_range1 rfl gR (pa_cons (pe_cal CD hr.lt (pa_cons (pv 1) (pa_cons pe_int pa_nil))) pa_nil)) (pg_name (i := 4) nd rfl (Or.inl rfl))
        (pss_cons (ps_expr (pe_cal CE hr.lt (pa_cons (pv 1) (pa_cons (pv 2) (pa_cons (pv 3) pa_nil)))))
        (pss_one (ps_if (pt_not (pt_val (pe_cal CA hr.lt (pa_cons (pv 2) (pa_cons (pv 3) pa_nil))))) (pss_one (ps_ret pe_bl)) pss_nil))))
      (pss_cons (ps_set (i := 5) nd rfl (Or.inl rfl) (pe_ix ix_list (pe_callB (call_sortedD rfl) (by rfl) gS (by decide +kernel) (pa_cons (pv 3) pa_nil)) (pe_cal CD hr.lt (pa_cons (pv 1) (pa_cons (pe_callB call_lenD (by rfl) gL PySem.boot_len (pa_cons (pv 3) pa_nil)) pa_nil))) (fun _ _ => rfl)))
      (pss_cons (ps_if (PW.pt (pw_or (pt_not (pt_val (pe_cal CR hr (pa_cons (pv 2) (pa_cons (pv 5) pa_nil))))) (pw_or1 (pt_not (pt_val (pe_cal CA hr.lt (pa_cons (pv 2) (pa_cons (pv 3) pa_nil)))))))) (pss_one (ps_ret pe_bl)) pss_nil)
      (pss_cons (ps_set (i := 6) nd rfl (Or.inl rfl) (pe_meth (E := E0) (pv 2) TC.cl m4 G4 hr.lt b4 .nil passL (pa_cons pe_str pa_nil)))
      (pss_cons (ps_expr (pe_bm PySem.F.plainAttrs_list PySem.F.slot_list_append PySem.F.type_list_append mt_append (pe_dget hr.u1 (pv 6) pe_str (fun _ _ => rfl)) (pa_cons (pe_tup (pa_cons (pe_tup (pa_cons pe_int pa_nil)) (pa_cons pe_int pa_nil))) pa_nil)))
      (pss_one (ps_ret (pe_and (pe_cal CA hr.lt (pa_cons (pv 2) (pa_cons (pv 3) pa_nil))) (pe_one (pe_cal CO hr.lt (pa_cons (pv 1) pa_nil)))))))))))))), ?_⟩
    refine ⟨_, rfl, a, ns, rfl, hS, few, fun st cl H1 s1 ok1 => ?_⟩
    refine ⟨(by show 2 ≤ sizeLine; decide), fun nl hnl => fun x dx nx ndx dxx => ?_⟩
    have sn := same_new (o := HO.lst [.str "a", .str "b"]) hnl
    have k0 : ∀ {y : Addr} {o : HO}, upd H1 nl (.lst [.str "a", .str "b"]) y = some o → upd (upd (upd H1 nl (.lst [.str "a", .str "b"])) dx (.own x)) x (.ins CT dx []) y = some o := fun h => by
      rw [upd_ne (ne_of_none h nx), upd_ne (ne_of_none h ndx)]
      exact h
    refine ⟨x, dx, nl, rfl, upd_same, k0 upd_same, fun Gt Hb et keep own T => ⟨rfl, ?_⟩⟩
    have sB : Same H1 Hb := fun y o h => keep y o (ne_of_none (sn _ _ h) nx) (k0 (sn _ _ h))
    have okB := ok1.same sB
    subst et
    refine seqG (lay_m fun Hf pm L e1 e2 sF hpm hb1 hb2 e1pm e2pm e12 D1F D2F hmF hLF => ?_)
    have A0 : ModelAt Hf ⟨pm, fun _ => L, fun k _ => if k = 0 then e1 else e2⟩ newS := by
      refine ⟨hmF, fun i hi => ?_, fun i hi => D1F, fun i hi => D2F, fun i hi j hj _ => ?_, fun k hk i hi k' hk' j hj e => ?_, fun k hk i hi => ?_⟩
      · obtain rfl : i = 0 := by have : i < 1 := hi; omega
        exact hLF
      · have h1 : i < 1 := hi
        have h2 : j < 1 := hj
        omega
      · have h1 : i < 1 := hi
        have h2 : j < 1 := hj
        refine ⟨?_, by omega⟩
        have e' : (if k = 0 then e1 else e2) = if k' = 0 then e1 else e2 := e
        by_cases z : k = 0 <;> by_cases z' : k' = 0
        · omega
        · rw [if_pos z, if_neg z'] at e'
          exact absurd e' e12
        · rw [if_neg z, if_pos z'] at e'
          exact absurd e'.symm e12
        · omega
      · show (if k = 0 then e1 else e2) ≠ pm
        split <;> assumption
    have ap0 : Apart Gt ⟨pm, fun _ => L, fun k _ => if k = 0 then e1 else e2⟩ 1 := fun y ho hm => by
      obtain ⟨kvs, h⟩ := T.own ho
      rcases hm with z | ⟨k, _, _, _, z⟩
      · have z' : y = pm := z
        rw [z', hpm] at h
        cases h
      · have z' : y = if k = 0 then e1 else e2 := z
        rw [z'] at h
        split at h
        · rw [hb1] at h; cases h
        · rw [hb2] at h; cases h
    have DD0 : Deeds CT CB Hf st cl Gt ⟨pm, fun _ => L, fun k _ => if k = 0 then e1 else e2⟩ newS 0 :=
      ⟨⟨T.mono sF, A0, ap0, okB.same sF⟩, fun i hi => by obtain rfl : i = 0 := by have : i < 1 := hi; omega
                                                         rfl, [], sized_new _ _, Nat.le_refl 0, fun r hr => (List.not_mem_nil hr).elim⟩
    refine ⟨_, rfl, st, cl, 17, rfl, DD0.W.ok, by decide, by decide, fun n Hc dc n0 n1 => ⟨n, rfl, by omega, by omega, ?_⟩⟩
    refine for_it walk_range (fun i σ G => ∃ (x : Option V) (G' : Geo) (M' : MGeo) (S' : Stt), σ = [some (.ref a), some (.ref st), some (.ref G'.t), some (.ref M'.m), x, none, none] ∧ Deeds CT CB G st cl G' M' S' i) ⟨_, _, _, _, rfl, DD0.drawn (.inr dc)⟩ (fun _ _ _ _ _ => trivial) ?_ ?_
    · rintro i x σ _ G hi ⟨x0, G', M', S', rfl, Di⟩ ⟨rfl, rfl⟩
      refine ⟨_, rfl, _, rfl, _, rfl, st, cl, G', M', S', i, rfl, by omega, Di, fun G2 M2 S2 H2 et em D2 => ?_⟩
      refine ⟨_, rfl, _, rfl, G2, M2, S2, (by rw [et, em]; rfl), D2.W.T, D2.W.A, D2.ok (by omega), D2.W.ap, fun H3 s3 => ⟨true, rfl, iteF ?_⟩⟩
      exact ⟨_, G2, M2, S2, by rw [et, em]; rfl, D2.drawn (.inl s3)⟩
    · rintro σ G ⟨x0, G', M', S', rfl, Dn⟩
      have nle : n.toNat ≤ 16 := by omega
      have O := Dn.ok nle
      have kln : (brKV S'.nm M'.L S'.n).length = S'.n := by unfold brKV; rw [List.length_map, List.length_range]
      refine ⟨_, rfl, M'.m, _, (List.range S'.n).map S'.nm, rfl, .inl Dn.W.A.hm, keys_names _ _ _, (by rw [List.length_map, List.length_range]; have := O.n6; omega), fun ys p perm _ hp => ?_⟩
      have ysl : ys.length = S'.n := by rw [perm.length_eq, List.length_map, List.length_range]
      have D1' := Dn.drawn (.inl (same_new (o := .lst (ys.map V.str)) hp))
      have hp1 : upd G p (.lst (ys.map V.str)) p = some (.lst (ys.map V.str)) := upd_same
      have pne : p ≠ st ∧ p ≠ cl := by
        obtain ⟨c, s, th, S0⟩ := Dn.W.ok
        exact S0.away hp
      generalize upd G p (.lst (ys.map V.str)) = Ga at D1' hp1 ⊢
      refine ⟨_, rfl, _, rfl, M'.m, _, rfl, D1'.W.A.hm, st, cl, _, rfl, D1'.W.ok, (by rw [kln]; have := O.n1; omega), (by rw [kln]; have := O.n6; omega), fun v Hd dd v0 v1 => ?_⟩
      have D2' := D1'.drawn (.inr dd)
      have hp2 := dd.but _ _ pne.1 pne.2 hp1
      rw [kln] at v1
      obtain ⟨br, hbr, hat⟩ := pick_str (ys := ys) v0 (by rw [ysl]; exact v1)
      obtain ⟨i, hi, ei⟩ : ∃ i, i < S'.n ∧ S'.nm i = br := by
        obtain ⟨i, h1, h2⟩ := List.mem_map.mp (perm.mem_iff.mp hbr)
        exact ⟨i, List.mem_range.mp h1, h2⟩
      subst ei
      refine ⟨p, _, v, _, rfl, rfl, sq_l hp2, hat, ?_⟩
      have n0' : 0 < S'.n := by have := O.n1; omega
      have h0 : S'.nm 0 = "trunk" := Dn.nm 0 n0'
      refine ⟨_, rfl, _, rfl, G', S', i, rfl, hi, D2'.W.T, O, h0, (fun j hj => by rw [Dn.nm j hj]; exact nobody j (by have := O.n6; omega)), fun H5 s5 => ⟨true, rfl, iteF ?_⟩⟩
      have D5 := D2'.drawn (.inl s5)
      refine ⟨_, rfl, _, rfl, G', M', S', rfl, D5.W.T, D5.W.A, O, D5.W.ap, fun H6 s6 => ⟨true, rfl, iteF ?_⟩⟩
      have D6 := D5.drawn (.inl s6)
      refine ⟨_, rfl, G'.t, G'.dt, _, rfl, D6.W.T.ht, rfl, G', S', "trunk", rfl, D6.W.T, O, trunk_len, fun i2 hi2 e2 d pa qa H7 s7 hd0 hpa hqa hd bpa bqa => ?_, fun no => absurd h0 (no 0 n0')⟩
      obtain ⟨tsa, hla, hea⟩ := id bpa
      have tl : tsa.length ≤ 400 := by
        have h1 := hea.length
        have h2 := (O.cur i2 hi2).a.len
        omega
      refine ⟨_, rfl, d, _, rfl, dgetAB (.inl rfl) hd, .inl ⟨rfl, _, sq_l hla⟩, ?_⟩
      refine ⟨(by show 1 ≤ sizeLine; decide), fun t1 ht1 => ⟨(by show 2 ≤ sizeLine; decide), fun t2 ht2 => ?_⟩⟩
      have s8 := (same_new (o := HO.tup [.int 1]) ht1).trans (same_new (o := HO.tup [.ref t1, .int 1]) ht2)
      refine ⟨pa, _, .ref t2, rfl, rfl, s8 _ _ hla, (by rw [List.length_map, sizeLine_eq]; omega), ?_⟩
      have D9 := D6.drawn (.inl (show Same H6 (upd (upd (upd H7 t1 (.tup [.int 1])) t2 (.tup [.ref t1, .int 1])) pa (.lst (tsa.map V.ref ++ [.ref t2]))) from fun y o h => (upd_ne (ne_of_none h hpa)).trans (s8 _ _ (s7 _ _ h))))
      refine ⟨_, rfl, _, rfl, G', M', S', rfl, D9.W.T, D9.W.A, O, D9.W.ap, fun H10 s10 => ⟨true, rfl, ?_⟩⟩
      rw [if_pos rfl]
      exact ⟨_, rfl, st, cl, rfl, D9.W.ok.same s10, fun H' => q H'⟩
end
end KA
set_option Elab.async false
set_option linter.all false
set_option maxRecDepth 100000
set_option maxHeartbeats 4000000
/-! what the head tells of the two exception classes -/
namespace KA
open PySem PySem.Spec PyProof.Rows L2
theorem isT_ok {a : Option Bool} (h : isT a = true) : a = some true := of_decide_eq_true h
theorem eqO_is {a b : Option (Option Value)} (h : eqO a b = true) : a = b := of_decide_eq_true h
theorem oexB_ok {K : PySem.W.Frag} {C : Addr} (h : oexB K C = true) : ∃ nm q N bs bm sn sub ab col dd k0 k1 k2 k3 k5, K.lookup C = some (excClassObj nm q C N bs bm true sn sub ab col dd k0 k1 k2 k3 k5 "ValueError.__new__") ∧ PySem.HandSPX.refsVE bm = true := by
  unfold oexB at h
  split at h
  · rename_i dd cd sl ho
    split at h
    · rename_i C' bm k0 k1 k2 k3 n k5 hm hs
      simp only [Bool.and_eq_true, beq_iff_eq, Bool.not_eq_true'] at h
      obtain ⟨rfl, rfl, hdel, hdict, ht⟩ := h
      obtain ⟨nm, bs, mro, ns, qn, hd, sn, sub, ab, col, del⟩ := cd
      dsimp only at hm hdel hdict
      subst hm hdel hdict
      have hsl : sl = #[k0, k1, k2, k3, some (.builtin "ValueError.__new__"), k5] := by
        obtain ⟨l⟩ := sl
        have hs' : l = [k0, k1, k2, k3, some (.builtin "ValueError.__new__"), k5] := hs
        rw [hs']
      subst hsl
      exact ⟨nm, qn, ns, bs, bm, sn, sub, ab, col, dd, k0, k1, k2, k3, k5, ho, ht⟩
    · cases h
  · cases h
theorem fileB_ok {K : PySem.W.Frag} {c : Addr} (h : fileB K c = true) : ∃ (ccl : Value) (cdd : Option Addr) (vs : Array Value) (ccs : Array (Option Value)) (file : Str) (tf : Tok), K.lookup c = some ⟨ccl, cdd, .fields vs, ccs⟩ ∧ vs[2]? = some (.str file tf) ∧ (lawFile == file) = true := by
  unfold fileB at h
  split at h
  · rename_i ccl cdd vs ccs ho
    split at h
    · rename_i file tf hv
      exact ⟨ccl, cdd, vs, ccs, file, tf, ho, hv, h⟩
    · cases h
  · cases h
theorem cellB_ok {K : PySem.W.Frag} {c C : Addr} (h : cellB K c C = true) : ∃ (cl : Value) (cld : Option Addr) (csl : Array (Option Value)), K.lookup c = some ⟨cl, cld, .cell (some (.ref C)), csl⟩ := by
  unfold cellB at h
  split at h
  · rename_i cl cld D csl ho
    have e : D = C := beq_iff_eq.mp h
    subst e
    exact ⟨cl, cld, csl, ho⟩
  · cases h
theorem sup_of {K : PySem.W.Frag} {P : Program} {q x : Str} {st : Stmt} (hP : P.main.file = lawFile) (h : (clsFs K (He.ga K x)).all id = true) (ho : obF K x = vF q st) (hb : ∀ fd : FuncData, fd.params = defArgs st → fd.defaults = .none → fd.kwdefaults = .none → True) :
    OexC K (He.ga K x) ∧ PySem.W.findIn K (.ref (He.ga K x)) "__init__" = some (some (.ref (He.ma K (He.ga K x) "__init__"))) ∧ PySem.W.typeIn K (.ref (He.ma K (He.ga K x) "__init__")) = some (.type "function") ∧
      (∃ fd, SupD K P q st (He.ga K x) (He.ma K (He.ga K x) "__init__") fd) ∧ CatC K (He.ga K x) (He.ga K "LoomError") := by
  simp only [clsFs, List.all_cons, List.all_nil, Bool.and_eq_true, id] at h
  obtain ⟨h1, h2, h3, h4, h5, h6, h7, h8, h9, h10, h11, h12, h13, h14, h15, h16, h17, h18, h19, h20, h21, h22, _⟩ := h
  refine ⟨⟨oexB_ok h1, eqO_is h2, isT_ok h3, of_decide_eq_true h4, h5⟩, eqO_is h6, of_decide_eq_true h7, ?_, ⟨⟨eqO_is h15, eqO_is h16, isT_ok h3, h17, eqO_is h18, eqO_is h19, isT_ok h20, isT_ok h21⟩, ⟨eqO_is h15, eqO_is h16, isT_ok h3, h17⟩, eqO_is h8, isT_ok h22⟩⟩
  unfold supB at h9
  unfold obF at ho
  split at h9
  · rename_i oc od fd osl hl
    rw [hl] at ho
    obtain ⟨n1, n2, n3, n4, n5, n6, n7, n8, n9, n10, n11, n12, n13, n14, n15⟩ := fd
    have e2 : (some (n1, n2, n3, n4, n5, n6, n15, n8, n9, n12) : FnX) = vF q st := ho
    unfold vF at e2
    simp only [Option.some.injEq, Prod.mk.injEq] at e2
    obtain ⟨r1, r2, r3, r4, r5, r6, r7, r8, r9, r10⟩ := e2
    subst r1 r2 r3 r4 r5 r6 r7 r8 r9 r10
    split at h9
    · rename_i n cc cda hc hd
      have hc' : n7 = [(n, cc)] := hc
      have hd' : n13 = .ref cda := hd
      subst hc' hd'
      simp only [Bool.and_eq_true, beq_iff_eq] at h9
      obtain ⟨rfl, g1, g2, g3⟩ := h9
      obtain ⟨ccl, cdd, vs, ccs, file, tf, f1, f2, f3⟩ := fileB_ok g2
      exact ⟨_, ⟨oc, od, osl, n10, n11, n14, cc, cda, rfl, hl, g1, ⟨ccl, cdd, vs, ccs, file, tf, f1, f2, by rw [hP]; exact f3⟩, cellB_ok g3⟩, Option.isSome_iff_exists.mp h10, isT_ok h11, eqO_is h12, eqO_is h13, isT_ok h14⟩
    · cases h9
  · cases h9
end KA
set_option Elab.async false
set_option linter.all false
set_option maxRecDepth 100000
set_option maxHeartbeats 4000000
/-! the facts of the top -/
namespace KA
open PySem PySem.Spec PyProof.Rows L2
section
variable {P : Program} {w : World} {K : PySem.W.Frag} {mg : Str → Option Value} {h : Heap}
theorem cal_of {x : Str} {st : Stmt} {f : Addr} {fd : FuncData} {base : Heap} {j k : Nat} {ps : List Str} {sp : Sp} (F : FnP K x st f fd) (g : mg x = some (.ref f)) (b : Binds K fd ps []) (G : FnOk P w K mg base CX0 j f fd ps sp) (h : j ≤ k := by decide) : Cal P w K mg base x k ps sp := ⟨f, fd, g, F.kp, b, G.mono h⟩
theorem sup_binds {q : Str} {st : Stmt} {C f : Addr} {fd : FuncData} (D : SupD K P q st C f fd) (hb : ∀ (cc cda : Addr) (doc pm ctv : Value) (us : List Value), us.length = 2 → bindArgs ((supF q st cc cda).fd doc pm ctv) ⟨us, []⟩ = pure ((["self", "name"] : List Str).zip us)) : Binds K fd ["self", "name"] [] := by
  obtain ⟨oc, od, osl, doc, pm, ctv, cc, cda, rfl, _⟩ := D.ex
  exact .all (hb cc cda doc pm ctv)
theorem exc_u {base : Heap} {C f : Addr} {fd : FuncData} (D : SupD K P "NameUnknown.__init__" s_NameUnknown___init__ C f fd) (T : OexC K C) (iC : PySem.W.findIn K (.ref C) "__init__" = some (some (.ref f))) (tI : PySem.W.typeIn K (.ref f) = some (.type "function")) (g : mg "NameUnknown" = some (.ref C)) (hm : mg "super" = none) (htop : (P.main.scope.names.lookup ("super" : Str)).isSome = false) (hno : PySem.W.findIn K (.ref C) "name" = some none) : ExC P w K mg base "NameUnknown" C :=
  ⟨⟨f, fd, T, iC, tI, sup_ok D T (NdefX.nscope_by (by decide +kernel)) rfl (ar := (defArgs s_NameUnknown___init__).args.head!) rfl rfl rfl hm htop (by decide +kernel) hno (fun _ _ _ _ => rfl) (fun _ _ _ _ => rfl) (fun _ _ _ _ => rfl) (fun _ _ _ _ => rfl) (fun _ _ _ _ => rfl), sup_binds D fun _ _ _ _ _ us hl => match us, hl with | [_, _], _ => rfl⟩, g⟩
theorem exc_n {base : Heap} {C f : Addr} {fd : FuncData} (D : SupD K P "NameTaken.__init__" s_NameTaken___init__ C f fd) (T : OexC K C) (iC : PySem.W.findIn K (.ref C) "__init__" = some (some (.ref f))) (tI : PySem.W.typeIn K (.ref f) = some (.type "function")) (g : mg "NameTaken" = some (.ref C)) (hm : mg "super" = none) (htop : (P.main.scope.names.lookup ("super" : Str)).isSome = false) (hno : PySem.W.findIn K (.ref C) "name" = some none) : ExC P w K mg base "NameTaken" C :=
  ⟨⟨f, fd, T, iC, tI, sup_ok D T (NdefX.nscope_by (by decide +kernel)) rfl (ar := (defArgs s_NameTaken___init__).args.head!) rfl rfl rfl hm htop (by decide +kernel) hno (fun _ _ _ _ => rfl) (fun _ _ _ _ => rfl) (fun _ _ _ _ => rfl) (fun _ _ _ _ => rfl) (fun _ _ _ _ => rfl), sup_binds D fun _ _ _ _ _ us hl => match us, hl with | [_, _], _ => rfl⟩, g⟩
theorem top_facts (hP : P.main.file = lawFile) (htop : (P.main.scope.names.lookup ("super" : Str)).isSome = false) (X : K.In h) (G : h.Ns mainGlobals mg) {f : Addr} (gf : mg ("law" : Str) = some (.ref f)) (cx : SaysK w K) :
    ∃ (fd : FuncData), (∀ (s : Shared) (u : Value), BindsTo s fd ⟨[u], []⟩ [("script", u)]) ∧ ∀ base : Heap, FnOk P w K mg base CX0 12 f fd ["script"] (spLaw K) := by
  have c : He.SaysD fa2 fn K := cx.t.d
  obtain ⟨fd_rank, E_rank⟩ := c.def_ 0 (d := d_rank) rfl
  have F_rank : FnP K "rank" s_rank (He.ga K "rank") fd_rank := E_rank
  have g_rank := He.glo_ok X G (c.fact 0 (f := .glo "rank") rfl)
  have b_rank : Binds K fd_rank ["value"] [] := FunD.bindsN (ps := ["value"]) F_rank fun _ _ _ _ _ _ us hl => match us, hl with | [_], _ => rfl
  obtain ⟨fd_row_rank, E_row_rank⟩ := c.def_ 1 (d := d_row_rank) rfl
  have F_row_rank : FnP K "row_rank" s_row_rank (He.ga K "row_rank") fd_row_rank := E_row_rank
  have g_row_rank := He.glo_ok X G (c.fact 1 (f := .glo "row_rank") rfl)
  have b_row_rank : Binds K fd_row_rank ["row"] [] := FunD.bindsN (ps := ["row"]) F_row_rank fun _ _ _ _ _ _ us hl => match us, hl with | [_], _ => rfl
  obtain ⟨fd_make_bag, E_make_bag⟩ := c.def_ 2 (d := d_make_bag) rfl
  have F_make_bag : FnP K "make_bag" s_make_bag (He.ga K "make_bag") fd_make_bag := E_make_bag
  have g_make_bag := He.glo_ok X G (c.fact 2 (f := .glo "make_bag") rfl)
  have b_make_bag : Binds K fd_make_bag ["pairs"] [] := FunD.bindsN (ps := ["pairs"]) F_make_bag fun _ _ _ _ _ _ us hl => match us, hl with | [_], _ => rfl
  obtain ⟨fd_plus, E_plus⟩ := c.def_ 3 (d := d_plus) rfl
  have F_plus : FnP K "plus" s_plus (He.ga K "plus") fd_plus := E_plus
  have g_plus := He.glo_ok X G (c.fact 3 (f := .glo "plus") rfl)
  have b_plus : Binds K fd_plus ["first", "second"] [] := FunD.bindsN (ps := ["first", "second"]) F_plus fun _ _ _ _ _ _ us hl => match us, hl with | [_, _], _ => rfl
  obtain ⟨fd_minus, E_minus⟩ := c.def_ 4 (d := d_minus) rfl
  have F_minus : FnP K "minus" s_minus (He.ga K "minus") fd_minus := E_minus
  have g_minus := He.glo_ok X G (c.fact 4 (f := .glo "minus") rfl)
  have b_minus : Binds K fd_minus ["first", "second"] [] := FunD.bindsN (ps := ["first", "second"]) F_minus fun _ _ _ _ _ _ us hl => match us, hl with | [_, _], _ => rfl
  obtain ⟨fd_scaled, E_scaled⟩ := c.def_ 5 (d := d_scaled) rfl
  have F_scaled : FnP K "scaled" s_scaled (He.ga K "scaled") fd_scaled := E_scaled
  have g_scaled := He.glo_ok X G (c.fact 5 (f := .glo "scaled") rfl)
  have b_scaled : Binds K fd_scaled ["bag", "factor"] [] := FunD.bindsN (ps := ["bag", "factor"]) F_scaled fun _ _ _ _ _ _ us hl => match us, hl with | [_, _], _ => rfl
  obtain ⟨fd__law_state, E__law_state⟩ := c.def_ 6 (d := d__law_state) rfl
  have F__law_state : FnP K "_law_state" s__law_state (He.ga K "_law_state") fd__law_state := E__law_state
  have g__law_state := He.glo_ok X G (c.fact 6 (f := .glo "_law_state") rfl)
  have b__law_state : Binds K fd__law_state ["script"] [] := FunD.bindsN (ps := ["script"]) F__law_state fun _ _ _ _ _ _ us hl => match us, hl with | [_], _ => rfl
  obtain ⟨fd__law_draw, E__law_draw⟩ := c.def_ 7 (d := d__law_draw) rfl
  have F__law_draw : FnP K "_law_draw" s__law_draw (He.ga K "_law_draw") fd__law_draw := E__law_draw
  have g__law_draw := He.glo_ok X G (c.fact 7 (f := .glo "_law_draw") rfl)
  have b__law_draw : Binds K fd__law_draw ["state", "many"] [] := FunD.bindsN (ps := ["state", "many"]) F__law_draw fun _ _ _ _ _ _ us hl => match us, hl with | [_, _], _ => rfl
  obtain ⟨fd__law_one, E__law_one⟩ := c.def_ 8 (d := d__law_one) rfl
  have F__law_one : FnP K "_law_one" s__law_one (He.ga K "_law_one") fd__law_one := E__law_one
  have g__law_one := He.glo_ok X G (c.fact 8 (f := .glo "_law_one") rfl)
  have b__law_one : Binds K fd__law_one ["state"] [] := FunD.bindsN (ps := ["state"]) F__law_one fun _ _ _ _ _ _ us hl => match us, hl with | [_], _ => rfl
  obtain ⟨fd__law_row, E__law_row⟩ := c.def_ 9 (d := d__law_row) rfl
  have F__law_row : FnP K "_law_row" s__law_row (He.ga K "_law_row") fd__law_row := E__law_row
  have g__law_row := He.glo_ok X G (c.fact 9 (f := .glo "_law_row") rfl)
  have b__law_row : Binds K fd__law_row ["state", "most"] [] := FunD.bindsN (ps := ["state", "most"]) F__law_row fun _ _ _ _ _ _ us hl => match us, hl with | [_, _], _ => rfl
  obtain ⟨fd__law_key, E__law_key⟩ := c.def_ 10 (d := d__law_key) rfl
  have F__law_key : FnP K "_law_key" s__law_key (He.ga K "_law_key") fd__law_key := E__law_key
  have g__law_key := He.glo_ok X G (c.fact 10 (f := .glo "_law_key") rfl)
  have b__law_key : Binds K fd__law_key ["row"] [] := FunD.bindsN (ps := ["row"]) F__law_key fun _ _ _ _ _ _ us hl => match us, hl with | [_], _ => rfl
  obtain ⟨fd__law_canon, E__law_canon⟩ := c.def_ 11 (d := d__law_canon) rfl
  have F__law_canon : FnP K "_law_canon" s__law_canon (He.ga K "_law_canon") fd__law_canon := E__law_canon
  have g__law_canon := He.glo_ok X G (c.fact 11 (f := .glo "_law_canon") rfl)
  have b__law_canon : Binds K fd__law_canon ["counts"] [] := FunD.bindsN (ps := ["counts"]) F__law_canon fun _ _ _ _ _ _ us hl => match us, hl with | [_], _ => rfl
  obtain ⟨fd__law_bag, E__law_bag⟩ := c.def_ 12 (d := d__law_bag) rfl
  have F__law_bag : FnP K "_law_bag" s__law_bag (He.ga K "_law_bag") fd__law_bag := E__law_bag
  have g__law_bag := He.glo_ok X G (c.fact 12 (f := .glo "_law_bag") rfl)
  have b__law_bag : Binds K fd__law_bag ["state", "most"] [] := FunD.bindsN (ps := ["state", "most"]) F__law_bag fun _ _ _ _ _ _ us hl => match us, hl with | [_, _], _ => rfl
  obtain ⟨fd__law_told, E__law_told⟩ := c.def_ 13 (d := d__law_told) rfl
  have F__law_told : FnP K "_law_told" s__law_told (He.ga K "_law_told") fd__law_told := E__law_told
  have g__law_told := He.glo_ok X G (c.fact 13 (f := .glo "_law_told") rfl)
  have b__law_told : Binds K fd__law_told ["tree", "kind", "first", "second"] [] := FunD.bindsN (ps := ["tree", "kind", "first", "second"]) F__law_told fun _ _ _ _ _ _ us hl => match us, hl with | [_, _, _, _], _ => rfl
  obtain ⟨fd__law_refusals, E__law_refusals⟩ := c.def_ 14 (d := d__law_refusals) rfl
  have F__law_refusals : FnP K "_law_refusals" s__law_refusals (He.ga K "_law_refusals") fd__law_refusals := E__law_refusals
  have g__law_refusals := He.glo_ok X G (c.fact 14 (f := .glo "_law_refusals") rfl)
  have b__law_refusals : Binds K fd__law_refusals ["tree", "known"] [] := FunD.bindsN (ps := ["tree", "known"]) F__law_refusals fun _ _ _ _ _ _ us hl => match us, hl with | [_, _], _ => rfl
  obtain ⟨fd__law_same, E__law_same⟩ := c.def_ 15 (d := d__law_same) rfl
  have F__law_same : FnP K "_law_same" s__law_same (He.ga K "_law_same") fd__law_same := E__law_same
  have g__law_same := He.glo_ok X G (c.fact 15 (f := .glo "_law_same") rfl)
  have b__law_same : Binds K fd__law_same ["tree", "m"] [] := FunD.bindsN (ps := ["tree", "m"]) F__law_same fun _ _ _ _ _ _ us hl => match us, hl with | [_, _], _ => rfl
  obtain ⟨fd__law_deed, E__law_deed⟩ := c.def_ 16 (d := d__law_deed) rfl
  have F__law_deed : FnP K "_law_deed" s__law_deed (He.ga K "_law_deed") fd__law_deed := E__law_deed
  have g__law_deed := He.glo_ok X G (c.fact 16 (f := .glo "_law_deed") rfl)
  have b__law_deed : Binds K fd__law_deed ["state", "tree", "m"] [] := FunD.bindsN (ps := ["state", "tree", "m"]) F__law_deed fun _ _ _ _ _ _ us hl => match us, hl with | [_, _, _], _ => rfl
  obtain ⟨fd__law_either_order, E__law_either_order⟩ := c.def_ 17 (d := d__law_either_order) rfl
  have F__law_either_order : FnP K "_law_either_order" s__law_either_order (He.ga K "_law_either_order") fd__law_either_order := E__law_either_order
  have g__law_either_order := He.glo_ok X G (c.fact 17 (f := .glo "_law_either_order") rfl)
  have b__law_either_order : Binds K fd__law_either_order ["state"] [] := FunD.bindsN (ps := ["state"]) F__law_either_order fun _ _ _ _ _ _ us hl => match us, hl with | [_], _ => rfl
  obtain ⟨fd_law, E_law⟩ := c.def_ 18 (d := d_law) rfl
  have F_law : FnP K "law" s_law (He.ga K "law") fd_law := E_law
  have g_law := He.glo_ok X G (c.fact 18 (f := .glo "law") rfl)
  have n_len := He.free_ok X G (c.fact 19 (f := .free "len") rfl)
  have n_range := He.free_ok X G (c.fact 20 (f := .free "range") rfl)
  have n_int := He.free_ok X G (c.fact 21 (f := .free "int") rfl)
  have n_abs := He.free_ok X G (c.fact 22 (f := .free "abs") rfl)
  have n_isinstance := He.free_ok X G (c.fact 23 (f := .free "isinstance") rfl)
  have n_tuple := He.free_ok X G (c.fact 24 (f := .free "tuple") rfl)
  have n_sorted := He.free_ok X G (c.fact 25 (f := .free "sorted") rfl)
  have n_list := He.free_ok X G (c.fact 26 (f := .free "list") rfl)
  have n_str := He.free_ok X G (c.fact 27 (f := .free "str") rfl)
  have n_dict := He.free_ok X G (c.fact 28 (f := .free "dict") rfl)
  have n_all := He.free_ok X G (c.fact 29 (f := .free "all") rfl)
  obtain ⟨fd_Tinit, E_Tinit⟩ := c.def_ 19 (d := d_Tree___init__) rfl
  have F_Tinit : FnM K "__init__" "Tree.__init__" s_Tree___init__ (He.ma K (He.ga K "Tree") "__init__") fd_Tinit := E_Tinit
  have b_Tinit : Binds K fd_Tinit ["self", "names"] [] := FunD.bindsN (ps := ["self", "names"]) F_Tinit fun _ _ _ _ _ _ us hl => match us, hl with | [_, _], _ => rfl
  obtain ⟨fd_Tinputs, E_Tinputs⟩ := c.def_ 20 (d := d_Tree_inputs) rfl
  have F_Tinputs : FnM K "inputs" "Tree.inputs" s_Tree_inputs (He.ma K (He.ga K "Tree") "inputs") fd_Tinputs := E_Tinputs
  have b_Tinputs : Binds K fd_Tinputs ["self", "branch"] [] := FunD.bindsN (ps := ["self", "branch"]) F_Tinputs fun _ _ _ _ _ _ us hl => match us, hl with | [_, _], _ => rfl
  obtain ⟨fd_Tfeed, E_Tfeed⟩ := c.def_ 21 (d := d_Tree_feed) rfl
  have F_Tfeed : FnM K "feed" "Tree.feed" s_Tree_feed (He.ma K (He.ga K "Tree") "feed") fd_Tfeed := E_Tfeed
  have b_Tfeed : Binds K fd_Tfeed ["self", "branch", "name", "change"] [] := FunD.bindsN (ps := ["self", "branch", "name", "change"]) F_Tfeed fun _ _ _ _ _ _ us hl => match us, hl with | [_, _, _, _], _ => rfl
  obtain ⟨fd_Tfork, E_Tfork⟩ := c.def_ 22 (d := d_Tree_fork) rfl
  have F_Tfork : FnM K "fork" "Tree.fork" s_Tree_fork (He.ma K (He.ga K "Tree") "fork") fd_Tfork := E_Tfork
  have b_Tfork : Binds K fd_Tfork ["self", "parent", "branch"] [] := FunD.bindsN (ps := ["self", "parent", "branch"]) F_Tfork fun _ _ _ _ _ _ us hl => match us, hl with | [_, _, _], _ => rfl
  obtain ⟨fd_Tchange, E_Tchange⟩ := c.def_ 23 (d := d_Tree_change) rfl
  have F_Tchange : FnM K "change" "Tree.change" s_Tree_change (He.ma K (He.ga K "Tree") "change") fd_Tchange := E_Tchange
  have b_Tchange : Binds K fd_Tchange ["self", "branch", "name"] [] := FunD.bindsN (ps := ["self", "branch", "name"]) F_Tchange fun _ _ _ _ _ _ us hl => match us, hl with | [_, _, _], _ => rfl
  obtain ⟨fd_Tmerge, E_Tmerge⟩ := c.def_ 24 (d := d_Tree_merge) rfl
  have F_Tmerge : FnM K "merge" "Tree.merge" s_Tree_merge (He.ma K (He.ga K "Tree") "merge") fd_Tmerge := E_Tmerge
  have b_Tmerge : Binds K fd_Tmerge ["self", "branch"] [] := FunD.bindsN (ps := ["self", "branch"]) F_Tmerge fun _ _ _ _ _ _ us hl => match us, hl with | [_, _], _ => rfl
  obtain ⟨fd_Tfound, E_Tfound⟩ := c.def_ 25 (d := d_Tree_found) rfl
  have F_Tfound : FnM K "found" "Tree.found" s_Tree_found (He.ma K (He.ga K "Tree") "found") fd_Tfound := E_Tfound
  have b_Tfound : Binds K fd_Tfound ["self", "branch"] [] := FunD.bindsN (ps := ["self", "branch"]) F_Tfound fun _ _ _ _ _ _ us hl => match us, hl with | [_, _], _ => rfl
  obtain ⟨fd_Tfound_with, E_Tfound_with⟩ := c.def_ 26 (d := d_Tree_found_with) rfl
  have F_Tfound_with : FnM K "found_with" "Tree.found_with" s_Tree_found_with (He.ma K (He.ga K "Tree") "found_with") fd_Tfound_with := E_Tfound_with
  have b_Tfound_with : Binds K fd_Tfound_with ["self", "branch", "name"] [] := FunD.bindsN (ps := ["self", "branch", "name"]) F_Tfound_with fun _ _ _ _ _ _ us hl => match us, hl with | [_, _, _], _ => rfl
  obtain ⟨fd_Binit, E_Binit⟩ := c.def_ 27 (d := d_Branch___init__) rfl
  have F_Binit : FnM K "__init__" "Branch.__init__" s_Branch___init__ (He.ma K (He.ga K "Branch") "__init__") fd_Binit := E_Binit
  have b_Binit : Binds K fd_Binit ["self", "parent", "bags"] [] := FunD.bindsN (ps := ["self", "parent", "bags"]) F_Binit fun _ _ _ _ _ _ us hl => match us, hl with | [_, _, _], _ => rfl
  obtain ⟨fd_Bbegin, E_Bbegin⟩ := c.def_ 28 (d := d_Branch_begin) rfl
  have F_Bbegin : FnM K "begin" "Branch.begin" s_Branch_begin (He.ma K (He.ga K "Branch") "begin") fd_Bbegin := E_Bbegin
  have b_Bbegin : Binds K fd_Bbegin ["self", "bags"] [] := FunD.bindsN (ps := ["self", "bags"]) F_Bbegin fun _ _ _ _ _ _ us hl => match us, hl with | [_, _], _ => rfl
  obtain ⟨fd_Bdifference, E_Bdifference⟩ := c.def_ 29 (d := d_Branch_difference) rfl
  have F_Bdifference : FnM K "difference" "Branch.difference" s_Branch_difference (He.ma K (He.ga K "Branch") "difference") fd_Bdifference := E_Bdifference
  have b_Bdifference : Binds K fd_Bdifference ["self", "name"] [] := FunD.bindsN (ps := ["self", "name"]) F_Bdifference fun _ _ _ _ _ _ us hl => match us, hl with | [_, _], _ => rfl
  have m_Tinputs := He.meth_ok (c.fact 37 (f := .meth "Tree" "inputs") rfl)
  have m_Tfeed := He.meth_ok (c.fact 38 (f := .meth "Tree" "feed") rfl)
  have m_Tfork := He.meth_ok (c.fact 39 (f := .meth "Tree" "fork") rfl)
  have m_Tchange := He.meth_ok (c.fact 40 (f := .meth "Tree" "change") rfl)
  have m_Tmerge := He.meth_ok (c.fact 41 (f := .meth "Tree" "merge") rfl)
  have m_Tfound := He.meth_ok (c.fact 42 (f := .meth "Tree" "found") rfl)
  have m_Tfound_with := He.meth_ok (c.fact 43 (f := .meth "Tree" "found_with") rfl)
  have m_Bbegin := He.meth_ok (c.fact 50 (f := .meth "Branch" "begin") rfl)
  have m_Bdifference := He.meth_ok (c.fact 51 (f := .meth "Branch" "difference") rfl)
  have mk_T := He.mkr_ok (c.fact 36 (f := .mkr "Tree") rfl)
  have mk_B := He.mkr_ok (c.fact 49 (f := .mkr "Branch") rfl)
  have g_LE := He.glo_ok X G (c.fact 30 (f := .glo "LoomError") rfl)
  have g_NU := He.glo_ok X G (c.fact 31 (f := .glo "NameUnknown") rfl)
  have g_NT := He.glo_ok X G (c.fact 32 (f := .glo "NameTaken") rfl)
  have TC : TrC K mg (He.ga K "Tree") := ⟨He.cls_ok (c.fact 34 (f := .cls "Tree") rfl), He.noat_ok (c.fact 35 (f := .noat "Tree" "branches") rfl), He.glo_ok X G (c.fact 33 (f := .glo "Tree") rfl)⟩
  have BC : BrC K mg (He.ga K "Branch") := ⟨He.cls_ok (c.fact 45 (f := .cls "Branch") rfl), He.noat_ok (c.fact 46 (f := .noat "Branch" "parent") rfl), He.noat_ok (c.fact 47 (f := .noat "Branch" "start") rfl), He.noat_ok (c.fact 48 (f := .noat "Branch" "bags") rfl), He.glo_ok X G (c.fact 44 (f := .glo "Branch") rfl)⟩
  have n_super := He.free_ok X G (c.fact 52 (f := .free "super") rfl)
  have hex := cx.ex
  unfold exB at hex
  simp only [Bool.and_eq_true] at hex
  obtain ⟨x1, x2, x3, x4, x5⟩ := hex
  obtain ⟨TU, iU, tU, ⟨fd_U, DU⟩, CU⟩ := sup_of (P := P) hP x1 cx.u (fun _ _ _ _ => trivial)
  obtain ⟨TN, iN, tN, ⟨fd_N, DN⟩, CN⟩ := sup_of (P := P) hP x2 cx.n (fun _ _ _ _ => trivial)
  have e := gf.symm.trans g_law
  cases e
  have bd := FunD.bindsA (ps := ["script"]) F_law fun _ _ _ _ _ _ us hl => match us, hl with | [_], _ => rfl
  refine ⟨fd_law, fun s u => bd s [u] rfl, fun base => ?_⟩
  generalize eT : He.ga K "Tree" = CT at TC mk_T m_Tinputs m_Tfeed m_Tfork m_Tchange m_Tmerge m_Tfound m_Tfound_with F_Tinit F_Tinputs F_Tfeed F_Tfork F_Tchange F_Tmerge F_Tfound F_Tfound_with
  generalize eB : He.ga K "Branch" = CB at BC mk_B m_Bbegin m_Bdifference F_Binit F_Bbegin F_Bdifference
  have XU : ExC P w K mg base "NameUnknown" (He.ga K "NameUnknown") := exc_u DU TU iU tU g_NU n_super htop CU.no
  have XN : ExC P w K mg base "NameTaken" (He.ga K "NameTaken") := exc_n DN TN iN tN g_NT n_super htop CN.no
  generalize He.ga K "NameUnknown" = NU at XU CU x4 x5
  generalize He.ga K "NameTaken" = NT at XN CN x3 x4
  generalize He.ga K "LoomError" = LE at CU CN g_LE
  have c_rank : Cal P w K mg base "rank" 1 ["value"] (spRank K) := cal_of F_rank g_rank b_rank (ok_rank F_rank n_isinstance n_str)
  have c_row_rank : Cal P w K mg base "row_rank" 2 ["row"] (spKey K rankRow) := cal_of F_row_rank g_row_rank b_row_rank (ok_row_rank F_row_rank n_tuple c_rank)
  have c_make : Cal P w K mg base "make_bag" 5 ["pairs"] spMakeBag := cal_of F_make_bag g_make_bag b_make_bag (ok_make_bag F_make_bag n_sorted c_row_rank)
  have c_plus : Cal P w K mg base "plus" 6 ["first", "second"] spPlus := cal_of F_plus g_plus b_plus (ok_plus F_plus c_make)
  have c_scaled : Cal P w K mg base "scaled" 1 ["bag", "factor"] spScaled := cal_of F_scaled g_scaled b_scaled (ok_scaled F_scaled)
  have c_minus : Cal P w K mg base "minus" 7 ["first", "second"] spMinus := cal_of F_minus g_minus b_minus (ok_minus F_minus c_plus c_scaled)
  have M_begin : MethG P w K mg base CX0 CB "begin" 1 ["self", "bags"] (spBegin CB) := ⟨_, fd_Bbegin, m_Bbegin, ok_begin F_Bbegin BC n_dict, b_Bbegin⟩
  have K_branch : MakeG P w K mg base CX0 CB 2 ["self", "parent", "bags"] (spBInit CB) := ⟨_, fd_Binit, mk_B, ok_binit F_Binit BC M_begin, b_Binit⟩
  have M_diff : DiffC P w K mg base CB := ⟨_, fd_Bdifference, m_Bdifference, ok_diff F_Bdifference BC c_minus, b_Bdifference⟩
  have K_tree : MakeG P w K mg base CX0 CT 4 ["self", "names"] (spTInit CT CB) := ⟨_, fd_Tinit, mk_T, ok_tinit F_Tinit TC BC K_branch, b_Tinit⟩
  have M_found : FoundC P w K mg base CT CB NU := ⟨_, fd_Tfound, m_Tfound, ok_found F_Tfound TC XU, b_Tfound⟩
  have M_foundw : FoundWC P w K mg base CT CB NU := ⟨_, fd_Tfound_with, m_Tfound_with, ok_foundw F_Tfound_with TC BC XU M_found, b_Tfound_with⟩
  have M_change : ChangeC P w K mg base CT CB NU := ⟨_, fd_Tchange, m_Tchange, ok_change F_Tchange TC BC M_foundw M_diff, b_Tchange⟩
  have M_feed : MethG P w K mg base (L2.CX P w) CT "feed" 7 ["self", "branch", "name", "change"] (spFeed CT CB NU) := ⟨_, fd_Tfeed, m_Tfeed, ok_feed F_Tfeed TC BC M_foundw c_plus, b_Tfeed⟩
  have M_fork : MethG P w K mg base (L2.CX P w) CT "fork" 4 ["self", "parent", "branch"] (spFork CT CB NU NT) := ⟨_, fd_Tfork, m_Tfork, ok_fork F_Tfork TC BC XN M_found K_branch, b_Tfork⟩
  have M_inputs : InputsC P w K mg base CT CB NU := ⟨_, fd_Tinputs, m_Tinputs, ok_inputs F_Tinputs TC BC n_list M_found, b_Tinputs⟩
  have M_merge : MethG P w K mg base (L2.CX P w) CT "merge" 9 ["self", "branch"] (spMerge CT CB NU) := ⟨_, fd_Tmerge, m_Tmerge, ok_merge F_Tmerge TC BC XU M_found M_diff M_begin c_plus, b_Tmerge⟩
  -- the law's
  have l_state : Cal P w K mg base "_law_state" 1 ["script"] (spState K) := cal_of F__law_state g__law_state b__law_state (ok_state F__law_state n_int n_abs)
  have l_draw : DrawC P w K mg base := cal_of F__law_draw g__law_draw b__law_draw (ok_draw F__law_draw n_int n_len n_range)
  have l_one : Cal P w K mg base "_law_one" 2 ["state"] spOne := cal_of F__law_one g__law_one b__law_one (ok_one F__law_one l_draw)
  have l_row : RowC P w K mg base := cal_of F__law_row g__law_row b__law_row (ok_row F__law_row n_tuple n_range l_draw l_one)
  have l_key : Cal P w K mg base "_law_key" 1 ["row"] (spLawKey K) := cal_of F__law_key g__law_key b__law_key (ok_law_key F__law_key n_isinstance n_int)
  have l_canon : Cal P w K mg base "_law_canon" 4 ["counts"] spCanon := cal_of F__law_canon g__law_canon b__law_canon (ok_canon F__law_canon n_sorted l_key)
  have l_bag : BagC P w K mg base := cal_of F__law_bag g__law_bag b__law_bag (ok_bag F__law_bag n_range l_draw l_row l_canon)
  have l_told : ToldC P w K mg base CT CB := cal_of F__law_told g__law_told b__law_told (ok_told F__law_told TC n_isinstance g_LE XU XN CU CN (isT_ok x3) (of_decide_eq_true x4) (isT_ok x5) M_feed M_fork M_merge M_inputs M_change)
  have l_ref : Cal P w K mg base "_law_refusals" 11 ["tree", "known"] (spRefusals CT CB) := cal_of F__law_refusals g__law_refusals b__law_refusals (ok_refusals F__law_refusals n_all l_told)
  have l_same : Cal P w K mg base "_law_same" 10 ["tree", "m"] (spSame CT CB) := cal_of F__law_same g__law_same b__law_same (ok_same F__law_same TC M_inputs M_change c_minus)
  have l_deed : Cal P w K mg base "_law_deed" 10 ["state", "tree", "m"] (spDeed CT CB) := cal_of F__law_deed g__law_deed b__law_deed (ok_deed F__law_deed TC n_sorted n_len n_dict l_draw l_bag c_plus c_minus M_feed M_fork M_merge)
  have l_either : Cal P w K mg base "_law_either_order" 10 ["state"] spEither := cal_of F__law_either_order g__law_either_order b__law_either_order (ok_either F__law_either_order TC n_range l_bag c_plus K_tree M_feed M_fork M_merge M_inputs)
  exact ok_law (NT := NT) (LE := LE) F_law TC n_range n_sorted n_len l_state l_draw l_deed l_same l_ref l_either K_tree M_inputs
end
end KA
set_option Elab.async false
set_option linter.all false
set_option maxRecDepth 100000
set_option maxHeartbeats 4000000
/-! the law called by the claim's caller -/
namespace KA
open PySem PySem.Spec PyProof.Rows L2
/-- the heap at the law's entry: the script, held -/
def entryH (a : Addr) (ob : Obj) (xs : List V) (seen : Bool) : Hp := fun b => if b = a ∧ seen = true then some (.frz ob (.lst xs)) else none
section
variable {P : Program} {w : World} {K : PySem.W.Frag} {mg mb : Str → Option Value} {f a : Addr} {fd : FuncData}
theorem law_says {s₁ : Shared} {vs : List Value} {ns : List Int} (inK : K.In s₁.heap) (gl : s₁.heap.Ns mainGlobals mg) (bl : s₁.heap.Ns builtinsNs mb) (bb : ∀ x : Str, x ≠ "__name__" → mb x = bootBuiltins x)
    (nolim : s₁.heap.NoLimit) (nogen : s₁.gens = #[]) (at_a : s₁.heap.get? a = some { cls := .type "list", data := .seq vs.toArray }) (isI : IntsAre vs ns) (few : ns.length ≤ 63)
    (bd : ∀ (s : Shared) (u : Value), BindsTo s fd ⟨[u], []⟩ [("script", u)]) (cs : ∀ base : Heap, FnOk P w K mg base CX0 12 f fd ["script"] (spLaw K)) :
    codeAny (model P w) callerA (.call (.ref f) ⟨[.ref a], []⟩) (fun r s' => r = .ok (.ret (.bool true)) ∧ OldK s₁.heap s'.heap ∧ s'.os = s₁.os ∧ AllBare s'.gens) s₁ := by
  have rv := vals_ints isI
  have lenV := isI.length
  have few2 : ns.length ≤ sizeLine := Nat.le_trans few (by decide)
  -- for a choice whether the script is tracked
  have go : ∀ seen : Bool, SqL K (entryH a { cls := .type "list", data := .seq vs.toArray } (ns.map V.int) seen) a (ns.map V.int) → (seen = true → K.lookup a = none) →
      codeAny (model P w) callerA (.call (.ref f) ⟨[.ref a], []⟩) (fun r s' => r = .ok (.ret (.bool true)) ∧ OldK s₁.heap s'.heap ∧ s'.os = s₁.os ∧ AllBare s'.gens) s₁ := by
    intro seen
    obtain ⟨H, eH⟩ : ∃ H, H = entryH a { cls := .type "list", data := .seq vs.toArray } (ns.map V.int) seen := ⟨_, rfl⟩
    rw [← eH]
    intro hS notK
    have cases2 : ∀ b, H b = none ∨ (b = a ∧ seen = true ∧ H b = some (.frz { cls := .type "list", data := .seq vs.toArray } (.lst (ns.map V.int)))) := fun b => by
      rw [eH]
      unfold entryH
      by_cases h2 : b = a ∧ seen = true
      · exact .inr ⟨h2.1, h2.2, if_pos h2⟩
      · exact .inl (if_neg h2)
    have hok : HOk P w H s₁.heap := fun b u e => by
      rcases cases2 b with h | ⟨h, _, h'⟩
      · rw [h] at e
        cases e
      · rw [h'] at e
        cases e
        rw [h]
        exact ⟨at_a, by rw [List.length_map]; exact few2, vs, _, rv, at_a⟩
    -- what is no list is not tracked
    have away : ∀ {b : Addr} {o : Obj}, s₁.heap.get? b = some o → (∀ xs n, o.data ≠ .seq xs n) → H b = none := fun {b o} e n1 => by
      rcases cases2 b with h | ⟨h, _, _⟩
      · exact h
      · rw [h, at_a] at e
        cases e
        exact absurd rfl (n1 _ _)
    have ns_of : ∀ {b : Addr} {m : Str → Option Value}, s₁.heap.Ns b m → (hidT s₁.heap H).Ns b m := fun {b m} ⟨o, es, ep, e, d, r⟩ => ⟨o, es, ep, hidT_get e (away e fun xs n z => by rw [d] at z; cases z), d, r⟩
    have K_of : K.In (hidT s₁.heap H) := fun b o e => hidT_get (inK b o e) (by
      rcases cases2 b with h | ⟨h, hs, _⟩
      · exact h
      · rw [h, notK hs] at e
        cases e)
    obtain ⟨mc, lim1, lim2⟩ := nolim
    have M1 : Mod K mg (hidT s₁.heap H) := ⟨K_of, ns_of gl, ⟨mb, ns_of bl, bb⟩, mc, ns_of lim1, lim2⟩
    have noEx : ∀ b : Addr, b ∉ ([] : List Addr) := fun b z => by cases z
    have e0 : Env0 P w K mg (hidT s₁.heap H) callerA [] s₁ H := ⟨rfl, M1, fun b o e => of_hidT e, Nat.le_of_eq (hidT_size _ _), trivial, fun b z => absurd z (noEx b), hok, .of_eq nogen⟩
    have room : Room 12 callerA := ⟨rfl, by decide, by decide⟩
    refine codeAny_mono ((cs (hidT s₁.heap H)).run callerA [] s₁ H ⟨[.ref a], []⟩ [.ref a] [.ref a] (fun v _ => v = .bl true) (fun _ _ _ => False) room e0 (bd s₁ (.ref a)) (.cons rfl .nil) ⟨a, ns, rfl, hS, few, fun _ => rfl⟩) fun r s' h => ?_
    match r, h with
    | .error e, h => exact (h : False).elim
    | .ok .next, h => exact (h : False).elim
    | .ok .brk, h => exact (h : False).elim
    | .ok .cont, h => exact (h : False).elim
    | .ok (.ret u), ⟨v, H', os, bare, un, hok', r', q⟩ =>
      subst q
      have eu : u = Value.bool true := r'
      subst eu
      have same : ∀ b o, s₁.heap.get? b = some o → s'.heap.get? b = some o := fun b o e => by
        rcases cases2 b with h | ⟨h, _, h'⟩
        · exact un.keep b o e h (noEx b) (by simp)
        · obtain ⟨e1, _⟩ := hok b _ h'
          obtain ⟨e2, _⟩ := hok' b _ (un.frzs b _ _ h')
          rw [e] at e1
          cases e1
          exact e2
      exact ⟨rfl, ⟨fun b o e => .inl (same b o e), fun b o e => ⟨o, same b o e⟩⟩, os, bare⟩
  cases hk : K.lookup a with
  | some o =>
    have e := inK a o hk
    rw [at_a] at e
    cases e
    exact go false (.inr ⟨_, vs.toArray, _, hk, rfl, rfl, rfl, by rw [List.size_toArray, lenV]; exact few2, by simpa using rv⟩) fun z => by cases z
  | none =>
    refine go true (.inl (.inr ⟨{ cls := .type "list", data := .seq vs.toArray }, ?_⟩)) fun _ => hk
    show (if a = a ∧ true = true then some (HO.frz { cls := .type "list", data := .seq vs.toArray } (.lst (ns.map V.int))) else none) = _
    rw [if_pos ⟨rfl, rfl⟩]
end
end KA
set_option Elab.async false
set_option linter.all false
set_option maxRecDepth 100000
set_option maxHeartbeats 0
/-! the end -/
open PySem PySem.W PySem.Calls PyProof.Rows
theorem PySem.Challenge.cw_deltaloom_k12_branches_that_merge_holds : PySem.Challenge.rw_deltaloom_k12_branches_that_merge.Holds := by
  w_on; o_law
  refine HandSHeadRun.head_any (r := OpenLaw.row PySem.Challenge.rw_deltaloom_k12_branches_that_merge) (q := view (OpenLaw.row PySem.Challenge.rw_deltaloom_k12_branches_that_merge).prog [28]) (H := KA.hk) (ob := KA.ob) (M := 8000) (loose := KA.loose) (d := HandSHeadRun.topDef (OpenLaw.row PySem.Challenge.rw_deltaloom_k12_branches_that_merge).prog 28) (kwd := []) KA.ob_eq
    (by kernel_rfl) (fun s => by kernel_rfl) KA.run (by kernel_rfl) (by kernel_rfl) (by kernel_rfl) (by rfl) (by first | assumption | decide +kernel) (by decide +kernel) ⟨rfl, rfl, rfl, rfl, rfl, by decide +kernel⟩ ?hw ?hc
  case hw => w_witness2
  case hc =>
    have nm : (HandSHeadRun.topDef (OpenLaw.row PySem.Challenge.rw_deltaloom_k12_branches_that_merge).prog 28).name = ("law" : PySem.Str) := by kernel_rfl
    have df : (HandSHeadRun.topDef (OpenLaw.row PySem.Challenge.rw_deltaloom_k12_branches_that_merge).prog 28).params.defaults = [] := by kernel_rfl
    refine Att.attach_call (l := PySem.Challenge.rw_deltaloom_k12_branches_that_merge) (n := 63) rfl df fun w s₀ s₁ mg mb fa o pm cd doc a vs ns G Y ho hd hcd hmg hobj hints hlen hg => ?_
    obtain ⟨K, KX, c⟩ := Y
    have hlaw : mg ("law" : PySem.Str) = some (.ref fa) := by
      rw [← nm]
      exact hmg
    obtain ⟨fd, bd, cs⟩ := KA.top_facts (P := PySem.Challenge.rw_deltaloom_k12_branches_that_merge.prog) (w := w) rfl (by kernel_rfl) KX G.T.g hlaw c
    exact KA.law_says KX G.T.g G.T.b G.T.builtins G.T.nolimit hg hobj hints hlen bd cs
