import PyProof.Rows.All
import Wide.All
import OpenK.AllK
import Wide.FinOn
import HandS.Base
import HandS.Dict
import KE.SortData
import KE.LtData
import KE.SortCalls
import KE.DataEq
import KE.SortKeyHeap
import HandS.ForMost
import HandS.Defaults
import HandS.WordsExc
import HandS.SortKw
import HandS.ExcValue
import HandS.IsInst
import HandS.Wide
import HandS.Walk
import KE.KStateDown
import Lean
import HandS.More
import HandS.Head0
import HandS.Head1
import HandS.Head2
import HandS.HeadEnd
import HandS.HeadHook1
import HandS.HeadHook2
import PySem.Challenge.RW_deltaloom_k03_least_sets_of_rules
import HandS.RaiseMore
import HandS.TupAny
import HandS.Lambda
import KE.KeyNested
import HandS.Conv
import HandS.SetKeys
import PyProof.DictMoreH
import HandS.DictComp
import HandS.Zip
import KE.GoesZip
import KE.GoesEnum
import KE.GoesMore
import HandS.TupLen
import HandS.Records
import HandS.Deep
import PyProof.ReprRoads
import PyProof.Rows.ReprItems
import PyProof.FitsInt
import HandS.HeadHook4
set_option Elab.async false
set_option linter.all false
set_option maxRecDepth 100000
set_option maxHeartbeats 4000000
/-! bags as lists of rows and counts: sums by row, the sorted form, and that it is the only one -/
namespace KA
open PySem PySem.W L2
abbrev Row := List Key
abbrev Bag := List (Row × Int)
/-! ### the order of values and rows -/
def sLt (a b : Str) : Bool := decide (a.cps.toList < b.cps.toList)
def oneLt : Key → Key → Bool
  | .inl i, .inl j => decide (i < j)
  | .inl _, .inr _ => true
  | .inr _, .inl _ => false
  | .inr x, .inr y => sLt x y
def rowLt : Row → Row → Bool
  | [], [] => false
  | [], _ :: _ => true
  | _ :: _, [] => false
  | a :: r, b :: t => if a = b then rowLt r t else oneLt a b
theorem str_ext {a b : Str} (h : a.cps.toList = b.cps.toList) : a = b := by
  cases a; cases b
  simp only [Str.mk.injEq]
  exact Array.toList_inj.mp h
theorem oneLt_irrefl (a : Key) : oneLt a a = false := by
  cases a with
  | inl i => simp [oneLt]
  | inr x => simp [oneLt, sLt, List.lt_irrefl]
theorem oneLt_total {a b : Key} (h : a ≠ b) (h1 : oneLt a b = false) : oneLt b a = true := by
  cases a with
  | inl i =>
    cases b with
    | inl j =>
      simp only [oneLt, decide_eq_false_iff_not, decide_eq_true_eq] at h1 ⊢
      have : i ≠ j := fun e => h (by rw [e])
      omega
    | inr y => simp [oneLt] at h1
  | inr x =>
    cases b with
    | inl j => rfl
    | inr y =>
      simp only [oneLt, sLt, decide_eq_false_iff_not, decide_eq_true_eq] at h1 ⊢
      have hne : x.cps.toList ≠ y.cps.toList := fun e => h (by rw [str_ext e])
      have h2 : y.cps.toList ≤ x.cps.toList := List.not_lt.mp h1
      by_cases z : y.cps.toList < x.cps.toList
      · exact z
      · exact absurd (List.le_antisymm (List.not_lt.mp z) h2) hne
theorem oneLt_asym {a b : Key} (h : oneLt a b = true) : oneLt b a = false := by
  cases a with
  | inl i =>
    cases b with
    | inl j => simp only [oneLt, decide_eq_false_iff_not, decide_eq_true_eq] at h ⊢; omega
    | inr y => rfl
  | inr x =>
    cases b with
    | inl j => simp [oneLt] at h
    | inr y =>
      simp only [oneLt, sLt, decide_eq_false_iff_not, decide_eq_true_eq] at h ⊢
      exact fun e => List.lt_irrefl _ (List.lt_trans h e)
theorem oneLt_trans {a b c : Key} (h1 : oneLt a b = true) (h2 : oneLt b c = true) : oneLt a c = true := by
  cases a with
  | inl i =>
    cases b with
    | inl j =>
      cases c with
      | inl k => simp only [oneLt, decide_eq_true_eq] at h1 h2 ⊢; omega
      | inr z => rfl
    | inr y =>
      cases c with
      | inl k => simp [oneLt] at h2
      | inr z => rfl
  | inr x =>
    cases b with
    | inl j => simp [oneLt] at h1
    | inr y =>
      cases c with
      | inl k => simp [oneLt] at h2
      | inr z =>
        simp only [oneLt, sLt, decide_eq_true_eq] at h1 h2 ⊢
        exact List.lt_trans h1 h2
theorem rowLt_irrefl : ∀ r : Row, rowLt r r = false
  | [] => rfl
  | a :: r => by
    rw [rowLt, if_pos rfl]
    exact rowLt_irrefl r
theorem rowLt_total : ∀ {a b : Row}, a ≠ b → rowLt a b = false → rowLt b a = true
  | [], [], h, _ => absurd rfl h
  | [], _ :: _, _, h => by simp [rowLt] at h
  | _ :: _, [], _, _ => rfl
  | x :: a, y :: b, h, h1 => by
    rw [rowLt] at h1 ⊢
    by_cases e : x = y
    · subst e
      rw [if_pos rfl] at h1 ⊢
      exact rowLt_total (fun q => h (by rw [q])) h1
    · rw [if_neg e] at h1
      rw [if_neg (fun q => e q.symm)]
      exact oneLt_total e h1
theorem rowLt_asym : ∀ {a b : Row}, rowLt a b = true → rowLt b a = false
  | [], [], h => by simp [rowLt] at h
  | [], _ :: _, _ => rfl
  | _ :: _, [], h => by simp [rowLt] at h
  | x :: a, y :: b, h => by
    rw [rowLt] at h ⊢
    by_cases e : x = y
    · subst e
      rw [if_pos rfl] at h ⊢
      exact rowLt_asym h
    · rw [if_neg e] at h
      rw [if_neg (fun q => e q.symm)]
      exact oneLt_asym h
theorem rowLt_trans : ∀ {a b c : Row}, rowLt a b = true → rowLt b c = true → rowLt a c = true
  | [], [], _, h, _ => by simp [rowLt] at h
  | [], _ :: _, [], _, h => by simp [rowLt] at h
  | [], _ :: _, _ :: _, _, _ => rfl
  | _ :: _, [], _, h, _ => by simp [rowLt] at h
  | _ :: _, _ :: _, [], _, h => by simp [rowLt] at h
  | x :: a, y :: b, z :: c, h1, h2 => by
    rw [rowLt] at h1 h2 ⊢
    by_cases e : x = y
    · subst e
      rw [if_pos rfl] at h1
      by_cases e2 : x = z
      · subst e2
        rw [if_pos rfl] at h2 ⊢
        exact rowLt_trans h1 h2
      · rw [if_neg e2] at h2 ⊢
        exact h2
    · rw [if_neg e] at h1
      by_cases e2 : y = z
      · subst e2
        rw [if_neg e]
        exact h1
      · rw [if_neg e2] at h2
        have h3 := oneLt_trans h1 h2
        have e3 : x ≠ z := fun q => by
          subst q
          rw [oneLt_irrefl] at h3
          cases h3
        rw [if_neg e3]
        exact h3
def rowLe (a b : Row) : Bool := !rowLt b a
/-! ### counts by row -/
/-- the sum of the counts that the pairs give to a row -/
def tot (ps : Bag) (r : Row) : Int := ((ps.filter fun e => decide (e.1 = r)).map (·.2)).sum
theorem tot_nil (r : Row) : tot [] r = 0 := rfl
theorem tot_cons (e : Row × Int) (ps : Bag) (r : Row) : tot (e :: ps) r = (if e.1 = r then e.2 else 0) + tot ps r := by
  unfold tot
  by_cases h : e.1 = r
  · rw [List.filter_cons_of_pos (by simpa using h), if_pos h, List.map_cons, List.sum_cons]
  · rw [List.filter_cons_of_neg (by simpa using h), if_neg h]
    omega
theorem tot_app (ps qs : Bag) (r : Row) : tot (ps ++ qs) r = tot ps r + tot qs r := by
  induction ps with
  | nil => rw [List.nil_append, tot_nil]; omega
  | cons e t ih => rw [List.cons_append, tot_cons, tot_cons, ih]; omega
theorem tot_map (ps : Bag) (f : Int → Int) (h : ∀ x y, f (x + y) = f x + f y) (h0 : f 0 = 0) (r : Row) : tot (ps.map fun e => (e.1, f e.2)) r = f (tot ps r) := by
  induction ps with
  | nil => rw [List.map_nil, tot_nil, h0]
  | cons e t ih =>
    rw [List.map_cons, tot_cons, tot_cons, ih, h]
    by_cases q : e.1 = r
    · rw [if_pos q, if_pos q]
    · rw [if_neg q, if_neg q, h0]
theorem tot_out {ps : Bag} {r : Row} (h : ∀ e ∈ ps, e.1 ≠ r) : tot ps r = 0 := by
  induction ps with
  | nil => rfl
  | cons e t ih =>
    rw [tot_cons, if_neg (h e List.mem_cons_self), ih fun x hx => h x (List.mem_cons_of_mem _ hx)]
    omega
theorem tot_in {ps : Bag} (hn : (ps.map (·.1)).Nodup) {e : Row × Int} (he : e ∈ ps) : tot ps e.1 = e.2 := by
  induction ps with
  | nil => cases he
  | cons x t ih =>
    rw [List.map_cons, List.nodup_cons] at hn
    rw [tot_cons]
    rcases List.mem_cons.mp he with q | q
    · subst q
      rw [if_pos rfl, tot_out fun y hy z => hn.1 (List.mem_map.mpr ⟨y, hy, z⟩)]
      omega
    · have hne : x.1 ≠ e.1 := fun z => hn.1 (List.mem_map.mpr ⟨e, q, z.symm⟩)
      rw [if_neg hne, ih hn.2 q]
      omega
/-! ### the dict that is filled pair by pair -/
def putI (m : Bag) (r : Row) (c : Int) : Bag :=
  if (m.any fun e => decide (e.1 = r)) = true then m.map (fun e => if e.1 = r then (e.1, c) else e) else m ++ [(r, c)]
def valI (m : Bag) (r : Row) : Option Int := (m.find? fun e => decide (e.1 = r)).map (·.2)
def tally (ps : Bag) : Bag := ps.foldl (fun m e => putI m e.1 ((valI m e.1).getD 0 + e.2)) []
abbrev vk (m : Bag) : List (Row × V) := m.map fun e => (e.1, V.int e.2)
theorem vk_val (m : Bag) (r : Row) : valV (vk m) r = (valI m r).map V.int := by
  induction m with
  | nil => rfl
  | cons e t ih =>
    by_cases h : e.1 = r
    · rw [show vk (e :: t) = (e.1, V.int e.2) :: vk t from rfl, valV_pos h]
      simp [valI, List.find?_cons, h]
    · rw [show vk (e :: t) = (e.1, V.int e.2) :: vk t from rfl, valV_neg h, ih]
      simp [valI, List.find?_cons, h]
theorem vk_put (m : Bag) (r : Row) (c : Int) : putK (vk m) r (.int c) = vk (putI m r c) := by
  unfold putK putI
  have e : ((vk m).any fun kv => decide (kv.1 = r)) = (m.any fun e => decide (e.1 = r)) := by
    rw [List.any_map]
    rfl
  rw [e]
  split
  · show (m.map fun e => (e.1, V.int e.2)).map (fun kv => if kv.1 = r then (kv.1, V.int c) else kv) = (m.map (fun e => if e.1 = r then (e.1, c) else e)).map fun e => (e.1, V.int e.2)
    rw [List.map_map, List.map_map]
    refine List.map_congr_left fun x _ => ?_
    show (if x.1 = r then (x.1, V.int c) else (x.1, V.int x.2)) = ((if x.1 = r then (x.1, c) else x).1, V.int (if x.1 = r then (x.1, c) else x).2)
    split <;> rfl
  · show (m.map fun e => (e.1, V.int e.2)) ++ [(r, V.int c)] = (m ++ [(r, c)]).map fun e => (e.1, V.int e.2)
    rw [List.map_append]
    rfl
theorem valI_tot {m : Bag} (hn : (m.map (·.1)).Nodup) (r : Row) : (valI m r).getD 0 = tot m r := by
  induction m with
  | nil => rfl
  | cons e t ih =>
    rw [List.map_cons, List.nodup_cons] at hn
    rw [tot_cons]
    by_cases h : e.1 = r
    · rw [if_pos h, tot_out fun x hx q => hn.1 (List.mem_map.mpr ⟨x, hx, q.trans h.symm⟩)]
      simp [valI, List.find?_cons, h]
    · rw [if_neg h, ← ih hn.2]
      simp [valI, List.find?_cons, h]
theorem valI_some {m : Bag} {e : Row × Int} (he : e ∈ m) : (valI m e.1).isSome = true := by
  unfold valI
  rw [Option.isSome_map, List.find?_isSome]
  exact ⟨e, he, by simp⟩
theorem putI_keys (m : Bag) (r : Row) (c : Int) : (r ∈ m.map (·.1) ∧ (putI m r c).map (·.1) = m.map (·.1)) ∨ (r ∉ m.map (·.1) ∧ (putI m r c).map (·.1) = m.map (·.1) ++ [r]) := by
  unfold putI
  by_cases h : r ∈ m.map (·.1)
  · refine .inl ⟨h, ?_⟩
    obtain ⟨e, he, q⟩ := List.mem_map.mp h
    rw [if_pos (List.any_eq_true.mpr ⟨e, he, by simpa using q⟩), List.map_map]
    refine List.map_congr_left fun x _ => ?_
    show (if x.1 = r then (x.1, c) else x).1 = x.1
    split <;> rfl
  · refine .inr ⟨h, ?_⟩
    rw [if_neg (fun q => by
      obtain ⟨e, he, z⟩ := List.any_eq_true.mp q
      exact h (List.mem_map.mpr ⟨e, he, by simpa using z⟩)), List.map_append]
    rfl
theorem putI_nodup {m : Bag} (hn : (m.map (·.1)).Nodup) (r : Row) (c : Int) : ((putI m r c).map (·.1)).Nodup := by
  rcases putI_keys m r c with ⟨_, e⟩ | ⟨h, e⟩
  · rw [e]; exact hn
  · rw [e]
    exact List.nodup_append.mpr ⟨hn, List.pairwise_singleton _ _, fun a ha b hb q => by
      rw [List.mem_singleton.mp hb] at q
      exact h (q ▸ ha)⟩
theorem putI_tot {m : Bag} (hn : (m.map (·.1)).Nodup) (r q : Row) (c : Int) : tot (putI m r c) q = if r = q then c else tot m q := by
  rw [← valI_tot (putI_nodup hn r c), ← valI_tot hn]
  unfold putI
  by_cases h : (m.any fun e => decide (e.1 = r)) = true
  · rw [if_pos h]
    clear hn
    induction m with
    | nil => simp at h
    | cons e t ih =>
      by_cases h1 : e.1 = r
      · by_cases h2 : r = q
        · simp [valI, List.find?_cons, h1, h2]
        · rw [if_neg h2]
          have h3 : ¬ e.1 = q := fun z => h2 (h1.symm.trans z)
          by_cases h4 : (t.any fun e => decide (e.1 = r)) = true
          · have ih' := ih h4
            rw [if_neg h2] at ih'
            simp only [valI, List.map_cons, h1, if_true, List.find?_cons] at ih' ⊢
            simp only [h2, decide_false] at ih' ⊢
            exact ih'
          · have e2 : t.map (fun e => if e.1 = r then (e.1, c) else e) = t := by
              conv => rhs; rw [← List.map_id t]
              refine List.map_congr_left fun x hx => ?_
              rw [if_neg fun z => h4 (List.any_eq_true.mpr ⟨x, hx, by simpa using z⟩)]
              rfl
            simp only [valI, List.map_cons, h1, if_true, List.find?_cons, h2, decide_false, e2]
      · have h4 : (t.any fun e => decide (e.1 = r)) = true := by simpa [h1] using h
        have ih' := ih h4
        by_cases h2 : e.1 = q
        · have h3 : ¬ r = q := fun z => h1 (h2.trans z.symm)
          rw [if_neg h3, List.map_cons, if_neg h1]
          simp [valI, List.find?_cons, h2]
        · simp only [valI, List.map_cons, h1, if_false, List.find?_cons, h2, decide_false] at ih' ⊢
          exact ih'
  · rw [if_neg h]
    by_cases h2 : r = q
    · subst h2
      have e : (m.find? fun e => decide (e.1 = r)) = none := by
        rw [List.find?_eq_none]
        intro x hx z
        exact h (List.any_eq_true.mpr ⟨x, hx, z⟩)
      simp [valI, List.find?_append, e]
    · cases z : (m.find? fun e => decide (e.1 = q)) with
      | none => simp [valI, List.find?_append, z, h2]
      | some x => simp [valI, List.find?_append, z, h2]
theorem tally_go : ∀ (ps m : Bag), (m.map (·.1)).Nodup → ((ps.foldl (fun m e => putI m e.1 ((valI m e.1).getD 0 + e.2)) m).map (·.1)).Nodup ∧
    (∀ r, tot (ps.foldl (fun m e => putI m e.1 ((valI m e.1).getD 0 + e.2)) m) r = tot m r + tot ps r) ∧ (ps.foldl (fun m e => putI m e.1 ((valI m e.1).getD 0 + e.2)) m).length ≤ m.length + ps.length
  | [], m, h => ⟨h, fun r => by rw [List.foldl_nil, tot_nil]; omega, by simp⟩
  | e :: ps, m, h => by
    obtain ⟨a, b, c⟩ := tally_go ps (putI m e.1 ((valI m e.1).getD 0 + e.2)) (putI_nodup h _ _)
    rw [List.foldl_cons]
    refine ⟨a, fun r => ?_, ?_⟩
    · rw [b, putI_tot h, tot_cons, valI_tot h]
      by_cases q : e.1 = r
      · rw [if_pos q, if_pos q, q]; omega
      · rw [if_neg q, if_neg q]; omega
    · have l : (putI m e.1 ((valI m e.1).getD 0 + e.2)).length ≤ m.length + 1 := by
        unfold putI
        split
        · rw [List.length_map]; omega
        · rw [List.length_append]; simp
      rw [List.length_cons]
      omega
theorem tally_nodup (ps : Bag) : ((tally ps).map (·.1)).Nodup := (tally_go ps [] List.nodup_nil).1
theorem tally_tot (ps : Bag) (r : Row) : tot (tally ps) r = tot ps r := by
  have h := (tally_go ps [] List.nodup_nil).2.1 r
  rw [tot_nil] at h
  unfold tally
  omega
theorem tally_len (ps : Bag) : (tally ps).length ≤ ps.length := by
  have h := (tally_go ps [] List.nodup_nil).2.2
  simpa [tally] using h
theorem tally_val (ps : Bag) (r : Row) : (valI (tally ps) r).getD 0 = tot ps r := by rw [valI_tot (tally_nodup ps), tally_tot]
/-! ### the bag of some pairs -/
def nzRows (ps : Bag) : List Row := ((tally ps).map (·.1)).filter fun r => decide (tot ps r ≠ 0)
def sortRows (l : List Row) : List Row := l.mergeSort rowLe
def mk (ps : Bag) : Bag := (sortRows (nzRows ps)).map fun r => (r, tot ps r)
structure Canon (b : Bag) : Prop where
  srt : b.Pairwise fun x y => rowLt x.1 y.1 = true
  nz : ∀ e ∈ b, e.2 ≠ 0
theorem rowLe_trans (a b c : Row) (h1 : rowLe a b = true) (h2 : rowLe b c = true) : rowLe a c = true := by
  unfold rowLe at *
  simp only [Bool.not_eq_true'] at *
  by_cases e : a = b
  · rw [e]; exact h2
  · by_cases e2 : b = c
    · rw [← e2]; exact h1
    · exact rowLt_asym (rowLt_trans (rowLt_total (fun z => e z.symm) h1) (rowLt_total (fun z => e2 z.symm) h2))
theorem rowLe_total (a b : Row) : (rowLe a b || rowLe b a) = true := by
  unfold rowLe
  cases h : rowLt b a with
  | false => rfl
  | true => rw [rowLt_asym h]; rfl
theorem sortRows_perm (l : List Row) : (sortRows l).Perm l := List.mergeSort_perm l rowLe
theorem sortRows_srt {l : List Row} (hn : l.Nodup) : (sortRows l).Pairwise fun a b => rowLt a b = true := by
  have h1 : (sortRows l).Pairwise fun a b => rowLe a b = true := List.pairwise_mergeSort rowLe_trans rowLe_total l
  have h2 : (sortRows l).Nodup := (sortRows_perm l).nodup_iff.mpr hn
  have h3 : (sortRows l).Pairwise fun a b => rowLe a b = true ∧ a ≠ b := h1.and h2
  refine h3.imp fun {a b} q => ?_
  have q1 : rowLt b a = false := by simpa [rowLe] using q.1
  exact rowLt_total (fun z => q.2 z.symm) q1
theorem nzRows_nodup (ps : Bag) : (nzRows ps).Nodup := List.Nodup.sublist List.filter_sublist (tally_nodup ps)
theorem mem_keys_of_tot {ps : Bag} {r : Row} (h : tot ps r ≠ 0) : r ∈ ps.map (·.1) := by
  by_cases q : r ∈ ps.map (·.1)
  · exact q
  · exact absurd (tot_out fun e he z => q (List.mem_map.mpr ⟨e, he, z⟩)) h
theorem mem_nz {ps : Bag} {r : Row} : r ∈ nzRows ps ↔ tot ps r ≠ 0 := by
  unfold nzRows
  rw [List.mem_filter]
  refine ⟨fun h => by simpa using h.2, fun h => ⟨?_, by simpa using h⟩⟩
  exact mem_keys_of_tot (by rw [tally_tot]; exact h)
theorem mk_canon (ps : Bag) : Canon (mk ps) := by
  refine ⟨?_, fun e he => ?_⟩
  · unfold mk
    rw [List.pairwise_map]
    exact sortRows_srt (nzRows_nodup ps)
  · obtain ⟨r, hr, rfl⟩ := List.mem_map.mp he
    exact mem_nz.mp ((sortRows_perm _).mem_iff.mp hr)
theorem Canon.nodup {b : Bag} (h : Canon b) : (b.map (·.1)).Nodup := by
  unfold List.Nodup
  rw [List.pairwise_map]
  refine h.srt.imp fun {x y} q z => ?_
  rw [z, rowLt_irrefl] at q
  cases q
theorem mk_tot (ps : Bag) (r : Row) : tot (mk ps) r = tot ps r := by
  by_cases h : tot ps r = 0
  · rw [h]
    refine tot_out fun e he z => ?_
    obtain ⟨q, hq, rfl⟩ := List.mem_map.mp he
    have h2 := mem_nz.mp ((sortRows_perm _).mem_iff.mp hq)
    exact h2 (by rw [show q = r from z]; exact h)
  · have hm : (r, tot ps r) ∈ mk ps := List.mem_map.mpr ⟨r, (sortRows_perm _).mem_iff.mpr (mem_nz.mpr h), rfl⟩
    exact tot_in (mk_canon ps).nodup hm
/-- a sorted bag is told by its counts -/
theorem Canon.ext : ∀ {a b : Bag}, Canon a → Canon b → (∀ r, tot a r = tot b r) → a = b
  | [], [], _, _, _ => rfl
  | [], y :: b, _, hb, h => by
    have h1 := h y.1
    rw [tot_nil, tot_in hb.nodup List.mem_cons_self] at h1
    exact absurd h1.symm (hb.nz y List.mem_cons_self)
  | x :: a, [], ha, _, h => by
    have h1 := h x.1
    rw [tot_nil, tot_in ha.nodup List.mem_cons_self] at h1
    exact absurd h1 (ha.nz x List.mem_cons_self)
  | x :: a, y :: b, ha, hb, h => by
    have key : ∀ {u v : Row × Int} {s t : Bag}, Canon (u :: s) → Canon (v :: t) → (∀ r, tot (u :: s) r = tot (v :: t) r) → rowLt u.1 v.1 = false := by
      intro u v s t hu hv e
      cases q : rowLt u.1 v.1 with
      | false => rfl
      | true =>
        exfalso
        have e1 := e u.1
        rw [tot_in hu.nodup List.mem_cons_self] at e1
        refine hu.nz u List.mem_cons_self (e1.trans (tot_out fun z hz w => ?_))
        rcases List.mem_cons.mp hz with k | k
        · rw [← w, k, rowLt_irrefl] at q; cases q
        · have k2 := (List.pairwise_cons.mp hv.srt).1 z k
          rw [w] at k2
          rw [rowLt_asym k2] at q; cases q
    have e1 : x.1 = y.1 := by
      by_cases z : x.1 = y.1
      · exact z
      · have q1 := key ha hb h
        have q2 := key hb ha fun r => (h r).symm
        rw [rowLt_total z q1] at q2; cases q2
    have e2 : x.2 = y.2 := by
      have q := h x.1
      rw [tot_in ha.nodup List.mem_cons_self, e1, tot_in hb.nodup List.mem_cons_self] at q
      exact q
    have exy : x = y := Prod.ext e1 e2
    subst exy
    rw [Canon.ext (a := a) (b := b) ⟨(List.pairwise_cons.mp ha.srt).2, fun e he => ha.nz e (List.mem_cons_of_mem _ he)⟩ ⟨(List.pairwise_cons.mp hb.srt).2, fun e he => hb.nz e (List.mem_cons_of_mem _ he)⟩ fun r => by
      have q := h r
      rw [tot_cons, tot_cons] at q
      omega]
theorem mk_of_canon {b : Bag} (h : Canon b) : mk b = b := Canon.ext (mk_canon b) h (mk_tot b)
theorem mk_ext {ps qs : Bag} (h : ∀ r, tot ps r = tot qs r) : mk ps = mk qs := Canon.ext (mk_canon ps) (mk_canon qs) fun r => by rw [mk_tot, mk_tot, h]
theorem mk_len (ps : Bag) : (mk ps).length ≤ ps.length := by
  unfold mk
  rw [List.length_map, (sortRows_perm _).length_eq]
  unfold nzRows
  exact Nat.le_trans (List.length_filter_le ..) (by rw [List.length_map]; exact tally_len ps)
/-! ### the other operations -/
def scaleB (b : Bag) (f : Int) : Bag := if f = 0 then [] else b.map fun e => (e.1, e.2 * f)
def posRows (b : Bag) : List Row := (b.filter fun e => decide (e.2 > 0)).map (·.1)
def onesB (l : List Row) : Bag := l.map fun r => (r, 1)
def cntB (b : Bag) (r : Row) : Int := ((b.find? fun e => decide (e.1 = r)).map (·.2)).getD 0
theorem cntB_tot {b : Bag} (h : Canon b) (r : Row) : cntB b r = tot b r := valI_tot h.nodup r
theorem scale_tot (b : Bag) (f : Int) (r : Row) : tot (scaleB b f) r = tot b r * f := by
  unfold scaleB
  by_cases h : f = 0
  · rw [if_pos h, h, tot_nil]; omega
  · rw [if_neg h, tot_map b (fun x => x * f) (fun x y => Int.add_mul x y f) (Int.zero_mul f)]
theorem scale_canon {b : Bag} (h : Canon b) (f : Int) : Canon (scaleB b f) := by
  unfold scaleB
  by_cases q : f = 0
  · rw [if_pos q]; exact ⟨List.Pairwise.nil, fun e he => by cases he⟩
  · rw [if_neg q]
    refine ⟨?_, fun e he => ?_⟩
    · rw [List.pairwise_map]; exact h.srt
    · obtain ⟨x, hx, rfl⟩ := List.mem_map.mp he
      exact Int.mul_ne_zero (h.nz x hx) q
/-- what the law asks of the scaled bag -/
theorem scale_law {b : Bag} (h : Canon b) (f : Int) : scaleB b f = mk (b.map fun e => (e.1, f * e.2)) :=
  Canon.ext (scale_canon h f) (mk_canon _) fun r => by
    rw [scale_tot, mk_tot, tot_map b (fun x => f * x) (fun x y => Int.mul_add f x y) (Int.mul_zero f), Int.mul_comm]
theorem minus_law (a b : Bag) : mk (a ++ scaleB b (-1)) = mk (a ++ b.map fun e => (e.1, 0 - e.2)) := mk_ext fun r => by
  rw [tot_app, tot_app, scale_tot, tot_map b (fun x => 0 - x) (fun x y => by omega) rfl]
  omega
theorem group1 {a b : Bag} (h : Canon a) : mk (mk (a ++ b) ++ scaleB b (-1)) = a := Canon.ext (mk_canon _) h fun r => by
  rw [mk_tot, tot_app, mk_tot, tot_app, scale_tot]; omega
theorem group2 (a b : Bag) : mk (b ++ a) = mk (a ++ b) := mk_ext fun r => by rw [tot_app, tot_app]; omega
theorem group3 (a : Bag) : mk (a ++ scaleB a (-1)) = [] := Canon.ext (mk_canon _) ⟨List.Pairwise.nil, fun e he => by cases he⟩ fun r => by
  rw [mk_tot, tot_app, scale_tot, tot_nil]; omega
theorem group4 (a b : Bag) (f : Int) : scaleB (mk (a ++ b)) f = mk (scaleB a f ++ scaleB b f) := Canon.ext (scale_canon (mk_canon _) f) (mk_canon _) fun r => by
  rw [scale_tot, mk_tot, mk_tot, tot_app, tot_app, scale_tot, scale_tot, Int.add_mul]
def cntR (l : List Row) (r : Row) : Nat := (l.filter fun x => decide (x = r)).length
theorem cntR_pos {l : List Row} {r : Row} : 0 < cntR l r ↔ r ∈ l := by
  unfold cntR
  rw [List.length_pos_iff_exists_mem]
  constructor
  · rintro ⟨x, hx⟩
    obtain ⟨h1, h2⟩ := List.mem_filter.mp hx
    have e : x = r := by simpa using h2
    rw [← e]; exact h1
  · exact fun h => ⟨r, List.mem_filter.mpr ⟨h, by simp⟩⟩
theorem tot_ones (l : List Row) (r : Row) : tot (onesB l) r = (cntR l r : Nat) := by
  induction l with
  | nil => rfl
  | cons x t ih =>
    rw [show onesB (x :: t) = (x, 1) :: onesB t from rfl, tot_cons, ih]
    unfold cntR
    by_cases h : x = r
    · rw [if_pos (show (x, (1 : Int)).1 = r from h), List.filter_cons_of_pos (by simpa using h), List.length_cons]; omega
    · rw [if_neg (show ¬ (x, (1 : Int)).1 = r from h), List.filter_cons_of_neg (by simpa using h)]; omega
theorem cntR_nodup {l : List Row} (h : l.Nodup) (r : Row) : (r ∈ l → cntR l r = 1) ∧ (r ∉ l → cntR l r = 0) := by
  induction l with
  | nil => exact ⟨fun q => (List.not_mem_nil q).elim, fun _ => rfl⟩
  | cons x t ih =>
    obtain ⟨h1, h2⟩ := List.nodup_cons.mp h
    obtain ⟨a, b⟩ := ih h2
    unfold cntR at *
    by_cases q : x = r
    · subst q
      rw [List.filter_cons_of_pos (by simp), List.length_cons, b h1]
      refine ⟨fun _ => rfl, fun z => ?_⟩
      exact absurd List.mem_cons_self z
    · rw [List.filter_cons_of_neg (by simpa using q)]
      exact ⟨fun z => a ((List.mem_cons.mp z).resolve_left fun w => q w.symm), fun z => b fun w => z (List.mem_cons_of_mem _ w)⟩
theorem set_law {b : Bag} (h : Canon b) : onesB (posRows (mk (onesB (b.map (·.1) ++ posRows b)))) = b.map fun e => (e.1, 1) := by
  have hc := mk_canon (onesB (b.map (·.1) ++ posRows b))
  have hpos : ∀ e ∈ mk (onesB (b.map (·.1) ++ posRows b)), e.2 > 0 := fun e he => by
    have e1 := tot_in hc.nodup he
    rw [mk_tot, tot_ones] at e1
    have e2 := hc.nz e he
    omega
  have hall : posRows (mk (onesB (b.map (·.1) ++ posRows b))) = (mk (onesB (b.map (·.1) ++ posRows b))).map (·.1) := by
    unfold posRows
    rw [List.filter_eq_self.mpr fun e he => by simpa using hpos e he]
  have hs1 : (onesB ((mk (onesB (b.map (·.1) ++ posRows b))).map (·.1))).Pairwise fun x y => rowLt x.1 y.1 = true := by
    unfold onesB
    rw [List.map_map, List.pairwise_map]
    exact hc.srt
  have hs2 : (b.map fun e => ((e.1, 1) : Row × Int)).Pairwise fun x y => rowLt x.1 y.1 = true := by
    rw [List.pairwise_map]
    exact h.srt
  have hn : ∀ l : List Row, ∀ e ∈ onesB l, e.2 ≠ 0 := fun l e he => by
    obtain ⟨x, _, rfl⟩ := List.mem_map.mp he
    exact (by decide : (1 : Int) ≠ 0)
  have e0 : (b.map fun e => ((e.1, 1) : Row × Int)) = onesB (b.map (·.1)) := by
    unfold onesB
    rw [List.map_map]
    rfl
  rw [hall, e0]
  rw [e0] at hs2
  refine Canon.ext ⟨hs1, hn _⟩ ⟨hs2, hn _⟩ fun r => ?_
  rw [tot_ones, tot_ones]
  have n1 := hc.nodup
  have n2 := h.nodup
  have mem : r ∈ (mk (onesB (b.map (·.1) ++ posRows b))).map (·.1) ↔ r ∈ b.map (·.1) := by
    constructor
    · intro q
      obtain ⟨e, he, rfl⟩ := List.mem_map.mp q
      have e1 := tot_in hc.nodup he
      rw [mk_tot, tot_ones] at e1
      have e2 := hpos e he
      have e3 : 0 < cntR (b.map (·.1) ++ posRows b) e.1 := by omega
      rcases List.mem_append.mp (cntR_pos.mp e3) with z | z
      · exact z
      · obtain ⟨x, hx, y⟩ := List.mem_map.mp z
        exact List.mem_map.mpr ⟨x, (List.mem_filter.mp hx).1, y⟩
    · intro q
      have e3 : 0 < cntR (b.map (·.1) ++ posRows b) r := cntR_pos.mpr (List.mem_append_left _ q)
      have e4 : tot (onesB (b.map (·.1) ++ posRows b)) r ≠ 0 := by rw [tot_ones]; omega
      exact mem_keys_of_tot (by rw [mk_tot]; exact e4)
  by_cases q : r ∈ b.map (·.1)
  · rw [(cntR_nodup n1 r).1 (mem.mpr q), (cntR_nodup n2 r).1 q]
  · rw [(cntR_nodup n1 r).2 (fun z => q (mem.mp z)), (cntR_nodup n2 r).2 q]
end KA
set_option Elab.async false
set_option linter.all false
set_option maxRecDepth 100000
set_option maxHeartbeats 8000000
/-! a < b of two tuples where only the first place that differs need be comparable -/
namespace KA
open PySem PySem.W L2 PySem.SeqAt
open AutoSeq1 (wpAny_loadPart')
open MeetsSeq MeetsSeq2 MeetsSeq3 SeqRoads2
/-- all places ahead of j are equal -/
def Ahead (e : Nat → Bool) (j : Nat) : Prop := ∀ i, i < j → e i = true
section
variable (l b : Addr) (xs ys : Array Value) (n m : Nat) (dx dy : Option Addr) (sx sy : Array (Option Value)) (e r : Nat → Bool)
/-- what the two tuples are, and what is known of their places -/
structure Two (A : Around) (s : Shared) : Prop where
  hl : s.heap.get? l = some { cls := .type "tuple", dict := dx, data := .seq xs n, slots := sx }
  hb : s.heap.get? b = some { cls := .type "tuple", dict := dy, data := .seq ys m, slots := sy }
  he : ∀ j (h1 : j < xs.size) (h2 : j < ys.size), EqAt A.in1 s xs[j] ys[j] (e j)
  hr : ∀ j (h1 : j < xs.size) (h2 : j < ys.size), Ahead e j → e j = false → RcLt A.in1 s xs[j] ys[j] (r j)
def outLt : Bool := firstLt e r (decide (xs.size < ys.size)) (List.range (min xs.size ys.size))
theorem tup_first :
    Meets (Builtin.«tuple.__lt__» ⟨[.ref l, .ref b], []⟩) (fun A R s => Two l b xs ys n m dx dy sx sy e r A s ∧ R (.ok (.ret (.bool (outLt xs ys e r)))) s) :=
  .of_wp fun prog w A R s h => by
    obtain ⟨T, h⟩ := h
    obtain ⟨hl, hb, he, hr⟩ := T
    obtain ⟨hp, g, d, tk, os⟩ := s
    have sub := AutoSeq1.sub_tuple_tuple
    have zl : (xs.toList.zip ys.toList).length = min xs.size ys.size := by simp
    wp_walk using wpAny_loadPart' hl, wpAny_loadPart' hb, wpAny_forIn_list _ (fun rest v s' => v.1 = none ∧ s' = ⟨hp, g, d, tk, os⟩ ∧ ∃ i,
        rest = (xs.toList.zip ys.toList).drop i ∧ Ahead e (min i (min xs.size ys.size)) ∧
        R (.ok (.ret (.bool (firstLt e r (decide (xs.size < ys.size)) ((List.range (min xs.size ys.size)).drop i))))) ⟨hp, g, d, tk, os⟩) _
    case turn =>
      rintro ⟨y, x⟩ rest v s' ⟨hv, rfl, i, hz, ha, hR⟩
      have hlt : i < (xs.toList.zip ys.toList).length := by
        refine Nat.lt_of_not_le fun q => ?_
        rw [List.drop_of_length_le q] at hz
        cases hz
      have hm : i < min xs.size ys.size := by rw [← zl]; exact hlt
      have i1 : i < xs.size := by omega
      have i2 : i < ys.size := by omega
      rw [List.drop_eq_getElem_cons hlt] at hz
      injection hz with hyx hrest
      obtain rfl : y = xs[i] := by simpa using congrArg Prod.fst hyx
      obtain rfl : x = ys[i] := by simpa using congrArg Prod.snd hyx
      have hd : (List.range (min xs.size ys.size)).drop i = i :: (List.range (min xs.size ys.size)).drop (i + 1) := by simp [List.drop_eq_getElem_cons, hm]
      have ha' : Ahead e i := fun k hk => ha k (by omega)
      rw [hd] at hR
      refine wpAny_bind (he i i1 i2 prog w _ _ ?_)
      cases q : e i with
      | true =>
        rw [firstLt_yes q] at hR
        wp_walk
        refine ⟨rfl, rfl, i + 1, hrest, fun k hk => ?_, hR⟩
        by_cases z : k = i
        · rw [z]; exact q
        · exact ha' k (by omega)
      | false =>
        rw [firstLt_no q] at hR
        rw [if_pos (by rfl)]
        refine wpAny_bind (wpAny_rule (wpAny_bind (hr i i1 i2 ha' q prog w _ _ ?_)))
        wp_walk
        exact ⟨_, rfl, hR⟩
    case fin =>
      rintro ⟨b1, b2⟩ s' ⟨hb', rfl, i, hz, ha, hR⟩
      simp only at hb'
      subst hb'
      have hge : min xs.size ys.size ≤ i := by
        refine Nat.le_of_not_lt fun q => ?_
        rw [← zl] at q
        rw [List.drop_eq_getElem_cons q] at hz
        cases hz
      rw [List.drop_of_length_le (by simpa using hge)] at hR
      wp_walk
      exact ⟨_, rfl, by simpa [Builtin.Tuple.tupleCompareSizes, firstLt] using hR⟩
    case h =>
      exact ⟨rfl, rfl, 0, rfl, fun k hk => absurd hk (by omega), by simpa [outLt] using h⟩
end
section
variable {A : Around} {s : Shared} {l b : Addr} {xs ys : Array Value} {e r : Nat → Bool}
/-- t < u, decided at the first place that differs -/
theorem rcLt_first (hl : s.heap.IsTuple l xs) (hb : s.heap.IsTuple b ys) (hu : A.units < cLine) (he : ∀ j (h1 : j < xs.size) (h2 : j < ys.size), EqAt A.in1 s xs[j] ys[j] (e j))
    (hr : ∀ j (h1 : j < xs.size) (h2 : j < ys.size), Ahead e j → e j = false → RcLt A.in1 s xs[j] ys[j] (r j)) : RcLt A s (.ref l) (.ref b) (outLt xs ys e r) := by
  intro prog w E Q h
  obtain ⟨⟨c1, d1, t1, s1⟩, o1, q1, n1, e1⟩ := id hl
  obtain ⟨⟨c2, d2, t2, s2⟩, o2, q2, n2, e2⟩ := id hb
  simp only at q1 e1 q2 e2
  subst q1 e1 q2 e2
  exact richCompare_meets_room (op := .Lt) ⟨_, o1, rfl⟩ ⟨_, o2, rfl⟩ F.slot_tuple_lt F.entry_tuple_lt (F.args_tuple_lt_2 _ _) (tup_first l b xs ys n1 n2 d1 d2 s1 s2 e r)
    ⟨⟨o1, o2, he, hr⟩, show Value.bool (outLt xs ys e r) ≠ Value.notImplemented ∧ Q (.bool (outLt xs ys e r)) s from ⟨(fun z => nomatch z), h⟩⟩ hu
/-- tuple's own test, as sorting calls it -/
theorem call_tup_lt {prog : Program} {w : World} {E Q : Value → Shared → Prop} (hl : s.heap.IsTuple l xs) (hb : s.heap.IsTuple b ys) (he : ∀ j (h1 : j < xs.size) (h2 : j < ys.size), EqAt A.in1 s xs[j] ys[j] (e j))
    (hr : ∀ j (h1 : j < xs.size) (h2 : j < ys.size), Ahead e j → e j = false → RcLt A.in1 s xs[j] ys[j] (r j)) (h : Q (.bool (outLt xs ys e r)) s) :
    wpAny (model prog w) A (call (.builtin "tuple.__lt__") [.ref l, .ref b]) Q E s := by
  obtain ⟨⟨c1, d1, t1, s1⟩, o1, q1, n1, e1⟩ := id hl
  obtain ⟨⟨c2, d2, t2, s2⟩, o2, q2, n2, e2⟩ := id hb
  simp only at q1 e1 q2 e2
  subst q1 e1 q2 e2
  exact call_meets F.slot_tuple_lt ⟨_, o1, rfl⟩ F.entry_tuple_lt (F.args_tuple_lt_2 _ _) (tup_first l b xs ys n1 n2 d1 d2 s1 s2 e r) ⟨⟨o1, o2, he, hr⟩, h⟩
end
end KA
set_option Elab.async false
set_option linter.all false
set_option maxRecDepth 100000
set_option maxHeartbeats 8000000
/-! the keys by which the program and the law sort rows: how they compare -/
namespace KA
open PySem PySem.W L2 PySem.SeqAt
def keyD : Key → PyData
  | .inl i => .int i
  | .inr x => .str x
def rowD (r : Row) : PyData := .tuple (r.map keyD)
/-- what rank gives; the law's own key of a value -/
def rankD : Key → PyData
  | .inl i => .tuple [.int 0, .int i]
  | .inr x => .tuple [.int 1, .str x]
def lawD : Key → PyData
  | .inl i => .tuple [.int 0, .int i, .str ""]
  | .inr x => .tuple [.int 1, .int 0, .str x]
def rankRow (r : Row) : PyData := .tuple (r.map rankD)
def lawRow (r : Row) : PyData := .list (r.map lawD)
theorem sLt_irrefl (x : Str) : sLt x x = false := by simp [sLt, List.lt_irrefl]
theorem eqv_str (x y : Str) : PyData.eqv (.str x) (.str y) = decide (x = y) := by
  simp only [PyData.eqv]
  by_cases h : x = y
  · subst h; simp
  · rw [decide_eq_false h]
    exact beq_eq_false_iff_ne.mpr h
theorem eqv_int (i j : Int) : PyData.eqv (.int i) (.int j) = decide (i = j) := by
  simp only [PyData.eqv]
  by_cases h : i = j
  · subst h; simp
  · rw [decide_eq_false h]
    exact beq_eq_false_iff_ne.mpr h
theorem eqv_key (x y : Key) : PyData.eqv (keyD x) (keyD y) = decide (x = y) := by
  cases x with
  | inl i =>
    cases y with
    | inl j => rw [show keyD (.inl i) = .int i from rfl, show keyD (.inl j) = .int j from rfl, eqv_int]; simp
    | inr y => simp [keyD, PyData.eqv]
  | inr x =>
    cases y with
    | inl j => simp [keyD, PyData.eqv]
    | inr y => rw [show keyD (.inr x) = .str x from rfl, show keyD (.inr y) = .str y from rfl, eqv_str]; simp
theorem eqv_rank (x y : Key) : PyData.eqv (rankD x) (rankD y) = decide (x = y) := by
  cases x with
  | inl i =>
    cases y with
    | inl j =>
      simp only [rankD, PyData.eqv, PyData.eqvAll]
      rw [show ((i == j) : Bool) = decide (i = j) by by_cases h : i = j <;> simp [h]]
      simp
    | inr y => simp [rankD, PyData.eqv, PyData.eqvAll]
  | inr x =>
    cases y with
    | inl j => simp [rankD, PyData.eqv, PyData.eqvAll]
    | inr y =>
      have h := eqv_str x y
      simp only [rankD, PyData.eqv, PyData.eqvAll] at h ⊢
      rw [h]
      simp
theorem eqv_law (x y : Key) : PyData.eqv (lawD x) (lawD y) = decide (x = y) := by
  cases x with
  | inl i =>
    cases y with
    | inl j =>
      have h := eqv_int i j
      simp only [lawD, PyData.eqv, PyData.eqvAll] at h ⊢
      rw [h]
      simp
    | inr y => simp [lawD, PyData.eqv, PyData.eqvAll]
  | inr x =>
    cases y with
    | inl j => simp [lawD, PyData.eqv, PyData.eqvAll]
    | inr y =>
      have h := eqv_str x y
      simp only [lawD, PyData.eqv, PyData.eqvAll] at h ⊢
      rw [h]
      simp
section
variable {A : Around} {s : Shared}
theorem rc_int {i j : Int} {t u : Tok} : RcLt A s (.int i t) (.int j u) (decide (i < j)) := fun prog w E Q h => P.lt_int h
theorem rc_str {x y : Str} {t u : Tok} : RcLt A s (.str x t) (.str y u) (sLt x y) := fun prog w E Q h => P.lt_str h
/-- the items of a tuple that reads as data -/
theorem tup_items {h : Heap} {v : Value} {ds : List PyData} {as : List Addr} (r : Reads h v (.tuple ds) as) : ∃ (l : Addr) (xs : Array Value), v = .ref l ∧ h.IsTuple l xs ∧ ReadsAll h xs.toList ds as := by
  cases r with
  | @tuple a o xs n _ _ h1 h2 h3 h4 => exact ⟨a, xs, rfl, ⟨_, h1, h2, _, h3⟩, h4⟩
theorem lst_items {h : Heap} {v : Value} {ds : List PyData} {as : List Addr} (r : Reads h v (.list ds) as) : ∃ (l : Addr) (xs : Array Value) (bs : List Addr), v = .ref l ∧ h.IsList l xs ∧ ReadsAll h xs.toList ds bs := by
  cases r with
  | @list a o xs n _ _ h1 h2 h3 h4 => exact ⟨a, xs, _, rfl, ⟨_, h1, h2, _, h3⟩, h4⟩
theorem int_back {h : Heap} {v : Value} {i : Int} {as : List Addr} (r : Reads h v (.int i) as) : ∃ t, v = .int i t := by
  cases r with
  | int _ t => exact ⟨t, rfl⟩
theorem str_back {h : Heap} {v : Value} {x : Str} {as : List Addr} (r : Reads h v (.str x) as) : ∃ t, v = .str x t := by
  cases r with
  | str _ t => exact ⟨t, rfl⟩
theorem all1 {h : Heap} {xs : Array Value} {d : PyData} {ds : List PyData} {as : List Addr} {i : Nat} (r : ReadsAll h (xs.toList.drop i) (d :: ds) as) : ∃ (hi : i < xs.size) (bs cs : List Addr), Reads h xs[i] d bs ∧ ReadsAll h (xs.toList.drop (i + 1)) ds cs := by
  have hl := SeqAt.ReadsAll.length _ _ _ r
  rw [List.length_drop] at hl
  have hi : i < xs.toList.length := by
    simp only [List.length_cons] at hl
    omega
  rw [List.drop_eq_getElem_cons hi] at r
  cases r with
  | cons r1 r2 => exact ⟨by simpa using hi, _, _, by simpa using r1, r2⟩
theorem key_back {h : Heap} {v : Value} {x : Key} {as : List Addr} (r : Reads h v (keyD x) as) : (∃ i t, x = .inl i ∧ v = .int i t) ∨ ∃ z t, x = .inr z ∧ v = .str z t := by
  cases x with
  | inl i =>
    obtain ⟨t, rfl⟩ := int_back r
    exact .inl ⟨i, t, rfl, rfl⟩
  | inr z =>
    obtain ⟨t, rfl⟩ := str_back r
    exact .inr ⟨z, t, rfl, rfl⟩
def tag : Key → Int
  | .inl _ => 0
  | .inr _ => 1
/-- rank(one) < rank(other) -/
theorem rc_rank {x y : Key} {v u : Value} {as bs : List Addr} (rx : Reads s.heap v (rankD x) as) (ry : Reads s.heap u (rankD y) bs) (hu : A.units + 8 < cLine) : RcLt A s v u (oneLt x y) := by
  have cx : rankD x = .tuple [.int (tag x), keyD x] := by cases x <;> rfl
  have cy : rankD y = .tuple [.int (tag y), keyD y] := by cases y <;> rfl
  rw [cx] at rx
  rw [cy] at ry
  obtain ⟨l, xs, rfl, hl, ra⟩ := tup_items rx
  obtain ⟨b, ys, rfl, hb, rb⟩ := tup_items ry
  obtain ⟨x0, _, _, a0, ra1⟩ := all1 (i := 0) (by simpa using ra)
  obtain ⟨x1, _, _, a1, ra2⟩ := all1 (i := 1) ra1
  obtain ⟨y0, _, _, b0, rb1⟩ := all1 (i := 0) (by simpa using rb)
  obtain ⟨y1, _, _, b1, rb2⟩ := all1 (i := 1) rb1
  have nx : xs.size = 2 := by
    have q := SeqAt.ReadsAll.length _ _ _ ra
    simpa using q
  have ny : ys.size = 2 := by
    have q := SeqAt.ReadsAll.length _ _ _ rb
    simpa using q
  have can : ∀ z : Key, (keyD z).plain = true := fun z => by cases z <;> rfl
  have hdep : ∀ z : Key, (keyD z).depth = 0 := fun z => by cases z <;> simp [keyD, PyData.depth]
  have key := rcLt_first (A := A) (s := s) (e := pairEq [.int (tag x), keyD x] [.int (tag y), keyD y]) (r := fun j => if j = 0 then decide (tag x < tag y) else oneLt x y) hl hb (by omega)
    (fun j j1 j2 => by
      have q := eqAt_plainAll _ _ A.in1 s _ _ _ _ ra rb (by simp [PyData.plainAll, PyData.plain, can]) (by simp [PyData.plainAll, PyData.plain, can])
        (by show A.units + 1 + _ < _; simp [PyData.depthAll, PyData.depth, hdep]; omega) j (by simpa using j1) (by simpa using j2)
      simpa using q)
    (fun j j1 j2 ha hj => by
      match j, j1, j2, ha, hj with
      | 0, j1, j2, ha, hj =>
        obtain ⟨t, e1⟩ := int_back a0
        obtain ⟨t', e2⟩ := int_back b0
        rw [e1, e2]
        exact rc_int
      | 1, j1, j2, ha, hj =>
        have h0 : tag x = tag y := by
          have q := ha 0 (by omega)
          simpa [pairEq, PyData.eqv] using q
        show RcLt A.in1 s xs[1] ys[1] (oneLt x y)
        rcases key_back a1 with ⟨i, t, rfl, e1⟩ | ⟨z, t, rfl, e1⟩
        · rcases key_back b1 with ⟨j, t', rfl, e2⟩ | ⟨z', t', rfl, e2⟩
          · rw [e1, e2]; exact rc_int
          · exact absurd (show (0 : Int) = 1 from h0) (by decide)
        · rcases key_back b1 with ⟨j, t', rfl, e2⟩ | ⟨z', t', rfl, e2⟩
          · exact absurd (show (1 : Int) = 0 from h0) (by decide)
          · rw [e1, e2]; exact rc_str
      | j + 2, j1, _, _, _ => exact absurd j1 (by omega))
  have e : outLt xs ys (pairEq [.int (tag x), keyD x] [.int (tag y), keyD y]) (fun j => if j = 0 then decide (tag x < tag y) else oneLt x y) = oneLt x y := by
    unfold outLt
    rw [nx, ny, show List.range (min 2 2) = [0, 1] from rfl]
    have e0 : pairEq [.int (tag x), keyD x] [.int (tag y), keyD y] 0 = decide (tag x = tag y) := by
      show PyData.eqv (.int (tag x)) (.int (tag y)) = _
      exact eqv_int _ _
    have e1 : pairEq [.int (tag x), keyD x] [.int (tag y), keyD y] 1 = decide (x = y) := by
      show PyData.eqv (keyD x) (keyD y) = _
      exact eqv_key _ _
    simp only [firstLt, e0, e1]
    by_cases h : tag x = tag y
    · rw [if_pos (by simpa using h)]
      by_cases h2 : x = y
      · subst h2; simp [oneLt_irrefl]
      · rw [if_neg (by simpa using h2)]; simp
    · rw [if_neg (by simpa using h)]
      cases x <;> cases y <;> simp_all [tag, oneLt]
  rw [e] at key
  exact key
/-- the law's own key of one value -/
theorem rc_law {x y : Key} {v u : Value} {as bs : List Addr} (rx : Reads s.heap v (lawD x) as) (ry : Reads s.heap u (lawD y) bs) (hu : A.units + 8 < cLine) : RcLt A s v u (oneLt x y) := by
  have hal : alike (lawD x) (lawD y) = true := by cases x <;> cases y <;> simp [lawD, alike, alikeAll]
  have hdep : ∀ z : Key, (lawD z).depth ≤ 2 := fun z => by cases z <;> simp [lawD, PyData.depth, PyData.depthAll]
  have h := rcLt_alike (lawD x) (lawD y) A s v u as bs rx ry hal (by cases x <;> exact fun z => nomatch z) (by have := hdep x; omega)
  have e : dataLt (lawD x) (lawD y) = oneLt x y := by
    cases x with
    | inl i =>
      cases y with
      | inl j =>
        simp only [lawD]
        rw [dataLt_tuple, dataLt_all_yes (by simp [alike]) (by simp [PyData.eqv])]
        by_cases q : i = j
        · subst q
          simp [oneLt, PyProof.Rows.lex_irrefl]
        · rw [dataLt_all_no (by simp [alike]) (by rw [eqv_int]; simpa using q), dataLt_int]
          rfl
      | inr y =>
        simp only [lawD]
        rw [dataLt_tuple, dataLt_all_no (by simp [alike]) (by simp [PyData.eqv]), dataLt_int]
        rfl
    | inr x =>
      cases y with
      | inl j =>
        simp only [lawD]
        rw [dataLt_tuple, dataLt_all_no (by simp [alike]) (by simp [PyData.eqv]), dataLt_int]
        rfl
      | inr y =>
        simp only [lawD]
        rw [dataLt_tuple, dataLt_all_yes (by simp [alike]) (by simp [PyData.eqv]), dataLt_all_yes (by simp [alike]) (by simp [PyData.eqv])]
        by_cases q : x = y
        · subst q
          simp [oneLt, sLt_irrefl, PyProof.Rows.lex_irrefl]
        · rw [dataLt_all_no (by simp [alike]) (by rw [eqv_str]; simpa using q), dataLt_str]
          rfl
  rw [e] at h
  exact h
/-- the first place that differs, for items that compare as values do -/
theorem first_row (enc : Key → PyData) (hq : ∀ x y, PyData.eqv (enc x) (enc y) = decide (x = y)) : ∀ (a b : Row),
    firstLt (pairEq (a.map enc) (b.map enc)) (fun j => oneLt (a.getD j (.inl 0)) (b.getD j (.inl 0))) (decide (a.length < b.length)) (List.range (min a.length b.length)) = rowLt a b
  | [], [] => rfl
  | [], _ :: _ => by simp [firstLt, rowLt]
  | _ :: _, [] => by simp [firstLt, rowLt]
  | x :: a, y :: b => by
    have ih := first_row enc hq a b
    have em : min (x :: a).length (y :: b).length = min a.length b.length + 1 := by simp only [List.length_cons]; omega
    have ed : decide ((x :: a).length < (y :: b).length) = decide (a.length < b.length) := by
      simp only [List.length_cons]
      exact decide_eq_decide.mpr (by omega)
    rw [em, ed, List.range_succ_eq_map, rowLt]
    have e0 : pairEq ((x :: a).map enc) ((y :: b).map enc) 0 = decide (x = y) := hq x y
    by_cases h : x = y
    · rw [firstLt_yes (by rw [e0]; simpa using h), if_pos h, firstLt_map, ← ih]
      rfl
    · rw [firstLt_no (by rw [e0]; simpa using h), if_neg h]
      rfl
/-- a place of a row that is read item by item -/
theorem at_row {h : Heap} {enc : Key → PyData} : ∀ {r : Row} {vs : List Value} {as : List Addr}, ReadsAll h vs (r.map enc) as → ∀ j (hj : j < vs.length), ∃ bs, Reads h vs[j] (enc (r.getD j (.inl 0))) bs
  | [], vs, as, q, j, hj => by
    have e := SeqAt.ReadsAll.length _ _ _ q
    simp only [List.map_nil, List.length_nil] at e
    omega
  | x :: r, vs, as, q, j, hj => by
    have q' : ReadsAll h vs (enc x :: r.map enc) as := q
    cases q' with
    | cons q1 q2 =>
      cases j with
      | zero => exact ⟨_, q1⟩
      | succ j => exact at_row q2 j (by simpa using hj)
theorem plain_map {enc : Key → PyData} (hp : ∀ x, (enc x).plain = true) : ∀ r : Row, PyData.plainAll (r.map enc) = true
  | [] => rfl
  | x :: r => by simp [PyData.plainAll, hp x, plain_map hp r]
theorem depth_map {enc : Key → PyData} (hd : ∀ x, (enc x).depth ≤ 2) : ∀ r : Row, PyData.depthAll (r.map enc) ≤ 2
  | [] => by simp [PyData.depthAll]
  | x :: r => by
    have a := hd x
    have b := depth_map hd r
    simp only [List.map_cons, PyData.depthAll]
    omega
theorem rank_plain (x : Key) : (rankD x).plain = true := by cases x <;> rfl
theorem law_plain (x : Key) : (lawD x).plain = true := by cases x <;> rfl
theorem rank_depth (x : Key) : (rankD x).depth ≤ 2 := by cases x <;> simp [rankD, PyData.depth, PyData.depthAll]
theorem law_depth (x : Key) : (lawD x).depth ≤ 2 := by cases x <;> simp [lawD, PyData.depth, PyData.depthAll]
/-- what the two tests of places are, for two rows of keys -/
theorem row_parts {enc : Key → PyData} (hq : ∀ x y, PyData.eqv (enc x) (enc y) = decide (x = y)) (hp : ∀ x, (enc x).plain = true) (hd : ∀ x, (enc x).depth ≤ 2) {a b : Row} {xs ys : Array Value} {as bs : List Addr}
    (rc : ∀ (B : Around) (x y : Key) (v u : Value) (cs ds : List Addr), Reads s.heap v (enc x) cs → Reads s.heap u (enc y) ds → B.units + 8 < cLine → RcLt B s v u (oneLt x y))
    (ra : ReadsAll s.heap xs.toList (a.map enc) as) (rb : ReadsAll s.heap ys.toList (b.map enc) bs) (hu : A.units + 12 < cLine) :
    (∀ j (h1 : j < xs.size) (h2 : j < ys.size), EqAt A.in1 s xs[j] ys[j] (pairEq (a.map enc) (b.map enc) j)) ∧ (∀ j (h1 : j < xs.size) (h2 : j < ys.size), RcLt A.in1 s xs[j] ys[j] (oneLt (a.getD j (.inl 0)) (b.getD j (.inl 0)))) ∧
    outLt xs ys (pairEq (a.map enc) (b.map enc)) (fun j => oneLt (a.getD j (.inl 0)) (b.getD j (.inl 0))) = rowLt a b := by
  have na : xs.size = a.length := by
    have q := SeqAt.ReadsAll.length _ _ _ ra
    simpa using q
  have nb : ys.size = b.length := by
    have q := SeqAt.ReadsAll.length _ _ _ rb
    simpa using q
  refine ⟨fun j j1 j2 => ?_, fun j j1 j2 => ?_, ?_⟩
  · have q := eqAt_plainAll _ _ A.in1 s _ _ _ _ ra rb (plain_map hp a) (plain_map hp b) (by show A.units + 1 + _ < _; have := depth_map hd a; omega) j (by simpa using j1) (by simpa using j2)
    simpa using q
  · obtain ⟨cs, q1⟩ := at_row ra j (by simpa using j1)
    obtain ⟨ds, q2⟩ := at_row rb j (by simpa using j2)
    exact rc A.in1 _ _ _ _ cs ds (by simpa using q1) (by simpa using q2) (by show A.units + 1 + 8 < _; omega)
  · unfold outLt
    rw [na, nb]
    exact first_row enc hq a b
/-- row_rank(a) < row_rank(b) -/
theorem rc_rankRow {a b : Row} {v u : Value} {as bs : List Addr} (rx : Reads s.heap v (rankRow a) as) (ry : Reads s.heap u (rankRow b) bs) (hu : A.units + 12 < cLine) : RcLt A s v u (rowLt a b) := by
  obtain ⟨l, xs, rfl, hl, ra⟩ := tup_items rx
  obtain ⟨m, ys, rfl, hm, rb⟩ := tup_items ry
  obtain ⟨h1, h2, h3⟩ := row_parts (A := A) eqv_rank rank_plain rank_depth (fun B x y v u cs ds r1 r2 q => rc_rank r1 r2 q) ra rb hu
  have h := rcLt_first hl hm (by omega) h1 fun j j1 j2 _ _ => h2 j j1 j2
  rw [h3] at h
  exact h
/-- _law_key(a) < _law_key(b) -/
theorem rc_lawRow {a b : Row} {v u : Value} {as bs : List Addr} (rx : Reads s.heap v (lawRow a) as) (ry : Reads s.heap u (lawRow b) bs) (hu : A.units + 12 < cLine) : RcLt A s v u (rowLt a b) := by
  obtain ⟨l, xs, cs, rfl, hl, ra⟩ := lst_items rx
  obtain ⟨m, ys, ds, rfl, hm, rb⟩ := lst_items ry
  obtain ⟨h1, h2, h3⟩ := row_parts (A := A) eqv_law law_plain law_depth (fun B x y v u cs ds r1 r2 q => rc_law r1 r2 q) ra rb hu
  have h := RcLt.lists hl hm (by omega) h1 fun j j1 j2 _ => h2 j j1 j2
  rw [show firstLt (pairEq (a.map lawD) (b.map lawD)) (fun j => oneLt (a.getD j (.inl 0)) (b.getD j (.inl 0))) (decide (xs.size < ys.size)) (List.range (min xs.size ys.size)) = rowLt a b from h3] at h
  exact h
end
end KA
set_option Elab.async false
set_option linter.all false
set_option maxRecDepth 100000
set_option maxHeartbeats 8000000
/-! keys of rows can be sorted, whatever the kind that the list's sort picks -/
namespace KA
open PySem PySem.W PySem.Calls PyProof.Rows L2
open PySem.SeqAt (RcLt)
def KeyIs1 (h : Heap) (E : Row → PyData) (v : Value) (r : Row) : Prop := ∃ as, Reads h v (E r) as
/-- a key that says which row it is the key of -/
structure Tells (E : Row → PyData) : Prop where
  inj : ∀ a b, E a = E b → a = b
  plain : ∀ a, (E a).plain = true
/-- rows as a kind of keys -/
noncomputable def rowKind (h : Heap) (E : Row → PyData) : PyProof.Rows.KeyKind where
  α := Row
  blt := rowLt
  irrefl := rowLt_irrefl
  trans := fun _ _ _ => rowLt_trans
  negTrans := fun a b c h1 => by
    by_cases e : a = b
    · subst e; exact .inr h1
    · cases q : rowLt a b with
      | true => exact .inl rfl
      | false => exact .inr (rowLt_trans (rowLt_total e q) h1)
  total := fun a b h1 h2 => by
    by_cases e : a = b
    · exact e
    · rw [rowLt_total e h1] at h2; cases h2
  keyOf := fun v => open Classical in if q : ∃ r, KeyIs1 h E v r then some q.choose else none
  dflt := []
theorem rowKind_some {h : Heap} {E : Row → PyData} (T : Tells E) {v : Value} {r : Row} (k : KeyIs1 h E v r) : (rowKind h E).keyOf v = some r := by
  have q : ∃ r, KeyIs1 h E v r := ⟨r, k⟩
  have e : (rowKind h E).keyOf v = some q.choose := by
    show (open Classical in if q : ∃ r, KeyIs1 h E v r then some q.choose else none) = _
    rw [dif_pos q]
  obtain ⟨as, r1⟩ := q.choose_spec
  obtain ⟨bs, r2⟩ := k
  rw [e, T.inj _ _ (SeqAt.plain_unique _ _ _ _ _ (T.plain _) r1 r2)]
theorem rowKind_inv {h : Heap} {E : Row → PyData} {v : Value} {r : Row} (e : (rowKind h E).keyOf v = some r) : KeyIs1 h E v r := by
  by_cases q : ∃ r, KeyIs1 h E v r
  · have e' : (rowKind h E).keyOf v = some q.choose := by
      show (open Classical in if q : ∃ r, KeyIs1 h E v r then some q.choose else none) = _
      rw [dif_pos q]
    rw [e'] at e
    rw [← Option.some.inj e]
    exact q.choose_spec
  · have e' : (rowKind h E).keyOf v = none := by
      show (open Classical in if q : ∃ r, KeyIs1 h E v r then some q.choose else none) = _
      rw [dif_neg q]
      rfl
    rw [e'] at e
    cases e
theorem map_inj {enc : Key → PyData} (hi : ∀ x y, enc x = enc y → x = y) : ∀ {a b : Row}, a.map enc = b.map enc → a = b
  | [], [], _ => rfl
  | [], _ :: _, h => by simp at h
  | _ :: _, [], h => by simp at h
  | x :: a, y :: b, h => by
    have h' : enc x :: a.map enc = enc y :: b.map enc := h
    injection h' with h1 h2
    rw [hi _ _ h1, map_inj hi h2]
theorem rank_inj (x y : Key) (h : rankD x = rankD y) : x = y := by
  cases x <;> cases y <;> simp [rankD] at h <;> simp [h]
theorem law_inj (x y : Key) (h : lawD x = lawD y) : x = y := by
  cases x <;> cases y <;> simp [lawD] at h <;> simp [h]
theorem tells_rank : Tells rankRow := ⟨fun a b h => map_inj rank_inj (by injection h), fun a => by show PyData.plainAll (a.map rankD) = true; exact plain_map rank_plain a⟩
theorem tells_law : Tells lawRow := ⟨fun a b h => map_inj law_inj (by injection h), fun a => by show PyData.plainAll (a.map lawD) = true; exact plain_map law_plain a⟩
section
variable {prog : Program} {w : World} {A : Around} {E : Value → Shared → Prop} {s : Shared} {Q : Bool → Shared → Prop}
/-- the test where one type is known: the type's own -/
theorem one_lists {a b : Row} {v u : Value} {as bs : List Addr} (rx : Reads s.heap v (lawRow a) as) (ry : Reads s.heap u (lawRow b) bs) (hu : A.units + 12 < cLine) (hq : Q (rowLt a b) s) : wpAny (model prog w) A (oneLt' true v u) Q E s := by
  obtain ⟨l, xs, cs, rfl, hl, ra⟩ := lst_items rx
  obtain ⟨m, ys, ds, rfl, hm, rb⟩ := lst_items ry
  obtain ⟨h1, h2, h3⟩ := row_parts (A := A) eqv_law law_plain law_depth (fun B x y v u cs ds r1 r2 q => rc_law r1 r2 q) ra rb hu
  obtain ⟨o, o1, o2, _⟩ := id hl
  rw [oneLt'_eq]
  simp only [if_true]
  refine wpAny_bind (wpAny_cRoomFor (by omega) ?_)
  refine wpAny_bind (wpAny_callSpecialIfBound?_slot (T := "list") ⟨o, o1, o2⟩ F.slot_list_lt (SeqAt.call_list_lt (e := SeqAt.pairEq (a.map lawD) (b.map lawD)) (r := fun j => oneLt (a.getD j (.inl 0)) (b.getD j (.inl 0))) hl hm h1 (fun j j1 j2 _ => h2 j j1 j2) ?_))
  rw [show SeqAt.firstLt (SeqAt.pairEq (a.map lawD) (b.map lawD)) (fun j => oneLt (a.getD j (.inl 0)) (b.getD j (.inl 0))) (decide (xs.size < ys.size)) (List.range (min xs.size ys.size)) = rowLt a b from h3]
  exact wpAny_truthy_bool hq
theorem one_tups {a b : Row} {v u : Value} {as bs : List Addr} (rx : Reads s.heap v (rankRow a) as) (ry : Reads s.heap u (rankRow b) bs) (hu : A.units + 12 < cLine) (hq : Q (rowLt a b) s) : wpAny (model prog w) A (oneLt' true v u) Q E s := by
  obtain ⟨l, xs, rfl, hl, ra⟩ := tup_items rx
  obtain ⟨m, ys, rfl, hm, rb⟩ := tup_items ry
  obtain ⟨h1, h2, h3⟩ := row_parts (A := A) eqv_rank rank_plain rank_depth (fun B x y v u cs ds r1 r2 q => rc_rank r1 r2 q) ra rb hu
  obtain ⟨o, o1, o2, _⟩ := id hl
  rw [oneLt'_eq]
  simp only [if_true]
  refine wpAny_bind (wpAny_cRoomFor (by omega) ?_)
  refine wpAny_bind (wpAny_callSpecialIfBound?_slot (T := "tuple") ⟨o, o1, o2⟩ F.slot_tuple_lt (call_tup_lt hl hm h1 (fun j j1 j2 _ _ => h2 j j1 j2) ?_))
  rw [h3]
  exact wpAny_truthy_bool hq
/-- the test of no known type -/
theorem one_gen {k : Bool} {v u : Value} (h : RcLt A s v u k) (hq : Q k s) : wpAny (model prog w) A (oneLt' false v u) Q E s := by
  rw [oneLt'_eq]
  simp only [Bool.false_eq_true, if_false]
  exact wpAny_bind (h prog w E _ (wpAny_truthy_bool hq))
/-- the test place by place, as tuples that are not empty are compared -/
theorem kat_rows : ∀ (a b : Row) (i : Nat) (vs ws : List Value) (as bs : List Addr) (fin : Bool), ReadsAll s.heap vs (a.map rankD) as → ReadsAll s.heap ws (b.map rankD) bs → A.units + 12 < cLine → fin = decide (a.length < b.length) → Q (rowLt a b) s →
    KatLex prog w A false fin Q (vs.zip ws) i s
  | [], [], i, vs, ws, as, bs, fin, ra, rb, _, hf, hq => by
    cases ra; cases rb
    subst hf
    exact kat_nil (by simpa [rowLt] using hq)
  | [], y :: b, i, vs, ws, as, bs, fin, ra, rb, _, hf, hq => by
    cases ra
    subst hf
    rw [List.zip_nil_left]
    exact kat_nil (by simpa [rowLt] using hq)
  | x :: a, [], i, vs, ws, as, bs, fin, ra, rb, _, hf, hq => by
    cases rb
    subst hf
    rw [List.zip_nil_right]
    exact kat_nil (by simpa [rowLt] using hq)
  | x :: a, y :: b, i, vs, ws, as, bs, fin, ra, rb, hu, hf, hq => by
    have ra' : ReadsAll s.heap vs (rankD x :: a.map rankD) as := ra
    have rb' : ReadsAll s.heap ws (rankD y :: b.map rankD) bs := rb
    cases ra' with
    | cons r1 r2 =>
      cases rb' with
      | cons q1 q2 =>
        rw [List.zip_cons_cons]
        refine kat_cons (SeqAt.eqAt_plain (rankD x) (rankD y) A s _ _ _ _ r1 q1 (rank_plain x) (rank_plain y) (by have := rank_depth x; omega) prog w _ _ ?_)
        rw [eqv_rank]
        rw [rowLt] at hq
        by_cases h : x = y
        · rw [if_pos h] at hq
          rw [decide_eq_true h]
          exact kat_yes (kat_rows a b (i + 1) _ _ _ _ fin r2 q2 hu (by simpa using hf) hq)
        · rw [if_neg h] at hq
          rw [decide_eq_false h]
          exact kat_no (one_gen (rc_rank r1 q1 (by omega)) hq)
end
section
variable {M : Model} {A : Around} {E : Value → Shared → Prop} {s : Shared}
/-- the first items, where there are any -/
theorem firsts_rank : ∀ (vs : List Value) (rows : List Row), EachIs (KeyIs1 s.heap rankRow) vs rows → ∃ fs : List (Option Value), fs.map (·.isSome) = rows.map (fun r => !r.isEmpty) ∧
    (∀ v, some v ∈ fs → ∃ x as, Reads s.heap v (rankD x) as) ∧ ∀ Q : List (Option Value) → Shared → Prop, Q fs s → wpAny M A (vs.mapM firstOfTuple') Q E s
  | [], [], _ => by
    refine ⟨[], rfl, fun v hv => ?_, fun Q hq => ?_⟩
    · exact (List.not_mem_nil hv).elim
    · rw [List.mapM_nil]
      exact wpAny_pure hq
  | [], _ :: _, h => by cases h
  | _ :: _, [], h => by cases h
  | v :: vs, r :: rows, h => by
    cases h with
    | cons h1 h2 =>
      obtain ⟨fs, f1, f2, f3⟩ := firsts_rank vs rows h2
      obtain ⟨as, k⟩ := h1
      obtain ⟨l, xs, rfl, hl, ra⟩ := tup_items k
      obtain ⟨o, o1, o2, n, o3⟩ := id hl
      refine ⟨xs[0]? :: fs, ?_, fun u hu => ?_, fun Q hq => ?_⟩
      · rw [List.map_cons, List.map_cons, f1]
        congr 1
        have n1 := SeqAt.ReadsAll.length _ _ _ ra
        cases r with
        | nil =>
          have z : xs.size = 0 := by simpa using n1
          rw [Array.getElem?_eq_none (by omega)]
          rfl
        | cons x t =>
          have z : 0 < xs.size := by
            have : xs.size = t.length + 1 := by simpa using n1
            omega
          rw [Array.getElem?_eq_getElem z]
          rfl
      · rcases List.mem_cons.mp hu with q | q
        · cases r with
          | nil =>
            have n1 := SeqAt.ReadsAll.length _ _ _ ra
            have z : xs.size = 0 := by simpa using n1
            rw [Array.getElem?_eq_none (by omega)] at q
            cases q
          | cons x t =>
            obtain ⟨z, bs, cs, r1, _⟩ := all1 (i := 0) (show ReadsAll s.heap (xs.toList.drop 0) (rankD x :: t.map rankD) as from ra)
            rw [Array.getElem?_eq_getElem z] at q
            rw [Option.some.inj q]
            exact ⟨x, bs, r1⟩
        · exact f2 u q
      · rw [List.mapM_cons]
        refine wpAny_bind ?_
        rw [kas_first_eq]
        refine wpAny_bind (Looks.here (show Looks M s.heap (typeOf (.ref l)) o.cls from (Looks.ld o1).andThen .now) ?_)
        rw [o2, if_neg (by first | decide | simp)]
        refine wpAny_bind (listItems_at o1 o3 (wpAny_pure ?_))
        exact wpAny_bind (f3 (fun bs s' => wpAny M A (pure (xs[0]? :: bs)) Q E s') (wpAny_pure hq))
theorem one_type {vs : List Value} {T : Value} {Q : Option Value → Shared → Prop} (h1 : 0 < vs.length) (hT : ∀ v ∈ vs, Looks M s.heap (typeOf v) T) (hT2 : (T == T) = true) (hq : Q (some T) s) : wpAny M A (oneTypeOnly' vs.toArray) Q E s := by
  rw [oneTypeOnly'_eq, List.mapM_toArray, map_eq_pure_bind]
  refine wpAny_bind (wpAny_bind (kas_mapM (r := T) _ (fun v hv Q' q => (hT v hv).here q) (wpAny_pure ?_)))
  obtain ⟨v, vs', rfl⟩ : ∃ v vs', vs = v :: vs' := by
    match vs, h1 with
    | v :: vs', _ => exact ⟨v, vs', rfl⟩
  have hall : ((List.map (fun _ => T) (v :: vs')).toArray.all fun x => x == T) = true := by
    simp only [List.all_toArray, List.all_map, List.all_eq_true]
    intro _ _
    exact hT2
  rw [show (List.map (fun _ => T) (v :: vs')).toArray[0]? = some T by simp]
  simp only [hall, if_true]
  exact wpAny_pure hq
end
section
variable {prog : Program} {w : World} {A : Around} {s : Shared}
theorem looks_rank {v : Value} {r : Row} (k : KeyIs1 s.heap rankRow v r) {M : Model} : Looks M s.heap (typeOf v) (.type "tuple") := by
  obtain ⟨as, k⟩ := k
  exact looks_reads k
theorem each_left {α β : Type} {R : α → β → Prop} {as : List α} {bs : List β} (h : EachIs R as bs) {a : α} (ha : a ∈ as) : ∃ b, R a b := by
  obtain ⟨b, _, r⟩ := h.left a ha
  exact ⟨b, r⟩
theorem sorts_rank {ks : List Value} {rows : List Row} (e : EachIs (KeyIs1 s.heap rankRow) ks rows) (hu : A.units + 12 < cLine) : SortsAt prog w A s (rowKind s.heap rankRow) ks := by
  refine ⟨fun v hv => ?_, ?_⟩
  · obtain ⟨r, k⟩ := each_left e hv
    exact ⟨r, rowKind_some tells_rank k⟩
  · have gen : H.LtAt prog w A s (rowKind s.heap rankRow) general' := fun E x y (a b : Row) Q ha hb hq => by
      obtain ⟨as, ra⟩ := rowKind_inv ha
      obtain ⟨bs, rb⟩ := rowKind_inv hb
      exact one_gen (rc_rankRow ra rb hu) hq
    have one : H.LtAt prog w A s (rowKind s.heap rankRow) oneType' := fun E x y (a b : Row) Q ha hb hq => by
      obtain ⟨as, ra⟩ := rowKind_inv ha
      obtain ⟨bs, rb⟩ := rowKind_inv hb
      rw [keyLt'_oneType]
      exact one_tups ra rb hu hq
    have tup : H.LtAt prog w A s (rowKind s.heap rankRow) (tuples' false) := fun E x y (a b : Row) Q ha hb hq => by
      obtain ⟨as, ra⟩ := rowKind_inv ha
      obtain ⟨bs, rb⟩ := rowKind_inv hb
      obtain ⟨l, xs, rfl, ⟨o, o1, o2, n, o3⟩, r1⟩ := tup_items ra
      obtain ⟨m, ys, rfl, ⟨p, p1, p2, k, p3⟩, r2⟩ := tup_items rb
      have n1 := SeqAt.ReadsAll.length _ _ _ r1
      have n2 := SeqAt.ReadsAll.length _ _ _ r2
      refine kat_lt o1 o3 p1 p3 (kat_rows a b 0 _ _ _ _ _ r1 r2 hu ?_ hq)
      simp only [Array.length_toList, List.length_map] at n1 n2
      rw [n1, n2]
    obtain ⟨fs, f1, f2, f3⟩ := firsts_rank (M := model prog w) (A := A) (E := fun _ _ => True) ks rows e
    by_cases hall : (fs.toArray.all fun x => x.isSome) = true
    · refine ⟨tuples' false, tup, fun h2 E Q hq => ?_⟩
      obtain ⟨fs', g1, g2, g3⟩ := firsts_rank (M := model prog w) (A := A) (E := E) ks rows e
      have hl : fs'.map (·.isSome) = fs.map (·.isSome) := by rw [g1, f1]
      have hall' : (fs'.toArray.all fun x => x.isSome) = true := by
        have q : (fs.map (·.isSome)).all id = true := by rw [List.all_map]; simpa using hall
        rw [← hl, List.all_map] at q
        simpa using q
      rw [keyKind'_eq, List.mapM_toArray, map_eq_pure_bind]
      refine wpAny_bind (wpAny_bind (g3 _ (wpAny_pure ?_)))
      rw [if_pos hall']
      refine wpAny_bind (wpAny_rule ?_)
      have hlen : fs'.length = ks.length := by
        have q := congrArg List.length g1
        simp only [List.length_map] at q
        rw [q, e.length]
      obtain ⟨gs, hgs⟩ : ∃ gs : List Value, fs' = gs.map some := ⟨fs'.filterMap id, by
        have : ∀ l : List (Option Value), (∀ o ∈ l, o.isSome = true) → l = (l.filterMap id).map some := by
          intro l
          induction l with
          | nil => intro _; rfl
          | cons o t ih =>
            intro h
            cases o with
            | none => exact absurd (h none List.mem_cons_self) (by simp)
            | some v =>
              show some v :: t = some v :: (t.filterMap id).map some
              rw [← ih fun o ho => h o (List.mem_cons_of_mem _ ho)]
        refine this fs' fun o ho => ?_
        have q := hall'
        simp only [List.all_toArray, List.all_eq_true] at q
        exact q o ho⟩
      have hfm : fs'.toArray.filterMap id = gs.toArray := by rw [hgs]; simp
      rw [hfm]
      refine wpAny_bind (one_type (T := .type "tuple") (by rw [hgs, List.length_map] at hlen; omega) (fun v hv => ?_) (by simp) (wpAny_pure ?_))
      · obtain ⟨x, as, k⟩ := g2 v (by rw [hgs]; exact List.mem_map.mpr ⟨v, hv, rfl⟩)
        have q := looks_reads (M := model prog w) k
        cases x <;> exact q
      · simpa using hq
    · by_cases hfst : rows.head?.any (fun r => !r.isEmpty) = true
      · refine ⟨general', gen, fun h2 E Q hq => ?_⟩
        obtain ⟨fs', g1, g2, g3⟩ := firsts_rank (M := model prog w) (A := A) (E := E) ks rows e
        have hl : fs'.map (·.isSome) = fs.map (·.isSome) := by rw [g1, f1]
        have hall' : ¬ (fs'.toArray.all fun x => x.isSome) = true := fun z => hall (by
          have q : (fs'.map (·.isSome)).all id = true := by rw [List.all_map]; simpa using z
          rw [hl, List.all_map] at q
          simpa using q)
        have h0 : (fs'.toArray[0]?.bind id).isSome = true := by
          cases rows with
          | nil => simp at hfst
          | cons r rows =>
            cases fs' with
            | nil => simp at g1
            | cons o fs' =>
              have q : o.isSome = !r.isEmpty := by
                have z : o.isSome :: fs'.map (·.isSome) = (!r.isEmpty) :: rows.map (fun r => !r.isEmpty) := g1
                injection z
              have z : (!r.isEmpty) = true := by simpa using hfst
              rw [z] at q
              simpa using q
        rw [keyKind'_eq, List.mapM_toArray, map_eq_pure_bind]
        refine wpAny_bind (wpAny_bind (g3 _ (wpAny_pure ?_)))
        rw [if_neg hall', if_pos h0]
        exact wpAny_pure hq
      · refine ⟨oneType', one, fun h2 E Q hq => ?_⟩
        obtain ⟨fs', g1, g2, g3⟩ := firsts_rank (M := model prog w) (A := A) (E := E) ks rows e
        have hl : fs'.map (·.isSome) = fs.map (·.isSome) := by rw [g1, f1]
        have hall' : ¬ (fs'.toArray.all fun x => x.isSome) = true := fun z => hall (by
          have q : (fs'.map (·.isSome)).all id = true := by rw [List.all_map]; simpa using z
          rw [hl, List.all_map] at q
          simpa using q)
        have h0 : ¬ (fs'.toArray[0]?.bind id).isSome = true := by
          cases rows with
          | nil =>
            cases fs' with
            | nil => simp
            | cons o fs' => simp at g1
          | cons r rows =>
            cases fs' with
            | nil => simp at g1
            | cons o fs' =>
              have q : o.isSome = !r.isEmpty := by
                have z : o.isSome :: fs'.map (·.isSome) = (!r.isEmpty) :: rows.map (fun r => !r.isEmpty) := g1
                injection z
              have z : (!r.isEmpty) = false := by simpa using hfst
              rw [z] at q
              cases o with
              | none => simp
              | some v => simp at q
        rw [keyKind'_eq, List.mapM_toArray, map_eq_pure_bind]
        refine wpAny_bind (wpAny_bind (g3 _ (wpAny_pure ?_)))
        rw [if_neg hall', if_neg h0]
        refine wpAny_bind (one_type (T := .type "tuple") (by omega) (fun v hv => ?_) (by simp) (wpAny_pure ?_))
        · obtain ⟨r, k⟩ := each_left e hv
          exact looks_rank k
        · simpa using hq
theorem sorts_law {ks : List Value} {rows : List Row} (e : EachIs (KeyIs1 s.heap lawRow) ks rows) (hu : A.units + 12 < cLine) : SortsAt prog w A s (rowKind s.heap lawRow) ks := by
  refine ⟨fun v hv => ?_, oneType', fun E x y (a b : Row) Q ha hb hq => ?_, fun h2 E Q hq => ?_⟩
  · obtain ⟨r, k⟩ := each_left e hv
    exact ⟨r, rowKind_some tells_law k⟩
  · obtain ⟨as, ra⟩ := rowKind_inv ha
    obtain ⟨bs, rb⟩ := rowKind_inv hb
    rw [keyLt'_oneType]
    exact one_lists ra rb hu hq
  · refine kas_kind (T := .type "list") h2 (fun v hv => ?_) (by decide) (by simp) hq
    obtain ⟨r, as, k⟩ := each_left e hv
    exact looks_reads k
end
end KA
set_option Elab.async false
set_option linter.all false
set_option maxRecDepth 100000
set_option maxHeartbeats 4000000
/-! how rows, pairs and bags stand in the abstract heap; calls of defs by name -/
namespace KA
open PySem PySem.Spec PyProof.Rows L2
open PySem.W (EachIs)
def RowAt (H : Hp) (q : Addr) (r : Row) : Prop := H q = some (.tup (r.map kV))
def PairAt (H : Hp) (t : Addr) (e : Row × Int) : Prop := ∃ q, H t = some (.tup [.ref q, .int e.2]) ∧ RowAt H q e.1
def RowsAt (H : Hp) (p : Addr) (rs : List Row) : Prop := ∃ as : List Addr, H p = some (.lst (as.map V.ref)) ∧ EachIs (RowAt H) as rs
def BagAt (H : Hp) (p : Addr) (b : Bag) : Prop := ∃ ts : List Addr, H p = some (.lst (ts.map V.ref)) ∧ EachIs (PairAt H) ts b
theorem same_new {H : Hp} {p : Addr} {o : HO} (h : H p = none) : Same H (upd H p o) := fun b x e => by
  rw [upd_ne (ne_of_none e h)]
  exact e
/-- an object that was not there at the start may change -/
theorem same_mut {H H' : Hp} {p : Addr} {o : HO} (e : Same H H') (h : H p = none) : Same H (upd H' p o) := fun b x q => by
  rw [upd_ne (ne_of_none q h)]
  exact e b x q
theorem RowAt.mono {H H' : Hp} (s : Same H H') {q : Addr} {r : Row} (h : RowAt H q r) : RowAt H' q r := s _ _ h
theorem PairAt.mono {H H' : Hp} (s : Same H H') {t : Addr} {e : Row × Int} (h : PairAt H t e) : PairAt H' t e := by
  obtain ⟨q, h1, h2⟩ := h
  exact ⟨q, s _ _ h1, h2.mono s⟩
theorem RowsAt.mono {H H' : Hp} (s : Same H H') {p : Addr} {rs : List Row} (h : RowsAt H p rs) : RowsAt H' p rs := by
  obtain ⟨as, h1, h2⟩ := h
  exact ⟨as, s _ _ h1, h2.mono fun _ _ q => q.mono s⟩
theorem BagAt.mono {H H' : Hp} (s : Same H H') {p : Addr} {b : Bag} (h : BagAt H p b) : BagAt H' p b := by
  obtain ⟨ts, h1, h2⟩ := h
  exact ⟨ts, s _ _ h1, h2.mono fun _ _ q => q.mono s⟩
theorem sq_l {K : PySem.W.Frag} {H : Hp} {a : Addr} {xs : List V} (h : H a = some (.lst xs)) : SqL K H a xs := .inl (.inl h)
theorem sq_t {K : PySem.W.Frag} {H : Hp} {a : Addr} {xs : List V} (h : H a = some (.tup xs)) : SqT K H a xs := .inl (.inl h)
theorem RowAt.sq {K : PySem.W.Frag} {H : Hp} {q : Addr} {r : Row} (h : RowAt H q r) : SqT K H q (r.map kV) := sq_t h
/-! ### data -/
theorem dp_key {K : PySem.W.Frag} {H : Hp} (x : Key) : Dp K H (kV x) (keyD x) := by
  cases x with
  | inl i => exact .int i
  | inr x => exact .str x
theorem dp_keys {K : PySem.W.Frag} {H : Hp} : ∀ r : Row, DpAll K H (r.map kV) (r.map keyD)
  | [] => .nil
  | x :: r => .cons (dp_key x) (dp_keys r)
theorem dp_row {K : PySem.W.Frag} {H : Hp} {q : Addr} {r : Row} (h : RowAt H q r) : Dp K H (.ref q) (rowD r) := .tup h.sq (dp_keys r)
def pairD (e : Row × Int) : PyData := .tuple [rowD e.1, .int e.2]
def bagD (b : Bag) : PyData := .list (b.map pairD)
theorem dp_pair {K : PySem.W.Frag} {H : Hp} {t : Addr} {e : Row × Int} (h : PairAt H t e) : Dp K H (.ref t) (pairD e) := by
  obtain ⟨q, h1, h2⟩ := h
  exact .tup (sq_t h1) (.cons (dp_row h2) (.cons (.int _) .nil))
theorem dp_each {K : PySem.W.Frag} {H : Hp} {α : Type} {R : Addr → α → Prop} {D : α → PyData} (f : ∀ a x, R a x → Dp K H (.ref a) (D x)) : ∀ {as : List Addr} {xs : List α}, EachIs R as xs → DpAll K H (as.map V.ref) (xs.map D)
  | _, _, .nil => .nil
  | _, _, .cons h t => .cons (f _ _ h) (dp_each f t)
theorem dp_bag {K : PySem.W.Frag} {H : Hp} {p : Addr} {b : Bag} (h : BagAt H p b) : Dp K H (.ref p) (bagD b) := by
  obtain ⟨ts, h1, h2⟩ := h
  exact .lst (sq_l h1) (dp_each (D := pairD) (fun _ _ q => dp_pair q) h2)
theorem dp_rows {K : PySem.W.Frag} {H : Hp} {p : Addr} {rs : List Row} (h : RowsAt H p rs) : Dp K H (.ref p) (.list (rs.map rowD)) := by
  obtain ⟨ts, h1, h2⟩ := h
  exact .lst (sq_l h1) (dp_each (D := rowD) (fun _ _ q => dp_row q) h2)
/-- all but what stands as something else than data is kept -/
def SameD (H H' : Hp) : Prop := ∀ b o, H b = some o → (∀ φ, o ≠ .ext φ) → H' b = some o
theorem Same.d {H H' : Hp} (s : Same H H') : SameD H H' := fun b o h _ => s b o h
theorem SameD.rd {H H' : Hp} (s : SameD H H') {a : Addr} {u : HO} (hu : ∀ φ, u ≠ .ext φ) (h : Rd H a u) : Rd H' a u := by
  rcases h with h | ⟨o, h⟩
  · exact .inl (s _ _ h hu)
  · exact .inr ⟨o, s _ _ h fun φ z => nomatch z⟩
mutual
theorem Dp.monoD {K : PySem.W.Frag} {H H' : Hp} (s : SameD H H') : ∀ (d : PyData) (v : V), Dp K H v d → Dp K H' v d
  | .none, _, h => by cases h; exact .non
  | .bool b, _, h => by cases h; exact .bl b
  | .int i, _, h => by cases h; exact .int i
  | .str x, _, h => by cases h; exact .str x
  | .list ds, _, h => by
    cases h with
    | lst hs ha =>
      refine .lst ?_ (DpAll.monoD s ds _ ha)
      rcases hs with q | q
      · exact .inl (s.rd (fun φ z => nomatch z) q)
      · exact .inr q
  | .tuple ds, _, h => by
    cases h with
    | tup hs ha =>
      refine .tup ?_ (DpAll.monoD s ds _ ha)
      rcases hs with q | q
      · exact .inl (s.rd (fun φ z => nomatch z) q)
      · exact .inr q
  | .dict _, _, h => by cases h
theorem DpAll.monoD {K : PySem.W.Frag} {H H' : Hp} (s : SameD H H') : ∀ (ds : List PyData) (vs : List V), DpAll K H vs ds → DpAll K H' vs ds
  | [], _, h => by cases h; exact .nil
  | d :: ds, _, h => by
    cases h with
    | cons h1 h2 => exact .cons (Dp.monoD s d _ h1) (DpAll.monoD s ds _ h2)
end
theorem Dp.mono {K : PySem.W.Frag} {H H' : Hp} (s : Same H H') {d : PyData} {v : V} (h : Dp K H v d) : Dp K H' v d := Dp.monoD (Same.d s) d v h
/-! ### == and != of data without a bound on their texts -/
section
variable {X : Cx}
def rEqP (K : PySem.W.Frag) : R2 := fun x y H Q => ∃ d e, Dp K H x d ∧ Dp K H y e ∧ d.plain = true ∧ e.plain = true ∧ d.depth ≤ 60 ∧ Q (.bl (PyData.eqv d e)) H
def rNeP (K : PySem.W.Frag) : R2 := fun x y H Q => ∃ d e, Dp K H x d ∧ Dp K H y e ∧ d.plain = true ∧ e.plain = true ∧ d.depth ≤ 60 ∧ Q (.bl (!PyData.eqv d e)) H
theorem op_eqP (hu : X.A.units + 64 < cLine) : OpR X (compareOp .Eq) (rEqP X.K) := by
  intro pins s σ H x y v u Q I rx ry h
  obtain ⟨d, e, hd, he, pd, pe, dd, q⟩ := h
  obtain ⟨as, r1⟩ := Dp.reads I d x v hd rx
  obtain ⟨bs, r2⟩ := Dp.reads I e y u he ry
  exact SeqAt.eq_plain r1 r2 pd pe (by omega) ⟨.bl _, H, I, rfl, q⟩
theorem op_neP (hu : X.A.units + 64 < cLine) : OpR X (compareOp .NotEq) (rNeP X.K) := by
  intro pins s σ H x y v u Q I rx ry h
  obtain ⟨d, e, hd, he, pd, pe, dd, q⟩ := h
  obtain ⟨as, r1⟩ := Dp.reads I d x v hd rx
  obtain ⟨bs, r2⟩ := Dp.reads I e y u he ry
  exact SeqAt.ne_plain r1 r2 pd pe (by omega) ⟨.bl _, H, I, rfl, q⟩
/-- t < u of two keys of rows, or of one value -/
def rLtK (K : PySem.W.Frag) : R2 := fun x y H Q => (∃ a b, Dp K H x (rankRow a) ∧ Dp K H y (rankRow b) ∧ Q (.bl (rowLt a b)) H) ∨ (∃ a b, Dp K H x (lawRow a) ∧ Dp K H y (lawRow b) ∧ Q (.bl (rowLt a b)) H) ∨
  (∃ a b, Dp K H x (rankD a) ∧ Dp K H y (rankD b) ∧ Q (.bl (oneLt a b)) H)
theorem op_ltK (hu : X.A.units + 64 < cLine) : OpR X (compareOp .Lt) (rLtK X.K) := by
  intro pins s σ H x y v u Q I rx ry h
  rcases h with ⟨a, b, hd, he, q⟩ | ⟨a, b, hd, he, q⟩ | ⟨a, b, hd, he, q⟩
  · obtain ⟨as, r1⟩ := Dp.reads I _ x v hd rx
    obtain ⟨bs, r2⟩ := Dp.reads I _ y u he ry
    exact rc_rankRow r1 r2 (by omega) X.prog X.w _ _ ⟨.bl _, H, I, rfl, q⟩
  · obtain ⟨as, r1⟩ := Dp.reads I _ x v hd rx
    obtain ⟨bs, r2⟩ := Dp.reads I _ y u he ry
    exact rc_lawRow r1 r2 (by omega) X.prog X.w _ _ ⟨.bl _, H, I, rfl, q⟩
  · obtain ⟨as, r1⟩ := Dp.reads I _ x v hd rx
    obtain ⟨bs, r2⟩ := Dp.reads I _ y u he ry
    exact rc_rank r1 r2 (by omega) X.prog X.w _ _ ⟨.bl _, H, I, rfl, q⟩
end
/-! ### defs called by their names -/
/-- the module's name x stands for a def that keeps the promise sp -/
def Cal (P : Program) (w : World) (K : PySem.W.Frag) (mg : Str → Option Value) (base : Heap) (x : Str) (k : Nat) (ps : List Str) (sp : Sp) : Prop :=
  ∃ f fd, mg x = some (.ref f) ∧ PySem.W.keepIn K (.ref f) = true ∧ Binds K fd ps [] ∧ FnOk P w K mg base CX0 k f fd ps sp
section
variable {X : Cx} {x : Str} {k : Nat} {ps : List Str} {sp : Sp} {E : XK} {p pos : Pos} {e : Expr} {es : List Expr} {t : TA}
theorem pe_cal (c : Cal X.prog X.w X.K X.mg X.base x k ps sp) (hr : Room k X.A) (ha : PA X (e :: es) t) (hg : Gl X x := by rfl) (hx : Passes CX0 X E0 := by exact pass0) (hdb : (x == ("__debug__" : Str)) = false := by decide)
    (he : starEach (e :: es) X.env = (false, eval e X.env) :: starEach es X.env := by rfl) (hpl : (backTo pos (starEach es X.env)).any (·.1) = false := by rfl) : PE X (.Call (.Name x p) (e :: es) [] pos) (tCall sp [] E0 t) := by
  obtain ⟨f, fd, g, kp, b, G⟩ := c
  exact pe_call G hr hg g kp b .nil hx ha hdb he hpl
end
/-- room for a call below -/
theorem _root_.L2.Room.lt {j k : Nat} {A : Around} (r : Room k A) (h : j ≤ k := by decide) : Room j A := r.mono h
theorem _root_.L2.Room.u64 {k : Nat} {A : Around} (r : Room k A) : A.units + 64 < cLine := by
  have := r.un
  omega
theorem _root_.L2.Room.u1 {k : Nat} {A : Around} (r : Room k A) : A.units + 1 < cLine := by
  have := r.un
  omega
end KA
set_option Elab.async false
set_option linter.all false
set_option maxRecDepth 100000
set_option maxHeartbeats 8000000
/-! sorted(rows, key=f), f a def that gives the key of a row -/
namespace KA
open PySem PySem.Spec PyProof.Rows L2
open PySem.W (EachIs SortsAt KeepsBut sorted_of_sort copyHeap copyHeap_at copyHeap_old keyH_end sortVals)
open PySem.Calls
section
variable {X : Cx}
/-- what a call f(row) does, wherever it is made -/
def KeyCall (X : Cx) (E : Row → PyData) (f : Addr) : Prop :=
  ∀ (pins : List (Addr × Obj)) (s : Shared) (σ : L2.St) (H : Hp) (q : Addr) (r : Row), Inv X pins σ H s → RowAt H q r → r.length ≤ 1000 →
    wpAny (model X.prog X.w) X.A.in1.in1 (call (.ref f) [.ref q]) (fun u s' => ∃ v H', Inv X pins σ H' s' ∧ Same H H' ∧ RelV v u ∧ Dp X.K H' v (E r)) (fun _ _ => False) s
/-- the promise of a def that gives keys -/
def spKey (K : PySem.W.Frag) (E : Row → PyData) : Sp := fun vs H Q _ => ∃ (q : Addr) (r : Row), vs = [.ref q] ∧ RowAt H q r ∧ r.length ≤ 1000 ∧ ∀ v H', Same H H' → Dp K H' v (E r) → Q v H'
theorem keyCall_of {E : Row → PyData} {f : Addr} {fd : FuncData} {k : Nat} {x : Str} (G : FnOk X.prog X.w X.K X.mg X.base CX0 k f fd [x] (spKey X.K E)) (hb : Binds X.K fd [x] []) (hr : Room (k + 2) X.A) : KeyCall X E f := by
  intro pins s σ H q r I hq hl
  have e0 := (I.env0.in1).in1
  refine wpAny_call (codeAny_mono (G.run X.A.in1.in1 X.stack s H ⟨[.ref q], []⟩ [.ref q] [.ref q] (fun v H' => Same H H' ∧ Dp X.K H' v (E r)) E0 (hr.in1).in1 e0 (hb s [.ref q] I.kIn rfl) (.cons rfl .nil)
    ⟨q, r, rfl, hq, hl, fun v H' s1 d => ⟨s1, d⟩⟩) fun z s' hz => ?_)
  cases z with
  | error e => exact False.elim hz
  | ok fl =>
    cases fl with
    | ret u =>
      obtain ⟨v, H', I', rv, s1, d⟩ := I.after hz
      exact ⟨v, H', I', s1, rv, d⟩
    | next => exact False.elim hz
    | brk => exact False.elim hz
    | cont => exact False.elim hz
def rSortRows (X : Cx) (f : Addr) : List V → List V → Hp → VK → Prop := fun vs zs H Q => ∃ (l : Addr) (as : List Addr) (rows : List Row), vs = [.ref l] ∧ zs = [.ref f] ∧ SqL X.K H l (as.map V.ref) ∧ EachIs (RowAt H) as rows ∧
  (∀ r ∈ rows, r.length ≤ 1000) ∧ (∀ p, H p = none → X.H_0 p = none) ∧ ∀ (p : Addr) (H' : Hp), Same H H' → H p = none → RowsAt H' p (sortRows rows) → Q (.ref p) H'
/-- the list of the keys so far -/
def keysO (kS : Addr) (kvs : List V) : HO := .ext fun h => ∃ (arr : Array Value) (e : Nat), Vals kvs arr.toList ∧ h.get? kS = some (seqObj "list" arr e)
/-- the list that is sorted, empty meanwhile -/
def nilO (a : Addr) (e : Nat) : HO := .ext fun h => h.get? a = some (seqObj "list" #[] e)
theorem keysO_ok {P : Program} {w : World} {H : Hp} {h : Heap} {kS : Addr} {kvs : List V} {arr : Array Value} {e : Nat} (v : Vals kvs arr.toList) (q : h.get? kS = some (seqObj "list" arr e)) : ObjOk P w H h kS (keysO kS kvs) :=
  ⟨⟨arr, e, v, q⟩, ⟨_, q⟩, fun h1 h2 ⟨a1, e1, v1, q1⟩ k => ⟨a1, e1, v1, k _ q1⟩⟩
theorem nilO_ok {P : Program} {w : World} {H : Hp} {h : Heap} {a : Addr} {e : Nat} (q : h.get? a = some (seqObj "list" #[] e)) : ObjOk P w H h a (nilO a e) :=
  ⟨q, ⟨_, q⟩, fun h1 h2 q1 k => k _ q1⟩
theorem upd_ext {H : Hp} {a : Addr} {o : HO} {φ : Heap → Prop} (h : H a = some (.ext φ)) : SameD H (upd H a o) := fun b u q n => by
  by_cases e : b = a
  · rw [e, h] at q
    exact absurd (Option.some.inj q).symm (n φ)
  · rw [upd_ne e]
    exact q
theorem del_ext {H : Hp} {a : Addr} {φ : Heap → Prop} (h : H a = some (.ext φ)) : SameD H (delH H a) := fun b u q n => by
  by_cases e : b = a
  · rw [e, h] at q
    exact absurd (Option.some.inj q).symm (n φ)
  · rw [delH_ne e]
    exact q
theorem refs_vals : ∀ {as : List Addr} {its : List Value}, Vals (as.map V.ref) its → its = as.map Value.ref
  | [], _, h => by cases h; rfl
  | a :: as, _, h => by
    have h' : Vals (V.ref a :: as.map V.ref) _ := h
    cases h' with
    | cons r t =>
      rw [refs_vals t]
      have e : _ = Value.ref a := r
      rw [e]
      rfl
theorem vals_refs : ∀ as : List Addr, Vals (as.map V.ref) (as.map Value.ref)
  | [] => .nil
  | a :: as => .cons rfl (vals_refs as)
theorem dps_reads {pins : List (Addr × Obj)} {s : Shared} {σ : L2.St} {H : Hp} {E : Row → PyData} (I : Inv X pins σ H s) : ∀ {kvs : List V} {rows : List Row} {ks : List Value}, EachIs (fun v r => Dp X.K H v (E r)) kvs rows → Vals kvs ks → EachIs (KeyIs1 s.heap E) ks rows
  | _, _, _, .nil, h => by cases h; exact .nil
  | _, _, _, .cons h t, q => by
    cases q with
    | cons q1 q2 =>
      obtain ⟨as, r⟩ := Dp.reads I _ _ _ h q1
      exact .cons ⟨as, r⟩ (dps_reads I t q2)
theorem each_snoc1 {α β : Type} {R : α → β → Prop} {x : α} {y : β} (h : R x y) : ∀ {as : List α} {bs : List β}, EachIs R as bs → EachIs R (as ++ [x]) (bs ++ [y])
  | _, _, .nil => .cons h .nil
  | _, _, .cons q t => .cons q (each_snoc1 h t)
theorem each_at {α β : Type} {R : α → β → Prop} : ∀ {as : List α} {bs : List β} {i : Nat} {x : α}, EachIs R as bs → as[i]? = some x → ∃ y, bs[i]? = some y ∧ R x y
  | _, _, _, _, .nil, h => by simp at h
  | _, _, 0, _, .cons q t, h => by
    simp at h
    subst h
    exact ⟨_, rfl, q⟩
  | _, _, i + 1, x, .cons q t, h => each_at (i := i) t (by simpa using h)
theorem vals_snoc {x : V} {u : Value} (r : RelV x u) {xs : List V} {us : List Value} (h : Vals xs us) : Vals (xs ++ [x]) (us ++ [u]) := h.append (.cons r .nil)
theorem each_refs {α : Type} {R : Addr → α → Prop} : ∀ {vs : List Value} {bs : List α}, EachIs (fun v b => ∃ a, v = Value.ref a ∧ R a b) vs bs → ∃ as : List Addr, vs = as.map Value.ref ∧ EachIs R as bs
  | _, _, .nil => ⟨[], rfl, .nil⟩
  | _, _, .cons ⟨a, e, r⟩ t => by
    obtain ⟨as, e2, r2⟩ := each_refs t
    exact ⟨a :: as, by rw [e, e2]; rfl, .cons r r2⟩
theorem each_map_l {α β γ : Type} {R : β → γ → Prop} (f : α → β) : ∀ {as : List α} {cs : List γ}, EachIs (fun a c => R (f a) c) as cs → EachIs R (as.map f) cs
  | _, _, .nil => .nil
  | _, _, .cons h t => .cons h (each_map_l f t)
theorem cr_sortKey {E : Row → PyData} {f : Addr} (T : Tells E)
    (hS : ∀ (prog : Program) (w : World) (A : Around) (s : Shared) (ks : List Value) (rows : List Row), EachIs (KeyIs1 s.heap E) ks rows → A.units + 12 < cLine → SortsAt prog w A s (rowKind s.heap E) ks)
    (hc : KeyCall X E f) (hu : X.A.units + 64 < cLine) (hx : X.ex = []) : CallRK X (.builtin "sorted") [Str.ofString "key"] (rSortRows X f) := by
  intro pins s σ H vs zs us ws Q I r rz h
  obtain ⟨l, as, rows, rfl, rfl, hs, hrow, hrl, h0, q⟩ := h
  obtain rfl := Vals.ref1 r
  obtain ⟨w1, rfl, e1⟩ := vals1 rz
  obtain rfl : w1 = Value.ref f := e1
  obtain ⟨its, rv, hl, hz⟩ := I.list hs
  obtain rfl := refs_vals rv
  rw [List.length_map] at hz
  have hzi : (as.map Value.ref).length ≤ sizeLine := by rw [List.length_map]; exact hz
  show wpAny (model X.prog X.w) X.A (call (.builtin "sorted") [.ref l] [(Str.ofString "key", .ref f)]) (EP X pins σ Q) X.xe s
  refine sorted_of_sort (vs := as.map Value.ref) hl.isList hzi (ksk_s1 _ _) (fun x => ksk_l1 _ _) fun E' => ?_
  rw [ksk_t1]
  obtain ⟨a, ea⟩ : ∃ a, a = s.heap.objs.size + 1 := ⟨_, rfl⟩
  rw [← ea]
  have ho := copyHeap_at s.heap (as.map Value.ref)
  rw [← ea] at ho
  have hHa : H a = none := I.hok.fresh (by rw [ea]; exact Nat.le_succ _)
  obtain ⟨e1, ho1⟩ : ∃ e1, ((copyHeap s.heap (as.map Value.ref)).update a (Obj.mapSeq fun _ => (#[] : Array Value))).get? a = some (seqObj "list" #[] e1) := ⟨_, get?_update_seq ho fun _ => #[]⟩
  have s1 := Heap.SameBut.update (copyHeap s.heap (as.map Value.ref)) a (Obj.mapSeq fun _ => (#[] : Array Value))
  have k1 : ∀ b u, s.heap.get? b = some u → ((copyHeap s.heap (as.map Value.ref)).update a (Obj.mapSeq fun _ => (#[] : Array Value))).get? b = some u := fun b u z =>
    (s1.2 b (by rw [ea]; exact Nat.ne_of_lt (Nat.lt_succ_of_lt (Heap.lt_size z)))).trans (copyHeap_old z)
  unfold ksk_tree
  refine wpAny_bind (listItems_at ho rfl ?_)
  refine wpAny_bind (listUpdate_at ho rfl ?_ (by rw [List.size_toArray]; exact hzi) (Nat.zero_le _))
  refine wpAny_bind (seqEpoch_at ho1 rfl ?_)
  refine wpAny_bind (wpAny_newTuple ?_ (by show (as.map Value.ref).toArray.toList.length ≤ _; simpa using hz))
  refine wpAny_bind (wpAny_newList ?_ (Nat.zero_le _))
  refine wpAny_holding ?_
  have I1 : Inv X pins σ (upd H a (nilO a e1)) { s with heap := (copyHeap s.heap (as.map Value.ref)).update a (Obj.mapSeq fun _ => (#[] : Array Value)) } :=
    I.laid (t' := s.toks) k1 (by rw [ea]; exact Nat.le_succ _) (nilO_ok ho1)
  obtain ⟨hT, ehT⟩ : ∃ hT, hT = ((copyHeap s.heap (as.map Value.ref)).update a (Obj.mapSeq fun _ => (#[] : Array Value))).push (seqObj "tuple" (as.map Value.ref).toArray 0) := ⟨_, rfl⟩
  have I2 : Inv X pins σ (upd H a (nilO a e1)) { s with heap := hT } := I1.kept (t' := s.toks) fun b u z => by rw [ehT]; exact Heap.get?_push_of_some _ z
  obtain ⟨kS, ekS⟩ : ∃ kS, kS = hT.objs.size := ⟨_, rfl⟩
  have hk0 : (upd H a (nilO a e1)) kS = none := I2.hok.fresh (by rw [ekS]; exact Nat.le_refl _)
  have hka : kS ≠ a := fun z => by
    rw [z, upd_same] at hk0
    cases hk0
  have hHk : H kS = none := by
    rw [upd_ne hka] at hk0
    exact hk0
  have nk0 : (hT.push (seqObj "list" #[] 0)).get? kS = some (seqObj "list" #[] 0) := by
    rw [ekS]
    exact Heap.get?_push_size _ rfl
  have I3 : Inv X pins σ (upd (upd H a (nilO a e1)) kS (keysO kS [])) { s with heap := hT.push (seqObj "list" #[] 0) } :=
    I2.laid (t' := s.toks) (fun b u z => Heap.get?_push_of_some _ z) (by rw [ekS]; exact Nat.le_refl _) (keysO_ok (arr := #[]) .nil nk0)
  rw [← ehT]
  show wpAny _ X.A.in1.in1 (ksk_rest a (.ref f) false (as.map Value.ref).toArray e1 (.ref hT.objs.size)) _ _ { s with heap := hT.push (seqObj "list" #[] 0) }
  rw [← ekS]
  unfold ksk_rest
  refine wpAny_bind (wpAny_rule ?_)
  rw [List.forIn_toArray]
  refine wpAny_bind (ksk_fold (fun i s' => ∃ H' kvs, Inv X pins σ H' s' ∧ Same H H' ∧ H' a = some (nilO a e1) ∧ H' kS = some (keysO kS kvs) ∧ EachIs (fun v r => Dp X.K H' v (E r)) kvs (rows.take i)) (as.map Value.ref) 0 _
    ⟨_, [], I3, same_mut (same_mut (Same.refl H) hHa) hHk, by rw [upd_ne hka.symm, upd_same], upd_same, by rw [List.take_zero]; exact .nil⟩ ?step ?done)
  case step =>
    rintro j x s' hxj ⟨H', kvs, I', sm, na, nk, hd⟩
    simp only [Nat.zero_add] at hd ⊢
    rw [List.getElem?_map] at hxj
    cases haj : as[j]? with
    | none => rw [haj] at hxj; cases hxj
    | some p =>
      rw [haj] at hxj
      obtain rfl : Value.ref p = x := Option.some.inj hxj
      obtain ⟨r, hrj, hrp⟩ := each_at hrow haj
      have hj : j < rows.length := (List.getElem?_eq_some_iff.mp hrj).1
      refine wpAny_bind (wpAny_attempt (wpAny_mono (hc pins s' σ H' p r I' (hrp.mono sm) (hrl r (List.mem_of_getElem? hrj))) (fun v s'' he => ?_) fun _ _ hF => hF.elim))
      obtain ⟨kv, H2, I4, sm2, rkv, hdp⟩ := he
      try dsimp only
      obtain ⟨⟨arr, e, va, gk⟩, _, _⟩ := I4.hok kS _ (sm2 _ _ nk)
      have la : arr.size ≤ as.length := by
        have q1 := va.length
        have q2 := hd.length
        rw [List.length_take] at q2
        have q3 := hrow.length
        have q4 : arr.toList.length = arr.size := Array.length_toList
        omega
      obtain ⟨c2, hc2⟩ : ∃ c2, (s''.heap.update kS (Obj.mapSeq (·.push v))).get? kS = some (seqObj "list" (arr.push v) c2) := ⟨_, get?_update_seq gk (·.push v)⟩
      have s3 := Heap.SameBut.update s''.heap kS (Obj.mapSeq (·.push v))
      refine wpAny_bind (listUpdate_at gk rfl ?_ (Nat.le_trans la hz) (Nat.le_trans (Nat.le_of_eq (Array.size_push ..)) (Nat.succ_le_succ (Nat.le_trans la hz))))
      have nk2 : H2 kS = some (keysO kS kvs) := sm2 _ _ nk
      have I5 : Inv X pins σ (upd H2 kS (keysO kS (kvs ++ [kv]))) { s'' with heap := s''.heap.update kS (Obj.mapSeq (·.push v)) } :=
        I4.write (t' := s''.toks) (by rw [nk2]; trivial) (.inl rfl) (fun b u hb z => (s3.2 b hb).trans z) ⟨_, hc2⟩ (keysO_ok (arr := arr.push v) (by rw [Array.toList_push]; exact vals_snoc rkv va) hc2)
      have sd : SameD H2 (upd H2 kS (keysO kS (kvs ++ [kv]))) := upd_ext nk2
      refine wpAny_pure ⟨rfl, _, kvs ++ [kv], I5, same_mut (sm.trans sm2) hHk, by rw [upd_ne hka.symm]; exact sm2 _ _ na, upd_same, ?_⟩
      rw [List.take_add_one, hrj]
      exact each_snoc1 (R := fun v r => Dp X.K (upd H2 kS (keysO kS (kvs ++ [kv]))) v (E r)) (Dp.monoD sd _ _ hdp) (hd.mono fun v r z => Dp.monoD sd _ _ (Dp.mono sm2 z))
  case done =>
    rintro s' ⟨H', kvs, I', sm, na, nk, hd⟩
    have et : rows.take (0 + (as.map Value.ref).length) = rows := List.take_of_length_le (by rw [List.length_map, hrow.length]; omega)
    rw [et] at hd
    obtain ⟨⟨arr, e, va, gk⟩, _, _⟩ := I'.hok kS _ nk
    have ga : s'.heap.get? a = some (seqObj "list" #[] e1) := (I'.hok a _ na).1
    try dsimp only
    refine wpAny_bind (listItems_at gk rfl ?_)
    have hks : EachIs (KeyIs1 s'.heap E) arr.toList rows := dps_reads I' hd va
    have hsz : arr.size = (as.map Value.ref).length := by
      have q1 := hks.length
      rw [Array.length_toList] at q1
      rw [q1, List.length_map, hrow.length]
    obtain ⟨G, gs, gn, J⟩ := I'.untrack nk (fr0_none (h0 kS hHk)) hx
    refine keyH_end (κ := rowKind s'.heap E) (h₁ := G) (fun b o _ z => gs b o z) gn gk ga hka (hS _ _ _ _ _ _ hks (by show X.A.units + 1 + 1 + 12 < _; omega)) hsz hzi fun h3 tk c k3 n3 => ⟨rfl, ?_⟩
    have hout : EachIs (fun v r => ∃ b, v = Value.ref b ∧ RowAt H b r) (sortVals (rowKind s'.heap E) false arr.toList (as.map Value.ref)) (sortRows rows) :=
      PySem.W.sortVals_each (κ := rowKind s'.heap E) (rev := false) (fun r => r) (each_map_l (R := fun v r => ∃ b, v = Value.ref b ∧ RowAt H b r) Value.ref (hrow.mono fun a r z => ⟨a, rfl, z⟩)) (hks.mono fun v r z => rowKind_some T z)
    obtain ⟨bs, eb, hb⟩ := each_refs hout
    rw [eb] at n3
    have nka : (delH H' kS) a = some (nilO a e1) := by
      rw [delH_ne hka.symm]
      exact na
    have J2 : Inv X pins σ (upd (delH H' kS) a (.lst (bs.map V.ref))) { s' with heap := h3, toks := tk } :=
      J.write (t' := tk) (by rw [nka]; trivial) (.inl rfl) (fun b u hbn z => k3 b u hbn z) ⟨_, n3⟩ ⟨by rw [List.length_map, hb.length, (sortRows_perm rows).length_eq, ← hrow.length]; exact hz, bs.map Value.ref, c, vals_refs bs, by simpa using n3⟩
    have sf : Same H (upd (delH H' kS) a (.lst (bs.map V.ref))) := by
      refine same_mut (fun b o z => ?_) hHa
      rw [delH_ne (ne_of_none z hHk)]
      exact sm b o z
    exact ⟨.ref a, _, J2, rfl, q a _ sf hHa ⟨bs, upd_same, hb.mono fun b r z => z.mono sf⟩⟩
end
end KA
set_option Elab.async false
set_option linter.all false
set_option maxRecDepth 100000
set_option maxHeartbeats 4000000
/-! comprehensions and loops: what is made, item by item -/
namespace KA
open PySem PySem.Spec PyProof.Rows L2
open PySem.W (EachIs)
/-- the tuples alone -/
def tups (H : Hp) : Hp := fun a => match H a with
  | some (.tup xs) => some (.tup xs)
  | _ => none
theorem tups_at {H : Hp} {a : Addr} {xs : List V} (h : H a = some (.tup xs)) : tups H a = some (.tup xs) := by
  unfold tups
  rw [h]
theorem tups_is {H : Hp} {a : Addr} {o : HO} (h : tups H a = some o) : ∃ xs, o = .tup xs ∧ H a = some (.tup xs) := by
  unfold tups at h
  split at h
  · rename_i xs e
    exact ⟨xs, (Option.some.inj h).symm, e⟩
  · cases h
theorem tups_sub (H : Hp) : Same (tups H) H := fun a o h => by
  obtain ⟨xs, rfl, e⟩ := tups_is h
  exact e
def TupKeep (H H' : Hp) : Prop := Same (tups H) (tups H')
theorem TupKeep.refl (H : Hp) : TupKeep H H := Same.refl _
theorem TupKeep.trans {H H1 H2 : Hp} (a : TupKeep H H1) (b : TupKeep H1 H2) : TupKeep H H2 := Same.trans a b
theorem TupKeep.of {H H' : Hp} (h : ∀ a xs, H a = some (.tup xs) → H' a = some (.tup xs)) : TupKeep H H' := fun a o q => by
  obtain ⟨xs, rfl, e⟩ := tups_is q
  exact tups_at (h a xs e)
theorem TupKeep.at {H H' : Hp} (k : TupKeep H H') {a : Addr} {xs : List V} (h : H a = some (.tup xs)) : H' a = some (.tup xs) := tups_sub H' _ _ (k _ _ (tups_at h))
theorem _root_.L2.Same.tk {H H' : Hp} (s : Same H H') : TupKeep H H' := .of fun _ _ h => s _ _ h
theorem tk_upd {H : Hp} {D : Addr} {o : HO} (h : ∀ xs, H D ≠ some (.tup xs)) : TupKeep H (upd H D o) := .of fun a xs q => by
  rw [upd_ne (fun e => h xs (by rw [← e]; exact q))]
  exact q
theorem tk_lst {H : Hp} {D : Addr} {o : HO} {xs : List V} (h : H D = some (.lst xs)) : TupKeep H (upd H D o) := tk_upd fun ys q => by
  rw [h] at q
  cases q
theorem RowAt.tk {H H' : Hp} (k : TupKeep H H') {q : Addr} {r : Row} (h : RowAt H q r) : RowAt H' q r := k.at h
theorem PairAt.tk {H H' : Hp} (k : TupKeep H H') {t : Addr} {e : Row × Int} (h : PairAt H t e) : PairAt H' t e := by
  obtain ⟨q, h1, h2⟩ := h
  exact ⟨q, k.at h1, h2.tk k⟩
section
variable {J : It} {n : Nat} {G : Hp → Prop} {Y : Nat → Hp → V → Hp → Prop} {β : Type}
/-- a comprehension over anything that is walked -/
theorem lc_go (w : Walk J n G Y) (bs : List β) (hn : bs.length = n) (keep : β → Bool) (R : Hp → V → β → Prop) (hR : ∀ H H' v b, TupKeep H H' → R H v b → R H' v b) (Rel : Hp → Prop)
    {g : TG} {tt : TT} {te : TE} {vs : List Nat} {σ : L2.St} {H1 : Hp} {D : Addr} {Qd : Hp → Prop} (h0 : Rel (upd H1 D (.lst []))) (hG : ∀ H, Rel H → G H) (hD : ∀ H acc, Rel H → Rel (upd H D (.lst acc))) (hz : n ≤ 100000)
    (turn : ∀ i x b H H', i < n → bs[i]? = some b → Rel H → (∃ acc, H D = some (.lst acc)) → Y i H x H' → ∀ (Q : VK) (Qn : Hp → Prop), (keep b = true → ∀ v H'', Rel H'' → H'' D = H D → TupKeep H H'' → R H'' v b → Q v H'') →
      (keep b = false → ∀ H'', Rel H'' → H'' D = H D → TupKeep H H'' → Qn H'') → g x (wipe σ vs) H' fun σ2 H2 => wipe σ2 vs = wipe σ vs ∧ tt σ2 H2 fun c H3 => if c = true then te σ2 H3 Q else Qn H3)
    (done : ∀ H acc, Rel H → H D = some (.lst acc) → EachIs (R H) acc (bs.filter keep) → Qd H) :
    ∃ W : Nat → Nat → Hp → Prop, (∃ m, W 0 m (upd H1 D (.lst []))) ∧ ∀ i m H, W i m H →
      (J.stop i H ∧ Qd H) ∨ (J.go i H ∧ ∃ Nx : Hp → Prop, (∀ H', Nx H' → ∃ m', m' < m ∧ W (i + 1) m' H') ∧ ∀ x H', J.yld i H x H' → g x (wipe σ vs) H' fun σ2 H2 => wipe σ2 vs = wipe σ vs ∧ tt σ2 H2 fun b H3 =>
        if b = true then te σ2 H3 fun y H4 => ∃ acc, H4 D = some (.lst acc) ∧ acc.length < sizeLine ∧ Nx (upd H4 D (.lst (acc ++ [y]))) else Nx H3) := by
  refine lc_it w (fun i H => Rel H ∧ ∃ acc, H D = some (.lst acc) ∧ EachIs (R H) acc ((bs.take i).filter keep)) ⟨h0, [], upd_same, by rw [List.take_zero]; exact .nil⟩ (fun i H _ p => hG H p.1) ?_ ?_
  · rintro i x H H' hi ⟨hr, acc, ha, he⟩ y
    obtain ⟨b, hb⟩ : ∃ b, bs[i]? = some b := ⟨_, List.getElem?_eq_getElem (by omega)⟩
    have et : bs.take (i + 1) = bs.take i ++ [b] := by rw [List.take_add_one, hb]; rfl
    refine turn i x b H H' hi hb hr ⟨acc, ha⟩ y _ _ (fun hk v H2 r2 d2 tk rv => ?_) fun hk H2 r2 d2 tk => ?_
    · have hlen : acc.length ≤ i := by
        rw [he.length]
        exact Nat.le_trans (List.length_filter_le ..) (by rw [List.length_take]; exact Nat.min_le_left _ _)
      have hd : H2 D = some (.lst acc) := d2.trans ha
      refine ⟨acc, hd, Nat.lt_of_lt_of_le (show acc.length < 100001 by omega) (by decide), hD _ _ r2, acc ++ [v], upd_same, ?_⟩
      rw [et, List.filter_append, List.filter_cons_of_pos hk]
      have k2 : TupKeep H2 (upd H2 D (.lst (acc ++ [v]))) := tk_lst hd
      exact each_snoc1 (hR _ _ _ _ k2 rv) (he.mono fun v b z => hR _ _ _ _ (tk.trans k2) z)
    · refine ⟨r2, acc, d2.trans ha, ?_⟩
      rw [et, List.filter_append, List.filter_cons_of_neg (by rw [hk]; exact Bool.false_ne_true), List.filter_nil, List.append_nil]
      exact he.mono fun v b z => hR _ _ _ _ tk z
  · rintro H ⟨hr, acc, ha, he⟩
    rw [List.take_of_length_le (by omega)] at he
    exact done H acc hr ha he
/-- the same where all objects of the start are kept -/
theorem lc_same (w : Walk J n G Y) (bs : List β) (hn : bs.length = n) (keep : β → Bool) (R : Hp → V → β → Prop) (hR : ∀ H H' v b, TupKeep H H' → R H v b → R H' v b)
    {g : TG} {tt : TT} {te : TE} {vs : List Nat} {σ : L2.St} {H1 : Hp} {D : Addr} {Qd : Hp → Prop} (hD : H1 D = none) (hG : ∀ H, Same H1 H → G H) (hz : n ≤ 100000)
    (turn : ∀ i x b H H', i < n → bs[i]? = some b → Same H1 H → Y i H x H' → ∀ (Q : VK) (Qn : Hp → Prop), (keep b = true → ∀ v H'', Same H H'' → R H'' v b → Q v H'') → (keep b = false → ∀ H'', Same H H'' → Qn H'') →
      g x (wipe σ vs) H' fun σ2 H2 => wipe σ2 vs = wipe σ vs ∧ tt σ2 H2 fun c H3 => if c = true then te σ2 H3 Q else Qn H3)
    (done : ∀ H acc, Same H1 H → H D = some (.lst acc) → EachIs (R H) acc (bs.filter keep) → Qd H) :
    ∃ W : Nat → Nat → Hp → Prop, (∃ m, W 0 m (upd H1 D (.lst []))) ∧ ∀ i m H, W i m H →
      (J.stop i H ∧ Qd H) ∨ (J.go i H ∧ ∃ Nx : Hp → Prop, (∀ H', Nx H' → ∃ m', m' < m ∧ W (i + 1) m' H') ∧ ∀ x H', J.yld i H x H' → g x (wipe σ vs) H' fun σ2 H2 => wipe σ2 vs = wipe σ vs ∧ tt σ2 H2 fun b H3 =>
        if b = true then te σ2 H3 fun y H4 => ∃ acc, H4 D = some (.lst acc) ∧ acc.length < sizeLine ∧ Nx (upd H4 D (.lst (acc ++ [y]))) else Nx H3) :=
  lc_go w bs hn keep R hR (Same H1) (same_new hD) hG (fun H acc s => same_mut s hD) hz (fun i x b H H' hi hb hr ⟨acc, ha⟩ y Q Qn h1 h2 => turn i x b H H' hi hb hr y Q Qn
    (fun hk v H2 s2 rv => h1 hk v H2 (hr.trans s2) (by rw [ha]; exact s2 _ _ ha) s2.tk rv) fun hk H2 s2 => h2 hk H2 (hr.trans s2) (by rw [ha]; exact s2 _ _ ha) s2.tk) done
end
theorem yes_in {te : TE} {σ : L2.St} {H : Hp} {Q : VK} {Qn : Hp → Prop} (h : te σ H Q) : tYes σ H fun c H3 => if c = true then te σ H3 Q else Qn H3 := by
  show if true = true then te σ H Q else Qn H
  rw [if_pos rfl]
  exact h
theorem filter_true {α : Type} (l : List α) : l.filter (fun _ => true) = l := List.filter_eq_self.mpr fun _ _ => rfl
theorem each_list {α : Type} {R : V → α → Prop} {P : Addr → α → Prop} (h : ∀ v x, R v x → ∃ a, v = V.ref a ∧ P a x) : ∀ {vs : List V} {xs : List α}, EachIs R vs xs → ∃ as : List Addr, vs = as.map V.ref ∧ EachIs P as xs
  | _, _, .nil => ⟨[], rfl, .nil⟩
  | _, _, .cons q t => by
    obtain ⟨a, rfl, p⟩ := h _ _ q
    obtain ⟨as, rfl, ps⟩ := each_list h t
    exact ⟨a :: as, rfl, .cons p ps⟩
theorem each_dps {K : PySem.W.Frag} {H : Hp} {α : Type} {E : α → PyData} : ∀ {vs : List V} {r : List α}, EachIs (fun v x => Dp K H v (E x)) vs r → DpAll K H vs (r.map E)
  | _, _, .nil => .nil
  | _, _, .cons h t => .cons h (each_dps t)
theorem map_at {α : Type} {f : α → V} {r : List α} {i : Nat} {v : V} (h : (r.map f)[i]? = some v) : ∃ x, r[i]? = some x ∧ v = f x := by
  rw [List.getElem?_map] at h
  cases e : r[i]? with
  | none => rw [e] at h; cases h
  | some x => rw [e] at h; exact ⟨x, rfl, (Option.some.inj h).symm⟩
/-- a datum of tuples alone -/
def Tp (K : PySem.W.Frag) (H : Hp) (v : V) (d : PyData) : Prop := Dp K (tups H) v d
theorem Tp.tk {K : PySem.W.Frag} {H H' : Hp} (k : TupKeep H H') {v : V} {d : PyData} (h : Tp K H v d) : Tp K H' v d := Dp.mono k h
theorem Tp.dp {K : PySem.W.Frag} {H : Hp} {v : V} {d : PyData} (h : Tp K H v d) : Dp K H v d := Dp.mono (tups_sub H) h
theorem sq_tups {K : PySem.W.Frag} {H : Hp} {a : Addr} {xs : List V} (h : H a = some (.tup xs)) : SqT K (tups H) a xs := .inl (.inl (tups_at h))
end KA
set_option Elab.async false
set_option linter.all false
set_option maxRecDepth 100000
set_option maxHeartbeats 0
namespace KA
open PySem PySem.Spec PyProof.Rows L2
def top (i : Nat) : Stmt := PySem.Challenge.pw_deltaloom_k03_least_sets_of_rules.main.body.getD i (.Pass ⟨0, 0, 0, 0⟩)
abbrev s_enter : Stmt := top 2
abbrev s_rank : Stmt := top 4
abbrev s_row_rank : Stmt := top 5
abbrev s_least_set : Stmt := top 7
abbrev s_updated_set : Stmt := top 8
abbrev s_names_in_bodies : Stmt := top 9
abbrev s_completed : Stmt := top 10
abbrev s_doubtful : Stmt := top 11
abbrev s_tables_for : Stmt := top 12
abbrev s_without : Stmt := top 13
abbrev s_all_heads : Stmt := top 14
abbrev s_heads_through : Stmt := top 15
abbrev s_solutions : Stmt := top 16
abbrev s_extensions : Stmt := top 17
abbrev s_matched : Stmt := top 18
abbrev s_filled : Stmt := top 19
abbrev s__law_state : Stmt := top 21
abbrev s__law_draw : Stmt := top 22
abbrev s__law_one : Stmt := top 23
abbrev s__law_argument : Stmt := top 24
abbrev s__law_atom : Stmt := top 25
abbrev s__law_variables : Stmt := top 26
abbrev s__law_rule : Stmt := top 27
abbrev s__law_set : Stmt := top 28
abbrev s__law_turned : Stmt := top 29
abbrev s__law_instance : Stmt := top 30
abbrev s__law_substitutions : Stmt := top 31
abbrev s__law_holds : Stmt := top 32
abbrev s__law_least : Stmt := top 33
abbrev s__law_dicts : Stmt := top 34
abbrev s_law : Stmt := top 35
abbrev s_Table___init__ : Stmt := inClass (top 1) 0
abbrev s_Table_put : Stmt := inClass (top 1) 1
abbrev s_Table_matching : Stmt := inClass (top 1) 2
theorem sc_Table___init__ : FnScope ["self", "rows", "row"] ["self", "rows"] (defScope s_Table___init__) := ⟨rfl, rfl, rfl, by decide +kernel, rfl, by decide +kernel, by decide +kernel⟩
theorem sc_Table_put : FnScope ["self", "row", "size", "places"] ["self", "row"] (defScope s_Table_put) := ⟨rfl, rfl, rfl, by decide +kernel, rfl, by decide +kernel, by decide +kernel⟩
theorem sc_Table_matching : FnScope ["self", "size", "places", "items", "index", "row"] ["self", "size", "places", "items"] (defScope s_Table_matching) := ⟨rfl, rfl, rfl, by decide +kernel, rfl, by decide +kernel, by decide +kernel⟩
theorem sc_enter : FnScope ["index", "size", "places", "row", "k"] ["index", "size", "places", "row"] (defScope s_enter) := ⟨rfl, rfl, rfl, by decide +kernel, rfl, by decide +kernel, by decide +kernel⟩
theorem sc_rank : FnScope ["value"] ["value"] (defScope s_rank) := ⟨rfl, rfl, rfl, by decide +kernel, rfl, by decide +kernel, by decide +kernel⟩
theorem sc_row_rank : FnScope ["row", "value"] ["row"] (defScope s_row_rank) := ⟨rfl, rfl, rfl, by decide +kernel, rfl, by decide +kernel, by decide +kernel⟩
theorem sc_least_set : FnScope ["rules", "own", "sets"] ["rules", "own", "sets"] (defScope s_least_set) := ⟨rfl, rfl, rfl, by decide +kernel, rfl, by decide +kernel, by decide +kernel⟩
theorem sc_updated_set : FnScope ["rules", "own", "olds", "news", "rows", "removed", "row"] ["rules", "own", "olds", "news", "rows"] (defScope s_updated_set) := ⟨rfl, rfl, rfl, by decide +kernel, rfl, by decide +kernel, by decide +kernel⟩
theorem sc_names_in_bodies : FnScope ["rules", "own", "names", "_", "body", "atom", "name"] ["rules", "own"] (defScope s_names_in_bodies) := ⟨rfl, rfl, rfl, by decide +kernel, rfl, by decide +kernel, by decide +kernel⟩
theorem sc_completed : FnScope ["rules", "own", "sets", "rows", "tables", "heads", "fresh", "row"] ["rules", "own", "sets", "rows"] (defScope s_completed) := ⟨rfl, rfl, rfl, by decide +kernel, rfl, by decide +kernel, by decide +kernel⟩
theorem sc_doubtful : FnScope ["rules", "own", "olds", "news", "rows", "tables", "names", "lost", "name", "gained", "removed", "heads", "fresh", "row"] ["rules", "own", "olds", "news", "rows"] (defScope s_doubtful) := ⟨rfl, rfl, rfl, by decide +kernel, rfl, by decide +kernel, by decide +kernel⟩
theorem sc_tables_for : FnScope ["rules", "own", "sets", "rows", "tables", "name"] ["rules", "own", "sets", "rows"] (defScope s_tables_for) := ⟨rfl, rfl, rfl, by decide +kernel, rfl, by decide +kernel, by decide +kernel⟩
theorem sc_without : FnScope ["rows", "others", "row"] ["rows", "others"] (defScope s_without) := ⟨rfl, rfl, rfl, by decide +kernel, rfl, by decide +kernel, by decide +kernel⟩
theorem sc_all_heads : FnScope ["rules", "tables", "found", "head", "body", "known"] ["rules", "tables"] (defScope s_all_heads) := ⟨rfl, rfl, rfl, by decide +kernel, rfl, by decide +kernel, by decide +kernel⟩
theorem sc_heads_through : FnScope ["rules", "changed", "tables", "found", "head", "body", "k", "sign", "name", "arguments", "matches", "row", "starts", "known"] ["rules", "changed", "tables"] (defScope s_heads_through) := ⟨rfl, rfl, rfl, by decide +kernel, rfl, by decide +kernel, by decide +kernel⟩
theorem sc_solutions : FnScope ["starts", "atoms", "tables", "found", "sign", "name", "arguments", "known", "longer"] ["starts", "atoms", "tables"] (defScope s_solutions) := ⟨rfl, rfl, rfl, by decide +kernel, rfl, by decide +kernel, by decide +kernel⟩
theorem sc_extensions : FnScope ["arguments", "known", "table", "places", "k", "kind", "content", "items", "rows", "matches", "row", "longer"] ["arguments", "known", "table"] (defScope s_extensions) := ⟨rfl, rfl, rfl, by decide +kernel, rfl, by decide +kernel, by decide +kernel⟩
theorem sc_matched : FnScope ["arguments", "row", "known", "found", "kind", "content", "item", "wanted"] ["arguments", "row", "known"] (defScope s_matched) := ⟨rfl, rfl, rfl, by decide +kernel, rfl, by decide +kernel, by decide +kernel⟩
theorem sc_filled : FnScope ["arguments", "known", "kind", "content"] ["arguments", "known"] (defScope s_filled) := ⟨rfl, rfl, rfl, by decide +kernel, rfl, by decide +kernel, by decide +kernel⟩
theorem sc__law_state : FnScope ["script", "seed", "cell"] ["script"] (defScope s__law_state) := ⟨rfl, rfl, rfl, by decide +kernel, rfl, by decide +kernel, by decide +kernel⟩
theorem sc__law_draw : FnScope ["state", "many", "cells", "k", "amount", "mixed"] ["state", "many"] (defScope s__law_draw) := ⟨rfl, rfl, rfl, by decide +kernel, rfl, by decide +kernel, by decide +kernel⟩
theorem sc__law_one : FnScope ["state"] ["state"] (defScope s__law_one) := ⟨rfl, rfl, rfl, by decide +kernel, rfl, by decide +kernel, by decide +kernel⟩
theorem sc__law_argument : FnScope ["state"] ["state"] (defScope s__law_argument) := ⟨rfl, rfl, rfl, by decide +kernel, rfl, by decide +kernel, by decide +kernel⟩
theorem sc__law_atom : FnScope ["state", "sign", "names", "name", "size", "k"] ["state", "sign", "names"] (defScope s__law_atom) := ⟨rfl, rfl, rfl, by decide +kernel, rfl, by decide +kernel, by decide +kernel⟩
theorem sc__law_variables : FnScope ["arguments", "argument"] ["arguments"] (defScope s__law_variables) := ⟨rfl, rfl, rfl, by decide +kernel, rfl, by decide +kernel, by decide +kernel⟩
theorem sc__law_rule : FnScope ["state", "body", "k", "known", "sign", "name", "arguments", "rest", "head", "fixed", "argument", "atom", "v"] ["state"] (defScope s__law_rule) := ⟨rfl, rfl, rfl, by decide +kernel, rfl, by decide +kernel, by decide +kernel⟩
theorem sc__law_set : FnScope ["state", "rows", "k"] ["state"] (defScope s__law_set) := ⟨rfl, rfl, rfl, by decide +kernel, rfl, by decide +kernel, by decide +kernel⟩
theorem sc__law_turned : FnScope ["state", "rows", "found", "name", "row", "size", "k"] ["state", "rows"] (defScope s__law_turned) := ⟨rfl, rfl, rfl, by decide +kernel, rfl, by decide +kernel, by decide +kernel⟩
theorem sc__law_instance : FnScope ["arguments", "names", "a"] ["arguments", "names"] (defScope s__law_instance) := ⟨rfl, rfl, rfl, by decide +kernel, rfl, by decide +kernel, by decide +kernel⟩
theorem sc__law_substitutions : FnScope ["rows", "v", "longer", "row", "one", "more"] [] (defScope s__law_substitutions) := ⟨rfl, rfl, rfl, by decide +kernel, rfl, by decide +kernel, by decide +kernel⟩
theorem sc__law_holds : FnScope ["body", "names", "sets", "own", "sign", "name", "arguments", "rows"] ["body", "names", "sets", "own"] (defScope s__law_holds) := ⟨rfl, rfl, rfl, by decide +kernel, rfl, by decide +kernel, by decide +kernel⟩
theorem sc__law_least : FnScope ["rules", "sets", "own", "turn", "before", "names", "head", "body", "row", "one"] ["rules", "sets"] (defScope s__law_least) := ⟨rfl, rfl, rfl, by decide +kernel, rfl, by decide +kernel, by decide +kernel⟩
theorem sc__law_dicts : FnScope ["rules", "sets", "found", "head", "body", "sign", "name", "arguments", "row"] ["rules", "sets"] (defScope s__law_dicts) := ⟨rfl, rfl, rfl, by decide +kernel, rfl, by decide +kernel, by decide +kernel⟩
theorem sc_law : FnScope ["script", "state", "rules", "k", "olds", "news", "given", "kept", "rows", "held", "told"] ["script"] (defScope s_law) := ⟨rfl, rfl, rfl, by decide +kernel, rfl, by decide +kernel, by decide +kernel⟩
abbrev FnP (K : PySem.W.Frag) (x : Str) (st : Stmt) (f : Addr) (fd : FuncData) : Prop := FunD K x x (defArgs st) (defBody st) (defScope st) [] [] f fd
def d_enter : He.DefD := ⟨("enter", none), "enter", "enter", defArgs s_enter, defBody s_enter, defScope s_enter, [], []⟩
def d_rank : He.DefD := ⟨("rank", none), "rank", "rank", defArgs s_rank, defBody s_rank, defScope s_rank, [], []⟩
def d_row_rank : He.DefD := ⟨("row_rank", none), "row_rank", "row_rank", defArgs s_row_rank, defBody s_row_rank, defScope s_row_rank, [], []⟩
def d_least_set : He.DefD := ⟨("least_set", none), "least_set", "least_set", defArgs s_least_set, defBody s_least_set, defScope s_least_set, [], []⟩
def d_updated_set : He.DefD := ⟨("updated_set", none), "updated_set", "updated_set", defArgs s_updated_set, defBody s_updated_set, defScope s_updated_set, [], []⟩
def d_names_in_bodies : He.DefD := ⟨("names_in_bodies", none), "names_in_bodies", "names_in_bodies", defArgs s_names_in_bodies, defBody s_names_in_bodies, defScope s_names_in_bodies, [], []⟩
def d_completed : He.DefD := ⟨("completed", none), "completed", "completed", defArgs s_completed, defBody s_completed, defScope s_completed, [], []⟩
def d_doubtful : He.DefD := ⟨("doubtful", none), "doubtful", "doubtful", defArgs s_doubtful, defBody s_doubtful, defScope s_doubtful, [], []⟩
def d_tables_for : He.DefD := ⟨("tables_for", none), "tables_for", "tables_for", defArgs s_tables_for, defBody s_tables_for, defScope s_tables_for, [], []⟩
def d_without : He.DefD := ⟨("without", none), "without", "without", defArgs s_without, defBody s_without, defScope s_without, [], []⟩
def d_all_heads : He.DefD := ⟨("all_heads", none), "all_heads", "all_heads", defArgs s_all_heads, defBody s_all_heads, defScope s_all_heads, [], []⟩
def d_heads_through : He.DefD := ⟨("heads_through", none), "heads_through", "heads_through", defArgs s_heads_through, defBody s_heads_through, defScope s_heads_through, [], []⟩
def d_solutions : He.DefD := ⟨("solutions", none), "solutions", "solutions", defArgs s_solutions, defBody s_solutions, defScope s_solutions, [], []⟩
def d_extensions : He.DefD := ⟨("extensions", none), "extensions", "extensions", defArgs s_extensions, defBody s_extensions, defScope s_extensions, [], []⟩
def d_matched : He.DefD := ⟨("matched", none), "matched", "matched", defArgs s_matched, defBody s_matched, defScope s_matched, [], []⟩
def d_filled : He.DefD := ⟨("filled", none), "filled", "filled", defArgs s_filled, defBody s_filled, defScope s_filled, [], []⟩
def d__law_state : He.DefD := ⟨("_law_state", none), "_law_state", "_law_state", defArgs s__law_state, defBody s__law_state, defScope s__law_state, [], []⟩
def d__law_draw : He.DefD := ⟨("_law_draw", none), "_law_draw", "_law_draw", defArgs s__law_draw, defBody s__law_draw, defScope s__law_draw, [], []⟩
def d__law_one : He.DefD := ⟨("_law_one", none), "_law_one", "_law_one", defArgs s__law_one, defBody s__law_one, defScope s__law_one, [], []⟩
def d__law_argument : He.DefD := ⟨("_law_argument", none), "_law_argument", "_law_argument", defArgs s__law_argument, defBody s__law_argument, defScope s__law_argument, [], []⟩
def d__law_atom : He.DefD := ⟨("_law_atom", none), "_law_atom", "_law_atom", defArgs s__law_atom, defBody s__law_atom, defScope s__law_atom, [], []⟩
def d__law_variables : He.DefD := ⟨("_law_variables", none), "_law_variables", "_law_variables", defArgs s__law_variables, defBody s__law_variables, defScope s__law_variables, [], []⟩
def d__law_rule : He.DefD := ⟨("_law_rule", none), "_law_rule", "_law_rule", defArgs s__law_rule, defBody s__law_rule, defScope s__law_rule, [], []⟩
def d__law_set : He.DefD := ⟨("_law_set", none), "_law_set", "_law_set", defArgs s__law_set, defBody s__law_set, defScope s__law_set, [], []⟩
def d__law_turned : He.DefD := ⟨("_law_turned", none), "_law_turned", "_law_turned", defArgs s__law_turned, defBody s__law_turned, defScope s__law_turned, [], []⟩
def d__law_instance : He.DefD := ⟨("_law_instance", none), "_law_instance", "_law_instance", defArgs s__law_instance, defBody s__law_instance, defScope s__law_instance, [], []⟩
def d__law_substitutions : He.DefD := ⟨("_law_substitutions", none), "_law_substitutions", "_law_substitutions", defArgs s__law_substitutions, defBody s__law_substitutions, defScope s__law_substitutions, [], []⟩
def d__law_holds : He.DefD := ⟨("_law_holds", none), "_law_holds", "_law_holds", defArgs s__law_holds, defBody s__law_holds, defScope s__law_holds, [], []⟩
def d__law_least : He.DefD := ⟨("_law_least", none), "_law_least", "_law_least", defArgs s__law_least, defBody s__law_least, defScope s__law_least, [], []⟩
def d__law_dicts : He.DefD := ⟨("_law_dicts", none), "_law_dicts", "_law_dicts", defArgs s__law_dicts, defBody s__law_dicts, defScope s__law_dicts, [], []⟩
def d_law : He.DefD := ⟨("law", none), "law", "law", defArgs s_law, defBody s_law, defScope s_law, [], []⟩
abbrev FnM (K : PySem.W.Frag) (x q : Str) (st : Stmt) (f : Addr) (fd : FuncData) : Prop := FunD K x q (defArgs st) (defBody st) (defScope st) [] [] f fd
def d_Table___init__ : He.DefD := ⟨("Table", some "__init__"), "__init__", "Table.__init__", defArgs s_Table___init__, defBody s_Table___init__, defScope s_Table___init__, [], []⟩
def d_Table_put : He.DefD := ⟨("Table", some "put"), "put", "Table.put", defArgs s_Table_put, defBody s_Table_put, defScope s_Table_put, [], []⟩
def d_Table_matching : He.DefD := ⟨("Table", some "matching"), "matching", "Table.matching", defArgs s_Table_matching, defBody s_Table_matching, defScope s_Table_matching, [], []⟩
def fn : List He.DefD := ([d_enter, d_rank, d_row_rank, d_least_set, d_updated_set, d_names_in_bodies, d_completed, d_doubtful, d_tables_for, d_without, d_all_heads, d_heads_through, d_solutions, d_extensions, d_matched, d_filled, d__law_state, d__law_draw, d__law_one, d__law_argument, d__law_atom, d__law_variables, d__law_rule, d__law_set, d__law_turned] : List He.DefD) ++ ([d__law_instance, d__law_substitutions, d__law_holds, d__law_least, d__law_dicts, d_law, d_Table___init__, d_Table_put, d_Table_matching] : List He.DefD)
def fa : List He.Fa := ([.glo "enter", .glo "rank", .glo "row_rank", .glo "least_set", .glo "updated_set", .glo "names_in_bodies", .glo "completed", .glo "doubtful", .glo "tables_for", .glo "without", .glo "all_heads", .glo "heads_through", .glo "solutions", .glo "extensions", .glo "matched", .glo "filled", .glo "_law_state", .glo "_law_draw", .glo "_law_one", .glo "_law_argument", .glo "_law_atom", .glo "_law_variables", .glo "_law_rule", .glo "_law_set", .glo "_law_turned"] : List He.Fa) ++ ([.glo "_law_instance", .glo "_law_substitutions", .glo "_law_holds", .glo "_law_least", .glo "_law_dicts", .glo "law", .free "len", .free "range", .free "int", .free "abs", .free "isinstance", .free "tuple", .free "sorted", .free "repr", .free "list", .free "str", .free "dict", .free "enumerate", .free "zip", .glo "Table", .cls "Table", .noat "Table" "rows", .noat "Table" "indexes", .mkr "Table", .meth "Table" "put"] : List He.Fa) ++ ([.meth "Table" "matching"] : List He.Fa)
end KA
set_option Elab.async false
set_option linter.all false
set_option maxRecDepth 100000
set_option maxHeartbeats 4000000
/-! wrap, rank, row_rank, _law_key -/
namespace KA
open PySem PySem.Spec PyProof.Rows L2
open PySem.W (EachIs)
section
variable {P : Program} {w : World} {K : PySem.W.Frag} {mg : Str → Option Value} {base : Heap} {f : Addr} {fd : FuncData}
def wrapZ (n : Int) : Int := (n - (-2147483648)) % 4294967296 + (-2147483648)
def spWrap : Sp := fun vs H Q _ => ∃ n : Int, vs = [.int n] ∧ Q (.int (wrapZ n)) H
def spRank (K : PySem.W.Frag) : Sp := fun vs H Q _ => ∃ x : Key, vs = [kV x] ∧ ∀ v H', Same H H' → Tp K H' v (rankD x) → Q v H'
theorem ok_rank (F : FnP K "rank" s_rank f fd) (gI : mg "isinstance" = none) (gS : mg "str" = none) : FnOk P w K mg base CX0 1 f fd ["value"] (spRank K) := by
  refine F.ok sc_rank (fun vs H Q E h => ?_) (fun cdv A outer s H vs Q E hr h => ?_)
  · obtain ⟨n, rfl, _⟩ := h
    rfl
  · obtain ⟨x, rfl, q⟩ := h
    refine ⟨_, PSs.nox (pss_cons (ps_if (pt_val (pe_callB call_isi (by rfl) gI (by decide +kernel) (pa_cons (pv 0) (pa_cons (pe_bltn (v := .ty "str") (by rfl) gS (by decide +kernel) rfl) pa_nil)))) (pss_one (ps_ret (pe_tup (pa_cons pe_int (pa_cons (pv 0) pa_nil))))) pss_nil)
      (pss_one (ps_ret (pe_tup (pa_cons pe_int (pa_cons (pv 0) pa_nil)))))), ?_⟩
    cases x with
    | inl i =>
      refine ⟨_, rfl, _, _, .type "int", .type "str", false, rfl, .ty "str", .base (.int i), kit_ty (by decide +kernel), _, rfl, iteF ?_⟩
      exact ⟨_, rfl, (by show 2 ≤ sizeLine; decide), fun p hp => q _ _ (same_new hp) (.tup (sq_tups upd_same) (.cons (.int _) (.cons (.int _) .nil)))⟩
    | inr z =>
      refine ⟨_, rfl, _, _, .type "str", .type "str", true, rfl, .ty "str", .base (.str z), kit_ty (by decide +kernel), _, rfl, iteT ?_⟩
      exact ⟨_, rfl, (by show 2 ≤ sizeLine; decide), fun p hp => q _ _ (same_new hp) (.tup (sq_tups upd_same) (.cons (.int _) (.cons (.str _) .nil)))⟩
theorem ok_row_rank (F : FnP K "row_rank" s_row_rank f fd) (gT : mg "tuple" = none) (C : Cal P w K mg base "rank" 1 ["value"] (spRank K)) : FnOk P w K mg base CX0 2 f fd ["row"] (spKey K rankRow) := by
  refine F.ok sc_row_rank (fun vs H Q E h => ?_) (fun cdv A outer s H vs Q E hr h => ?_)
  · obtain ⟨n, r, rfl, _⟩ := h
    rfl
  · obtain ⟨a, r, rfl, hq, hl, q⟩ := h
    refine ⟨_, PSs.nox (pss_one (ps_ret (pe_callTy call_tuple_of (by rfl) gT (by decide +kernel) (pa_cons (pe_lc (own := [("value", 1)]) (g := gName 1) (tt := tYes) (by rfl) sc_row_rank.nd (pi_tup (pv 0))
      (blkOk_by (own := [("value", 1)]) (N := ["row", "value"]) (sc := defScope s_row_rank) (by decide +kernel)) (fun _ _ _ _ _ => pg_name (i := 1) sc_row_rank.nd rfl (Or.inl rfl)) (fun _ _ _ _ _ => pts_nil)
      (fun _ _ _ _ _ => pe_cal C hr (pa_cons (pv 1) pa_nil))) pa_nil)))), ?_⟩
    refine ⟨_, rfl, a, rfl, ⟨_, hq.sq⟩, fun D hD => ?_⟩
    refine lc_same (walk_tup (xs := r.map kV)) r (by rw [List.length_map]) (fun _ => true) (fun H v x => Tp K H v (rankD x)) (fun _ _ _ _ k z => Tp.tk k z) hD (fun H' s' => (hq.mono s').sq) (by rw [List.length_map]; omega) ?_ ?_
    · rintro i x b H1 _ hi hb s1 ⟨rfl, hx⟩ Q' Qn h1 _
      obtain ⟨b', hb', rfl⟩ := map_at hx
      obtain rfl : b = b' := Option.some.inj (hb.symm.trans hb')
      exact ⟨rfl, yes_in ⟨_, rfl, b, rfl, fun v H2 s2 d => h1 rfl v H2 s2 d⟩⟩
    · intro H1 acc s1 ha he
      rw [filter_true] at he
      refine ⟨D, acc, rfl, .inl ⟨sq_l ha, fun p hp => ?_⟩⟩
      have s2 : Same H1 (upd H1 p (.tup acc)) := same_new hp
      exact q _ _ (s1.trans s2) (.tup (sq_t upd_same) (each_dps (he.mono fun v x z => (Tp.tk s2.tk z).dp)))
/-- a row as a tuple, or its items in a list -/
def spLawKey (K : PySem.W.Frag) : Sp := fun vs H Q _ => ∃ (q : Addr) (r : Row), vs = [.ref q] ∧ (RowAt H q r ∨ H q = some (.lst (r.map kV))) ∧ r.length ≤ 1000 ∧ ∀ v H', Same H H' → Dp K H' v (lawRow r) → Q v H'
theorem law_item (x : Key) {H : Hp} {K : PySem.W.Frag} {σ : L2.St} {i : Nat} (hs : σ[i]? = some (some (kV x))) {Q : VK} (h : ∀ v H', Same H H' → Tp K H' v (lawD x) → Q v H') :
    tIf (tB (tCB (rIsi K) (tCons (tVar i) (tCons (tC (V.ty "int")) tNil)))) (tTup (tCons (tC (.int 0)) (tCons (tVar i) (tCons (tC (.str "")) tNil)))) (tTup (tCons (tC (.int 1)) (tCons (tC (.int 0)) (tCons (tVar i) tNil)))) σ H Q := by
  cases x with
  | inl n =>
    refine ⟨_, hs, _, _, .type "int", .type "int", true, rfl, .ty "int", .base (.int n), kit_ty (by decide +kernel), _, rfl, iteT ?_⟩
    exact ⟨_, hs, (by show 3 ≤ sizeLine; decide), fun p hp => h _ _ (same_new hp) (.tup (sq_tups upd_same) (.cons (.int _) (.cons (.int _) (.cons (.str _) .nil))))⟩
  | inr z =>
    refine ⟨_, hs, _, _, .type "str", .type "int", false, rfl, .ty "int", .base (.str z), kit_ty (by decide +kernel), _, rfl, iteF ?_⟩
    exact ⟨_, hs, (by show 3 ≤ sizeLine; decide), fun p hp => h _ _ (same_new hp) (.tup (sq_tups upd_same) (.cons (.int _) (.cons (.int _) (.cons (.str _) .nil))))⟩
end
end KA
set_option Elab.async false
set_option linter.all false
set_option maxRecDepth 100000
set_option maxHeartbeats 4000000
/-! scaled, rows_of, support, count_of -/
namespace KA
open PySem PySem.Spec PyProof.Rows L2
open PySem.W (EachIs)
/-- the pairs of a bag, as a comprehension or a loop meets them -/
theorem each_get {α β : Type} {R : α → β → Prop} : ∀ {as : List α} {bs : List β} {i : Nat} {x : α} {y : β}, EachIs R as bs → as[i]? = some x → bs[i]? = some y → R x y
  | _, _, _, _, _, .nil, h, _ => by simp at h
  | _, _, 0, _, _, .cons q t, h, g => by
    simp at h g
    subst h g
    exact q
  | _, _, i + 1, x, y, .cons q t, h, g => each_get (i := i) t (by simpa using h) (by simpa using g)
theorem ref_at {as : List Addr} {i : Nat} {v : V} (h : (as.map V.ref)[i]? = some v) : ∃ a, as[i]? = some a ∧ v = .ref a := map_at h
theorem each_map_r {α β γ : Type} {R : α → γ → Prop} (f : β → γ) : ∀ {as : List α} {bs : List β}, EachIs (fun a b => R a (f b)) as bs → EachIs R as (bs.map f)
  | _, _, .nil => .nil
  | _, _, .cons h t => .cons h (each_map_r f t)
abbrev gP2 (K : PySem.W.Frag) (i j : Nat) : TG := gTup K 2 (gCons (gName i) (gCons (gName j) gNil))
theorem gp2 {K : PySem.W.Frag} {i j : Nat} {t : Addr} {x y : V} {σ : L2.St} {H : Hp} {Q : L2.St → Hp → Prop} (hp : H t = some (.tup [x, y])) (h : Q ((σ.set i (some x)).set j (some y)) H) : gP2 K i j (.ref t) σ H Q :=
  ⟨t, _, rfl, sq_t hp, rfl, _, _, rfl, _, _, rfl, rfl, h⟩
theorem if_in {te : TE} {tt : TT} {c : Bool} {σ : L2.St} {H : Hp} {Q : VK} {Qn : Hp → Prop} (ht : ∀ Q : Bool → Hp → Prop, Q c H → tt σ H Q) (h1 : c = true → te σ H Q) (h2 : c = false → Qn H) : tt σ H fun c H3 => if c = true then te σ H3 Q else Qn H3 := by
  refine ht _ ?_
  cases c with
  | true => rw [if_pos rfl]; exact h1 rfl
  | false => rw [if_neg Bool.false_ne_true]; exact h2 rfl
section
variable {P : Program} {w : World} {K : PySem.W.Frag} {mg : Str → Option Value} {base : Heap} {f : Addr} {fd : FuncData}
def BdB (n : Nat) (b : Bag) : Prop := ∀ e ∈ b, e.2.natAbs ≤ n
theorem BdB.mono {n m : Nat} {b : Bag} (h : BdB n b) (hn : n ≤ m) : BdB m b := fun e he => Nat.le_trans (h e he) hn
/-- a pair made on the spot stands for an entry -/
theorem pair_new {H : Hp} {p q : Addr} {r : Row} {c : Int} (hp : H p = none) (hq : RowAt H q r) : PairAt (upd H p (.tup [.ref q, .int c])) p (r, c) := ⟨q, upd_same, hq.mono (same_new hp)⟩
def spScaled : Sp := fun vs H Q _ => ∃ (p : Addr) (b : Bag) (m : Int), vs = [.ref p, .int m] ∧ BagAt H p b ∧ b.length ≤ 1000 ∧ BdB (2 ^ 60) b ∧ ∀ q H', Same H H' → BagAt H' q (scaleB b m) → Q (.ref q) H'
def spRowsOf : Sp := fun vs H Q _ => ∃ (p : Addr) (b : Bag), vs = [.ref p] ∧ BagAt H p b ∧ b.length ≤ 1000 ∧ ∀ q H', Same H H' → RowsAt H' q (posRows b) → Q (.ref q) H'
/-- a list of rows gives the list of pairs of each row and 1 -/
def spSupport : Sp := fun vs H Q _ => ∃ (p : Addr) (b : Bag), vs = [.ref p] ∧ BagAt H p b ∧ b.length ≤ 1000 ∧ ∀ q H', Same H H' → BagAt H' q (onesB (posRows b)) → Q (.ref q) H'
def spCountOf : Sp := fun vs H Q _ => ∃ (p t : Addr) (b : Bag) (r : Row), vs = [.ref p, .ref t] ∧ BagAt H p b ∧ RowAt H t r ∧ b.length ≤ 1000 ∧ Q (.int (cntB b r)) H
theorem row_plain (r : Row) : (rowD r).plain = true := by
  show PyData.plainAll (r.map keyD) = true
  exact plain_map (fun x => by cases x <;> rfl) r
theorem row_depth (r : Row) : (rowD r).depth ≤ 3 := by
  have h := depth_map (enc := keyD) (fun x => by cases x <;> simp [keyD, PyData.depth]) r
  simp only [rowD, PyData.depth]
  omega
theorem eqv_rows : ∀ a b : Row, PyData.eqvAll (a.map keyD) (b.map keyD) = decide (a = b)
  | [], [] => by simp [PyData.eqvAll]
  | [], _ :: _ => by simp [PyData.eqvAll]
  | _ :: _, [] => by simp [PyData.eqvAll]
  | x :: a, y :: b => by
    rw [List.map_cons, List.map_cons, PySem.W.eqv_all_cons, eqv_key, eqv_rows a b]
    by_cases h : x = y
    · by_cases h2 : a = b <;> simp [h, h2]
    · simp [h]
theorem eqv_row (a b : Row) : PyData.eqv (rowD a) (rowD b) = decide (a = b) := by
  simp only [rowD, PyData.eqv]
  exact eqv_rows a b
theorem cntB_cons (e : Row × Int) (b : Bag) (r : Row) : cntB (e :: b) r = if e.1 = r then e.2 else cntB b r := by
  unfold cntB
  by_cases h : e.1 = r <;> simp [List.find?_cons, h]
theorem cnt_drop {b : Bag} {i : Nat} {e : Row × Int} (h : b[i]? = some e) (r : Row) : cntB (b.drop i) r = if e.1 = r then e.2 else cntB (b.drop (i + 1)) r := by
  obtain ⟨hi, he⟩ := List.getElem?_eq_some_iff.mp h
  rw [List.drop_eq_getElem_cons hi, he, cntB_cons]
end
end KA
set_option Elab.async false
set_option linter.all false
set_option maxRecDepth 100000
set_option maxHeartbeats 4000000
/-! _law_counts, make_bag, _law_canon, plus, minus, set_bag -/
namespace KA
open PySem PySem.Spec PyProof.Rows L2
open PySem.W (EachIs)
theorem tally_snoc (ps : Bag) (e : Row × Int) : tally (ps ++ [e]) = putI (tally ps) e.1 ((valI (tally ps) e.1).getD 0 + e.2) := by
  unfold tally
  rw [List.foldl_append]
  rfl
theorem bag_take {b : Bag} {i : Nat} {e : Row × Int} (h : b[i]? = some e) : b.take (i + 1) = b.take i ++ [e] := by
  rw [List.take_add_one, h]
  rfl
theorem vk_getD (m : Bag) (r : Row) : (valV (vk m) r).getD (.int 0) = .int ((valI m r).getD 0) := by
  rw [vk_val]
  cases valI m r <;> rfl
def tCount : TS := sDPut (tVar 1) (tVar 2) (tOp (rI0 fun i j => .int (i + j)) (tDGet2 (tVar 1) (tVar 2) (tC (.int 0))) (tVar 3))
/-- the loop that fills the dict of counts -/
theorem count_loop {K : PySem.W.Frag} {a d : Addr} {ps : Bag} {H H1 : Hp} (hb : BagAt H a ps) (hl : ps.length ≤ 20000) (s1 : Same H H1) (h0 : H d = none) (h1 : H1 d = some (.dT [])) (rest : L2.St) (u0 v0 : Option V) (D : Ends)
    (done : ∀ u v H', Same H H' → H' d = some (.dT (vk (tally ps))) → D.nx ([some (.ref a), some (.ref d), u, v] ++ rest) H') :
    ∃ W : Nat → Nat → L2.St → Hp → Prop, (∃ m, W 0 m ([some (.ref a), some (.ref d), u0, v0] ++ rest) H1) ∧ ∀ i m σ H, W i m σ H →
      ((Itl K a).stop i H ∧ D.nx σ H) ∨ ((Itl K a).go i H ∧ ∃ N : L2.St → Hp → Prop, (∀ σ' H', N σ' H' → ∃ m', m' < m ∧ W (i + 1) m' σ' H') ∧ ∀ x H', (Itl K a).yld i H x H' → gP2 K 2 3 x σ H' fun σ2 H2 => tCount { D with nx := N, ct := N, bk := D.nx } σ2 H2) := by
  obtain ⟨ts, b1, b2⟩ := id hb
  have hn : ps.length = ts.length := b2.length.symm
  refine for_it (walk_list (xs := ts.map V.ref)) (fun i σ H' => (∃ u v, σ = [some (.ref a), some (.ref d), u, v] ++ rest) ∧ Same H H' ∧ H' d = some (.dT (vk (tally (ps.take i))))) ⟨⟨_, _, rfl⟩, s1, h1⟩ (fun i σ H' _ z => sq_l (z.2.1 _ _ b1)) ?_ ?_
  · rintro i x σ H' _ hi ⟨⟨u, v, rfl⟩, s2, hd⟩ ⟨rfl, hx⟩
    obtain ⟨z, hz, rfl⟩ := ref_at hx
    have hib : i < ps.length := by rw [List.length_map] at hi; omega
    have he : ps[i]? = some ps[i] := List.getElem?_eq_getElem hib
    obtain ⟨qa, p1, p2⟩ := (each_get b2 hz he).mono s2
    refine gp2 p1 ⟨_, rfl, d, rfl, .inr ⟨_, .inl hd⟩, _, rfl, _, DGet.t hd p2, _, rfl, _, _, vk_getD _ _, rfl, ?_⟩
    have hlt : (vk (tally (ps.take i))).length < sizeLine := by
      rw [List.length_map]
      have q := tally_len (ps.take i)
      rw [List.length_take] at q
      exact Nat.lt_of_lt_of_le (show _ < 30000 by omega) (by decide)
    refine ⟨_, rfl, _, rfl, d, _, rfl, DPut.t hd p2 hlt, ⟨_, _, rfl⟩, same_mut s2 h0, ?_⟩
    rw [upd_same, vk_put, bag_take he, tally_snoc]
  · rintro σ H' ⟨⟨u, v, rfl⟩, s2, hd⟩
    rw [List.length_map, List.take_of_length_le (by omega)] at hd
    exact done u v H' s2 hd
section
variable {P : Program} {w : World} {K : PySem.W.Frag} {mg : Str → Option Value} {base : Heap} {f : Addr} {fd : FuncData}
def spCounts : Sp := fun vs H Q _ => ∃ (p : Addr) (b : Bag), vs = [.ref p] ∧ BagAt H p b ∧ b.length ≤ 20000 ∧ ∀ d H', Same H H' → H d = none → H' d = some (.dT (vk (tally b))) → Q (.ref d) H'
/-- the rows whose count is not 0, in a comprehension over the locked dict -/
theorem nz_filter (b : Bag) : ((tally b).filter fun e => decide (e.2 ≠ 0)).map (·.1) = nzRows b := by
  have key : ∀ m : Bag, (∀ e ∈ m, tot b e.1 = e.2) → (m.filter fun e => decide (e.2 ≠ 0)).map (·.1) = (m.map (·.1)).filter fun r => decide (tot b r ≠ 0) := by
    intro m
    induction m with
    | nil => intro _; rfl
    | cons e t ih =>
      intro h
      have he := h e List.mem_cons_self
      rw [List.map_cons]
      by_cases z : e.2 = 0
      · rw [List.filter_cons_of_neg (by simpa using z), List.filter_cons_of_neg (by rw [he]; simpa using z), ih fun x hx => h x (List.mem_cons_of_mem _ hx)]
      · rw [List.filter_cons_of_pos (by simpa using z), List.filter_cons_of_pos (by rw [he]; simpa using z), List.map_cons, ih fun x hx => h x (List.mem_cons_of_mem _ hx)]
  unfold nzRows
  exact key _ fun e he => by rw [← tally_tot, tot_in (tally_nodup b) he]
theorem vk_at {m : Bag} {i : Nat} {k : Row} {v : V} (h : (vk m)[i]? = some (k, v)) : ∃ e, m[i]? = some e ∧ k = e.1 ∧ v = .int e.2 := by
  rw [List.getElem?_map] at h
  cases q : m[i]? with
  | none => rw [q] at h; cases h
  | some e =>
    rw [q] at h
    have h' := Option.some.inj h
    injection h' with h1 h2
    exact ⟨e, rfl, h1.symm, h2.symm⟩
theorem val_in {m : Bag} (hn : (m.map (·.1)).Nodup) {e : Row × Int} (he : e ∈ m) : valV (vk m) e.1 = some (.int e.2) := by
  rw [vk_val]
  have h1 := valI_some he
  have h2 := valI_tot hn e.1
  rw [tot_in hn he] at h2
  cases q : valI m e.1 with
  | none => rw [q] at h1; cases h1
  | some c =>
    rw [q] at h2
    rw [show c = e.2 from h2]
    rfl
/-- what the comprehension over the locked dict makes; si, sr: the slots of the dict and of the row -/
theorem nz_comp {K : PySem.W.Frag} {si sr : Nat} {σ : L2.St} {d : Addr} {od : Obj} {b : Bag} {H : Hp} (hl : b.length ≤ 20000) (hd : H d = some (.frz od (.dT (vk (tally b))))) (hsr : sr < σ.length) (hne : si ≠ sr) (hσ : σ[si]? = some (some (.ref d))) {D : Addr} (hD : H D = none) {Qd : Hp → Prop}
    (done : ∀ H', Same H H' → RowsAt H' D (nzRows b) → Qd H') :
    ∃ W : Nat → Nat → Hp → Prop, (∃ m, W 0 m (upd H D (.lst []))) ∧ ∀ i m H, W i m H →
      ((Itkt d od (vk (tally b))).stop i H ∧ Qd H) ∨ ((Itkt d od (vk (tally b))).go i H ∧ ∃ Nx : Hp → Prop, (∀ H', Nx H' → ∃ m', m' < m ∧ W (i + 1) m' H') ∧ ∀ x H', (Itkt d od (vk (tally b))).yld i H x H' → gName sr x (wipe σ [sr]) H' fun σ2 H2 => wipe σ2 [sr] = wipe σ [sr] ∧
        tTest (tOp rNe (tDGet (tVar si) (tVar sr)) (tC (.int 0))) σ2 H2 fun b H3 => if b = true then tVar sr σ2 H3 fun y H4 => ∃ acc, H4 D = some (.lst acc) ∧ acc.length < sizeLine ∧ Nx (upd H4 D (.lst (acc ++ [y]))) else Nx H3) := by
  have hlen : (tally b).length ≤ 20000 := Nat.le_trans (tally_len b) hl
  refine lc_same walk_keysT (tally b) (by rw [List.length_map]) (fun e => decide (e.2 ≠ 0)) (fun H v e => ∃ t, v = .ref t ∧ RowAt H t e.1) (fun _ _ _ _ k ⟨t, e, z⟩ => ⟨t, e, z.tk k⟩) hD (fun H' s' => s' _ _ hd) (by rw [List.length_map]; omega) ?_ ?_
  · rintro i x e H1 _ hi he s1 ⟨rfl, k, v, t, hk, rfl, ht⟩ Q' Qn k1 k2
    obtain ⟨e', he', rfl, rfl⟩ := vk_at hk
    obtain rfl : e = e' := Option.some.inj (he.symm.trans he')
    have hd1 := s1 _ _ hd
    have w1 : wipe ((wipe σ [sr]).set sr (some (.ref t))) [sr] = wipe σ [sr] := by
      show (((σ.set sr none).set sr (some (.ref t))).set sr none) = σ.set sr none
      rw [List.set_set, List.set_set]
    have g1 : ((wipe σ [sr]).set sr (some (.ref t)))[si]? = some (some (.ref d)) := by
      show ((σ.set sr none).set sr (some (.ref t)))[si]? = _
      rw [List.getElem?_set_ne (fun z => hne z.symm), List.getElem?_set_ne (fun z => hne z.symm)]
      exact hσ
    have g2 : ((wipe σ [sr]).set sr (some (.ref t)))[sr]? = some (some (.ref t)) := by
      show ((σ.set sr none).set sr (some (.ref t)))[sr]? = _
      rw [List.getElem?_set_self (by rw [List.length_set]; exact hsr)]
    have hv := val_in (tally_nodup b) (List.mem_of_getElem? he)
    refine ⟨w1, if_in (c := decide (e.2 ≠ 0)) (fun Q z => ⟨_, g1, _, g2, d, .int e.2, rfl, .inr ⟨_, e.1, t, .inr ⟨_, hd1⟩, rfl, ht, hv.symm⟩, rfl, _, rfl, ?_⟩) (fun hc => ⟨_, g2, k1 hc _ _ (Same.refl _) ⟨t, rfl, ht⟩⟩) fun hc => k2 hc _ (Same.refl _)⟩
    have e2 : (!decide (V.int e.2 = V.int 0)) = decide (e.2 ≠ 0) := by
      by_cases z : e.2 = 0 <;> simp [z]
    rw [e2]
    exact z
  · intro H1 acc s1 ha he
    obtain ⟨as, rfl, hp⟩ := each_list (P := fun t (e : Row × Int) => RowAt H1 t e.1) (fun v e z => z) he
    refine done H1 s1 ⟨as, ha, ?_⟩
    rw [← nz_filter]
    exact each_map_r (R := RowAt H1) (fun e : Row × Int => e.1) hp
end
end KA
set_option Elab.async false
set_option linter.all false
set_option maxRecDepth 100000
set_option maxHeartbeats 4000000
/-! make_bag, _law_canon, plus, minus, set_bag -/
namespace KA
open PySem PySem.Spec PyProof.Rows L2
open PySem.W (EachIs)
theorem mem_sorted {l : List Row} {r : Row} (h : r ∈ sortRows l) : r ∈ l := (sortRows_perm l).mem_iff.mp h
theorem nz_in {b : Bag} {r : Row} (h : r ∈ nzRows b) : ∃ e ∈ tally b, e.1 = r ∧ e.2 = tot b r := by
  unfold nzRows at h
  obtain ⟨h1, h2⟩ := List.mem_filter.mp h
  obtain ⟨e, he, rfl⟩ := List.mem_map.mp h1
  exact ⟨e, he, rfl, by rw [← tot_in (tally_nodup b) he, tally_tot]⟩
theorem tally_rows {b : Bag} {e : Row × Int} (h : e ∈ tally b) : ∃ e' ∈ b, e'.1 = e.1 := by
  have key : ∀ (ps m : Bag) (r : Row), r ∈ (ps.foldl (fun m e => putI m e.1 ((valI m e.1).getD 0 + e.2)) m).map (·.1) → r ∈ m.map (·.1) ∨ r ∈ ps.map (·.1) := by
    intro ps
    induction ps with
    | nil => exact fun m r h => .inl h
    | cons x t ih =>
      intro m r h
      rw [List.foldl_cons] at h
      rcases ih _ _ h with q | q
      · rcases putI_keys m x.1 ((valI m x.1).getD 0 + x.2) with ⟨_, e⟩ | ⟨_, e⟩
        · rw [e] at q; exact .inl q
        · rw [e] at q
          rcases List.mem_append.mp q with q | q
          · exact .inl q
          · exact .inr (by rw [List.mem_singleton.mp q]; exact List.mem_map.mpr ⟨x, List.mem_cons_self, rfl⟩)
      · exact .inr (by
          obtain ⟨y, hy, e⟩ := List.mem_map.mp q
          exact List.mem_map.mpr ⟨y, List.mem_cons_of_mem _ hy, e⟩)
  rcases key b [] e.1 (List.mem_map.mpr ⟨e, h, rfl⟩) with q | q
  · cases q
  · obtain ⟨y, hy, z⟩ := List.mem_map.mp q
    exact ⟨y, hy, z⟩
def RowB (n : Nat) (b : Bag) : Prop := ∀ e ∈ b, e.1.length ≤ n
theorem nz_len {n : Nat} {b : Bag} (h : RowB n b) : ∀ r ∈ nzRows b, r.length ≤ n := fun r hr => by
  obtain ⟨e, he, rfl, _⟩ := nz_in hr
  obtain ⟨e', he', z⟩ := tally_rows he
  rw [← z]
  exact h e' he'
theorem each_sorted {R : Addr → Row → Prop} {l : List Row} {as : List Addr} (h : EachIs R as (sortRows l)) : as.length = l.length := by rw [h.length, (sortRows_perm l).length_eq]
/-- the comprehension that makes the pairs of the sorted rows -/
theorem pair_comp {K : PySem.W.Frag} {sd sr : Nat} {σ : L2.St} {p d : Addr} {b : Bag} {H : Hp} (hl : b.length ≤ 20000) (hp : RowsAt H p (sortRows (nzRows b))) (hd : H d = some (.dT (vk (tally b)))) (hsr : sr < σ.length) (hne : sd ≠ sr) (hσ : σ[sd]? = some (some (.ref d)))
    {D : Addr} (hD : H D = none) {Qd : Hp → Prop} (done : ∀ H', Same H H' → BagAt H' D (mk b) → Qd H') :
    ∃ W : Nat → Nat → Hp → Prop, (∃ m, W 0 m (upd H D (.lst []))) ∧ ∀ i m H, W i m H →
      ((Itl K p).stop i H ∧ Qd H) ∨ ((Itl K p).go i H ∧ ∃ Nx : Hp → Prop, (∀ H', Nx H' → ∃ m', m' < m ∧ W (i + 1) m' H') ∧ ∀ x H', (Itl K p).yld i H x H' → gName sr x (wipe σ [sr]) H' fun σ2 H2 => wipe σ2 [sr] = wipe σ [sr] ∧
        tYes σ2 H2 fun b H3 => if b = true then tTup (tCons (tVar sr) (tCons (tDGet (tVar sd) (tVar sr)) tNil)) σ2 H3 fun y H4 => ∃ acc, H4 D = some (.lst acc) ∧ acc.length < sizeLine ∧ Nx (upd H4 D (.lst (acc ++ [y]))) else Nx H3) := by
  obtain ⟨as, h1, h2⟩ := id hp
  have hlen : as.length ≤ 20000 := by
    rw [each_sorted h2]
    unfold nzRows
    refine Nat.le_trans (List.length_filter_le ..) ?_
    rw [List.length_map]
    exact Nat.le_trans (tally_len b) hl
  refine lc_same (walk_list (xs := as.map V.ref)) (sortRows (nzRows b)) (by rw [List.length_map, h2.length]) (fun _ => true) (fun H v r => ∃ t, v = .ref t ∧ PairAt H t (r, tot b r)) (fun _ _ _ _ k ⟨t, e, z⟩ => ⟨t, e, z.tk k⟩) hD (fun H' s' => sq_l (s' _ _ h1)) (by rw [List.length_map]; omega) ?_ ?_
  · rintro i x r H1 _ hi he s1 ⟨rfl, hx⟩ Q' Qn k1 _
    obtain ⟨t, ht, rfl⟩ := ref_at hx
    have p2 := (each_get h2 ht he).mono s1
    have hd1 := s1 _ _ hd
    have w1 : wipe ((wipe σ [sr]).set sr (some (.ref t))) [sr] = wipe σ [sr] := by
      show (((σ.set sr none).set sr (some (.ref t))).set sr none) = σ.set sr none
      rw [List.set_set, List.set_set]
    have g1 : ((wipe σ [sr]).set sr (some (.ref t)))[sd]? = some (some (.ref d)) := by
      show ((σ.set sr none).set sr (some (.ref t)))[sd]? = _
      rw [List.getElem?_set_ne (fun z => hne z.symm), List.getElem?_set_ne (fun z => hne z.symm)]
      exact hσ
    have g2 : ((wipe σ [sr]).set sr (some (.ref t)))[sr]? = some (some (.ref t)) := by
      show ((σ.set sr none).set sr (some (.ref t)))[sr]? = _
      rw [List.getElem?_set_self (by rw [List.length_set]; exact hsr)]
    obtain ⟨e, hm, rfl, hc⟩ := nz_in (mem_sorted (List.mem_of_getElem? he))
    have hv := val_in (tally_nodup b) hm
    refine ⟨w1, yes_in ⟨_, g2, _, g1, _, g2, d, .int e.2, rfl, .inr ⟨_, e.1, t, .inl hd1, rfl, p2, hv.symm⟩, (by show 2 ≤ sizeLine; decide), fun q hq => ?_⟩⟩
    rw [hc]
    exact k1 rfl _ _ (same_new hq) ⟨q, rfl, pair_new hq p2⟩
  · intro H1 acc s1 ha he
    rw [filter_true] at he
    obtain ⟨cs, rfl, hc⟩ := each_list (P := fun t (r : Row) => PairAt H1 t (r, tot b r)) (fun v e z => z) he
    exact done H1 s1 ⟨cs, ha, each_map_r (R := PairAt H1) (fun r : Row => (r, tot b r)) hc⟩
section
variable {P : Program} {w : World} {K : PySem.W.Frag} {mg : Str → Option Value} {base : Heap} {f : Addr} {fd : FuncData}
def spMakeBag : Sp := fun vs H Q _ => ∃ (p : Addr) (b : Bag), vs = [.ref p] ∧ BagAt H p b ∧ b.length ≤ 20000 ∧ RowB 1000 b ∧ ∀ q H', Same H H' → BagAt H' q (mk b) → Q (.ref q) H'
def spCanon : Sp := fun vs H Q _ => ∃ (d : Addr) (b : Bag), vs = [.ref d] ∧ H d = some (.dT (vk (tally b))) ∧ b.length ≤ 20000 ∧ RowB 1000 b ∧ ∀ q H', Same H H' → H q = none → BagAt H' q (mk b) → Q (.ref q) H'
theorem bag_app {H : Hp} {p : Addr} {ts us : List Addr} {a b : Bag} (hp : H p = some (.lst (ts.map V.ref ++ us.map V.ref))) (h1 : EachIs (PairAt H) ts a) (h2 : EachIs (PairAt H) us b) : BagAt H p (a ++ b) := by
  refine ⟨ts ++ us, by rw [List.map_append]; exact hp, ?_⟩
  clear hp
  induction h1 with
  | nil => exact h2
  | cons h t ih => exact .cons h ih
theorem RowB.app {n : Nat} {a b : Bag} (h1 : RowB n a) (h2 : RowB n b) : RowB n (a ++ b) := fun e he => (List.mem_append.mp he).elim (h1 e) (h2 e)
theorem BdB.app {n : Nat} {a b : Bag} (h1 : BdB n a) (h2 : BdB n b) : BdB n (a ++ b) := fun e he => (List.mem_append.mp he).elim (h1 e) (h2 e)
theorem rowB_scale {n : Nat} {b : Bag} (h : RowB n b) (m : Int) : RowB n (scaleB b m) := fun e he => by
  unfold scaleB at he
  split at he
  · cases he
  · obtain ⟨x, hx, rfl⟩ := List.mem_map.mp he
    exact h x hx
theorem len_scale (b : Bag) (m : Int) : (scaleB b m).length ≤ b.length := by
  unfold scaleB
  split
  · exact Nat.zero_le _
  · rw [List.length_map]; exact Nat.le_refl _
def spPlus : Sp := fun vs H Q _ => ∃ (p t : Addr) (a b : Bag), vs = [.ref p, .ref t] ∧ BagAt H p a ∧ BagAt H t b ∧ a.length ≤ 400 ∧ b.length ≤ 400 ∧ RowB 1000 a ∧ RowB 1000 b ∧ ∀ q H', Same H H' → BagAt H' q (mk (a ++ b)) → Q (.ref q) H'
theorem cat_in {ts us : List Addr} {a b : Bag} {H : Hp} (h1 : EachIs (PairAt H) ts a) (h2 : EachIs (PairAt H) us b) (la : a.length ≤ 400) (lb : b.length ≤ 400) : (ts.map V.ref).length ≤ sizeLine ∧ (us.map V.ref).length ≤ sizeLine ∧ (ts.map V.ref).length + (us.map V.ref).length ≤ sizeLine := by
  rw [List.length_map, List.length_map, h1.length, h2.length]
  refine ⟨?_, ?_, ?_⟩ <;> exact Nat.le_trans (show _ ≤ 800 by omega) (by decide)
def spMinus : Sp := fun vs H Q _ => ∃ (p t : Addr) (a b : Bag), vs = [.ref p, .ref t] ∧ BagAt H p a ∧ BagAt H t b ∧ a.length ≤ 400 ∧ b.length ≤ 400 ∧ RowB 1000 a ∧ RowB 1000 b ∧ BdB (2 ^ 60) b ∧ ∀ q H', Same H H' → BagAt H' q (mk (a ++ scaleB b (-1))) → Q (.ref q) H'
def spSetBag : Sp := fun vs H Q _ => ∃ (p : Addr) (rs : List Row), vs = [.ref p] ∧ RowsAt H p rs ∧ rs.length ≤ 1000 ∧ (∀ r ∈ rs, r.length ≤ 1000) ∧ ∀ q H', Same H H' → BagAt H' q (onesB (posRows (mk (onesB rs)))) → Q (.ref q) H'
end
end KA
set_option Elab.async false
set_option linter.all false
set_option maxRecDepth 100000
set_option maxHeartbeats 4000000
/-! the law's own draws: a state of two lists that each draw changes -/
namespace KA
open PySem PySem.Spec PyProof.Rows L2
open PySem.W (EachIs)
/-- the state at st: its cells at cl, its seed -/
structure StateAt (H : Hp) (st cl : Addr) (cells : List Int) (seed : Int) : Prop where
  hs : H st = some (.lst [.ref cl, .int seed])
  hc : H cl = some (.lst (cells.map V.int))
  lo : 0 ≤ seed
  hi : seed < 2147483648
  len : cells.length ≤ 63
  nn : ∀ c ∈ cells, 0 ≤ c
def StOk (H : Hp) (st cl : Addr) : Prop := ∃ cells seed, StateAt H st cl cells seed
theorem StateAt.ne {H : Hp} {st cl : Addr} {cells : List Int} {seed : Int} (S : StateAt H st cl cells seed) : st ≠ cl := fun e => by
  have h1 := S.hs
  have h2 := S.hc
  rw [e, h2] at h1
  have h3 : cells.map V.int = [V.ref cl, V.int seed] := by injection (Option.some.inj h1)
  cases cells with
  | nil => cases h3
  | cons c t => injection h3 with h4 _; cases h4
/-- what a draw leaves: all objects but the state's two, a state, no cells if there were none -/
structure Drawn (st cl : Addr) (H H' : Hp) : Prop where
  but : ∀ a o, a ≠ st → a ≠ cl → H a = some o → H' a = some o
  ok : StOk H' st cl
  nil : H cl = some (.lst []) → H' cl = some (.lst [])
theorem Drawn.trans {st cl : Addr} {H H1 H2 : Hp} (a : Drawn st cl H H1) (b : Drawn st cl H1 H2) : Drawn st cl H H2 := ⟨fun x o h1 h2 h => b.but x o h1 h2 (a.but x o h1 h2 h), b.ok, fun h => b.nil (a.nil h)⟩
theorem Drawn.refl {st cl : Addr} {H : Hp} (h : StOk H st cl) : Drawn st cl H H := ⟨fun _ _ _ _ h => h, h, fun h => h⟩
theorem StOk.same {H H' : Hp} {st cl : Addr} (s : Same H H') (h : StOk H st cl) : StOk H' st cl := by
  obtain ⟨c, z, S⟩ := h
  exact ⟨c, z, s _ _ S.hs, s _ _ S.hc, S.lo, S.hi, S.len, S.nn⟩
theorem Drawn.of_same {H H' : Hp} {st cl : Addr} (s : Same H H') (h : StOk H st cl) : Drawn st cl H H' := ⟨fun _ _ _ _ q => s _ _ q, h.same s, fun q => s _ _ q⟩
theorem Drawn.tk {st cl : Addr} {H H' : Hp} (d : Drawn st cl H H') (h : StOk H st cl) : TupKeep H H' := .of fun a xs q => by
  obtain ⟨c, z, S⟩ := h
  refine d.but a _ (fun e => ?_) (fun e => ?_) q
  · rw [e, S.hs] at q; cases q
  · rw [e, S.hc] at q; cases q
/-- a list of objects is not one of the state's two, or it is empty as those cells are -/
theorem Drawn.refs {st cl : Addr} {H H' : Hp} (d : Drawn st cl H H') (h : StOk H st cl) {p : Addr} {ts : List Addr} (q : H p = some (.lst (ts.map V.ref))) : H' p = some (.lst (ts.map V.ref)) := by
  obtain ⟨c, z, S⟩ := h
  by_cases e1 : p = st
  · rw [e1, S.hs] at q
    have q' : [V.ref cl, V.int z] = ts.map V.ref := by injection (Option.some.inj q)
    match ts, q' with
    | [], q' => cases q'
    | [_], q' => injection q' with _ q2; cases q2
    | _ :: _ :: _, q' =>
      injection q' with _ q2
      injection q2 with q3 _
      cases q3
  · by_cases e2 : p = cl
    · rw [e2, S.hc] at q
      have q' : c.map V.int = ts.map V.ref := by injection (Option.some.inj q)
      cases c with
      | nil =>
        cases ts with
        | nil => rw [e2]; exact d.nil S.hc
        | cons _ _ => cases q'
      | cons c t =>
        cases ts with
        | nil => cases q'
        | cons _ _ => injection q' with q3 _; cases q3
    · exact d.but p _ e1 e2 q
theorem BagAt.drawn {st cl : Addr} {H H' : Hp} (d : Drawn st cl H H') (h : StOk H st cl) {p : Addr} {b : Bag} (q : BagAt H p b) : BagAt H' p b := by
  obtain ⟨ts, h1, h2⟩ := q
  exact ⟨ts, d.refs h h1, h2.mono fun _ _ z => z.tk (d.tk h)⟩
theorem RowsAt.drawn {st cl : Addr} {H H' : Hp} (d : Drawn st cl H H') (h : StOk H st cl) {p : Addr} {b : List Row} (q : RowsAt H p b) : RowsAt H' p b := by
  obtain ⟨ts, h1, h2⟩ := q
  exact ⟨ts, d.refs h h1, h2.mono fun _ _ z => z.tk (d.tk h)⟩
section
variable {P : Program} {w : World} {K : PySem.W.Frag} {mg : Str → Option Value} {base : Heap} {f : Addr} {fd : FuncData}
def spState (K : PySem.W.Frag) : Sp := fun vs H Q _ => ∃ (a : Addr) (ns : List Int), vs = [.ref a] ∧ SqL K H a (ns.map V.int) ∧ ns.length ≤ 63 ∧ ∀ st cl H', Same H H' → StOk H' st cl → Q (.ref st) H'
theorem int_at {ns : List Int} {i : Nat} {v : V} (h : (ns.map V.int)[i]? = some v) : ∃ n, ns[i]? = some n ∧ v = .int n := map_at h
theorem ok_state (F : FnP K "_law_state" s__law_state f fd) (gI : mg "int" = none) (gA : mg "abs" = none) : FnOk P w K mg base CX0 1 f fd ["script"] (spState K) := by
  refine F.ok sc__law_state (fun vs H Q E h => ?_) (fun cdv A outer s H vs Q E hr h => ?_)
  · obtain ⟨n, r, rfl, _⟩ := h
    rfl
  · obtain ⟨a, ns, rfl, hS, hl, q⟩ := h
    refine ⟨_, PSs.nox (pss_cons (ps_set (i := 1) sc__law_state.nd rfl (Or.inl rfl) pe_int)
      (pss_cons (ps_for PassesOwn.never rfl (pi_list (pv 0)) (pg_name (i := 2) sc__law_state.nd rfl (Or.inl rfl))
        (pss_one (ps_set (i := 1) sc__law_state.nd rfl (Or.inl rfl) (pe_op op_mod (pe_callTy call_int1 (by rfl) gI (by decide +kernel) (pa_cons (pe_op op_add (pe_op op_mul (pv 1) pe_int) (pv 2)) pa_nil)) pe_int))))
      (pss_one (ps_ret (pe_lst (pa_cons (pe_lc (own := [("cell", 2)]) (g := gName 2) (tt := tYes) (by rfl) sc__law_state.nd (pi_list (pv 0))
        (blkOk_by (own := [("cell", 2)]) (N := ["script", "seed", "cell"]) (sc := defScope s__law_state) (by decide +kernel)) (fun _ _ _ _ _ => pg_name (i := 2) sc__law_state.nd rfl (Or.inl rfl)) (fun _ _ _ _ _ => pts_nil)
        (fun _ _ _ _ _ => pe_callB (id := "abs") (r := fun xs H Q => ∃ i, xs = [.int i] ∧ Q (.int (if i < 0 then -i else i)) H) call_abs (by rfl) gA (by decide +kernel) (pa_cons (pv 2) pa_nil))) (pa_cons (pe_op op_add (pv 1) pe_int) pa_nil))))))), ?_⟩
    refine ⟨_, rfl, a, rfl, ⟨_, hS⟩, for_it (walk_list (xs := ns.map V.int)) (fun i σ H' => H' = H ∧ ∃ z v, σ = [some (.ref a), some (.int z), v] ∧ 0 ≤ z ∧ z < 1000003) ⟨rfl, 11, none, rfl, by decide, by decide⟩ (fun i σ H' _ z => by rw [z.1]; exact hS) ?_ ?_⟩
    · rintro i x σ H' _ hi ⟨rfl, z, v, rfl, z0, z1⟩ ⟨rfl, hx⟩
      obtain ⟨n, hn, rfl⟩ := int_at hx
      refine ⟨_, rfl, _, _, rfl, rfl, .inl ⟨by omega, by omega⟩, _, rfl, _, _, rfl, rfl, .inl ⟨_, rfl, _, _, rfl, rfl, (by show (0 : Int) < 1000003; decide), ?_⟩⟩
      exact ⟨rfl, _, _, rfl, Int.emod_nonneg _ (by decide), Int.emod_lt_of_pos _ (by decide)⟩
    · rintro σ H' ⟨rfl, z, v, rfl, z0, z1⟩
      refine ⟨_, rfl, a, rfl, ⟨_, hS⟩, fun D hD => ?_⟩
      refine lc_same (walk_list (xs := ns.map V.int)) ns (by rw [List.length_map]) (fun _ => true) (fun _ v n => ∃ m : Int, v = .int m ∧ 0 ≤ m) (fun _ _ _ _ _ z => z) hD (fun H' s' => s'.seq hS) (by rw [List.length_map]; omega) ?_ ?_
      · rintro i x n H1 _ hi hn s1 ⟨rfl, hx⟩ Q' Qn k1 _
        obtain ⟨n', hn', rfl⟩ := int_at hx
        refine ⟨rfl, yes_in ⟨_, rfl, _, rfl, k1 rfl _ _ (Same.refl _) ⟨_, rfl, ?_⟩⟩⟩
        split <;> omega
      · intro H1 acc s1 ha he
        rw [filter_true] at he
        obtain ⟨ms, rfl, hms, hml⟩ : ∃ ms : List Int, acc = ms.map V.int ∧ (∀ c ∈ ms, 0 ≤ c) ∧ ms.length = ns.length := by
          clear ha hl hS
          induction he with
          | nil => exact ⟨[], rfl, fun c hc => (List.not_mem_nil hc).elim, rfl⟩
          | cons h t ih =>
            obtain ⟨m, rfl, hm⟩ := h
            obtain ⟨ms, rfl, h1, h2⟩ := ih
            exact ⟨m :: ms, rfl, fun c hc => (List.mem_cons.mp hc).elim (fun e => by rw [e]; exact hm) (h1 c), by simp [h2]⟩
        refine ⟨_, rfl, _, _, rfl, rfl, (by show 2 ≤ sizeLine; decide), fun p hp => ?_⟩
        have nDp : D ≠ p := ne_of_none ha hp
        exact q p D _ (s1.trans (same_new hp)) ⟨ms, z + 1, upd_same, by rw [upd_ne nDp]; exact ha, by omega, by omega, by omega, hms⟩
def spDraw : Sp := fun vs H Q _ => ∃ (st cl : Addr) (m : Int), vs = [.ref st, .int m] ∧ StOk H st cl ∧ 0 < m ∧ m < 2 ^ 40 ∧ ∀ v H', Drawn st cl H H' → 0 ≤ v → v < m → Q (.int v) H'
theorem at0 {c : Int} {t : List Int} : atI ((c :: t).map V.int) 0 = some (.int c) := atI_nat (j := 0) rfl
theorem ixN0 {n : Nat} (h : 0 < n) : ixN n 0 = some 0 := by
  unfold ixN
  rw [if_pos (by decide), if_pos (by omega)]
  rfl
theorem seqIx0 {n : Nat} (h : 0 < n) : seqIndex? 0 n = some 0 := (ixN_seq (ixN0 h)).1
theorem ok_draw (F : FnP K "_law_draw" s__law_draw f fd) (gI : mg "int" = none) (gL : mg "len" = none) (gR : mg "range" = none) : FnOk P w K mg base CX0 1 f fd ["state", "many"] spDraw := by
  refine F.ok sc__law_draw (fun vs H Q E h => ?_) (fun cdv A outer s H vs Q E hr h => ?_)
  · obtain ⟨n, r, m, rfl, _⟩ := h
    rfl
  · obtain ⟨st, cl, m, rfl, hS, m0, m1, q⟩ := h
    refine ⟨_, PSs.nox (pss_cons (ps_set (i := 2) sc__law_draw.nd rfl (Or.inl rfl) (pe_ix ix_list (pv 0) pe_int (fun _ _ => rfl)))
      (pss_cons (ps_for PassesOwn.never rfl (pi_range1 rfl gR (pa_cons (pe_callB call_len_seq (by rfl) gL PySem.boot_len (pa_cons (pv 2) pa_nil)) pa_nil)) (pg_name (i := 3) sc__law_draw.nd rfl (Or.inl rfl))
        (pss_one (ps_if (PW.pt (pw_and (pt_cmpR op_eq (pe_ix ix_list (pv 2) pe_int (fun _ _ => rfl)) pe_int (nomark _)) (pw_and1 (pt_cmpR op_gt (pe_callB call_len_seq (by rfl) gL PySem.boot_len (pa_cons (pv 2) pa_nil)) pe_int (nomark _)))))
          (pss_one (ps_expr (pe_bm PySem.F.plainAttrs_list PySem.F.slot_list_pop PySem.F.type_list_pop mt_popAt (pv 2) (pa_cons pe_int pa_nil)))) pss_nil)))
      (pss_cons (ps_if (PW.pt (pw_and (pt_cmpR op_gt (pe_callB call_len_seq (by rfl) gL PySem.boot_len (pa_cons (pv 2) pa_nil)) pe_int (nomark _)) (pw_and1 (pt_cmpR op_gt (pe_ix ix_list (pv 2) pe_int (fun _ _ => rfl)) pe_int (nomark _)))))
          (pss_cons (ps_set (i := 4) sc__law_draw.nd rfl (Or.inl rfl) (pe_ix ix_list (pv 2) pe_int (fun _ _ => rfl)))
            (pss_cons (ps_asg (pe_op op_fdivW (pv 4) (pv 1)) (pg_sub (pv 2) pe_int set_list (fun _ => rfl)))
            (pss_one (ps_ret (pe_op op_mod (pe_callTy call_int1 (by rfl) gI (by decide +kernel) (pa_cons (pv 4) pa_nil)) (pv 1)))))) pss_nil)
      (pss_cons (ps_set (i := 5) sc__law_draw.nd rfl (Or.inl rfl) (pe_op op_mod (pe_callTy call_int1 (by rfl) gI (by decide +kernel) (pa_cons (pe_op op_add (pe_op op_mul (pe_ix ix_list (pv 0) pe_int (fun _ _ => rfl)) pe_int) pe_int) pa_nil)) pe_int))
      (pss_cons (ps_asg (pv 5) (pg_sub (pv 0) pe_int set_list (fun _ => rfl)))
      (pss_one (ps_ret (pe_op op_mod (pe_callTy call_int1 (by rfl) gI (by decide +kernel) (pa_cons (pe_op op_fdiv (pv 5) pe_int) pa_nil)) (pv 1))))))))), ?_⟩
    obtain ⟨cells, seed, S⟩ := id hS
    have ne := S.ne
    refine ⟨_, rfl, st, _, 0, .ref cl, rfl, rfl, sq_l S.hs, atI_nat (j := 0) rfl, ?_⟩
    refine ⟨_, rfl, cl, _, rfl, .inl (sq_l S.hc), _, rfl, by omega, by rw [List.length_map]; have := S.len; omega, ?_⟩
    rw [List.length_map, Int.toNat_natCast]
    -- behind the loop, whatever was popped
    refine for_it walk_range (fun i σ H' => ∃ k cs, σ = [some (.ref st), some (.int m), some (.ref cl), k, none, none] ∧ StateAt H' st cl cs seed ∧ (∀ a, a ≠ cl → H' a = H a) ∧ (cells = [] ↔ cs = [])) ⟨none, cells, rfl, S, fun _ _ => rfl, Iff.rfl⟩ (fun _ _ _ _ _ => trivial) ?_ ?_
    · rintro i x σ H' _ hi ⟨k, cs, rfl, S1, ot, nl⟩ ⟨rfl, rfl⟩
      have hne : cells ≠ [] := fun z => by rw [z] at hi; exact absurd hi (by simp)
      obtain ⟨c, t, rfl⟩ : ∃ c t, cs = c :: t := by
        cases cs with
        | nil => exact absurd (nl.mpr rfl) hne
        | cons c t => exact ⟨c, t, rfl⟩
      refine ⟨_, rfl, cl, _, 0, .int c, rfl, rfl, sq_l S1.hc, at0, rfl, _, rfl, ?_⟩
      by_cases hc : c = 0
      · rw [decide_eq_true (by rw [hc])]
        refine iteT ⟨_, rfl, cl, _, rfl, .inl (sq_l S1.hc), _, _, rfl, rfl, _, rfl, ?_⟩
        rw [List.length_map]
        by_cases hl : ((1 : Int) < ((c :: t).length : Nat))
        · rw [decide_eq_true hl]
          refine iteT ⟨_, rfl, .inl ⟨rfl, _, .inl (.inl S1.hc)⟩, cl, _, 0, 0, .int c, rfl, rfl, S1.hc, by decide, by decide, seqIx0 (by rw [List.length_map]; simp), rfl, ?_⟩
          have h2 : 0 < t.length := by
            simp only [List.length_cons] at hl
            omega
          refine ⟨_, t, rfl, ⟨by rw [upd_ne ne]; exact S1.hs, upd_same, S1.lo, S1.hi, ?_, fun z hz => S1.nn z (List.mem_cons_of_mem _ hz)⟩, fun a ha => by rw [upd_ne ha]; exact ot a ha, ?_⟩
          · have h3 := S1.len
            simp only [List.length_cons] at h3
            omega
          · exact ⟨fun z => absurd z hne, fun z => by rw [z] at h2; exact absurd h2 (by simp)⟩
        · rw [decide_eq_false hl]
          exact iteF ⟨_, _, rfl, S1, ot, nl⟩
      · rw [decide_eq_false fun z => hc (by injection z)]
        exact iteF (iteF ⟨_, _, rfl, S1, ot, nl⟩)
    · rintro σ H' ⟨k, cs, rfl, S1, ot, nl⟩
      have but : ∀ H2 : Hp, (∀ a, a ≠ cl → a ≠ st → H2 a = H' a) → ∀ a o, a ≠ st → a ≠ cl → H a = some o → H2 a = some o := fun H2 h a o h1 h2 h3 => by rw [h a h2 h1, ot a h2]; exact h3
      refine ⟨_, rfl, cl, _, rfl, .inl (sq_l S1.hc), _, _, rfl, rfl, _, rfl, ?_⟩
      rw [List.length_map]
      by_cases hl : (0 : Int) < (cs.length : Nat)
      · rw [decide_eq_true hl]
        obtain ⟨c, t, rfl⟩ : ∃ c t, cs = c :: t := by
          cases cs with
          | nil => exact absurd hl (by simp)
          | cons c t => exact ⟨c, t, rfl⟩
        refine iteT ⟨_, rfl, cl, _, 0, .int c, rfl, rfl, sq_l S1.hc, at0, _, _, rfl, rfl, _, rfl, ?_⟩
        have c0 : 0 ≤ c := S1.nn c List.mem_cons_self
        by_cases hc : (0 : Int) < c
        · rw [decide_eq_true hc]
          refine iteT ⟨_, rfl, cl, _, 0, .int c, rfl, rfl, sq_l S1.hc, at0, ?_⟩
          refine ⟨_, rfl, _, rfl, _, _, rfl, rfl, wide_div m0 (b := 40) (by omega) (by decide) (by decide), ?_⟩
          refine ⟨_, rfl, cl, _, 0, 0, rfl, rfl, S1.hc, ixN0 (by rw [List.length_map]; simp), ?_⟩
          refine ⟨_, rfl, .inl ⟨_, rfl, _, rfl, _, _, rfl, rfl, m0, ?_⟩⟩
          refine q _ _ ⟨but _ fun a h1 h2 => upd_ne h1, ⟨c / m :: t, seed, by rw [upd_ne ne]; exact S1.hs, upd_same, S1.lo, S1.hi, S1.len, fun z hz => ?_⟩, fun z => ?_⟩ (Int.emod_nonneg _ (by omega)) (Int.emod_lt_of_pos _ m0)
          · rcases List.mem_cons.mp hz with e | e
            · rw [e]; exact Int.ediv_nonneg c0 (by omega)
            · exact S1.nn z (List.mem_cons_of_mem _ e)
          · rw [S.hc] at z
            have z' : cells.map V.int = [] := by injection (Option.some.inj z)
            exact absurd (nl.mp (List.map_eq_nil_iff.mp z')) (by simp)
        · rw [decide_eq_false hc]
          refine iteF ?_
          have lo0 := S1.lo
          have hi0 := S1.hi
          refine ⟨_, rfl, st, _, 1, .int seed, rfl, rfl, sq_l S1.hs, atI_nat (j := 1) rfl, _, _, rfl, rfl, .inl ⟨by omega, by omega⟩, _, _, rfl, rfl, .inl ⟨_, rfl, _, _, rfl, rfl, (by show (0 : Int) < 2147483647; decide), ?_⟩⟩
          refine ⟨_, rfl, _, rfl, st, _, 1, 1, rfl, rfl, S1.hs, rfl, ?_⟩
          refine ⟨_, rfl, _, _, rfl, rfl, ⟨by decide, by decide⟩, .inl ⟨_, rfl, _, rfl, _, _, rfl, rfl, m0, ?_⟩⟩
          have lo := S1.lo
          have hi := S1.hi
          refine q _ _ ⟨but _ fun a h1 h2 => upd_ne h2, ⟨c :: t, _, upd_same, by rw [upd_ne ne.symm]; exact S1.hc, Int.emod_nonneg _ (by decide), Int.lt_trans (Int.emod_lt_of_pos _ (by decide)) (by decide), S1.len, S1.nn⟩, fun z => ?_⟩ (Int.emod_nonneg _ (by omega)) (Int.emod_lt_of_pos _ m0)
          rw [upd_ne ne.symm]
          rw [S.hc] at z
          have z' : cells.map V.int = [] := by injection (Option.some.inj z)
          rw [S1.hc, nl.mp (List.map_eq_nil_iff.mp z')]
          rfl
      · rw [decide_eq_false hl]
        refine iteF (iteF ?_)
        have lo0 := S1.lo
        have hi0 := S1.hi
        refine ⟨_, rfl, st, _, 1, .int seed, rfl, rfl, sq_l S1.hs, atI_nat (j := 1) rfl, _, _, rfl, rfl, .inl ⟨by omega, by omega⟩, _, _, rfl, rfl, .inl ⟨_, rfl, _, _, rfl, rfl, (by show (0 : Int) < 2147483647; decide), ?_⟩⟩
        refine ⟨_, rfl, _, rfl, st, _, 1, 1, rfl, rfl, S1.hs, rfl, ?_⟩
        refine ⟨_, rfl, _, _, rfl, rfl, ⟨by decide, by decide⟩, .inl ⟨_, rfl, _, rfl, _, _, rfl, rfl, m0, ?_⟩⟩
        have lo := S1.lo
        have hi := S1.hi
        refine q _ _ ⟨but _ fun a h1 h2 => upd_ne h2, ⟨cs, _, upd_same, by rw [upd_ne ne.symm]; exact S1.hc, Int.emod_nonneg _ (by decide), Int.lt_trans (Int.emod_lt_of_pos _ (by decide)) (by decide), S1.len, S1.nn⟩, fun z => ?_⟩ (Int.emod_nonneg _ (by omega)) (Int.emod_lt_of_pos _ m0)
        rw [upd_ne ne.symm]
        rw [S.hc] at z
        have z' : cells.map V.int = [] := by injection (Option.some.inj z)
        rw [S1.hc, nl.mp (List.map_eq_nil_iff.mp z')]
        rfl
end
end KA
set_option Elab.async false
set_option linter.all false
set_option maxRecDepth 100000
set_option maxHeartbeats 4000000
/-! data in the heap, heaps that change at one place -/
namespace KA
open PySem PySem.Spec PyProof.Rows L2 LamX
open PySem.W (EachIs)
/-- values that stand in rows -/
def VOk : Key → Prop
  | .inl i => i.natAbs ≤ 2 ^ 33
  | .inr x => x.length ≤ 40
def RowV (r : Row) : Prop := r.length ≤ 1000 ∧ ∀ x ∈ r, VOk x
theorem Drawn.upd_fresh {st cl : Addr} {H1 H' : Hp} {D : Addr} (hD : H1 D = none) (Dst : D ≠ st) (Dcl : D ≠ cl) (d : Drawn st cl H1 H') (o : HO) : Drawn st cl H1 (upd H' D o) := by
  refine ⟨fun a x h1 h2 h3 => ?_, ?_, fun z => ?_⟩
  · rw [upd_ne (ne_of_none h3 hD)]
    exact d.but a x h1 h2 h3
  · obtain ⟨c, z, S⟩ := d.ok
    exact ⟨c, z, by rw [upd_ne Dst.symm]; exact S.hs, by rw [upd_ne Dcl.symm]; exact S.hc, S.lo, S.hi, S.len, S.nn⟩
  · rw [upd_ne Dcl.symm]
    exact d.nil z
/-- what was new before a draw is new before all -/
theorem Drawn.free {st cl : Addr} {H H' : Hp} (d : Drawn st cl H H') {p : Addr} (h : H' p = none) : H p = none := by
  cases e : H p with
  | none => rfl
  | some o =>
    exfalso
    obtain ⟨c, z, S⟩ := d.ok
    have h1 : p ≠ st := fun e => by rw [e, S.hs] at h; cases h
    have h2 : p ≠ cl := fun e => by rw [e, S.hc] at h; cases h
    rw [d.but p o h1 h2 e] at h
    cases h
theorem sqT_mono {K : PySem.W.Frag} {H H' : Hp} (s : Same H H') {a : Addr} {xs : List V} (h : SqT K H a xs) : SqT K H' a xs := by
  rcases h with (h | ⟨o, h⟩) | h
  · exact .inl (.inl (s _ _ h))
  · exact .inl (.inr ⟨o, s _ _ h⟩)
  · exact .inr h
theorem dp_keyV {K : PySem.W.Frag} {H : Hp} {v : V} : ∀ {x : Key}, Dp K H v (keyD x) → v = kV x
  | .inl i, h => by cases h; rfl
  | .inr z, h => by cases h; rfl
theorem sqL_mono {K : PySem.W.Frag} {H H' : Hp} (s : Same H H') {a : Addr} {xs : List V} (h : SqL K H a xs) : SqL K H' a xs := s.seq h
theorem DpAll.mono {K : PySem.W.Frag} {H H' : Hp} (s : Same H H') {ds : List PyData} {vs : List V} (h : DpAll K H vs ds) : DpAll K H' vs ds := DpAll.monoD (Same.d s) ds vs h
theorem dpAll_len {K : PySem.W.Frag} {H : Hp} : ∀ {vs : List V} {ds : List PyData}, DpAll K H vs ds → vs.length = ds.length
  | _, _, .nil => rfl
  | _, _, .cons _ t => by simp [dpAll_len t]
theorem dpAll_get {K : PySem.W.Frag} {H : Hp} : ∀ {vs : List V} {ds : List PyData} {i : Nat} {v : V} {d : PyData}, DpAll K H vs ds → vs[i]? = some v → ds[i]? = some d → Dp K H v d
  | _, _, _, _, _, .nil, h, _ => by simp at h
  | _, _, 0, _, _, .cons q t, h, g => by
    simp at h g
    subst h g
    exact q
  | _, _, i + 1, _, _, .cons q t, h, g => dpAll_get (i := i) t (by simpa using h) (by simpa using g)
/-! ### tuples, and lists of objects alone -/
def isRefs : List V → Bool
  | [] => true
  | .ref _ :: t => isRefs t
  | _ :: _ => false
theorem isRefs_map : ∀ ts : List Addr, isRefs (ts.map V.ref) = true
  | [] => rfl
  | _ :: t => isRefs_map t
theorem isRefs_is : ∀ {xs : List V}, isRefs xs = true → ∃ ts : List Addr, xs = ts.map V.ref
  | [], _ => ⟨[], rfl⟩
  | .ref a :: t, h => by
    obtain ⟨ts, rfl⟩ := isRefs_is (xs := t) h
    exact ⟨a :: ts, rfl⟩
  | .non :: _, h => by cases h
  | .bl _ :: _, h => by cases h
  | .int _ :: _, h => by cases h
  | .str _ :: _, h => by cases h
  | .byt _ :: _, h => by cases h
  | .ty _ :: _, h => by cases h
  | .flt _ :: _, h => by cases h
def frm (H : Hp) : Hp := fun a => match H a with
  | some (.tup xs) => some (.tup xs)
  | some (.lst xs) => if isRefs xs = true then some (.lst xs) else none
  | _ => none
theorem frm_tup {H : Hp} {a : Addr} {xs : List V} (h : H a = some (.tup xs)) : frm H a = some (.tup xs) := by
  unfold frm
  rw [h]
theorem frm_lst {H : Hp} {a : Addr} {ts : List Addr} (h : H a = some (.lst (ts.map V.ref))) : frm H a = some (.lst (ts.map V.ref)) := by
  unfold frm
  rw [h]
  exact if_pos (isRefs_map ts)
theorem frm_is {H : Hp} {a : Addr} {o : HO} (h : frm H a = some o) : (∃ xs, o = .tup xs ∧ H a = some (.tup xs)) ∨ ∃ ts : List Addr, o = .lst (ts.map V.ref) ∧ H a = some (.lst (ts.map V.ref)) := by
  unfold frm at h
  split at h
  · rename_i xs e
    exact .inl ⟨xs, (Option.some.inj h).symm, e⟩
  · rename_i xs e
    split at h
    · rename_i q
      obtain ⟨ts, rfl⟩ := isRefs_is q
      exact .inr ⟨ts, (Option.some.inj h).symm, e⟩
    · cases h
  · cases h
theorem frm_sub (H : Hp) : Same (frm H) H := fun a o h => by
  rcases frm_is h with ⟨xs, rfl, e⟩ | ⟨ts, rfl, e⟩
  · exact e
  · exact e
theorem tups_frm (H : Hp) : Same (tups H) (frm H) := fun a o h => by
  obtain ⟨xs, rfl, e⟩ := tups_is h
  exact frm_tup e
theorem Same.frm {H H' : Hp} (s : Same H H') : Same (KA.frm H) (KA.frm H') := fun a o h => by
  rcases frm_is h with ⟨xs, rfl, e⟩ | ⟨ts, rfl, e⟩
  · exact frm_tup (s _ _ e)
  · exact frm_lst (s _ _ e)
theorem Drawn.frm {st cl : Addr} {H H' : Hp} (d : Drawn st cl H H') (h : StOk H st cl) : Same (KA.frm H) (KA.frm H') := fun a o q => by
  rcases frm_is q with ⟨xs, rfl, e⟩ | ⟨ts, rfl, e⟩
  · exact frm_tup ((d.tk h).at e)
  · exact frm_lst (d.refs h e)
/-- data of tuples and lists of objects -/
def Fd (K : PySem.W.Frag) (H : Hp) (v : V) (d : PyData) : Prop := Dp K (frm H) v d
theorem Fd.dp {K : PySem.W.Frag} {H : Hp} {v : V} {d : PyData} (h : Fd K H v d) : Dp K H v d := Dp.mono (frm_sub H) h
theorem Fd.same {K : PySem.W.Frag} {H H' : Hp} (s : Same H H') {v : V} {d : PyData} (h : Fd K H v d) : Fd K H' v d := Dp.mono (Same.frm s) h
theorem Fd.drawn {K : PySem.W.Frag} {st cl : Addr} {H H' : Hp} (e : Drawn st cl H H') (ok : StOk H st cl) {v : V} {d : PyData} (h : Fd K H v d) : Fd K H' v d := Dp.mono (e.frm ok) h
theorem Tp.fd {K : PySem.W.Frag} {H : Hp} {v : V} {d : PyData} (h : Tp K H v d) : Fd K H v d := Dp.mono (tups_frm H) h
theorem BagAt.fd {K : PySem.W.Frag} {H : Hp} {p : Addr} {b : Bag} (h : BagAt H p b) : Fd K H (.ref p) (bagD b) := by
  obtain ⟨ts, h1, h2⟩ := h
  exact dp_bag ⟨ts, frm_lst h1, h2.mono fun _ _ ⟨q, p1, p2⟩ => ⟨q, frm_tup p1, frm_tup p2⟩⟩
theorem sqt_frm {K : PySem.W.Frag} {H : Hp} {a : Addr} {xs : List V} (h : H a = some (.tup xs)) : SqT K (frm H) a xs := .inl (.inl (frm_tup h))
/-- X: a part of the heap, of tuples and lists of objects that were made at the run -/
abbrev Sub (X H : Hp) : Prop := Same X (frm H)
theorem rd_sub {X H : Hp} (sub : Sub X H) {a : Addr} {u : HO} (h : Rd X a u) : X a = some u := by
  rcases h with h | ⟨o, h⟩
  · exact h
  · rcases frm_is (sub _ _ h) with ⟨xs, e, _⟩ | ⟨ts, e, _⟩ <;> cases e
theorem dx_tup {X H : Hp} (sub : Sub X H) {v : V} {ds : List PyData} (h : Dp [] X v (.tuple ds)) : ∃ a vs, v = .ref a ∧ X a = some (.tup vs) ∧ H a = some (.tup vs) ∧ DpAll [] X vs ds := by
  cases h with
  | tup hs ha =>
    rcases hs with hs | ⟨_, _, _, z, _⟩
    · exact ⟨_, _, rfl, rd_sub sub hs, frm_sub H _ _ (sub _ _ (rd_sub sub hs)), ha⟩
    · cases z
theorem dx_lst {X H : Hp} (sub : Sub X H) {v : V} {ds : List PyData} (h : Dp [] X v (.list ds)) : ∃ (a : Addr) (ts : List Addr), v = .ref a ∧ X a = some (.lst (ts.map V.ref)) ∧ H a = some (.lst (ts.map V.ref)) ∧ DpAll [] X (ts.map V.ref) ds := by
  cases h with
  | lst hs ha =>
    rcases hs with hs | ⟨_, _, _, z, _⟩
    · have hx := rd_sub sub hs
      rcases frm_is (sub _ _ hx) with ⟨xs, e, _⟩ | ⟨ts, e, e2⟩
      · cases e
      · injection e with e3
        subst e3
        exact ⟨_, ts, rfl, hx, e2, ha⟩
    · cases z
theorem dp_strV {K : PySem.W.Frag} {H : Hp} {v : V} {x : Str} (h : Dp K H v (.str x)) : v = .str x := by cases h; rfl
theorem dp_intV {K : PySem.W.Frag} {H : Hp} {v : V} {x : Int} (h : Dp K H v (.int x)) : v = .int x := by cases h; rfl
theorem dpa_cons {K : PySem.W.Frag} {H : Hp} {vs : List V} {d : PyData} {ds : List PyData} (h : DpAll K H vs (d :: ds)) : ∃ v r, vs = v :: r ∧ Dp K H v d ∧ DpAll K H r ds := by
  cases h with
  | cons h t => exact ⟨_, _, rfl, h, t⟩
theorem dpa_nil {K : PySem.W.Frag} {H : Hp} {vs : List V} (h : DpAll K H vs []) : vs = [] := by cases h; rfl
theorem dpa_app {K : PySem.W.Frag} {H : Hp} : ∀ {ds es : List PyData} {vs : List V}, DpAll K H vs (ds ++ es) → ∃ us ws, vs = us ++ ws ∧ DpAll K H us ds ∧ DpAll K H ws es
  | [], _, vs, h => ⟨[], vs, rfl, .nil, h⟩
  | d :: ds, _, _, h => by
    obtain ⟨v, r, rfl, h1, h2⟩ := dpa_cons h
    obtain ⟨us, ws, rfl, h3, h4⟩ := dpa_app (ds := ds) h2
    exact ⟨v :: us, ws, rfl, .cons h1 h3, h4⟩
theorem dpa_join {K : PySem.W.Frag} {H : Hp} : ∀ {us ws : List V} {ds es : List PyData}, DpAll K H us ds → DpAll K H ws es → DpAll K H (us ++ ws) (ds ++ es)
  | _, _, _, _, .nil, h => h
  | _, _, _, _, .cons h t, h2 => .cons h (dpa_join t h2)
theorem xd_keys {K : PySem.W.Frag} {H : Hp} : ∀ {vs : List V} {r : Row}, DpAll K H vs (r.map keyD) → vs = r.map kV
  | _, [], h => dpa_nil h
  | _, x :: r, h => by
    obtain ⟨v, t, rfl, h1, h2⟩ := dpa_cons h
    rw [dp_keyV h1, xd_keys h2]
    rfl
theorem dx_row {X H : Hp} (sub : Sub X H) {v : V} {r : Row} (h : Dp [] X v (rowD r)) : ∃ q, v = .ref q ∧ RowAt H q r := by
  obtain ⟨a, vs, rfl, _, h1, h2⟩ := dx_tup sub h
  rw [xd_keys h2] at h1
  exact ⟨a, rfl, h1⟩
theorem sub_at {X H : Hp} (sub : Sub X H) {a : Addr} {o : HO} (h : X a = some o) : H a = some o := frm_sub H _ _ (sub _ _ h)
/-- without the object at D -/
def off (D : Addr) (X : Hp) : Hp := fun a => if a = D then none else X a
theorem off_sub (D : Addr) (X : Hp) : Same (off D X) X := fun a o h => by
  unfold off at h
  split at h
  · cases h
  · exact h
theorem off_same {D : Addr} {X Y : Hp} (h : ∀ a o, a ≠ D → X a = some o → Y a = some o) : Same (off D X) (off D Y) := fun a o q => by
  unfold off at q ⊢
  split at q
  · cases q
  · rename_i c
    rw [if_neg c]
    exact h a o c q
theorem off_none {D : Addr} {X : Hp} (h : X D = none) : Same X (off D X) := fun a o q => by
  unfold off
  rw [if_neg fun z => by rw [z, h] at q; cases q]
  exact q
def Off (D : Addr) (H H' : Hp) : Prop := ∀ a o, a ≠ D → H a = some o → H' a = some o
theorem Off.frm {D : Addr} {H H' : Hp} (k : Off D H H') : ∀ a o, a ≠ D → KA.frm H a = some o → KA.frm H' a = some o := fun a o n h => by
  rcases frm_is h with ⟨xs, rfl, e⟩ | ⟨ts, rfl, e⟩
  · exact frm_tup (k _ _ n e)
  · exact frm_lst (k _ _ n e)
section
variable {J : It} {n : Nat} {G : Hp → Prop} {Y : Nat → Hp → V → Hp → Prop} {β : Type}
/-- a comprehension whose items are told by all objects but the list that grows -/
theorem lc_off (w : Walk J n G Y) (bs : List β) (hn : bs.length = n) {D : Addr} (R : Hp → V → β → Prop) (hR : ∀ H H' v b, Off D H H' → R H v b → R H' v b)
    {g : TG} {te : TE} {vs : List Nat} {σ : L2.St} {H1 : Hp} {Qd : Hp → Prop} (hD : H1 D = none) (hG : ∀ H, Same H1 H → G H) (hz : n ≤ 100000)
    (turn : ∀ i x b H H', i < n → bs[i]? = some b → Same H1 H → (∃ acc, H D = some (.lst acc)) → Y i H x H' → ∀ (Q : VK) (Qn : Hp → Prop), (∀ v H'', Same H H'' → R H'' v b → Q v H'') → g x (wipe σ vs) H' fun σ2 H2 => wipe σ2 vs = wipe σ vs ∧ tYes σ2 H2 fun c H3 => if c = true then te σ2 H3 Q else Qn H3)
    (done : ∀ H acc, Same H1 H → H D = some (.lst acc) → EachIs (R H) acc bs → Qd H) :
    ∃ W : Nat → Nat → Hp → Prop, (∃ m, W 0 m (upd H1 D (.lst []))) ∧ ∀ i m H, W i m H →
      (J.stop i H ∧ Qd H) ∨ (J.go i H ∧ ∃ Nx : Hp → Prop, (∀ H', Nx H' → ∃ m', m' < m ∧ W (i + 1) m' H') ∧ ∀ x H', J.yld i H x H' → g x (wipe σ vs) H' fun σ2 H2 => wipe σ2 vs = wipe σ vs ∧ tYes σ2 H2 fun b H3 =>
        if b = true then te σ2 H3 fun y H4 => ∃ acc, H4 D = some (.lst acc) ∧ acc.length < sizeLine ∧ Nx (upd H4 D (.lst (acc ++ [y]))) else Nx H3) := by
  refine lc_it w (fun i H => Same H1 H ∧ ∃ acc, H D = some (.lst acc) ∧ EachIs (R H) acc (bs.take i)) ⟨same_new hD, [], upd_same, by rw [List.take_zero]; exact .nil⟩ (fun i H _ p => hG H p.1) ?_ ?_
  · rintro i x H H' hi ⟨hr, acc, ha, he⟩ y
    obtain ⟨b, hb⟩ : ∃ b, bs[i]? = some b := ⟨_, List.getElem?_eq_getElem (by omega)⟩
    have et : bs.take (i + 1) = bs.take i ++ [b] := by rw [List.take_add_one, hb]; rfl
    have hlen : acc.length ≤ i := by
      rw [he.length, List.length_take]
      exact Nat.min_le_left _ _
    refine turn i x b H H' hi hb hr ⟨acc, ha⟩ y _ _ fun v H2 s2 rv => ?_
    have hd : H2 D = some (.lst acc) := s2 _ _ ha
    have k2 : Off D H2 (upd H2 D (.lst (acc ++ [v]))) := fun a o n h => by
      rw [upd_ne n]
      exact h
    refine ⟨acc, hd, Nat.lt_of_lt_of_le (show acc.length < 100001 by omega) (by decide), same_mut (hr.trans s2) hD, acc ++ [v], upd_same, ?_⟩
    rw [et]
    exact each_snoc1 (hR _ _ _ _ k2 rv) (he.mono fun v b z => hR _ _ _ _ (fun a o n h => k2 a o n (s2 _ _ h)) z)
  · rintro H ⟨hr, acc, ha, he⟩
    rw [List.take_of_length_le (by omega)] at he
    exact done H acc hr ha he
end
mutual
theorem dp_any {K : PySem.W.Frag} {H : Hp} : ∀ (d : PyData) (v : V), Dp [] H v d → Dp K H v d
  | .none, _, h => by cases h; exact .non
  | .bool b, _, h => by cases h; exact .bl b
  | .int i, _, h => by cases h; exact .int i
  | .str x, _, h => by cases h; exact .str x
  | .list ds, _, h => by
    cases h with
    | lst hs ha =>
      refine .lst ?_ (dpa_any ds _ ha)
      rcases hs with q | ⟨_, _, _, z, _⟩
      · exact .inl q
      · cases z
  | .tuple ds, _, h => by
    cases h with
    | tup hs ha =>
      refine .tup ?_ (dpa_any ds _ ha)
      rcases hs with q | ⟨_, _, _, z, _⟩
      · exact .inl q
      · cases z
  | .dict _, _, h => by cases h
theorem dpa_any {K : PySem.W.Frag} {H : Hp} : ∀ (ds : List PyData) (vs : List V), DpAll [] H vs ds → DpAll K H vs ds
  | [], _, h => by cases h; exact .nil
  | d :: ds, _, h => by
    cases h with
    | cons h1 h2 => exact .cons (dp_any d _ h1) (dpa_any ds _ h2)
end
theorem dx_dp {K : PySem.W.Frag} {X H : Hp} (sub : Sub X H) {v : V} {d : PyData} (h : Dp [] X v d) : Dp K H v d := dp_any d v (Dp.mono (sub.trans (frm_sub H)) h)
theorem dxa_dp {K : PySem.W.Frag} {X H : Hp} (sub : Sub X H) {vs : List V} {ds : List PyData} (h : DpAll [] X vs ds) : DpAll K H vs ds := dpa_any ds vs (DpAll.mono (sub.trans (frm_sub H)) h)
theorem Off.refl (D : Addr) (H : Hp) : Off D H H := fun _ _ _ h => h
theorem Off.trans {D : Addr} {H H1 H2 : Hp} (a : Off D H H1) (b : Off D H1 H2) : Off D H H2 := fun c o n h => b c o n (a c o n h)
theorem _root_.L2.Same.off {D : Addr} {H H' : Hp} (s : Same H H') : Off D H H' := fun a o _ h => s a o h
theorem Off.upd (D : Addr) (H : Hp) (o : HO) : Off D H (upd H D o) := fun a u n h => by
  rw [upd_ne n]
  exact h
theorem Off.same {D : Addr} {H H1 H' : Hp} (hD : H D = none) (s : Same H H1) (k : Off D H1 H') : Same H H' := fun a o h => k a o (ne_of_none h hD) (s a o h)
theorem RowAt.off {D : Addr} {H H' : Hp} {kvs : List (List Key × V)} (hd : H D = some (.dT kvs)) (k : Off D H H') {q : Addr} {r : Row} (h : RowAt H q r) : RowAt H' q r := k _ _ (fun z => by
  have h' : H q = some (.tup (r.map kV)) := h
  rw [z, hd] at h'
  cases h') h
theorem seq_if {c : TT} {s1 rest : TS} {D : Ends} {σ : L2.St} {H : Hp} (Φ : L2.St → Hp → Prop) (br : ∀ R : L2.St → Hp → Prop, (∀ σ' H', Φ σ' H' → R σ' H') → tIfS c s1 tNext { D with nx := R } σ H) (main : ∀ σ' H', Φ σ' H' → rest D σ' H') : tSeq (tIfS c s1 tNext) rest D σ H := br _ main
theorem extn_frm {H H' : Hp} (s : ExtN H H') : Same (frm H) (frm H') := fun a o h => by
  rcases frm_is h with ⟨xs, rfl, e⟩ | ⟨ts, rfl, e⟩
  · exact frm_tup (s _ _ e fun ps z => by cases z)
  · exact frm_lst (s _ _ e fun ps z => by cases z)
theorem RowAt.extn {H H' : Hp} (s : ExtN H H') {q : Addr} {r : Row} (h : RowAt H q r) : RowAt H' q r := s _ _ h fun ps z => by cases z
theorem sqL_extn {K : PySem.W.Frag} {H H' : Hp} (s : ExtN H H') {a : Addr} {xs : List V} (h : SqL K H a xs) : SqL K H' a xs := by
  rcases h with (h | ⟨o, h⟩) | h
  · exact .inl (.inl (s _ _ h fun ps z => by cases z))
  · exact .inl (.inr ⟨o, s _ _ h fun ps z => by cases z⟩)
  · exact .inr h
theorem extn_new {H : Hp} {p : Addr} {o : HO} (h : H p = none) : ExtN H (upd H p o) := ExtN.of (same_new h)
theorem extn_mut {H H' : Hp} {p : Addr} {o : HO} (e : ExtN H H') (h : H p = none) : ExtN H (upd H' p o) := fun b x q n => by
  rw [upd_ne (ne_of_none q h)]
  exact e b x q n
theorem extn_off {D : Addr} {H H1 H' : Hp} (hD : H D = none) (s : ExtN H H1) (k : Off D H1 H') : ExtN H H' := fun a o h n => k a o (ne_of_none h hD) (s a o h n)
theorem tabs_off {T : List (Addr × Str)} {D : Addr} {H H' : Hp} {o : HO} (hD : H D = some o) (hn : ∀ ps, o ≠ .tbl ps) (hc : ∀ φ, o ≠ .ext φ) (k : Off D H H') (t : Tabs T H) : Tabs T H' := fun p hp => by
  obtain ⟨ps, h1, h2, h3⟩ := t p hp
  refine ⟨ps, k _ _ (fun z => ?_) h1, h2, fun pos cv hcv => ?_⟩
  · rw [z, hD] at h1
    exact hn ps (Option.some.inj h1)
  · obtain ⟨c, e1, e2⟩ := h3 pos cv hcv
    refine ⟨c, e1, k _ _ (fun z => ?_) e2⟩
    rw [z, hD] at e2
    exact hc _ (Option.some.inj e2)
theorem tabs_new {T : List (Addr × Str)} {H : Hp} {p : Addr} {o : HO} (h : H p = none) (t : Tabs T H) : Tabs T (upd H p o) := t.ext (same_new h)
theorem tabs_lst {T : List (Addr × Str)} {H : Hp} {p : Addr} {xs ys : List V} (h : H p = some (.lst xs)) (t : Tabs T H) : Tabs T (upd H p (.lst ys)) := tabs_off h (fun ps z => by cases z) (fun φ z => by cases z) (Off.upd _ _ _) t
/-- all but the object at D and the tables is kept -/
def OffN (D : Addr) (H H' : Hp) : Prop := ∀ a o, a ≠ D → H a = some o → (∀ ps, o ≠ .tbl ps) → H' a = some o
theorem OffN.refl (D : Addr) (H : Hp) : OffN D H H := fun _ _ _ h _ => h
theorem OffN.trans {D : Addr} {H H1 H2 : Hp} (a : OffN D H H1) (b : OffN D H1 H2) : OffN D H H2 := fun c o n h nt => b c o n (a c o n h nt) nt
theorem OffN.of {D : Addr} {H H' : Hp} (s : ExtN H H') : OffN D H H' := fun c o _ h nt => s c o h nt
theorem RowAt.offN {d : Addr} {kvs : List (List Key × V)} {H H' : Hp} (hd : H d = some (.dT kvs)) (k : OffN d H H') {q : Addr} {r : Row} (h : RowAt H q r) : RowAt H' q r := k _ _ (fun z => by
  unfold RowAt at h
  rw [z, hd] at h
  cases h) h fun ps z => by cases z
end KA
set_option Elab.async false
set_option linter.all false
set_option maxRecDepth 100000
set_option maxHeartbeats 4000000
/-! rules: substitutions, the smallest set, and that it is reached step by step -/
namespace KA
open PySem PySem.Spec PyProof.Rows L2
inductive Ar | c (k : Key) | v (n : Int)
structure Atm where
  yes : Bool
  name : Str
  args : List Ar
structure Rul where
  head : List Ar
  body : List Atm
abbrev Sb := List (Int × Key)
def getS (s : Sb) (n : Int) : Option Key := (s.find? fun p => decide (p.1 = n)).map (·.2)
theorem getS_nil (n : Int) : getS [] n = none := rfl
theorem getS_snoc {s : Sb} {n : Int} (k : Key) (h : getS s n = none) (m : Int) : getS (s ++ [(n, k)]) m = if m = n then some k else getS s m := by
  induction s with
  | nil =>
    unfold getS
    by_cases e : m = n
    · simp [e]
    · have e2 : ¬ n = m := fun z => e z.symm
      simp [e, e2]
  | cons p s ih =>
    unfold getS at h ih ⊢
    rw [List.cons_append]
    by_cases e : p.1 = n
    · simp [e] at h
    · rw [List.find?_cons_of_neg (by simpa using e)] at h
      by_cases e2 : p.1 = m
      · have e3 : ¬ m = n := fun z => e (e2.trans z)
        rw [List.find?_cons_of_pos (by simpa using e2), List.find?_cons_of_pos (by simpa using e2), if_neg e3]
      · rw [List.find?_cons_of_neg (by simpa using e2), List.find?_cons_of_neg (by simpa using e2)]
        exact ih h
def matchG : List Ar → Row → Sb → Option Sb
  | a :: as, k :: r, s => match a with
    | .c k' => if k' = k then matchG as r s else none
    | .v n => match getS s n with
      | some k' => if k' = k then matchG as r s else none
      | none => matchG as r (s ++ [(n, k)])
  | _, _, s => some s
def matchR (as : List Ar) (r : Row) (s : Sb) : Option Sb := if as.length = r.length then matchG as r s else none
def Ar.at (σ : Int → Key) : Ar → Key
  | .c k => k
  | .v n => σ n
def inst (σ : Int → Key) (as : List Ar) : Row := as.map (Ar.at σ)
def Agr (s : Sb) (σ : Int → Key) : Prop := ∀ n k, getS s n = some k → σ n = k
def Has (s : Sb) (n : Int) : Prop := (getS s n).isSome = true
def fillA (s : Sb) : Ar → Key
  | .c k => k
  | .v n => (getS s n).getD (.inl 0)
def fill (s : Sb) (as : List Ar) : Row := as.map (fillA s)
theorem agr_nil (σ : Int → Key) : Agr [] σ := fun n k h => by cases h
theorem agr_snoc {s : Sb} {n : Int} {k : Key} {σ : Int → Key} (h : getS s n = none) : Agr (s ++ [(n, k)]) σ ↔ Agr s σ ∧ σ n = k := by
  constructor
  · intro a
    refine ⟨fun m j e => a m j ?_, a n k ?_⟩
    · rw [getS_snoc k h, if_neg fun z => by rw [z, h] at e; cases e]
      exact e
    · rw [getS_snoc k h, if_pos rfl]
  · rintro ⟨a, b⟩ m j e
    rw [getS_snoc k h] at e
    by_cases z : m = n
    · rw [if_pos z] at e
      rw [z, b]
      exact Option.some.inj e
    · rw [if_neg z] at e
      exact a m j e
theorem matchG_some : ∀ {as : List Ar} {r : Row} {s t : Sb}, as.length = r.length → matchG as r s = some t → ∀ σ, Agr t σ ↔ Agr s σ ∧ inst σ as = r
  | [], [], s, t, _, h, σ => by
    have e : s = t := Option.some.inj h
    rw [e]
    simp [inst]
  | [], _ :: _, _, _, hl, _, _ => by simp at hl
  | _ :: _, [], _, _, hl, _, _ => by simp at hl
  | a :: as, k :: r, s, t, hl, h, σ => by
    have hl2 : as.length = r.length := by simpa using hl
    have co : inst σ (a :: as) = k :: r ↔ a.at σ = k ∧ inst σ as = r := by unfold inst; rw [List.map_cons, List.cons.injEq]
    cases a with
    | c k' =>
      have h' : (if k' = k then matchG as r s else none) = some t := h
      by_cases e : k' = k
      · rw [if_pos e] at h'
        rw [co, matchG_some hl2 h' σ]
        exact ⟨fun z => ⟨z.1, e, z.2⟩, fun z => ⟨z.1, z.2.2⟩⟩
      · rw [if_neg e] at h'
        cases h'
    | v n =>
      have h' : (match getS s n with | some k' => if k' = k then matchG as r s else none | none => matchG as r (s ++ [(n, k)])) = some t := h
      cases g : getS s n with
      | some k' =>
        rw [g] at h'
        have h2 : (if k' = k then matchG as r s else none) = some t := h'
        by_cases e : k' = k
        · rw [if_pos e] at h2
          rw [co, matchG_some hl2 h2 σ]
          exact ⟨fun z => ⟨z.1, (z.1 n k' g).trans e, z.2⟩, fun z => ⟨z.1, z.2.2⟩⟩
        · rw [if_neg e] at h2
          cases h2
      | none =>
        rw [g] at h'
        have h2 : matchG as r (s ++ [(n, k)]) = some t := h'
        rw [co, matchG_some hl2 h2 σ, agr_snoc g]
        exact ⟨fun z => ⟨z.1.1, z.1.2, z.2⟩, fun z => ⟨⟨z.1, z.2.1⟩, z.2.2⟩⟩
theorem matchG_none : ∀ {as : List Ar} {r : Row} {s : Sb}, as.length = r.length → matchG as r s = none → ∀ σ, Agr s σ → inst σ as ≠ r
  | [], [], s, _, h, σ => by cases h
  | [], _ :: _, _, hl, _, _ => by simp at hl
  | _ :: _, [], _, hl, _, _ => by simp at hl
  | a :: as, k :: r, s, hl, h, σ => by
    have hl2 : as.length = r.length := by simpa using hl
    have co : inst σ (a :: as) = k :: r ↔ a.at σ = k ∧ inst σ as = r := by unfold inst; rw [List.map_cons, List.cons.injEq]
    intro ag
    rw [Ne, co]
    rintro ⟨e1, e2⟩
    cases a with
    | c k' =>
      have h' : (if k' = k then matchG as r s else none) = none := h
      rw [if_pos (show k' = k from e1)] at h'
      exact matchG_none hl2 h' σ ag e2
    | v n =>
      have h' : (match getS s n with | some k' => if k' = k then matchG as r s else none | none => matchG as r (s ++ [(n, k)])) = none := h
      cases g : getS s n with
      | some k' =>
        rw [g] at h'
        have h2 : (if k' = k then matchG as r s else none) = none := h'
        rw [if_pos ((ag n k' g).symm.trans e1)] at h2
        exact matchG_none hl2 h2 σ ag e2
      | none =>
        rw [g] at h'
        exact matchG_none hl2 h' σ ((agr_snoc g).mpr ⟨ag, e1⟩) e2
theorem matchG_has : ∀ {as : List Ar} {r : Row} {s t : Sb}, as.length = r.length → matchG as r s = some t → (∀ n, Has s n → Has t n) ∧ ∀ n, Ar.v n ∈ as → Has t n
  | [], [], s, t, _, h => by
    have e : s = t := Option.some.inj h
    rw [e]
    exact ⟨fun _ z => z, fun n z => by cases z⟩
  | [], _ :: _, _, _, hl, _ => by simp at hl
  | _ :: _, [], _, _, hl, _ => by simp at hl
  | a :: as, k :: r, s, t, hl, h => by
    have hl2 : as.length = r.length := by simpa using hl
    cases a with
    | c k' =>
      have h' : (if k' = k then matchG as r s else none) = some t := h
      by_cases e : k' = k
      · rw [if_pos e] at h'
        obtain ⟨i1, i2⟩ := matchG_has hl2 h'
        exact ⟨i1, fun n z => by
          rcases List.mem_cons.mp z with z | z
          · cases z
          · exact i2 n z⟩
      · rw [if_neg e] at h'
        cases h'
    | v m =>
      have h' : (match getS s m with | some k' => if k' = k then matchG as r s else none | none => matchG as r (s ++ [(m, k)])) = some t := h
      cases g : getS s m with
      | some k' =>
        rw [g] at h'
        have h2 : (if k' = k then matchG as r s else none) = some t := h'
        by_cases e : k' = k
        · rw [if_pos e] at h2
          obtain ⟨i1, i2⟩ := matchG_has hl2 h2
          refine ⟨i1, fun n z => ?_⟩
          rcases List.mem_cons.mp z with z | z
          · injection z with z
            rw [z]
            exact i1 m (by unfold Has; rw [g]; rfl)
          · exact i2 n z
        · rw [if_neg e] at h2
          cases h2
      | none =>
        rw [g] at h'
        have h2 : matchG as r (s ++ [(m, k)]) = some t := h'
        obtain ⟨i1, i2⟩ := matchG_has hl2 h2
        refine ⟨fun n z => i1 n ?_, fun n z => ?_⟩
        · unfold Has at z ⊢
          rw [getS_snoc k g]
          split
          · rfl
          · exact z
        · rcases List.mem_cons.mp z with z | z
          · injection z with z
            rw [z]
            exact i1 m (by unfold Has; rw [getS_snoc k g, if_pos rfl]; rfl)
          · exact i2 n z
theorem matchR_some {as : List Ar} {r : Row} {s t : Sb} (h : matchR as r s = some t) : as.length = r.length ∧ matchG as r s = some t := by
  unfold matchR at h
  split at h
  · exact ⟨by assumption, h⟩
  · cases h
theorem fill_inst {s : Sb} {as : List Ar} {σ : Int → Key} (hv : ∀ n, Ar.v n ∈ as → Has s n) (ag : Agr s σ) : fill s as = inst σ as := by
  unfold fill inst
  refine List.map_congr_left fun a ha => ?_
  cases a with
  | c k => rfl
  | v n =>
    have h := hv n ha
    obtain ⟨k, hk⟩ := Option.isSome_iff_exists.mp h
    show (getS s n).getD (.inl 0) = σ n
    rw [hk, ag n k hk]
    rfl
theorem agr_ex (s : Sb) : ∃ σ, Agr s σ := ⟨fun n => (getS s n).getD (.inl 0), fun n k h => by show (getS s n).getD _ = k; rw [h]; rfl⟩
/-! ### all substitutions for which atoms hold -/
def exts (as : List Ar) (rs : List Row) (s : Sb) : List Sb := rs.filterMap fun r => matchR as r s
def step1 (T : Str → List Row) (found : List Sb) (a : Atm) : List Sb := if a.yes = true then found.flatMap (exts a.args (T a.name)) else found
def memB (l : List Row) (r : Row) : Bool := l.any fun x => decide (x = r)
theorem memB_iff {l : List Row} {r : Row} : memB l r = true ↔ r ∈ l := by
  unfold memB
  rw [List.any_eq_true]
  exact ⟨fun ⟨x, h, e⟩ => by rw [← of_decide_eq_true e]; exact h, fun h => ⟨r, h, decide_eq_true rfl⟩⟩
theorem memB_no {l : List Row} {r : Row} : memB l r = false ↔ r ∉ l := by
  rw [← memB_iff, Bool.not_eq_true]
def stepN (T : Str → List Row) (found : List Sb) (a : Atm) : List Sb := if a.yes = true then found else found.filter fun s => !memB (T a.name) (fill s a.args)
def sols (T : Str → List Row) (starts : List Sb) (atoms : List Atm) : List Sb := atoms.foldl (stepN T) (atoms.foldl (step1 T) starts)
def HoldsA (T : Str → Row → Prop) (σ : Int → Key) (a : Atm) : Prop := if a.yes = true then T a.name (inst σ a.args) else ¬ T a.name (inst σ a.args)
abbrev InT (T : Str → List Row) : Str → Row → Prop := fun n r => r ∈ T n
theorem exts_iff {as : List Ar} {rs : List Row} {s : Sb} {σ : Int → Key} : (∃ t ∈ exts as rs s, Agr t σ) ↔ Agr s σ ∧ inst σ as ∈ rs := by
  unfold exts
  constructor
  · rintro ⟨t, ht, ag⟩
    obtain ⟨r, hr, e⟩ := List.mem_filterMap.mp ht
    obtain ⟨hl, e2⟩ := matchR_some e
    obtain ⟨h1, h2⟩ := (matchG_some hl e2 σ).mp ag
    exact ⟨h1, by rw [h2]; exact hr⟩
  · rintro ⟨ag, hr⟩
    have hl : as.length = (inst σ as).length := by unfold inst; rw [List.length_map]
    cases e : matchG as (inst σ as) s with
    | none => exact absurd rfl (matchG_none hl e σ ag)
    | some t => exact ⟨t, List.mem_filterMap.mpr ⟨_, hr, by unfold matchR; rw [if_pos hl, e]⟩, (matchG_some hl e σ).mpr ⟨ag, rfl⟩⟩
theorem step1_iff {T : Str → List Row} {σ : Int → Key} : ∀ {atoms : List Atm} {found : List Sb}, (∃ s ∈ atoms.foldl (step1 T) found, Agr s σ) ↔ (∃ s ∈ found, Agr s σ) ∧ ∀ a ∈ atoms, a.yes = true → inst σ a.args ∈ T a.name
  | [], found => ⟨fun h => ⟨h, fun a z => by cases z⟩, fun h => h.1⟩
  | a :: atoms, found => by
    rw [List.foldl_cons, step1_iff]
    have one : (∃ s ∈ step1 T found a, Agr s σ) ↔ (∃ s ∈ found, Agr s σ) ∧ (a.yes = true → inst σ a.args ∈ T a.name) := by
      unfold step1
      split
      · rename_i y
        constructor
        · rintro ⟨t, ht, ag⟩
          obtain ⟨s, hs, ht2⟩ := List.mem_flatMap.mp ht
          obtain ⟨h1, h2⟩ := exts_iff.mp ⟨t, ht2, ag⟩
          exact ⟨⟨s, hs, h1⟩, fun _ => h2⟩
        · rintro ⟨⟨s, hs, ag⟩, h⟩
          obtain ⟨t, ht, ag2⟩ := exts_iff.mpr ⟨ag, h y⟩
          exact ⟨t, List.mem_flatMap.mpr ⟨s, hs, ht⟩, ag2⟩
      · rename_i y
        exact ⟨fun h => ⟨h, fun z => absurd z y⟩, fun h => h.1⟩
    rw [one]
    constructor
    · rintro ⟨⟨h1, h2⟩, h3⟩
      exact ⟨h1, fun b hb => (List.mem_cons.mp hb).elim (fun z => by rw [z]; exact h2) (h3 b)⟩
    · rintro ⟨h1, h2⟩
      exact ⟨⟨h1, h2 a List.mem_cons_self⟩, fun b hb => h2 b (List.mem_cons_of_mem _ hb)⟩
theorem exts_has {as : List Ar} {rs : List Row} {s t : Sb} (h : t ∈ exts as rs s) : (∀ n, Has s n → Has t n) ∧ ∀ n, Ar.v n ∈ as → Has t n := by
  obtain ⟨r, hr, e⟩ := List.mem_filterMap.mp h
  obtain ⟨hl, e2⟩ := matchR_some e
  exact matchG_has hl e2
theorem step1_has {T : Str → List Row} {n : Int} : ∀ {atoms : List Atm} {found : List Sb}, ((∀ s ∈ found, Has s n) ∨ ∃ b ∈ atoms, b.yes = true ∧ Ar.v n ∈ b.args) → ∀ s ∈ atoms.foldl (step1 T) found, Has s n
  | [], found, h => by
    rcases h with h | ⟨b, hb, _⟩
    · exact h
    · cases hb
  | a :: atoms, found, h => by
    rw [List.foldl_cons]
    refine step1_has ?_
    have keep : (∀ s ∈ found, Has s n) → ∀ s ∈ step1 T found a, Has s n := fun h s hs => by
      unfold step1 at hs
      split at hs
      · obtain ⟨s0, h0, h1⟩ := List.mem_flatMap.mp hs
        exact (exts_has h1).1 n (h s0 h0)
      · exact h s hs
    rcases h with h | ⟨b, hb, y, hv⟩
    · exact .inl (keep h)
    · rcases List.mem_cons.mp hb with z | z
      · refine .inl fun s hs => ?_
        unfold step1 at hs
        rw [← z, if_pos y] at hs
        obtain ⟨s0, h0, h1⟩ := List.mem_flatMap.mp hs
        exact (exts_has h1).2 n hv
      · exact .inr ⟨b, z, y, hv⟩
theorem stepN_mem {T : Str → List Row} {s : Sb} : ∀ {atoms : List Atm} {found : List Sb}, s ∈ atoms.foldl (stepN T) found ↔ s ∈ found ∧ ∀ a ∈ atoms, a.yes ≠ true → fill s a.args ∉ T a.name
  | [], found => ⟨fun h => ⟨h, fun a z => by cases z⟩, fun h => h.1⟩
  | a :: atoms, found => by
    rw [List.foldl_cons, stepN_mem]
    have one : s ∈ stepN T found a ↔ s ∈ found ∧ (a.yes ≠ true → fill s a.args ∉ T a.name) := by
      unfold stepN
      split
      · rename_i y
        exact ⟨fun h => ⟨h, fun z => absurd y z⟩, fun h => h.1⟩
      · rename_i y
        rw [List.mem_filter, Bool.not_eq_true', memB_no]
        exact ⟨fun h => ⟨h.1, fun _ => h.2⟩, fun h => ⟨h.1, h.2 y⟩⟩
    rw [one]
    constructor
    · rintro ⟨⟨h1, h2⟩, h3⟩
      exact ⟨h1, fun b hb => (List.mem_cons.mp hb).elim (fun z => by rw [z]; exact h2) (h3 b)⟩
    · rintro ⟨h1, h2⟩
      exact ⟨⟨h1, h2 a List.mem_cons_self⟩, fun b hb => h2 b (List.mem_cons_of_mem _ hb)⟩
/-- the variables that the substitutions know -/
def Safe (starts : List Sb) (atoms : List Atm) (as : List Ar) : Prop := ∀ n, Ar.v n ∈ as → (∀ s ∈ starts, Has s n) ∨ ∃ b ∈ atoms, b.yes = true ∧ Ar.v n ∈ b.args
theorem sols_has {T : Str → List Row} {starts : List Sb} {atoms : List Atm} {as : List Ar} (hs : Safe starts atoms as) {s : Sb} (h : s ∈ sols T starts atoms) : ∀ n, Ar.v n ∈ as → Has s n :=
  fun n hn => step1_has (hs n hn) s (stepN_mem.mp h).1
theorem sols_iff {T : Str → List Row} {starts : List Sb} {atoms : List Atm} {σ : Int → Key} (hs : ∀ a ∈ atoms, a.yes ≠ true → Safe starts atoms a.args) : (∃ s ∈ sols T starts atoms, Agr s σ) ↔ (∃ s ∈ starts, Agr s σ) ∧ ∀ a ∈ atoms, HoldsA (InT T) σ a := by
  constructor
  · rintro ⟨s, h, ag⟩
    obtain ⟨h1, h2⟩ := stepN_mem.mp h
    obtain ⟨h3, h4⟩ := step1_iff.mp ⟨s, h1, ag⟩
    refine ⟨h3, fun a ha => ?_⟩
    unfold HoldsA
    split
    · rename_i y
      exact h4 a ha y
    · rename_i y
      have := h2 a ha y
      rwa [fill_inst (sols_has (hs a ha y) h) ag] at this
  · rintro ⟨h1, h2⟩
    obtain ⟨s, h, ag⟩ := step1_iff (T := T) (atoms := atoms) |>.mpr ⟨h1, fun a ha y => by
      have := h2 a ha
      unfold HoldsA at this
      rwa [if_pos y] at this⟩
    refine ⟨s, stepN_mem.mpr ⟨h, fun a ha y => ?_⟩, ag⟩
    have := h2 a ha
    unfold HoldsA at this
    rw [if_neg y] at this
    rwa [fill_inst (fun n hn => step1_has (hs a ha y n hn) s h) ag]
theorem sols_len {T : Str → List Row} {B : Nat} (hB : 1 ≤ B) (hT : ∀ n, (T n).length ≤ B) : ∀ (atoms : List Atm) (found : List Sb), (atoms.foldl (step1 T) found).length ≤ found.length * B ^ (atoms.filter (·.yes)).length
  | [], found => by simp
  | a :: atoms, found => by
    rw [List.foldl_cons]
    refine Nat.le_trans (sols_len hB hT atoms _) ?_
    unfold step1
    by_cases y : a.yes = true
    · rw [if_pos y, List.filter_cons_of_pos y, List.length_cons, Nat.pow_succ]
      have h1 : (found.flatMap (exts a.args (T a.name))).length ≤ found.length * B := by
        generalize found = f
        induction f with
        | nil => simp
        | cons s f ih =>
          rw [List.flatMap_cons, List.length_append, List.length_cons, Nat.add_mul, Nat.one_mul, Nat.add_comm]
          exact Nat.add_le_add ih (Nat.le_trans (List.length_filterMap_le _ _) (hT _))
      calc _ ≤ found.length * B * B ^ (atoms.filter (·.yes)).length := Nat.mul_le_mul_right _ h1
        _ = _ := by rw [Nat.mul_assoc, Nat.mul_comm B]
    · rw [if_neg y, List.filter_cons_of_neg y]
      exact Nat.le_refl _
/-! ### the smallest set -/
inductive Lst (rules : List Rul) (own : Str) (S : Str → Row → Prop) : Row → Prop
  | mk (ρ : Rul) (σ : Int → Key) (hr : ρ ∈ rules) (ho : ∀ a ∈ ρ.body, a.name = own → Lst rules own S (inst σ a.args)) (hs : ∀ a ∈ ρ.body, a.name ≠ own → HoldsA S σ a) : Lst rules own S (inst σ ρ.head)
structure WfR (own : Str) (ρ : Rul) : Prop where
  own : ∀ a ∈ ρ.body, a.name = own → a.yes = true
  head : ∀ n, Ar.v n ∈ ρ.head → ∃ b ∈ ρ.body, b.yes = true ∧ Ar.v n ∈ b.args
  no : ∀ a ∈ ρ.body, a.yes ≠ true → ∀ n, Ar.v n ∈ a.args → ∃ b ∈ ρ.body, b.yes = true ∧ Ar.v n ∈ b.args
/-- the sets, the own one in its place -/
def withO (own : Str) (S : Str → List Row) (O : List Row) : Str → List Row := fun n => if n = own then O else S n
def SatB (T : Str → List Row) (σ : Int → Key) (body : List Atm) : Prop := ∀ a ∈ body, HoldsA (InT T) σ a
section
variable {rules : List Rul} {own : Str} {S : Str → List Row}
theorem lst_of {O : List Row} (wf : ∀ ρ ∈ rules, WfR own ρ) (hO : ∀ r ∈ O, Lst rules own (InT S) r) {ρ : Rul} (hr : ρ ∈ rules) {σ : Int → Key} (h : SatB (withO own S O) σ ρ.body) : Lst rules own (InT S) (inst σ ρ.head) := by
  refine .mk ρ σ hr (fun a ha e => ?_) fun a ha e => ?_
  · have := h a ha
    unfold HoldsA at this
    rw [if_pos ((wf ρ hr).own a ha e)] at this
    refine hO _ ?_
    have t2 : inst σ a.args ∈ withO own S O a.name := this
    unfold withO at t2
    rwa [if_pos e] at t2
  · have := h a ha
    unfold HoldsA at this ⊢
    have en : withO own S O a.name = S a.name := by unfold withO; rw [if_neg e]
    split
    · rename_i y
      rw [if_pos y] at this
      have t2 : inst σ a.args ∈ withO own S O a.name := this
      rwa [en] at t2
    · rename_i y
      rw [if_neg y] at this
      have t2 : ¬ inst σ a.args ∈ withO own S O a.name := this
      rwa [en] at t2
/-- a set that is closed under the rules has all rows of the smallest one -/
theorem lst_in {O : List Row} (wf : ∀ ρ ∈ rules, WfR own ρ) (h : ∀ ρ ∈ rules, ∀ σ, SatB (withO own S O) σ ρ.body → inst σ ρ.head ∈ O) : ∀ r, Lst rules own (InT S) r → r ∈ O := by
  intro r hr
  induction hr with
  | mk ρ σ hr ho hs ih =>
    refine h ρ hr σ fun a ha => ?_
    by_cases e : a.name = own
    · unfold HoldsA
      rw [if_pos ((wf ρ hr).own a ha e)]
      show inst σ a.args ∈ withO own S O a.name
      unfold withO
      rw [if_pos e]
      exact ih a ha e
    · have := hs a ha e
      have en : withO own S O a.name = S a.name := by unfold withO; rw [if_neg e]
      unfold HoldsA at this ⊢
      show if a.yes = true then inst σ a.args ∈ withO own S O a.name else ¬ inst σ a.args ∈ withO own S O a.name
      rw [en]
      exact this
end
/-! ### heads through a changed atom -/
/-- what of an atom's rows is changed -/
def Through (T : Str → List Row) (C : Bool → Str → List Row) (rules : List Rul) (r : Row) : Prop := ∃ ρ ∈ rules, ∃ σ, ∃ (k : Nat) (a : Atm), ρ.body[k]? = some a ∧ inst σ a.args ∈ C a.yes a.name ∧ (∀ j b, j ≠ k → ρ.body[j]? = some b → HoldsA (InT T) σ b) ∧ r = inst σ ρ.head
/-- the rows that stand in the answer of heads_through for one rule and one atom -/
def thru (T : Str → List Row) (C : Bool → Str → List Row) (ρ : Rul) (k : Nat) (a : Atm) : List Row := (sols T (exts a.args (C a.yes a.name) []) (ρ.body.take k ++ ρ.body.drop (k + 1))).map fun s => fill s ρ.head
theorem mem_less {α : Type} {l : List α} {k : Nat} {b : α} : b ∈ l.take k ++ l.drop (k + 1) ↔ ∃ j, j ≠ k ∧ l[j]? = some b := by
  rw [List.mem_append]
  constructor
  · rintro (h | h)
    · obtain ⟨j, hj⟩ := List.mem_iff_getElem?.mp h
      have hlt : j < k := by
        by_cases z : j < k
        · exact z
        · rw [List.getElem?_take] at hj
          rw [if_neg z] at hj
          cases hj
      refine ⟨j, Nat.ne_of_lt hlt, ?_⟩
      rw [List.getElem?_take, if_pos hlt] at hj
      exact hj
    · obtain ⟨j, hj⟩ := List.mem_iff_getElem?.mp h
      rw [List.getElem?_drop] at hj
      exact ⟨_, by omega, hj⟩
  · rintro ⟨j, n, hj⟩
    by_cases z : j < k
    · refine .inl (List.mem_iff_getElem?.mpr ⟨j, ?_⟩)
      rw [List.getElem?_take, if_pos z]
      exact hj
    · refine .inr (List.mem_iff_getElem?.mpr ⟨j - (k + 1), ?_⟩)
      rw [List.getElem?_drop]
      have : k + 1 + (j - (k + 1)) = j := by omega
      rw [this]
      exact hj
theorem less_safe {own : Str} {ρ : Rul} (wf : WfR own ρ) {k : Nat} {a : Atm} (hk : ρ.body[k]? = some a) (C : List Row) {as : List Ar} (hv : ∀ n, Ar.v n ∈ as → ∃ b ∈ ρ.body, b.yes = true ∧ Ar.v n ∈ b.args) : Safe (exts a.args C []) (ρ.body.take k ++ ρ.body.drop (k + 1)) as := by
  intro n hn
  obtain ⟨b, hb, y, hvb⟩ := hv n hn
  obtain ⟨j, hj⟩ := List.mem_iff_getElem?.mp hb
  by_cases z : j = k
  · refine .inl fun s hs => ?_
    rw [z, hk] at hj
    exact (exts_has hs).2 n (by rw [Option.some.inj hj]; exact hvb)
  · exact .inr ⟨b, mem_less.mpr ⟨j, z, hj⟩, y, hvb⟩
theorem thru_mem {own : Str} {T : Str → List Row} {C : Bool → Str → List Row} {ρ : Rul} (wf : WfR own ρ) {k : Nat} {a : Atm} (hk : ρ.body[k]? = some a) {r : Row} :
    r ∈ thru T C ρ k a ↔ ∃ σ, inst σ a.args ∈ C a.yes a.name ∧ (∀ j b, j ≠ k → ρ.body[j]? = some b → HoldsA (InT T) σ b) ∧ r = inst σ ρ.head := by
  unfold thru
  have sN : ∀ b ∈ ρ.body.take k ++ ρ.body.drop (k + 1), b.yes ≠ true → Safe (exts a.args (C a.yes a.name) []) (ρ.body.take k ++ ρ.body.drop (k + 1)) b.args := fun b hb y => by
    obtain ⟨j, _, hj⟩ := mem_less.mp hb
    exact less_safe wf hk _ (wf.no b (List.mem_of_getElem? hj) y)
  have sH := less_safe wf hk (C a.yes a.name) wf.head
  rw [List.mem_map]
  constructor
  · rintro ⟨s, hs, rfl⟩
    obtain ⟨σ, ag⟩ := agr_ex s
    obtain ⟨h1, h2⟩ := (sols_iff sN).mp ⟨s, hs, ag⟩
    obtain ⟨_, h3⟩ := exts_iff.mp h1
    exact ⟨σ, h3, fun j b n hj => h2 b (mem_less.mpr ⟨j, n, hj⟩), fill_inst (sols_has sH hs) ag⟩
  · rintro ⟨σ, h1, h2, rfl⟩
    obtain ⟨s, hs, ag⟩ := (sols_iff (T := T) sN).mpr ⟨exts_iff.mpr ⟨agr_nil σ, h1⟩, fun b hb => let ⟨j, n, hj⟩ := mem_less.mp hb; h2 j b n hj⟩
    exact ⟨s, hs, fill_inst (sols_has sH hs) ag⟩
/-- all heads of a rule -/
def allH (T : Str → List Row) (ρ : Rul) : List Row := (sols T [[]] ρ.body).map fun s => fill s ρ.head
theorem allH_mem {own : Str} {T : Str → List Row} {ρ : Rul} (wf : WfR own ρ) {r : Row} : r ∈ allH T ρ ↔ ∃ σ, SatB T σ ρ.body ∧ r = inst σ ρ.head := by
  unfold allH
  have sN : ∀ b ∈ ρ.body, b.yes ≠ true → Safe [[]] ρ.body b.args := fun b hb y n hn => .inr (wf.no b hb y n hn)
  have sH : Safe [[]] ρ.body ρ.head := fun n hn => .inr (wf.head n hn)
  rw [List.mem_map]
  constructor
  · rintro ⟨s, hs, rfl⟩
    obtain ⟨σ, ag⟩ := agr_ex s
    exact ⟨σ, ((sols_iff sN).mp ⟨s, hs, ag⟩).2, fill_inst (sols_has sH hs) ag⟩
  · rintro ⟨σ, h1, rfl⟩
    obtain ⟨s, hs, ag⟩ := (sols_iff (T := T) sN).mpr ⟨⟨[], List.mem_cons_self, agr_nil σ⟩, h1⟩
    exact ⟨s, hs, fill_inst (sols_has sH hs) ag⟩
end KA
set_option Elab.async false
set_option linter.all false
set_option maxRecDepth 100000
set_option maxHeartbeats 4000000
/-! a dict whose keys are tuples (a number, a tuple of numbers) -/
namespace KA
open PySem PySem.Spec PyProof.Rows L2
abbrev Ix := Int × List Int
def ixK (k : Ix) : NestedKey := .tup [.num k.1, .tup (k.2.map NestedKey.num)]
theorem num_inj : ∀ {a b : List Int}, a.map NestedKey.num = b.map NestedKey.num → a = b
  | [], [], _ => rfl
  | [], _ :: _, h => by simp at h
  | _ :: _, [], h => by simp at h
  | x :: a, y :: b, h => by
    rw [List.map_cons, List.map_cons] at h
    injection h with h1 h2
    injection h1 with h1
    rw [h1, num_inj h2]
theorem ixK_inj {a b : Ix} (h : ixK a = ixK b) : a = b := by
  unfold ixK at h
  injection h with h
  injection h with h1 h2
  injection h1 with h1
  injection h2 with h2 _
  injection h2 with h2
  exact Prod.ext h1 (num_inj h2)
theorem depth_nums (l : List Int) : NestedKey.depthAll (l.map NestedKey.num) = 0 := by
  induction l with
  | nil => rfl
  | cons x l ih =>
    rw [List.map_cons]
    show max (NestedKey.depth (.num x)) (NestedKey.depthAll (l.map NestedKey.num)) = 0
    rw [ih]
    rfl
theorem ixK_depth (k : Ix) : (ixK k).depth ≤ 8 := by
  unfold ixK
  simp only [NestedKey.depth, NestedKey.depthAll, depth_nums]
  omega
def IxAt (H : Hp) (q : Addr) (k : Ix) : Prop := ∃ pl, H q = some (.tup [.int k.1, .ref pl]) ∧ H pl = some (.tup (k.2.map V.int))
theorem IxAt.mono {H H' : Hp} (s : ∀ a xs, H a = some (.tup xs) → H' a = some (.tup xs)) {q : Addr} {k : Ix} (h : IxAt H q k) : IxAt H' q k := let ⟨pl, h1, h2⟩ := h; ⟨pl, s _ _ h1, s _ _ h2⟩
theorem nums_all {h : Heap} : ∀ {l : List Int} {its : List Value}, Vals (l.map V.int) its → NestedAll h (l.map NestedKey.num) its
  | [], _, r => by cases r; exact .nil
  | i :: l, _, r => by
    rw [List.map_cons] at r
    cases r with
    | cons h1 t =>
      obtain ⟨tk, rfl⟩ := h1
      exact .cons (.int i tk) (nums_all t)
theorem ix_is {P : Program} {w : World} {H : Hp} {h : Heap} (ok : HOk P w H h) {q : Addr} {k : Ix} (e : IxAt H q k) : (nestedKind P w).is h (ixK k) q := by
  obtain ⟨pl, h1, h2⟩ := e
  obtain ⟨_, its1, r1, o1, a1, b1, n1, c1⟩ := (show ObjOk P w H h q (.tup [.int k.1, .ref pl]) from ok q _ h1)
  obtain ⟨_, its2, r2, o2, a2, b2, n2, c2⟩ := (show ObjOk P w H h pl (.tup (k.2.map V.int)) from ok pl _ h2)
  refine ⟨.tup a1 b1 c1 ?_, ixK_depth k⟩
  rw [List.toList_toArray]
  cases r1 with
  | cons g1 t =>
    cases t with
    | cons g2 t2 =>
      cases t2
      obtain ⟨tk, rfl⟩ := g1
      cases g2
      exact .cons (.int _ tk) (.cons (.tup a2 b2 c2 (by rw [List.toList_toArray]; exact nums_all r2)) .nil)
abbrev NEs := List (Ix × Addr × Addr)
def nX (es : NEs) : List (NestedKey × Addr × Value) := es.map fun e => (ixK e.1, e.2.1, Value.ref e.2.2)
def nO (P : Program) (w : World) (d : Addr) (es : NEs) : HO := .ext fun h => ∃ o ds ep, h.get? d = some o ∧ o.ExactDict ∧ o.data = .dict ds ep ∧ ds.toList = (nX es).map (entryOfKey (nestedKind P w))
structure NDict (P : Program) (w : World) (H : Hp) (d : Addr) (es : NEs) : Prop where
  low : (d == sysModules) = false
  len : es.length ≤ 10000
  nd : (es.map (·.1)).Nodup
  keys : ∀ e ∈ es, IxAt H e.2.1 e.1
  at_ : H d = some (nO P w d es)
def lookN (es : NEs) (k : Ix) : Option Addr := (es.find? fun e => decide (e.1 = k)).map (·.2.2)
theorem atKey_n (es : NEs) (k : Ix) : (atKey (nX es) (ixK k)).map (·.2) = (lookN es k).map Value.ref := by
  induction es with
  | nil => rfl
  | cons e es ih =>
    unfold atKey lookN nX at ih ⊢
    rw [List.map_cons]
    by_cases z : e.1 = k
    · rw [List.find?_cons_of_pos (by simp [z]), List.find?_cons_of_pos (by simp [z])]
      rfl
    · rw [List.find?_cons_of_neg (by simpa using fun y => z (ixK_inj y)), List.find?_cons_of_neg (by simpa using z)]
      exact ih
theorem NDict.h {P : Program} {w : World} {H : Hp} {h : Heap} {d : Addr} {es : NEs} (N : NDict P w H d es) (ok : HOk P w H h) : h.DictOfH (nestedKind P w) d (nX es) := by
  obtain ⟨⟨o, ds, ep, h1, h2, h3, h4⟩, _, _⟩ := (show ObjOk P w H h d (nO P w d es) from ok d _ N.at_)
  refine ⟨o, ds, ep, h1, h2, h3, h4, fun x hx => ?_, ?_⟩
  · obtain ⟨e, he, rfl⟩ := List.mem_map.mp hx
    exact ix_is ok (N.keys e he)
  · have e1 : (nX es).map (·.1) = (es.map (·.1)).map ixK := by unfold nX; rw [List.map_map, List.map_map]; rfl
    rw [e1]
    exact List.pairwise_map.mpr (N.nd.imp fun h z => h (ixK_inj z))
theorem nO_ok {P : Program} {w : World} {H : Hp} {h : Heap} {d : Addr} {es : NEs} (g : h.DictOfH (nestedKind P w) d (nX es)) : ObjOk P w H h d (nO P w d es) := by
  obtain ⟨o, ds, ep, h1, h2, h3, h4, _, _⟩ := g
  exact ⟨⟨o, ds, ep, h1, h2, h3, h4⟩, ⟨o, h1⟩, fun h1' h2' ⟨o', ds', ep', a1, a2, a3, a4⟩ k => ⟨o', ds', ep', k _ a1, a2, a3, a4⟩⟩
theorem nroom {A : Around} (hu : A.units + 64 < cLine) (P : Program) (w : World) : (nestedKind P w).room A.in1 := by
  show A.in1.units + 8 < cLine
  have : A.in1.units = A.units + 1 := rfl
  omega
section
variable {X : Cx} {o i value : Expr} {pos pos' : Pos} {td ty tv : TE}
/-- key not in d -/
def tNNot (X : Cx) (ty td : TE) : TE := fun σ H Q => ty σ H fun y H1 => td σ H1 fun x H2 => ∃ d q es k, x = .ref d ∧ y = .ref q ∧ NDict X.prog X.w H2 d es ∧ IxAt H2 q k ∧ Q (.bl (!(lookN es k).isSome)) H2
theorem pc_nnot (hu : X.A.units + 64 < cLine) (hi : PE X i ty) (ho : PE X o td) : PC X .NotIn i o (tNNot X ty td) := by
  refine ⟨fun pins s σ H Q I h => ?_⟩
  refine thn (hi.run pins s σ H _ I h) fun iv s1 ⟨y, H1, I1, ry, q1⟩ => thn (ho.run pins s1 σ H1 _ I1 q1) fun u s2 ⟨x, H2, I2, rx, d, q, es, k, ex, ey, N, ik, q2⟩ => ?_
  subst ex ey
  obtain rfl : u = Value.ref d := rx
  obtain rfl : iv = Value.ref q := ry
  refine wpAny_notIn_heap (nroom hu X.prog X.w) (ix_is I2.hok ik) N.low (N.h I2.hok) ?_
  have e : (atKey (nX es) (ixK k)).isSome = (lookN es k).isSome := by
    have := congrArg Option.isSome (atKey_n es k)
    rwa [Option.isSome_map, Option.isSome_map] at this
  rw [e]
  exact ⟨.bl _, H2, I2.tok _, rfl, q2⟩
/-- d[key] -/
def tNGet (X : Cx) (td ty : TE) : TE := fun σ H Q => td σ H fun x H1 => ty σ H1 fun y H2 => ∃ d q es k a, x = .ref d ∧ y = .ref q ∧ NDict X.prog X.w H2 d es ∧ IxAt H2 q k ∧ lookN es k = some a ∧ Q (.ref a) H2
theorem pe_nget (hu : X.A.units + 64 < cLine) (ho : PE X o td) (hi : PE X i ty) (hs : NoSl i) : PE X (.Subscript o i pos) (tNGet X td ty) := by
  refine ⟨fun pins s σ H Q I h => ?_⟩
  refine subD_of PySem.F.slot_dict_getitem.lookup hs (thn (ho.run pins s σ H _ I h) fun u s1 ⟨x, H1, I1, rx, q1⟩ => thn (hi.run pins s1 σ H1 _ I1 q1) fun iv s2 ⟨y, H2, I2, ry, d, q, es, k, a, ex, ey, N, ik, lk, q2⟩ => ?_)
  subst ex ey
  obtain rfl : u = Value.ref d := rx
  obtain rfl : iv = Value.ref q := ry
  have g := N.h I2.hok
  refine ⟨g.typeIs, ?_⟩
  have e := atKey_n es k
  rw [lk, Option.map_some] at e
  obtain ⟨p, hp, hp2⟩ := Option.map_eq_some_iff.mp e
  refine wpAny_getItem_heap (nroom hu X.prog X.w) (ix_is I2.hok ik) g hp ?_
  rw [hp2]
  exact ⟨.ref a, H2, I2.tok _, rfl, q2⟩
/-- d[key] = v, a new key -/
def sNPut (X : Cx) (td ty tv : TE) : TS := fun D σ H => tv σ H fun v H1 => td σ H1 fun x H2 => ty σ H2 fun y H3 => ∃ d q es k a, x = .ref d ∧ y = .ref q ∧ v = .ref a ∧ NDict X.prog X.w H3 d es ∧ IxAt H3 q k ∧ lookN es k = none ∧ es.length < 10000 ∧
  (NDict X.prog X.w (upd H3 d (nO X.prog X.w d (es ++ [(k, q, a)]))) d (es ++ [(k, q, a)]) → D.nx σ (upd H3 d (nO X.prog X.w d (es ++ [(k, q, a)]))))
theorem lookN_none {es : NEs} {k : Ix} (h : lookN es k = none) : k ∉ es.map (·.1) := by
  intro hk
  obtain ⟨e, he, rfl⟩ := List.mem_map.mp hk
  unfold lookN at h
  rw [Option.map_eq_none_iff, List.find?_eq_none] at h
  exact h e he (by simp)
theorem NDict.snoc {P : Program} {w : World} {H : Hp} {d q a : Addr} {es : NEs} {k : Ix} (N : NDict P w H d es) (ik : IxAt H q k) (lk : lookN es k = none) (hl : es.length < 10000) : NDict P w (upd H d (nO P w d (es ++ [(k, q, a)]))) d (es ++ [(k, q, a)]) := by
  have tk : ∀ b xs, H b = some (.tup xs) → upd H d (nO P w d (es ++ [(k, q, a)])) b = some (.tup xs) := fun b xs e => by
    rw [upd_ne (fun z => by rw [z, N.at_] at e; cases e)]
    exact e
  refine ⟨N.low, by rw [List.length_append]; simp only [List.length_cons, List.length_nil]; omega, ?_, fun e he => ?_, upd_same⟩
  · rw [List.map_append]
    refine List.nodup_append.mpr ⟨N.nd, by simp, fun x hx y hy => ?_⟩
    simp only [List.map_cons, List.map_nil, List.mem_cons, List.not_mem_nil, or_false] at hy
    intro z
    rw [z, hy] at hx
    exact lookN_none lk hx
  · rcases List.mem_append.mp he with he | he
    · exact (N.keys e he).mono tk
    · rw [List.mem_singleton.mp he]
      exact ik.mono tk
theorem ps_nput (hu : X.A.units + 64 < cLine) (ho : PE X o td) (hi : PE X i ty) (hv : PE X value tv) (hs : swapsWith value (some (.Subscript o i pos')) pos.line X.env = pure false) :
    PS X (.Assign [.Subscript o i pos'] value pos) (sNPut X td ty tv) := by
  refine ⟨fun pins s σ H D I h => ?_⟩
  refine wpAny_Assign_Subscript (thn (hv.run pins s σ H _ I h) fun r s1 ⟨v, H1, I1, rv, q1⟩ => thn (ho.run pins s1 σ H1 _ I1 q1) fun u s2 ⟨x, H2, I2, rx, q2⟩ => thn (hi.run pins s2 σ H2 _ I2 q2) fun iv s3 ⟨y, H3, I3, ry, d, q, es, k, a, ex, ey, ev, N, ik, lk, hl, q3⟩ => ?_) hs
  subst ex ey ev
  obtain rfl : u = Value.ref d := rx
  obtain rfl : iv = Value.ref q := ry
  obtain rfl : r = Value.ref a := rv
  have e0 : atKey (nX es) (ixK k) = none := by
    have := atKey_n es k
    rw [lk] at this
    cases z : atKey (nX es) (ixK k) with
    | none => rfl
    | some p => rw [z] at this; cases this
  have e1 : storedH (nX es) (ixK k) q (.ref a) = nX (es ++ [(k, q, a)]) := by
    rw [storedH_new e0]
    unfold nX
    rw [List.map_append]
    rfl
  refine wpAny_setItem_heap (hsz := by unfold nX; rw [List.length_map]; exact Nat.le_trans N.len (by decide)) (nroom hu X.prog X.w) (ix_is I3.hok ik) (N.h I3.hok) fun h' dd' hs => ?_
  rw [e1] at dd'
  have he : ∃ u, h'.get? d = some u := let ⟨q, _, _, hq, _⟩ := dd'; ⟨q, hq⟩
  exact ⟨σ, _, d_write I3 (by rw [N.at_]; exact True.intro) hs he (nO_ok dd'), q3 (N.snoc ik lk hl)⟩
/-- list(d) -/
theorem call_list_n (hc : X.calm = true) : CallR X (.type "list") (fun xs H Q => ∃ d es, xs = [V.ref d] ∧ NDict X.prog X.w H d es ∧ ∀ p, H p = none → Q (.ref p) (upd H p (.lst ((es.map fun e => e.2.1).map V.ref)))) := by
  intro pins s σ H xs us Q I r h
  obtain ⟨d, es, rfl, N, q⟩ := h
  obtain ⟨u, rfl, rx⟩ := r.one
  cases rx
  obtain ⟨o, ds, ep, ho, hx, hdt, he, _, hn⟩ := N.h I.hok
  have l1 : ds.size = (nX es).length := size_of_entries he
  have l2 : (nX es).length = es.length := by unfold nX; rw [List.length_map]
  have l3 := N.len
  have l4 : (10000 : Nat) ≤ 2 ^ 24 := by decide
  refine PySem.W.kdl_call (kdl_raw N.low hx hdt) (I.ok.hd hc) ho (by rw [l1, l2]; exact Nat.le_trans l3 (by decide)) fun h' tk acc' c' kp e it => ?_
  have ea : acc'.toList = (nX es).map fun x => Value.ref x.2.1 := by
    have hl : acc'.toList.length = (nX es).length := by rw [Array.length_toList, it.1]; exact l1
    apply List.ext_getElem?
    intro j
    rw [List.getElem?_map]
    cases hj : acc'.toList[j]? with
    | none =>
      have h1 := List.getElem?_eq_none_iff.mp hj
      rw [List.getElem?_eq_none (by omega)]
      all_goals rfl
    | some v =>
      obtain ⟨en, hen, hv⟩ := it.2 j v (by rw [← Array.getElem?_toList]; exact hj)
      have qe := entry_at he j
      rw [hen] at qe
      cases hb : (nX es)[j]? with
      | none =>
        rw [hb] at qe
        exact nomatch (show some en = none from qe)
      | some b =>
        rw [hb] at qe
        have e2 : en = entryOfKey (nestedKind X.prog X.w) b := Option.some.inj qe
        rw [hv, e2]
        all_goals rfl
  have eb : acc'.toList = (es.map fun e => e.2.1).map Value.ref := by
    rw [ea]
    unfold nX
    rw [List.map_map, List.map_map]
    rfl
  have rv : Vals ((es.map fun e => e.2.1).map V.ref) acc'.toList := by rw [eb]; exact L2.vals_refs _
  refine ⟨.ref s.heap.objs.size, _, I.laid (t' := tk) (o := .lst ((es.map fun e => e.2.1).map V.ref)) kp (Nat.le_refl _) ?_, rfl, q _ (I.hok.fresh (Nat.le_refl _))⟩
  exact ⟨by rw [List.length_map, List.length_map]; exact Nat.le_trans l3 (by decide), acc'.toList, c', rv, by rw [Array.toArray_toList]; exact e⟩
/-- {} whose keys will be such tuples -/
def tDNewN (X : Cx) : TE := fun _ H Q => ∀ p, H p = none → NDict X.prog X.w (upd H p (nO X.prog X.w p [])) p [] → Q (.ref p) (upd H p (nO X.prog X.w p []))
theorem pe_dnewN : PE X (.Dict [] [] pos) (tDNewN X) := ⟨fun pins s σ H Q I h =>
  have low : (s.heap.objs.size == sysModules) = false := beq_eq_false_iff_ne.mpr (Ne.symm (Nat.ne_of_lt I.big))
  wpAny_Dict_empty ⟨.ref s.heap.objs.size, _, I.laid (a := s.heap.objs.size) (o := nO X.prog X.w s.heap.objs.size []) (t' := s.toks) (fun _ _ q => Heap.get?_push_of_some _ q) (Nat.le_refl _)
    (nO_ok ⟨_, #[], 0, Heap.get?_push_size _ rfl, ⟨rfl, rfl, rfl⟩, rfl, rfl, (fun x hx => nomatch (show x ∈ ([] : List (NestedKey × Addr × Value)) from hx)), List.nodup_nil⟩), rfl,
    h _ (I.hok.fresh (Nat.le_refl _)) ⟨low, Nat.zero_le _, List.nodup_nil, (fun e he => nomatch he), upd_same⟩⟩⟩
end
end KA
set_option Elab.async false
set_option linter.all false
set_option maxRecDepth 100000
set_option maxHeartbeats 4000000
/-! d.setdefault(t, x) of a dict whose keys are rows -/
namespace KA
open PySem PySem.Spec PyProof.Rows L2
/-- d.setdefault(t, z), t a row -/
def tDSetT (td ty tx : TE) : TE := fun σ H Q => td σ H fun x H1 => ∃ a, x = .ref a ∧ IsD H1 a ∧ ty σ H1 fun y H2 => tx σ H2 fun z H3 => ∃ (kvs : List (Row × V)) (k : Row) (b : Addr), H3 a = some (.dT kvs) ∧ y = .ref b ∧ H3 b = some (.tup (k.map kV)) ∧ kvs.length < sizeLine ∧
  (∀ v, valV kvs k = some v → Q v H3) ∧ (valV kvs k = none → Q z (upd H3 a (.dT (putK kvs k z))))
section
variable {X : Cx} {pins : List (Addr × Obj)} {σ : L2.St} {H : Hp} {s : Shared} {a b : Addr} {r : Value} {d : V} {k : Row} {A : Around} {E : Value → Shared → Prop}
theorem setd_rows {kvs : List (Row × V)} {Q : Value → Shared → Prop} (hu : A.units + 1 < cLine) (I : Inv X pins σ H s) (e : H a = some (.dT kvs)) (eb : H b = some (.tup (k.map kV))) (rd : RelV d r) (hl : kvs.length < sizeLine)
    (h1 : ∀ v, valV kvs k = some v → ∀ (w' : Value) (s' : Shared), Inv X pins σ H s' → RelV v w' → Q w' s') (h2 : valV kvs k = none → ∀ (w' : Value) (s' : Shared), Inv X pins σ (upd H a (.dT (putK kvs k d))) s' → RelV d w' → Q w' s') :
    wpAny (model X.prog X.w) A (call (.builtin "dict.setdefault") [.ref a, .ref b, r]) Q E s := by
  obtain ⟨z, hd, xs, rel, dd⟩ := dt_of I.hok e
  have hz : xs.length ≤ sizeLine := by
    rw [← Paired.length rel]
    exact z
  have rv := KT.val rel k
  refine call_meetsIn PySem.F.slot_dict_setdefault dd.typeIs PySem.F.entry_dict_setdefault (PySem.F.args_dict_setdefault_3 _ _ _) (meetsH_dict_setdefault (tupleKind (mixKind X.prog X.w)) a b hd r)
    ⟨tupleKind_room_in1 hu, k, xs, key_of I.hok eb, dd, hz, fun p hp => ?_, fun hn h' dd' hs => ?_⟩
  · rw [hp] at rv
    cases q0 : valV kvs k with
    | none =>
      rw [q0] at rv
      exact (show False from rv).elim
    | some v0 =>
      rw [q0] at rv
      exact h1 v0 q0 _ _ (I.tok _) rv
  · rw [hn] at rv
    cases q0 : valV kvs k with
    | some v0 =>
      rw [q0] at rv
      exact (show False from rv).elim
    | none =>
      have hl2 : (putK kvs k d).length ≤ sizeLine := by
        have := length_putK kvs k d
        omega
      obtain ⟨q, es, ep, hq, g2, g3, g4, _, g5⟩ := dd'
      refine h2 q0 _ _ (d_write I (by rw [e]; exact True.intro) hs ⟨q, hq⟩ ⟨hl2, hd, _, (KT.put rel k eb rd).keeps fun c ys ec => ?_, q, es, ep, hq, g2, g3, g4, g5⟩) rd
      rw [upd_ne (ne_of ec e (fun z => nomatch z))]
      exact ec
end
section
variable {X : Cx} {o e f : Expr} {td ty tx : TE} {apos cpos : Pos}
theorem pe_dsetT (hu : X.A.units + 64 < cLine) (ho : PE X o td) (he : PE X e ty) (hf : PE X f tx) (m : M2 X o "setdefault" apos e f cpos) : PE X (.Call (.Attribute o "setdefault" apos) [e, f] [] cpos) (tDSetT td ty tx) := by
  refine ⟨fun pins s σ H Q I h => ?_⟩
  refine wpAny_Call_method m.base m.few m.line PySem.F.plainAttrs_dict PySem.F.slot_dict_setdefault PySem.F.type_dict_setdefault (thn (ho.run pins s σ H _ I h) fun u s1 ⟨x, H1, I1, rx, a, ex, dd, q1⟩ => ?_)
  subst ex
  obtain rfl : u = Value.ref a := rx
  obtain ⟨t1, t2, _⟩ := isD_at I1 dd
  refine ⟨t1, t2, ?_⟩
  rw [m.trees]
  refine Calls.callWith_builtin rfl (Calls.evalArgs_plain (Calls.spliced_cons (thn (he.run pins s1 σ H1 _ I1 q1) fun iv s2 ⟨y, H2, I2, ry, q2⟩ =>
    Calls.spliced_cons (thn (hf.run pins s2 σ H2 _ I2 q2) fun fv s3 ⟨z, H3, I3, rz, kvs, k, b, ea, ey, eb, hl, q3, q4⟩ => Calls.spliced_nil ?_))))
  subst ey
  obtain rfl : iv = Value.ref b := ry
  exact setd_rows (by omega) I3 ea eb rz hl (fun v hv w' s4 I4 rw' => ⟨v, _, I4, rw', q3 v hv⟩) fun hn w' s4 I4 rw' => ⟨z, _, I4, rw', q4 hn⟩
end
end KA
set_option Elab.async false
set_option linter.all false
set_option maxRecDepth 100000
set_option maxHeartbeats 4000000
/-! enter: a row is put into an index -/
namespace KA
open PySem PySem.Spec PyProof.Rows L2
open PySem.W (EachIs)
def pick (pl : List Int) (r : Row) : Row := pl.map fun p => r.getD p.toNat (.inl 0)
def fitB (k : Ix) (r : Row) : Bool := decide ((r.length : Int) = k.1)
def sel (k : Ix) (it : Row) (rs : List Row) : List Row := rs.filter fun r => fitB k r && decide (pick k.2 r = it)
theorem sel_snoc (k : Ix) (it : Row) (rs : List Row) (r : Row) : sel k it (rs ++ [r]) = sel k it rs ++ if (fitB k r && decide (pick k.2 r = it)) = true then [r] else [] := by
  unfold sel
  rw [List.filter_append]
  congr 1
  rw [List.filter_cons]
  rfl
theorem sel_len (k : Ix) (it : Row) (rs : List Row) : (sel k it rs).length ≤ rs.length := List.length_filter_le _ _
abbrev Gr := List (Row × Addr)
structure IdxAt (H : Hp) (d : Addr) (k : Ix) (rs : List Row) (gs : Gr) : Prop where
  hd : H d = some (.dT (gs.map fun g => (g.1, V.ref g.2)))
  kn : (gs.map (·.1)).Nodup
  ln : (gs.map (·.2)).Nodup
  len : gs.length ≤ rs.length
  at_ : ∀ g ∈ gs, ∃ as : List Addr, H g.2 = some (.lst (as.map V.ref)) ∧ EachIs (RowAt H) as (sel k g.1 rs)
  all : ∀ r ∈ rs, fitB k r = true → pick k.2 r ∈ gs.map (·.1)
theorem valG (gs : Gr) (k : Row) : valV (gs.map fun p => (p.1, V.ref p.2)) k = (gs.find? fun p => decide (p.1 = k)).map fun p => V.ref p.2 := by
  induction gs with
  | nil => rfl
  | cons p t ih =>
    unfold valV at ih ⊢
    rw [List.map_cons, List.find?_cons, List.find?_cons]
    by_cases c : p.1 = k
    · simp [c]
    · simp only [decide_eq_false c]
      exact ih
/-- what keeps an index -/
theorem IdxAt.keep {H H' : Hp} {d : Addr} {k : Ix} {rs : List Row} {gs : Gr} (h : IdxAt H d k rs gs) (hd : H' d = H d) (hl : ∀ g ∈ gs, H' g.2 = H g.2) (ht : ∀ a xs, H a = some (.tup xs) → H' a = some (.tup xs)) : IdxAt H' d k rs gs :=
  ⟨hd.trans h.hd, h.kn, h.ln, h.len, fun g hg => let ⟨as, a1, a2⟩ := h.at_ g hg; ⟨as, (hl g hg).trans a1, a2.mono fun _ _ z => ht _ _ z⟩, h.all⟩
theorem IdxAt.other {H : Hp} {d : Addr} {k : Ix} {rs : List Row} {gs : Gr} (h : IdxAt H d k rs gs) {r : Row} (hr : fitB k r = false) : IdxAt H d k (rs ++ [r]) gs :=
  ⟨h.hd, h.kn, h.ln, Nat.le_trans h.len (by simp), fun g hg => by
    obtain ⟨as, a1, a2⟩ := h.at_ g hg
    refine ⟨as, a1, ?_⟩
    rw [sel_snoc, hr]
    simpa using a2, fun x hx hf => by
    rcases List.mem_append.mp hx with z | z
    · exact h.all x z hf
    · rw [List.mem_singleton.mp z, hr] at hf
      cases hf⟩
theorem IdxAt.old {H : Hp} {d l q : Addr} {k : Ix} {rs : List Row} {gs : Gr} (h : IdxAt H d k rs gs) {r : Row} (hq : RowAt H q r) (hr : fitB k r = true) (hm : (pick k.2 r, l) ∈ gs) {as : List Addr} (hl : H l = some (.lst (as.map V.ref))) :
    IdxAt (upd H l (.lst (as.map V.ref ++ [V.ref q]))) d k (rs ++ [r]) gs := by
  have ht : ∀ a xs, H a = some (.tup xs) → upd H l (.lst (as.map V.ref ++ [V.ref q])) a = some (.tup xs) := fun a xs e => by
    rw [upd_ne (fun z => by rw [z, hl] at e; cases e)]
    exact e
  refine ⟨?_, h.kn, h.ln, Nat.le_trans h.len (by simp), fun g hg => ?_, fun x hx hf => ?_⟩
  · rw [upd_ne (fun z => by have := h.hd; rw [z, hl] at this; cases this)]
    exact h.hd
  · obtain ⟨as2, a1, a2⟩ := h.at_ g hg
    by_cases e : g.1 = pick k.2 r
    · have eg : g = (pick k.2 r, l) := by
        obtain ⟨i, hi⟩ := List.mem_iff_getElem?.mp hg
        obtain ⟨j, hj⟩ := List.mem_iff_getElem?.mp hm
        have h1 : (gs.map (·.1))[i]? = some (pick k.2 r) := by rw [List.getElem?_map, hi, Option.map_some, e]
        have h2 : (gs.map (·.1))[j]? = some (pick k.2 r) := by rw [List.getElem?_map, hj]; rfl
        have hij : i = j := (List.getElem?_inj (List.getElem?_eq_some_iff.mp h1).1 h.kn).mp (h1.trans h2.symm)
        rw [hij, hj] at hi
        exact (Option.some.inj hi).symm
      rw [eg] at a1 a2 ⊢
      have a1' : H l = some (.lst (as2.map V.ref)) := a1
      have ea : as2 = as := by
        rw [hl] at a1'
        have e2 : as.map V.ref = as2.map V.ref := by injection (Option.some.inj a1')
        exact ((List.map_inj_right fun a b z => by injection z).mp e2).symm
      rw [ea] at a2
      refine ⟨as ++ [q], by rw [List.map_append]; exact upd_same, ?_⟩
      rw [sel_snoc, hr]
      simp only [decide_true, Bool.true_and, if_true]
      exact each_snoc1 (R := RowAt (upd H l (.lst (as.map V.ref ++ [V.ref q])))) (ht _ _ hq) (a2.mono fun _ _ z => ht _ _ z)
    · have gl : g.2 ≠ l := fun z => e (by
        obtain ⟨i, hi⟩ := List.mem_iff_getElem?.mp hg
        obtain ⟨j, hj⟩ := List.mem_iff_getElem?.mp hm
        have h1 : (gs.map (·.2))[i]? = some l := by rw [List.getElem?_map, hi, Option.map_some, z]
        have h2 : (gs.map (·.2))[j]? = some l := by rw [List.getElem?_map, hj]; rfl
        have hij : i = j := (List.getElem?_inj (List.getElem?_eq_some_iff.mp h1).1 h.ln).mp (h1.trans h2.symm)
        rw [hij, hj] at hi
        rw [← Option.some.inj hi])
      refine ⟨as2, by rw [upd_ne gl]; exact a1, ?_⟩
      rw [sel_snoc, decide_eq_false (fun z => e z.symm), Bool.and_false, if_neg Bool.false_ne_true, List.append_nil]
      exact a2.mono fun _ _ z => ht _ _ z
  · rcases List.mem_append.mp hx with z | z
    · exact h.all x z hf
    · rw [List.mem_singleton.mp z]
      exact List.mem_map.mpr ⟨_, hm, rfl⟩
theorem IdxAt.new {H H' : Hp} {d l q : Addr} {k : Ix} {rs : List Row} {gs : Gr} (h : IdxAt H d k rs gs) {r : Row} (hq : RowAt H q r) (hr : fitB k r = true) (hn : pick k.2 r ∉ gs.map (·.1)) (hl : H l = none)
    (e1 : H' d = some (.dT ((gs ++ [(pick k.2 r, l)]).map fun g => (g.1, V.ref g.2)))) (e2 : H' l = some (.lst [V.ref q])) (e3 : ∀ a o, a ≠ d → H a = some o → H' a = some o) : IdxAt H' d k (rs ++ [r]) (gs ++ [(pick k.2 r, l)]) := by
  have ht : ∀ a xs, H a = some (.tup xs) → H' a = some (.tup xs) := fun a xs e => e3 a _ (fun z => by rw [z, h.hd] at e; cases e) e
  have none_sel : sel k (pick k.2 r) rs = [] := by
    unfold sel
    rw [List.filter_eq_nil_iff]
    intro x hx
    rw [Bool.and_eq_true, decide_eq_true_eq]
    rintro ⟨f, e⟩
    exact hn (by rw [← e]; exact h.all x hx f)
  have gl : l ∉ gs.map (·.2) := fun z => by
    obtain ⟨g, hg, e⟩ := List.mem_map.mp z
    obtain ⟨as, a1, _⟩ := h.at_ g hg
    rw [e, hl] at a1
    cases a1
  refine ⟨e1, ?_, ?_, by simp only [List.length_append, List.length_cons, List.length_nil]; have := h.len; omega, fun g hg => ?_, fun x hx hf => ?_⟩
  · rw [List.map_append]
    refine List.nodup_append.mpr ⟨h.kn, by simp, fun x hx y hy z => ?_⟩
    simp only [List.map_cons, List.map_nil, List.mem_cons, List.not_mem_nil, or_false] at hy
    rw [z, hy] at hx
    exact hn hx
  · rw [List.map_append]
    refine List.nodup_append.mpr ⟨h.ln, by simp, fun x hx y hy z => ?_⟩
    simp only [List.map_cons, List.map_nil, List.mem_cons, List.not_mem_nil, or_false] at hy
    rw [z, hy] at hx
    exact gl hx
  · rcases List.mem_append.mp hg with z | z
    · obtain ⟨as, a1, a2⟩ := h.at_ g z
      have ne : g.2 ≠ d := fun y => by rw [y, h.hd] at a1; cases a1
      refine ⟨as, e3 _ _ ne a1, ?_⟩
      have e : ¬ pick k.2 r = g.1 := fun y => hn (by rw [y]; exact List.mem_map.mpr ⟨g, z, rfl⟩)
      rw [sel_snoc, decide_eq_false e, Bool.and_false, if_neg Bool.false_ne_true, List.append_nil]
      exact a2.mono fun _ _ z => ht _ _ z
    · rw [List.mem_singleton.mp z]
      refine ⟨[q], e2, ?_⟩
      rw [sel_snoc, none_sel, hr]
      simp only [decide_true, Bool.true_and, if_true, List.nil_append]
      exact .cons (ht _ _ hq) .nil
  · rw [List.map_append]
    rcases List.mem_append.mp hx with z | z
    · exact List.mem_append_left _ (h.all x z hf)
    · rw [List.mem_singleton.mp z]
      exact List.mem_append_right _ (by simp)
theorem atI_getD {r : Row} {n : Nat} (h : n < r.length) : atI (r.map kV) ((n : Nat) : Int) = some (kV (r.getD n (.inl 0))) := by
  refine atI_nat (j := n) ?_
  rw [List.getElem?_map, List.getElem?_eq_getElem h, Option.map_some]
  congr 2
  rw [List.getD_eq_getElem?_getD, List.getElem?_eq_getElem h]
  rfl
section
variable {P : Program} {w : World} {K : PySem.W.Frag} {mg : Str → Option Value} {base : Heap} {f : Addr} {fd : FuncData}
/-- places within a size -/
structure IxOk (k : Ix) : Prop where
  lo : ∀ p ∈ k.2, 0 ≤ p ∧ p < k.1
  few : k.2.length ≤ 1000
def spEnter : Sp := fun vs H Q _ => ∃ (d pl q : Addr) (k : Ix) (r : Row) (rs : List Row) (gs : Gr), vs = [.ref d, .int k.1, .ref pl, .ref q] ∧ H pl = some (.tup (k.2.map V.int)) ∧ RowAt H q r ∧ r.length ≤ 1000 ∧ IxOk k ∧ IdxAt H d k rs gs ∧ rs.length ≤ 10000 ∧
  ∀ H' gs', IdxAt H' d k (rs ++ [r]) gs' → (∀ a o, a ≠ d → a ∉ gs.map (·.2) → H a = some o → H' a = some o) → (∀ g ∈ gs', g.2 ∈ gs.map (·.2) ∨ H g.2 = none) → Q .non H'
theorem ok_enter (F : FnP K "enter" s_enter f fd) (gL : mg "len" = none) (gT : mg "tuple" = none) : FnOk P w K mg base CX0 1 f fd ["index", "size", "places", "row"] spEnter := by
  refine F.ok sc_enter (fun vs H Q E h => ?_) (fun cdv A outer s H vs Q E hr h => ?_)
  · obtain ⟨d, pl, q, k, r, rs, gs, rfl, _⟩ := h
    rfl
  · obtain ⟨d, pl, q, k, r, rs, gs, rfl, hpl, hq, rl, ko, hI, rsl, kk⟩ := h
    refine ⟨_, PSs.nox (pss_one (ps_if (pt_cmpR op_eq (pe_callB call_len_seq (by rfl) gL PySem.boot_len (pa_cons (pv 3) pa_nil)) (pv 1) (nomark _))
      (pss_one (ps_expr (pe_bm PySem.F.plainAttrs_list PySem.F.slot_list_append PySem.F.type_list_append mt_append (pe_dsetT hr.u64 (pv 0)
        (pe_callTy call_tuple_of (by rfl) gT (by decide +kernel) (pa_cons (pe_lc (own := [("k", 4)]) (g := gName 4) (tt := tYes) (te := tOp (rIxT K) (tVar 3) (tVar 4)) (by rfl) sc_enter.nd (pi_tup (pv 2))
          (blkOk_by (own := [("k", 4)]) (N := ["index", "size", "places", "row", "k"]) (sc := defScope s_enter) (by decide +kernel)) (fun _ _ _ _ _ => pg_name (i := 4) sc_enter.nd rfl (Or.inl rfl)) (fun _ _ _ _ _ => pts_nil)
          (fun _ _ _ _ _ => pe_ix ix_tup (pv 3) (pv 4) (fun _ _ => rfl))) pa_nil)) (pe_lst pa_nil) ⟨rfl, rfl, rfl, rfl⟩) (pa_cons (pv 3) pa_nil)))) pss_nil)), ?_⟩
    refine ⟨_, rfl, q, _, rfl, .inr hq.sq, _, rfl, rfl, _, rfl, ?_⟩
    rw [List.length_map]
    by_cases e : ((r.length : Nat) : Int) = k.1
    · rw [decide_eq_true (congrArg V.int e)]
      have fit : fitB k r = true := decide_eq_true e
      refine iteT ⟨_, rfl, d, rfl, .inr ⟨_, .inl hI.hd⟩, ?_⟩
      refine ⟨_, rfl, pl, rfl, ⟨_, sq_t hpl⟩, fun D hD => ?_⟩
      refine lc_same (walk_tup (xs := k.2.map V.int)) k.2 (by rw [List.length_map]) (fun _ => true) (fun _ v p => v = kV (r.getD p.toNat (.inl 0))) (fun _ _ _ _ _ z => z) hD (fun H' s' => sq_t (s' _ _ hpl)) (by rw [List.length_map]; exact Nat.le_trans ko.few (by decide)) ?_ ?_
      · rintro i x p H1 _ hi hb s1 ⟨rfl, hx⟩ Q' Qn h1 _
        obtain ⟨p', hp', rfl⟩ := map_at hx
        obtain rfl : p = p' := Option.some.inj (hb.symm.trans hp')
        obtain ⟨lo, hi2⟩ := ko.lo p (List.mem_of_getElem? hb)
        obtain ⟨n, rfl⟩ : ∃ n : Nat, p = n := ⟨p.toNat, by omega⟩
        have hn : n < r.length := by omega
        refine ⟨rfl, yes_in ⟨_, rfl, _, rfl, q, _, _, _, rfl, rfl, (hq.mono s1).sq, atI_getD hn, h1 rfl _ _ (Same.refl _) ?_⟩⟩
        rw [Int.toNat_natCast]
      · intro H1 acc s1 ha he
        rw [filter_true] at he
        have eacc : acc = (pick k.2 r).map kV := by
          clear ha
          unfold pick
          rw [List.map_map]
          generalize k.2 = l at he
          induction he with
          | nil => rfl
          | cons h t ih => rw [List.map_cons, ← ih, h]; rfl
        refine ⟨D, acc, rfl, .inl ⟨sq_l ha, fun it hit => ?_⟩⟩
        have s2 : Same H (upd H1 it (.tup acc)) := s1.trans (same_new hit)
        have ait : upd H1 it (.tup acc) it = some (.tup ((pick k.2 r).map kV)) := by rw [upd_same, eacc]
        generalize upd H1 it (.tup acc) = H2 at s2 ait
        refine ⟨Nat.zero_le _, fun z hz => ?_⟩
        have s3 : Same H2 (upd H2 z (.lst [])) := same_new hz
        have s03 := s2.trans s3
        have hd3 : upd H2 z (.lst []) d = some (.dT (gs.map fun g => (g.1, V.ref g.2))) := s03 _ _ hI.hd
        have gl := hI.len
        have big : (10001 : Nat) ≤ sizeLine := by decide
        refine ⟨_, pick k.2 r, it, hd3, rfl, s3 _ _ ait, by rw [List.length_map]; omega, fun v hv => ?_, fun hv => ?_⟩
        · rw [valG] at hv
          obtain ⟨g, hg, rfl⟩ := Option.map_eq_some_iff.mp hv
          have h1 := List.find?_some hg
          simp only [decide_eq_true_eq] at h1
          have hm : (pick k.2 r, g.2) ∈ gs := by
            have := List.mem_of_find?_eq_some hg
            rw [← h1]
            exact this
          obtain ⟨as, a1, a2⟩ := hI.at_ _ hm
          have a3 := s03 _ _ a1
          have sl : as.length = (sel k (pick k.2 r) rs).length := a2.length
          have sl2 := sel_len k (pick k.2 r) rs
          refine ⟨.inl ⟨rfl, _, .inl (.inl a3)⟩, _, rfl, g.2, _, _, rfl, rfl, a3, by rw [List.length_map]; omega, ?_⟩
          have hI3 : IdxAt (upd H2 z (.lst [])) d k rs gs := hI.keep (by rw [hd3]; exact hI.hd.symm) (fun g hg => by
            obtain ⟨as, b1, _⟩ := hI.at_ g hg
            rw [b1]
            exact s03 _ _ b1) fun a xs e => s03 _ _ e
          refine kk _ gs (hI3.old (hq.mono s03) fit hm a3) (fun a o n1 n2 e => ?_) fun g hg => .inl (List.mem_map.mpr ⟨g, hg, rfl⟩)
          rw [upd_ne (fun y => n2 (by rw [y]; exact List.mem_map.mpr ⟨_, hm, rfl⟩))]
          exact s03 _ _ e
        · rw [valG] at hv
          have hn : pick k.2 r ∉ gs.map (·.1) := fun hk => by
            obtain ⟨g, hg, e⟩ := List.mem_map.mp hk
            rw [Option.map_eq_none_iff, List.find?_eq_none] at hv
            exact hv g hg (by simpa using e)
          have dz : d ≠ z := ne_of_none (s2 _ _ hI.hd) hz
          have zq : z ≠ q := fun y => by rw [y, s2 _ _ hq] at hz; cases hz
          refine ⟨.inl ⟨rfl, _, .inl (.inl (show upd (upd H2 z (.lst [])) d _ z = some (.lst []) by rw [upd_ne dz.symm, upd_same]))⟩, _, rfl, z, _, _, rfl, rfl, (by rw [upd_ne dz.symm, upd_same]), (by decide), ?_⟩
          have e0 : valV (gs.map fun g => (g.1, V.ref g.2)) (pick k.2 r) = none := by rw [valG, hv]
          have hz0 : H z = none := by
            cases y : H z with
            | none => rfl
            | some o => rw [s2 _ _ y] at hz; cases hz
          refine kk _ (gs ++ [(pick k.2 r, z)]) (hI.new (l := z) hq fit hn hz0 ?_ ?_ fun a o n1 e => ?_) (fun a o n1 n2 e => ?_) fun g hg => ?_
          · rw [upd_ne dz, upd_same, putK_new _ e0, List.map_append]
            rfl
          · rw [upd_same]
            rfl
          · rw [upd_ne (ne_of_none (s2 _ _ e) hz), upd_ne n1]
            exact s03 _ _ e
          · rw [upd_ne (ne_of_none (s2 _ _ e) hz), upd_ne n1]
            exact s03 _ _ e
          · rcases List.mem_append.mp hg with y | y
            · exact .inl (List.mem_map.mpr ⟨g, y, rfl⟩)
            · rw [List.mem_singleton.mp y]
              exact .inr hz0
    · rw [decide_eq_false fun z => e (by injection z)]
      refine iteF (kk _ gs (hI.other (decide_eq_false e)) (fun a o _ _ e => e) fun g hg => .inl (List.mem_map.mpr ⟨g, hg, rfl⟩))
end
end KA
set_option Elab.async false
set_option linter.all false
set_option maxRecDepth 100000
set_option maxHeartbeats 4000000
/-! {k: v for ..} for a dict of any kind of keys: a kind is told by its empty dict and by how a pair is put -/
namespace KA
open PySem PySem.Spec PyProof.Rows L2
/-- a pair comes to the dict: heap, key, value, heap -/
abbrev PutR := Hp → V → V → Hp → Prop
/-- the model's store of a comprehension keeps to it -/
def PutOk (P : Program) (w : World) (D : Addr) (put : PutR) : Prop := ∀ (Y : Cx) (pn : List (Addr × Obj)) (t : Shared) (τ : L2.St) (G G' : Hp) (y z : V) (u r : Value) (E : Value → Shared → Prop) (R : Unit → Shared → Prop), Y.prog = P → Y.w = w → Y.A.units + 64 < cLine →
  Inv Y pn τ G t → RelV y u → RelV z r → put G y z G' → (∀ t', Inv Y pn τ G' t' → R () t') → wpAny (model P w) Y.A (dictSet D u r) R E t
/-- what each turn asks -/
def DcTurn (D : Addr) (put : PutR) (J : It) (g : TG) (tt : TT) (tk tv : TE) (τ0 : L2.St) (own : List Nat) (W : Nat → Nat → Hp → Prop) (Qd : Hp → Prop) : Prop := ∀ i m G, W i m G → (J.stop i G ∧ Qd G) ∨ (J.go i G ∧ ∃ Nx : Hp → Prop, (∀ G', Nx G' → ∃ m', m' < m ∧ W (i + 1) m' G') ∧
  ∀ x G', J.yld i G x G' → g x τ0 G' fun τ G2 => wipe τ own = τ0 ∧ tt τ G2 fun b G3 => if b = true then tk τ G3 fun y G4 => tv τ G4 fun z G5 => ∃ G6, put G5 y z G6 ∧ Nx G6 else Nx G3)
def tDcG (o0 : Addr → HO) (putD : Addr → PutR) (wi : TI) (g : TG) (tt : TT) (tk tv : TE) (own : List Nat) : TE := fun σ H Q => wi σ H fun J G0 => ∀ D, G0 D = none → ∃ W : Nat → Nat → Hp → Prop, (∃ m, W 0 m (upd G0 D (o0 D))) ∧ DcTurn D (putD D) J g tt tk tv (wipe σ own) own W (Q (.ref D))
section
variable {Z : Cx} {kx vx tg iter : Expr} {ifs : List Expr} {scope : Scope} {pos : Pos} {g : TG} {tt : TT} {tk tv : TE}
/-- the block's loop -/
theorem dcG_loop {it D : Addr} {fp : List Addr} {J : It} {tn : Nat → Heap → Prop} {W : Nat → Nat → Hp → Prop} {put : PutR} {τ0 : L2.St} {own : List Nat} {Qd : Hp → Prop} {R : Result → Shared → Prop} {m0 : Nat} {G0 : Hp} {s : Shared}
    (noExc : Z.xe = fun _ _ => False) (calm : Z.calm = true) (units : Z.A.units + 64 < cLine) (T : Turn Z.prog Z.w Z.K tg J fp it tn) (pg : PG Z tg g) (pt : PTs Z ifs tt) (pk : PE Z kx tk) (pv : PE Z vx tv) (po : PutOk Z.prog Z.w D put)
    (stand : ∀ (τ : L2.St) (G : Hp) (t : Shared), Inv Z [] τ G t → (∀ b ∈ fp, G b = none) → ∀ b ∈ fp, FpOk Z [] G b) (turns : DcTurn D put J g tt tk tv τ0 own W Qd)
    (leave : ∀ (τ : L2.St) (G : Hp) (t : Shared), Inv Z [] τ G t → Qd G → R (.ok .next) t) (i0 : Inv Z [] τ0 G0 s) (t0 : tn 0 s.heap) (f0 : ∀ b ∈ fp, G0 b = none) (w0 : W 0 m0 G0) :
    codeAny (model Z.prog Z.w) Z.A (.compLoop (.DictComp kx vx [⟨tg, iter, ifs, 0⟩] scope pos) 0 (.ref it) (.ref D) Z.env) R s := by
  refine compLoop_anyD (fun n t => ∃ i G, Inv Z [] τ0 G t ∧ tn i t.heap ∧ (∀ b ∈ fp, G b = none) ∧ W i n G) ?_ m0 ⟨0, G0, i0, t0, f0, w0⟩
  rintro n t ⟨i, G, I, st, fr, hw⟩
  rcases turns i n G hw with ⟨stop, q⟩ | ⟨go, Nx, less, step⟩
  · refine thnF (T.done Z rfl rfl rfl calm i [] t _ G (fun _ _ => False) I (stand _ _ _ I fr) st stop) ?_
    rintro r t' ⟨rfl, I'⟩
    exact leave _ _ _ I' q
  · refine thnF (T.item Z rfl rfl rfl calm i [] t _ G (fun _ _ => False) I (stand _ _ _ I fr) st go) ?_
    rintro r t1 ⟨u, rfl, h1⟩
    refine thnF h1 ?_
    rintro _ t2 ⟨x, G2, I2, rx, yx, st2, fr2⟩
    have held := I2.pinned (stand _ _ _ I2 fr2) (T.obj _ _ st2)
    have e1 := pg.run _ t2 _ G2 x u _ held rx (step x G2 yx)
    rw [noExc] at e1
    refine thnF e1 ?_
    rintro _ t3 ⟨τ3, G3, I3, wip, q3⟩
    have e2 := pt.run _ t3 τ3 G3 _ I3 q3
    rw [noExc] at e2
    refine thnF e2 ?_
    rintro b t4 ⟨G4, I4, q4⟩
    -- from the turn's end to the next turn
    have next : ∀ (t' : Shared) (G' : Hp), Inv Z ([] ++ pinsAt fp t2.heap) τ3 G' t' → Nx G' → ∃ m, m < n ∧ ∃ i G, Inv Z [] τ0 G t' ∧ tn i t'.heap ∧ (∀ b ∈ fp, G b = none) ∧ W i m G := by
      intro t' G' I' nx
      obtain ⟨m, lt, w'⟩ := less G' nx
      have stays : ∀ b ∈ fp, ∀ o, t2.heap.get? b = some o → t'.heap.get? b = some o ∧ G' b = none := fun b hb o e => by
        have := I'.pin (b, o) (List.mem_append_right _ (List.mem_append_right _ (mem_pinsAt hb e)))
        exact ⟨this.1, this.2.1⟩
      refine ⟨m, lt, i + 1, G', (I'.unpinned (pins := [])).weak (by rw [← wip, wipe_length]) (fun j v e => ?_), T.keep _ _ _ st2 fun b hb o e => (stays b hb o e).1, fun b hb => ?_, w'⟩
      · rw [← wip] at e
        exact (wipe_some e).1
      · obtain ⟨o, e, _⟩ := T.obj _ _ st2 b hb
        exact (stays b hb o e).2
    cases b with
    | false =>
      rw [if_neg Bool.false_ne_true] at q4
      rw [if_neg Bool.false_ne_true]
      exact next _ _ I4 q4
    | true =>
      rw [if_pos rfl] at q4
      rw [if_pos rfl]
      have e3 := pk.run _ t4 τ3 G4 _ I4 q4
      rw [noExc] at e3
      refine thnF e3 ?_
      rintro uk t5 ⟨y, G5, I5, ry, q5⟩
      have e4 := pv.run _ t5 τ3 G5 _ I5 q5
      rw [noExc] at e4
      refine thnF e4 ?_
      rintro uv t6 ⟨z, G6, I6, rz, G7, hput, nx⟩
      exact po Z _ t6 τ3 G6 G7 y z uk uv _ _ rfl rfl units I6 ry rz hput fun t7 I7 => next _ _ I7 nx
end
section
variable {X : Cx} {kx vx tg iter : Expr} {ifs : List Expr} {scope : Scope} {own : List (Str × Nat)} {pos : Pos} {wi : TI} {g : TG} {tt : TT} {tk tv : TE} {o0 : Addr → HO} {putD : Addr → PutR}
abbrev blkC (X : Cx) (scope : Scope) (s : Shared) (H : Hp) (C : Addr) (cl : List (Str × Addr)) (fp : List Addr) : Cx := X.blk s H scope (compEnvC scope cl C X.env) fp
theorem pe_dcG (calm : X.calm = true) (hN : X.N.Nodup) (units : X.A.units + 64 < cLine) (hi : PI X tg iter wi) (bo : BlkOk X.N X.env.scope scope own) (hg : ∀ s H C cl fp, PG (blkC X scope s H C cl fp) tg g) (ht : ∀ s H C cl fp, PTs (blkC X scope s H C cl fp) ifs tt)
    (hk : ∀ s H C cl fp, PE (blkC X scope s H C cl fp) kx tk) (hv : ∀ s H C cl fp, PE (blkC X scope s H C cl fp) vx tv) (empty : ∀ (H : Hp) (h : Heap), sysModules < h.objs.size → ObjOk X.prog X.w H (h.push { cls := .type "dict", data := .dict #[] }) h.objs.size (o0 h.objs.size))
    (po : ∀ D, PutOk X.prog X.w D (putD D)) (plain : ∀ x, foldedSetIterable iter X.env x = pure x := by intro _; rfl) : PE X (.DictComp kx vx [⟨tg, iter, ifs, 0⟩] scope pos) (tDcG o0 putD wi g tt tk tv (own.map (·.2))) := by
  refine ⟨fun pins s σ H Q I h => ?_⟩
  rw [arm_eval_DictComp]
  have clo := closure_ok (scope := scope) (env := X.env) fun y hy e => (bo.free y hy e).elim (fun k => I.ok.has _ (.inl k)) fun k => I.ok.has _ (.inr k)
  refine wpAny_comprehension_free (use := none) rfl plain clo bo.kind (fun y hy e => by rw [bo.uniq y hy, e]) (thn (hi.run pins s σ H _ I h) fun _ _ h1 => thn h1 ?_)
  rintro _ t ⟨it, fp, tn, J, G, rfl, J2, T, st, fo, q⟩
  refine wpAny_newObj_type (newEnv_comp ?_)
  -- the new dict
  obtain ⟨D, eD⟩ : ∃ D, D = t.heap.objs.size := ⟨_, rfl⟩
  have fresh : G D = none := J2.hok.fresh (Nat.le_of_eq eD.symm)
  obtain ⟨W, ⟨m0, w0⟩, turns⟩ := q D fresh
  rw [← eD]
  obtain ⟨t1, et1⟩ : ∃ t1 : Shared, t1 = { t with heap := t.heap.push { cls := .type "dict", data := .dict #[] } } := ⟨_, rfl⟩
  rw [← et1]
  have heap1 : t1.heap = t.heap.push { cls := .type "dict", data := .dict #[] } := by rw [et1]
  have J3 : Inv X pins σ (upd G D (o0 D)) t1 := by
    rw [et1]
    refine J2.laid (t' := t.toks) (fun b o e => Heap.get?_push_of_some _ e) (Nat.le_of_eq eD.symm) ?_
    rw [eD]
    exact empty _ t.heap J2.big
  have older : ∀ b ∈ fp, b < D := fun b hb => by
    obtain ⟨o, e, _⟩ := T.obj _ _ st b hb
    rw [eD]
    exact Heap.lt_size e
  have fo1 : ∀ b ∈ fp, FpOk X pins (upd G D (o0 D)) b ∧ b < t1.heap.objs.size := fun b hb => by
    refine ⟨⟨(upd_ne (Nat.ne_of_lt (older b hb))).trans (fo b hb).1, (fo b hb).2⟩, ?_⟩
    rw [heap1, Heap.size_push, ← eD]
    exact Nat.lt_succ_of_lt (older b hb)
  have J4 := block_start J3 bo hN fo1
  obtain ⟨C, eC⟩ : ∃ C, C = t1.heap.objs.size := ⟨_, rfl⟩
  obtain ⟨cl, ecl⟩ : ∃ cl, cl = cellsFrom (t1.heap.objs.size + 1) scope.names (cloFrom X.env.cells scope.names []) := ⟨_, rfl⟩
  obtain ⟨t2, et2⟩ : ∃ t2 : Shared, t2 = { t1 with heap := pushCells (t1.heap.push { cls := .type "dict", data := .dict #[] }) scope.names } := ⟨_, rfl⟩
  rw [← ecl, ← eC, ← et2] at J4
  show codeAny _ _ (.compStart (.DictComp kx vx [⟨tg, iter, ifs, 0⟩] scope pos) 0 (.ref it) (.ref D) (compEnvC scope (cellsFrom (t1.heap.objs.size + 1) scope.names (cloFrom X.env.cells scope.names [])) t1.heap.objs.size X.env))
    (compPost (model X.prog X.w) X.A X.xe none _ (.ref D) t1.heap.objs.size) { t1 with heap := pushCells (t1.heap.push { cls := .type "dict", data := .dict #[] }) scope.names }
  rw [← ecl, ← eC, ← et2]
  have st2 : tn 0 t2.heap := T.keep _ _ _ st fun b _ o e => by
    rw [et2]
    exact pushCells_keeps _ _ _ _ (Heap.get?_push_of_some _ (by rw [heap1]; exact Heap.get?_push_of_some _ e))
  obtain ⟨Z, eZ⟩ : ∃ Z, Z = blkC X scope t1 (upd G D (o0 D)) C cl fp := ⟨_, rfl⟩
  have run := dcG_loop (Z := blkC X scope t1 (upd G D (o0 D)) C cl fp) (iter := iter) (scope := scope) (pos := pos) (R := compPost (model X.prog X.w) X.A X.xe none (EP X pins σ Q) (.ref D) C) (s := t2) rfl calm units T (hg _ _ _ _ _) (ht _ _ _ _ _) (hk _ _ _ _ _) (hv _ _ _ _ _) (po D)
    (fun τ G' t' I' hn b hb => ⟨hn b hb, (I'.ok.exf b hb).1, I'.ok.exfs b hb, .inl hb, fun x c e => (I'.ok.exf b hb).2 x c e, fun p hp => nomatch (show p ∈ ([] : List (Addr × Obj)) from hp)⟩) turns
    (fun τ G' t' I' qd => by
      have back : Inv X pins σ G' t' := J3.call' (ch := fp) I'.os I'.base I'.hok I'.bare fun b hb => ⟨(fo1 b hb).1.2.2.2.1, (fo1 b hb).1.2.1, (fo1 b hb).1.2.2.2.2.1, (fo1 b hb).1.2.2.2.2.2⟩
      have untr : G' C = none := I'.free
      obtain ⟨m, ns, _⟩ := I'.loc
      obtain ⟨_, a1, a2, a3, a4, a5⟩ := J3.fpOk (H' := G') (b := C) (Nat.le_of_eq eC.symm) untr
      exact ⟨m, ns, fun h'' sb => ⟨.ref D, G', back.turned (t' := t'.toks) (fun b o hb e => (sb.2 b hb).trans e) untr a1 a3 a4 a5, rfl, qd⟩⟩) J4 st2 (fun b hb => (fo1 b hb).1.1) w0
  exact codeAny_compStart_dict run (T.self X.A 0 _ _ _ st2 run)
end
/-! ### dicts with rows for keys -/
def putT (D : Addr) : PutR := fun G y z G' => ∃ (kvs : List (Row × V)) (k : Row) (b : Addr), y = .ref b ∧ G b = some (.tup (k.map kV)) ∧ G D = some (.dT kvs) ∧ kvs.length < sizeLine ∧ G' = upd G D (.dT (putK kvs k z))
theorem putT_ok (P : Program) (w : World) (D : Addr) : PutOk P w D (putT D) := by
  rintro Y pn t τ G G' y z u r E R rfl rfl hu I ry rz ⟨kvs, k, b, rfl, eb, eD, hl, rfl⟩ next
  obtain rfl : u = Value.ref b := ry
  obtain ⟨len, low, xs, rel, dd⟩ := dt_of I.hok eD
  refine wpAny_dictSet_heap (hsz := by rw [← Paired.length rel]; exact len) (show (tupleKind (mixKind Y.prog Y.w)).room Y.A from (show Y.A.units < cLine by omega)) (key_of I.hok eb) dd fun h' dd' sb => next _ ?_
  obtain ⟨o, es, ep, g1, g2, g3, g4, _, g5⟩ := dd'
  refine d_write I (by rw [eD]; exact True.intro) sb ⟨o, g1⟩ ⟨by have := length_putK kvs k z; omega, low, _, (rel.put k eb rz).keeps fun c ys ec => ?_, o, es, ep, g1, g2, g3, g4, g5⟩
  rw [upd_ne (ne_of ec eD fun z => nomatch z)]
  exact ec
end KA
set_option Elab.async false
set_option linter.all false
set_option maxRecDepth 100000
set_option maxHeartbeats 4000000
/-! sets of rows as dicts; tables; Table.__init__ -/
namespace KA
open PySem PySem.Spec PyProof.Rows L2
open PySem.W (EachIs)
/-- a dict whose keys are the rows, each with True -/
def sd (rs : List Row) : List (Row × V) := rs.map fun r => (r, V.bl true)
def addR (rs : List Row) (r : Row) : List Row := if memB rs r = true then rs else rs ++ [r]
def uniR (rs : List Row) : List Row := rs.foldl addR []
theorem sd_val (rs : List Row) (r : Row) : valV (sd rs) r = if memB rs r = true then some (.bl true) else none := by
  induction rs with
  | nil => rfl
  | cons x rs ih =>
    unfold sd at ih ⊢
    rw [List.map_cons]
    by_cases e : x = r
    · rw [valV_pos (p := (x, V.bl true)) e, if_pos]
      unfold memB
      rw [List.any_cons, decide_eq_true e, Bool.true_or]
    · rw [valV_neg (p := (x, V.bl true)) e, ih]
      unfold memB
      rw [List.any_cons, decide_eq_false e, Bool.false_or]
theorem sd_put (rs : List Row) (r : Row) : putK (sd rs) r (.bl true) = sd (addR rs r) := by
  unfold addR putK
  rw [valV_any, sd_val]
  by_cases h : memB rs r = true
  · rw [if_pos h, if_pos h]
    simp only [Option.isSome_some, if_true]
    unfold sd
    rw [List.map_map]
    refine List.map_congr_left fun x _ => ?_
    show (if x = r then (x, V.bl true) else (x, V.bl true)) = (x, V.bl true)
    split <;> rfl
  · rw [if_neg h, if_neg h, if_neg (by simp)]
    unfold sd
    rw [List.map_append]
    rfl
theorem addR_nd {rs : List Row} (h : rs.Nodup) (r : Row) : (addR rs r).Nodup := by
  unfold addR
  split
  · exact h
  · rename_i e
    rw [memB_iff] at e
    refine List.nodup_append.mpr ⟨h, by simp, fun x hx y hy z => ?_⟩
    rw [List.mem_singleton.mp hy] at z
    rw [z] at hx
    exact e hx
theorem addR_mem {rs : List Row} {r x : Row} : x ∈ addR rs r ↔ x ∈ rs ∨ x = r := by
  unfold addR
  split
  · rename_i e
    rw [memB_iff] at e
    exact ⟨.inl, fun h => h.elim id fun z => by rw [z]; exact e⟩
  · rw [List.mem_append, List.mem_singleton]
theorem addR_len (rs : List Row) (r : Row) : (addR rs r).length ≤ rs.length + 1 := by
  unfold addR
  split
  · omega
  · simp
theorem uni_snoc (rs : List Row) (r : Row) : uniR (rs ++ [r]) = addR (uniR rs) r := by
  unfold uniR
  rw [List.foldl_append]
  rfl
theorem foldA_nd : ∀ (rs acc : List Row), acc.Nodup → (rs.foldl addR acc).Nodup
  | [], acc, h => h
  | r :: rs, acc, h => foldA_nd rs _ (addR_nd h r)
theorem foldA_mem {x : Row} : ∀ (rs acc : List Row), x ∈ rs.foldl addR acc ↔ x ∈ acc ∨ x ∈ rs
  | [], acc => by simp
  | r :: rs, acc => by
    rw [List.foldl_cons, foldA_mem rs, addR_mem, List.mem_cons, or_assoc]
theorem foldA_len : ∀ (rs acc : List Row), (rs.foldl addR acc).length ≤ acc.length + rs.length
  | [], acc => by simp
  | r :: rs, acc => by
    have := foldA_len rs (addR acc r)
    have := addR_len acc r
    rw [List.foldl_cons, List.length_cons]
    omega
theorem uni_nd (rs : List Row) : (uniR rs).Nodup := foldA_nd rs [] List.nodup_nil
theorem uni_mem {rs : List Row} {x : Row} : x ∈ uniR rs ↔ x ∈ rs := by
  unfold uniR
  rw [foldA_mem]
  simp
theorem uni_len (rs : List Row) : (uniR rs).length ≤ rs.length := by
  have := foldA_len rs []
  simpa [uniR] using this
theorem uni_id {rs : List Row} (h : rs.Nodup) : uniR rs = rs := by
  have go : ∀ (l acc : List Row), (acc ++ l).Nodup → l.foldl addR acc = acc ++ l := fun l => by
    induction l with
    | nil => intro acc _; simp
    | cons r l ih =>
      intro acc hn
      rw [List.foldl_cons]
      have hr : memB acc r = false := memB_no.mpr fun hm => by
        have := (List.nodup_append.mp hn).2.2 r hm r List.mem_cons_self
        exact this rfl
      have e : addR acc r = acc ++ [r] := by unfold addR; rw [hr, if_neg Bool.false_ne_true]
      rw [e, ih _ (by simpa using hn)]
      simp
  exact go rs [] (by simpa using h)
def SetAt (H : Hp) (a : Addr) (rs : List Row) : Prop := H a = some (.dT (sd rs))
section
variable {J : It} {n : Nat} {G : Hp → Prop} {Y : Nat → Hp → V → Hp → Prop}
/-- a dict comprehension by an invariant -/
theorem dc_it (w : Walk J n G Y) {D : Addr} {put : PutR} {g : TG} {tt : TT} {tk tv : TE} {τ0 : L2.St} {own : List Nat} {H0 : Hp} {Qd : Hp → Prop} (Pv : Nat → Hp → Prop) (h0 : Pv 0 H0) (hG : ∀ i H, i ≤ n → Pv i H → G H)
    (hs : ∀ i x H H', i < n → Pv i H → Y i H x H' → g x τ0 H' fun τ G2 => wipe τ own = τ0 ∧ tt τ G2 fun b G3 => if b = true then tk τ G3 fun y G4 => tv τ G4 fun z G5 => ∃ G6, put G5 y z G6 ∧ Pv (i + 1) G6 else Pv (i + 1) G3)
    (hd : ∀ H, Pv n H → Qd H) : ∃ W : Nat → Nat → Hp → Prop, (∃ m, W 0 m H0) ∧ DcTurn D put J g tt tk tv τ0 own W Qd := by
  refine ⟨fun i m H => m = n - i ∧ i ≤ n ∧ Pv i H, ⟨n, by simp, Nat.zero_le _, h0⟩, fun i m H ⟨em, hi, p⟩ => ?_⟩
  have q := hG i H hi p
  by_cases lt : i < n
  · exact .inr ⟨w.goes i H lt q, Pv (i + 1), fun H' p' => ⟨n - (i + 1), by omega, rfl, lt, p'⟩, fun x H' y => hs i x H H' lt p (w.yields i H x H' lt q y)⟩
  · obtain rfl : i = n := by omega
    exact .inl ⟨w.stops H q, hd H p⟩
end
/-! ### tables -/
structure Tbl where
  t : Addr
  dx : Addr
  rw : Addr
  ix : Addr
def tfs (r i : Addr) : List (Str × V) := putF "indexes" (.ref i) (putF "rows" (.ref r) [])
theorem tfs_eq (r i : Addr) : tfs r i = ([("rows", V.ref r), ("indexes", V.ref i)] : List (Str × V)) := by
  unfold tfs
  show (if ("rows" : Str) = "indexes" then _ else (("rows" : Str), V.ref r) :: putF "indexes" (V.ref i) []) = _
  rw [if_neg (by decide +kernel)]
  rfl
theorem tfs_rows (r i : Addr) : (tfs r i).lookup ("rows" : Str) = some (.ref r) := by rw [tfs_eq]; rfl
theorem tfs_ix (r i : Addr) : (tfs r i).lookup ("indexes" : Str) = some (.ref i) := by
  unfold tfs
  rw [lookup_putF, if_pos rfl]
theorem tfs_no {r i : Addr} {m : Str} (h1 : m ≠ "indexes") (h2 : m ≠ "rows") : (tfs r i).lookup m = none := by
  unfold tfs
  rw [lookup_putF, if_neg h1, lookup_putF, if_neg h2]
  rfl
/-- two indexes share no list -/
def Disj (a b : Gr) : Prop := ∀ x, x ∈ a.map (·.2) → x ∉ b.map (·.2)
structure TableAt (P : Program) (w : World) (C : Addr) (U : List Ix) (H : Hp) (T : Tbl) (rs : List Row) (es : NEs) (gss : List Gr) : Prop where
  ins : H T.t = some (.ins C T.dx (tfs T.rw T.ix))
  rows : SetAt H T.rw rs
  nd : rs.Nodup
  short : ∀ r ∈ rs, r.length ≤ 1000
  dict : NDict P w H T.ix es
  uni : ∀ e ∈ es, e.1 ∈ U ∧ IxOk e.1
  idx : EachIs (fun (e : Ix × Addr × Addr) gs => IdxAt H e.2.2 e.1 rs gs) es gss
  dd : (T.rw :: es.map (·.2.2)).Nodup
  ll : gss.Pairwise Disj
def owns (T : Tbl) (es : NEs) (gss : List Gr) : List Addr := T.rw :: (es.map (·.2.2) ++ gss.flatMap fun gs => gs.map (·.2))
/-- what keeps a table -/
theorem TableAt.keep {P : Program} {w : World} {C : Addr} {U : List Ix} {H H' : Hp} {T : Tbl} {rs : List Row} {es : NEs} {gss : List Gr} (h : TableAt P w C U H T rs es gss) (k1 : ∀ o, H T.t = some o → H' T.t = some o) (k2 : ∀ o, H T.ix = some o → H' T.ix = some o)
    (k3 : ∀ a ∈ owns T es gss, ∀ o, H a = some o → H' a = some o) (kt : ∀ a xs, H a = some (.tup xs) → H' a = some (.tup xs)) : TableAt P w C U H' T rs es gss := by
  refine ⟨k1 _ h.ins, k3 _ List.mem_cons_self _ h.rows, h.nd, h.short, ⟨h.dict.low, h.dict.len, h.dict.nd, fun e he => (h.dict.keys e he).mono kt, k2 _ h.dict.at_⟩, h.uni, ?_, h.dd, h.ll⟩
  have kd : ∀ e ∈ es, ∀ o, H e.2.2 = some o → H' e.2.2 = some o := fun e he => k3 _ (List.mem_cons_of_mem _ (List.mem_append_left _ (List.mem_map.mpr ⟨e, he, rfl⟩)))
  have kl : ∀ gs ∈ gss, ∀ g ∈ gs, ∀ o, H g.2 = some o → H' g.2 = some o := fun gs hgs g hg => k3 _ (List.mem_cons_of_mem _ (List.mem_append_right _ (List.mem_flatMap.mpr ⟨gs, hgs, List.mem_map.mpr ⟨g, hg, rfl⟩⟩)))
  have hi := h.idx
  clear h k1 k2 k3
  induction hi with
  | nil => exact .nil
  | @cons e gs es gss h1 _ ih =>
    refine .cons ?_ (ih (fun e he => kd e (List.mem_cons_of_mem _ he)) fun gs hgs => kl gs (List.mem_cons_of_mem _ hgs))
    refine h1.keep (by rw [h1.hd]; exact kd e List.mem_cons_self _ h1.hd) (fun g hg => ?_) kt
    obtain ⟨as, a1, _⟩ := h1.at_ g hg
    rw [a1]
    exact kl gs List.mem_cons_self g hg _ a1
/-- the class of tables -/
structure TabC (K : PySem.W.Frag) (mg : Str → Option Value) (C : Addr) : Prop where
  cl : Cls K C
  nR : NoAttr K C "rows"
  nI : NoAttr K C "indexes"
  mgC : mg "Table" = some (.ref C)
section
variable {P : Program} {w : World} {K : PySem.W.Frag} {mg : Str → Option Value} {base : Heap} {f : Addr} {fd : FuncData}
/-- rows to be walked: the keys of a dict, or a list -/
def SrcAt (H : Hp) (a : Addr) (rs : List Row) : Prop := (rs.Nodup ∧ ∃ kvs : List (Row × V), H a = some (.dT kvs) ∧ kvs.map (·.1) = rs) ∨ RowsAt H a rs
def spInit (P : Program) (w : World) (C : Addr) : Sp := fun vs H Q _ => ∃ (t dx a : Addr) (rs : List Row), vs = [.ref t, .ref a] ∧ H t = some (.ins C dx []) ∧ SrcAt H a rs ∧ (∀ r ∈ rs, r.length ≤ 1000) ∧ rs.length ≤ 100000 ∧
  ∀ H' rw ix, (∀ a o, a ≠ t → H a = some o → H' a = some o) → H rw = none → H ix = none → (∀ U, TableAt P w C U H' ⟨t, dx, rw, ix⟩ (uniR rs) [] []) → Q .non H'
theorem ok_init {C : Addr} (F : FnM K "__init__" "Table.__init__" s_Table___init__ f fd) (TC : TabC K mg C) : FnOk P w K mg base CX0 1 f fd ["self", "rows"] (spInit P w C) := by
  refine F.ok sc_Table___init__ (fun vs H Q E h => ?_) (fun cdv A outer s H vs Q E hr h => ?_)
  · obtain ⟨t, dx, a, rs, rfl, _⟩ := h
    rfl
  · obtain ⟨t, dx, a, rs, rfl, ht, src, short, few, kk⟩ := h
    -- behind the rows' dict
    have rest : ∀ (H1 : Hp) (D : Addr), Same H H1 → H D = none → SetAt H1 D (uniR rs) → ∀ σ1 : L2.St, σ1[0]? = some (some (.ref t)) → (sFld K (tVar 0) (fun (_ : L2.St) H2 Q2 => Q2 (.ref D) H2) "rows") ⟨fun σ2 H2 => (sFld K (tVar 0) (tDNewN (cxOf CX0 P w K mg base ["self", "rows", "row"] "Table.__init__" (defScope s_Table___init__) f cdv A outer s H E).nox) "indexes") { nx := fun _ H' => Q .non H', rt := Q } σ2 H2, Q, fun _ _ => False, fun _ _ => False⟩ σ1 H1 := by
      intro H1 D s1 hD set1 σ1 h0
      refine ⟨_, h0, t, C, dx, [], rfl, s1 _ _ ht, TC.cl, TC.nR, by decide, ?_⟩
      have tD : t ≠ D := ne_of_none ht hD
      intro ix hix nix
      have ix_t : ix ≠ t := fun z => by rw [z, upd_same] at hix; cases hix
      have hix1 : H1 ix = none := by rwa [upd_ne ix_t] at hix
      have ix_D : ix ≠ D := fun z => by rw [z, set1] at hix1; cases hix1
      refine ⟨_, h0, t, C, dx, putF "rows" (.ref D) [], rfl, by rw [upd_ne ix_t.symm, upd_same], TC.cl, TC.nI, by show 1 < 1000; decide, ?_⟩
      have at_t : ∀ b o, b ≠ t → upd (upd H1 t (.ins C dx (putF "rows" (.ref D) []))) ix (nO P w ix []) b = some o → upd (upd (upd H1 t (.ins C dx (putF "rows" (.ref D) []))) ix (nO P w ix [])) t (.ins C dx (putF "indexes" (.ref ix) (putF "rows" (.ref D) []))) b = some o := fun b o n e => by rw [upd_ne n]; exact e
      refine kk _ D ix (fun b o n e => ?_) hD ?_ fun U => ⟨upd_same, ?_, uni_nd rs, fun r hr => short r (uni_mem.mp hr), ⟨nix.low, nix.len, nix.nd, (fun e he => nomatch he), at_t _ _ ix_t nix.at_⟩, (fun e he => nomatch he), .nil, by simp, by simp⟩
      · refine at_t b o n ?_
        rw [upd_ne (fun z => by rw [← z, s1 b o e] at hix1; cases hix1), upd_ne n]
        exact s1 _ _ e
      · cases z : H ix with
        | none => rfl
        | some o => rw [s1 _ _ z] at hix1; cases hix1
      · refine at_t D _ tD.symm ?_
        rw [upd_ne ix_D.symm, upd_ne tD.symm]
        exact set1
    rcases src with ⟨nd, kvs, ha, ek⟩ | ⟨as, ha, hrs⟩
    · refine ⟨_, PSs.nox (pss_cons (ps_fld (pv 0) (pe_lock (pe_dcG (own := [("row", 2)]) (g := gName 2) (tt := tYes) (tk := tVar 2) (tv := tC (.bl true)) (o0 := fun _ => .dT []) (putD := putT) rfl sc_Table___init__.nd hr.u64 (pi_keys (pv 1))
        (blkOk_by (own := [("row", 2)]) (N := ["self", "rows", "row"]) (sc := defScope s_Table___init__) (by decide +kernel)) (fun _ _ _ _ _ => pg_name (i := 2) sc_Table___init__.nd rfl (Or.inl rfl)) (fun _ _ _ _ _ => pts_nil) (fun _ _ _ _ _ => pv 2) (fun _ _ _ _ _ => pe_bl)
        (fun H h hb => dt_empty h hb) (putT_ok P w))) rfl) (pss_one (ps_fld (pv 0) pe_dnewN rfl))), ?_⟩
      refine ⟨a, _, ha, trivial, fun od => ?_⟩
      have s0 : ∀ b o, b ≠ a → H b = some o → upd H a (.frz od (.dT kvs)) b = some o := fun b o n e => by rw [upd_ne n]; exact e
      have fa : upd H a (.frz od (.dT kvs)) a = some (.frz od (.dT kvs)) := upd_same
      refine ⟨_, rfl, a, od, rfl, .inr ⟨kvs, fa, fun D hD => ?_⟩⟩
      have Da : D ≠ a := fun z => by rw [z, fa] at hD; cases hD
      have hD0 : H D = none := by rwa [upd_ne Da] at hD
      have lk : kvs.length = rs.length := by rw [← ek, List.length_map]
      have big : (100001 : Nat) ≤ sizeLine := by decide
      refine dc_it (walk_keysT (kvs := kvs)) (fun i G => (∀ b o, b ≠ a → b ≠ D → H b = some o → G b = some o) ∧ G a = some (.frz od (.dT kvs)) ∧ G D = some (.dT (sd (uniR (rs.take i))))) ⟨fun b o n1 n2 e => by rw [upd_ne n2]; exact s0 b o n1 e, by rw [upd_ne Da.symm]; exact fa, upd_same⟩ (fun i G _ z => z.2.1) ?_ ?_
      · rintro i x G _ hi ⟨k1, k2, k3⟩ ⟨rfl, k, v, q, hk, rfl, hq⟩
        have hr : rs[i]? = some k := by rw [← ek, List.getElem?_map, hk]; rfl
        refine ⟨rfl, yes_in ⟨_, rfl, _, ⟨_, k, q, rfl, hq, k3, ?_, rfl⟩, ?_, ?_, ?_⟩⟩
        · have h1 := uni_len (rs.take i)
          have h2 : (rs.take i).length ≤ rs.length := by rw [List.length_take]; exact Nat.min_le_right _ _
          unfold sd
          rw [List.length_map]
          omega
        · intro b o n1 n2 e
          rw [upd_ne n2]
          exact k1 b o n1 n2 e
        · rw [upd_ne Da.symm]
          exact k2
        · rw [upd_same, sd_put, ← uni_snoc]
          rw [show rs.take (i + 1) = rs.take i ++ [k] by rw [List.take_add_one, hr]; rfl]
      · rintro G ⟨k1, k2, k3⟩
        rw [lk, List.take_length] at k3
        refine ⟨k2, ?_⟩
        have sm : Same H (upd G a (.dT kvs)) := fun b o e => by
          by_cases z : b = a
          · rw [z] at e ⊢
            rw [upd_same, ← ha]
            exact e
          · rw [upd_ne z]
            exact k1 b o z (ne_of_none e hD0) e
        exact rest _ D sm hD0 (by show upd G a _ D = _; rw [upd_ne Da]; exact k3) _ rfl
    · refine ⟨_, PSs.nox (pss_cons (ps_fld (pv 0) (pe_dcG (own := [("row", 2)]) (g := gName 2) (tt := tYes) (tk := tVar 2) (tv := tC (.bl true)) (o0 := fun _ => .dT []) (putD := putT) rfl sc_Table___init__.nd hr.u64 (pi_list (pv 1))
        (blkOk_by (own := [("row", 2)]) (N := ["self", "rows", "row"]) (sc := defScope s_Table___init__) (by decide +kernel)) (fun _ _ _ _ _ => pg_name (i := 2) sc_Table___init__.nd rfl (Or.inl rfl)) (fun _ _ _ _ _ => pts_nil) (fun _ _ _ _ _ => pv 2) (fun _ _ _ _ _ => pe_bl)
        (fun H h hb => dt_empty h hb) (putT_ok P w)) rfl) (pss_one (ps_fld (pv 0) pe_dnewN rfl))), ?_⟩
      refine ⟨_, rfl, a, rfl, ⟨_, sq_l ha⟩, fun D hD => ?_⟩
      have la : as.length = rs.length := hrs.length
      have big : (100001 : Nat) ≤ sizeLine := by decide
      refine dc_it (walk_list (xs := as.map V.ref)) (fun i G => Same H G ∧ G D = some (.dT (sd (uniR (rs.take i))))) ⟨same_new hD, upd_same⟩ (fun i G _ z => sq_l (z.1 _ _ ha)) ?_ ?_
      · rintro i x G _ hi ⟨k1, k3⟩ ⟨rfl, hx⟩
        obtain ⟨q, hq, rfl⟩ := ref_at hx
        obtain ⟨k, hk, hqk⟩ := each_at hrs hq
        refine ⟨rfl, yes_in ⟨_, rfl, _, ⟨_, k, q, rfl, hqk.mono k1, k3, ?_, rfl⟩, same_mut k1 hD, ?_⟩⟩
        · have h1 := uni_len (rs.take i)
          have h2 : (rs.take i).length ≤ rs.length := by rw [List.length_take]; exact Nat.min_le_right _ _
          unfold sd
          rw [List.length_map]
          omega
        · rw [upd_same, sd_put, ← uni_snoc]
          rw [show rs.take (i + 1) = rs.take i ++ [k] by rw [List.take_add_one, hk]; rfl]
      · rintro G ⟨k1, k3⟩
        rw [List.length_map, la, List.take_length] at k3
        exact rest _ D k1 hD k3 _ rfl
end
end KA
set_option Elab.async false
set_option linter.all false
set_option maxRecDepth 100000
set_option maxHeartbeats 4000000
/-! Table.matching -/
namespace KA
open PySem PySem.Spec PyProof.Rows L2
open PySem.W (EachIs)
theorem nodup_le {α : Type} [DecidableEq α] : ∀ {l U : List α}, l.Nodup → (∀ x ∈ l, x ∈ U) → l.length ≤ U.length
  | [], U, _, _ => Nat.zero_le _
  | x :: l, U, hn, hs => by
    obtain ⟨A, B, rfl⟩ := List.append_of_mem (hs x List.mem_cons_self)
    rw [List.nodup_cons] at hn
    have := nodup_le (l := l) (U := A ++ B) hn.2 fun y hy => by
      have h1 := hs y (List.mem_cons_of_mem _ hy)
      rw [List.mem_append, List.mem_cons] at h1
      rw [List.mem_append]
      rcases h1 with h1 | h1 | h1
      · exact .inl h1
      · rw [h1] at hy; exact absurd hy hn.1
      · exact .inr h1
    rw [List.length_append] at this
    rw [List.length_cons, List.length_append, List.length_cons]
    omega
theorem lookN_some {es : NEs} {k : Ix} {a : Addr} (h : lookN es k = some a) : ∃ q, (k, q, a) ∈ es := by
  obtain ⟨e, he, rfl⟩ := Option.map_eq_some_iff.mp h
  have h1 := List.find?_some he
  simp only [decide_eq_true_eq] at h1
  exact ⟨e.2.1, by rw [← h1]; exact List.mem_of_find?_eq_some he⟩
theorem lookN_snoc {es : NEs} {k : Ix} {q a : Addr} (h : lookN es k = none) : lookN (es ++ [(k, q, a)]) k = some a := by
  unfold lookN at h ⊢
  rw [Option.map_eq_none_iff] at h
  rw [List.find?_append, h]
  simp
theorem each_inL {α β : Type} {R : α → β → Prop} : ∀ {as : List α} {bs : List β} {a : α}, EachIs R as bs → a ∈ as → ∃ b ∈ bs, R a b
  | _, _, _, .nil, h => by cases h
  | _, _, a, .cons q t, h => by
    rcases List.mem_cons.mp h with z | z
    · rw [z]; exact ⟨_, List.mem_cons_self, q⟩
    · obtain ⟨b, hb, r⟩ := each_inL t z
      exact ⟨b, List.mem_cons_of_mem _ hb, r⟩
theorem each_inR {α β : Type} {R : α → β → Prop} : ∀ {as : List α} {bs : List β} {b : β}, EachIs R as bs → b ∈ bs → ∃ a ∈ as, R a b
  | _, _, _, .nil, h => by cases h
  | _, _, b, .cons q t, h => by
    rcases List.mem_cons.mp h with z | z
    · rw [z]; exact ⟨_, List.mem_cons_self, q⟩
    · obtain ⟨a, ha, r⟩ := each_inR t z
      exact ⟨a, List.mem_cons_of_mem _ ha, r⟩
theorem TableAt.live {P : Program} {w : World} {C : Addr} {U : List Ix} {H : Hp} {T : Tbl} {rs : List Row} {es : NEs} {gss : List Gr} (h : TableAt P w C U H T rs es gss) : ∀ a ∈ owns T es gss, (∃ kvs, H a = some (.dT kvs)) ∨ ∃ xs, H a = some (.lst xs) := by
  intro a ha
  rcases List.mem_cons.mp ha with rfl | ha
  · exact .inl ⟨_, h.rows⟩
  · rcases List.mem_append.mp ha with ha | ha
    · obtain ⟨e, he, rfl⟩ := List.mem_map.mp ha
      obtain ⟨gs, _, hi⟩ := each_inL h.idx he
      exact .inl ⟨_, hi.hd⟩
    · obtain ⟨gs, hgs, hl⟩ := List.mem_flatMap.mp ha
      obtain ⟨g, hg, rfl⟩ := List.mem_map.mp hl
      obtain ⟨e, _, hi⟩ := each_inR h.idx hgs
      obtain ⟨as, a1, _⟩ := hi.at_ g hg
      exact .inr ⟨_, a1⟩
theorem TableAt.ix_out {P : Program} {w : World} {C : Addr} {U : List Ix} {H : Hp} {T : Tbl} {rs : List Row} {es : NEs} {gss : List Gr} (h : TableAt P w C U H T rs es gss) : T.ix ∉ owns T es gss := fun z => by
  rcases h.live _ z with ⟨kvs, e⟩ | ⟨xs, e⟩
  · rw [h.dict.at_] at e; cases e
  · rw [h.dict.at_] at e; cases e
/-- a new index comes to a table -/
theorem TableAt.grow {P : Program} {w : World} {C : Addr} {U : List Ix} {H H1 : Hp} {T : Tbl} {rs : List Row} {es : NEs} {gss : List Gr} (h : TableAt P w C U H T rs es gss) {k : Ix} {q d : Addr} {gs : Gr} (same : ∀ a o, a ≠ T.ix → H a = some o → H1 a = some o)
    (nd : NDict P w H1 T.ix (es ++ [(k, q, d)])) (hk : k ∈ U ∧ IxOk k) (hi : IdxAt H1 d k rs gs) (hd : H d = none) (hl : ∀ g ∈ gs, H g.2 = none) : TableAt P w C U H1 T rs (es ++ [(k, q, d)]) (gss ++ [gs]) := by
  have off := h.ix_out
  have keepO : ∀ a ∈ owns T es gss, ∀ o, H a = some o → H1 a = some o := fun a ha o e => same a o (fun z => off (by rw [← z]; exact ha)) e
  have kd : ∀ e ∈ es, ∀ o, H e.2.2 = some o → H1 e.2.2 = some o := fun e he => keepO _ (List.mem_cons_of_mem _ (List.mem_append_left _ (List.mem_map.mpr ⟨e, he, rfl⟩)))
  have kl : ∀ x ∈ gss, ∀ g ∈ x, ∀ o, H g.2 = some o → H1 g.2 = some o := fun x hx g hg => keepO _ (List.mem_cons_of_mem _ (List.mem_append_right _ (List.mem_flatMap.mpr ⟨x, hx, List.mem_map.mpr ⟨g, hg, rfl⟩⟩)))
  have kt : ∀ a xs, H a = some (.tup xs) → H1 a = some (.tup xs) := fun a xs e => same a _ (fun z => by rw [z, h.dict.at_] at e; cases e) e
  refine ⟨same _ _ (fun z => by have := h.ins; rw [z, h.dict.at_] at this; cases this) h.ins, keepO _ List.mem_cons_self _ h.rows, h.nd, h.short, nd, fun e he => ?_, ?_, ?_, ?_⟩
  · rcases List.mem_append.mp he with z | z
    · exact h.uni e z
    · rw [List.mem_singleton.mp z]
      exact hk
  · have go : ∀ {es : NEs} {gss : List Gr}, EachIs (fun (e : Ix × Addr × Addr) gs => IdxAt H e.2.2 e.1 rs gs) es gss → (∀ e ∈ es, ∀ o, H e.2.2 = some o → H1 e.2.2 = some o) → (∀ x ∈ gss, ∀ g ∈ x, ∀ o, H g.2 = some o → H1 g.2 = some o) → EachIs (fun (e : Ix × Addr × Addr) gs => IdxAt H1 e.2.2 e.1 rs gs) es gss := by
      intro es gss hh
      induction hh with
      | nil => exact fun _ _ => .nil
      | @cons e gs es gss h1 _ ih =>
        intro k1 k2
        refine .cons (h1.keep (by rw [h1.hd]; exact k1 e List.mem_cons_self _ h1.hd) (fun g hg => ?_) kt) (ih (fun e he => k1 e (List.mem_cons_of_mem _ he)) fun x hx => k2 x (List.mem_cons_of_mem _ hx))
        obtain ⟨as, a1, _⟩ := h1.at_ g hg
        rw [a1]
        exact k2 gs List.mem_cons_self g hg _ a1
    exact each_snoc1 (R := fun (e : Ix × Addr × Addr) gs => IdxAt H1 e.2.2 e.1 rs gs) (x := (k, q, d)) hi (go h.idx kd kl)
  · rw [List.map_append, ← List.cons_append]
    refine List.nodup_append.mpr ⟨h.dd, by simp, fun x hx y hy z => ?_⟩
    simp only [List.map_cons, List.map_nil, List.mem_cons, List.not_mem_nil, or_false] at hy
    have hx2 : x ∈ owns T es gss := by
      rcases List.mem_cons.mp hx with e | e
      · rw [e]; exact List.mem_cons_self
      · exact List.mem_cons_of_mem _ (List.mem_append_left _ e)
    rw [z, hy] at hx2
    rcases h.live _ hx2 with ⟨_, e⟩ | ⟨_, e⟩ <;> (rw [hd] at e; cases e)
  · refine List.pairwise_append.mpr ⟨h.ll, by simp, fun x hx y hy z hz hzy => ?_⟩
    rw [List.mem_singleton.mp hy] at hzy
    have hx2 : z ∈ owns T es gss := List.mem_cons_of_mem _ (List.mem_append_right _ (List.mem_flatMap.mpr ⟨x, hx, hz⟩))
    obtain ⟨g, hg, eg⟩ := List.mem_map.mp hzy
    rw [← eg] at hx2
    rcases h.live _ hx2 with ⟨_, e⟩ | ⟨_, e⟩ <;> (rw [hl g hg] at e; cases e)
section
variable {P : Program} {w : World} {K : PySem.W.Frag} {mg : Str → Option Value} {base : Heap} {f : Addr} {fd : FuncData}
def spMatch (P : Program) (w : World) (C : Addr) (U : List Ix) : Sp := fun vs H Q _ => ∃ (T : Tbl) (k : Ix) (pl it : Addr) (items : Row) (rs : List Row) (es : NEs) (gss : List Gr), vs = [.ref T.t, .int k.1, .ref pl, .ref it] ∧ H pl = some (.tup (k.2.map V.int)) ∧ RowAt H it items ∧
  IxOk k ∧ k ∈ U ∧ TableAt P w C U H T rs es gss ∧ rs.length ≤ 10000 ∧ ∀ H' p as es' gss', (∀ a o, a ≠ T.ix → H a = some o → H' a = some o) → TableAt P w C U H' T rs es' gss' → (∀ a ∈ owns T es' gss', a ∈ owns T es gss ∨ H a = none) → H p = none →
  H' p = some (.lst (as.map V.ref)) → EachIs (RowAt H') as (sel k items rs) → Q (.ref p) H'
theorem ok_matching {C : Addr} {U : List Ix} (hU : U.length ≤ 9000) (F : FnM K "matching" "Table.matching" s_Table_matching f fd) (TC : TabC K mg C) (gL : mg "list" = none) (CE : Cal P w K mg base "enter" 1 ["index", "size", "places", "row"] spEnter) :
    FnOk P w K mg base CX0 2 f fd ["self", "size", "places", "items"] (spMatch P w C U) := by
  refine F.ok sc_Table_matching (fun vs H Q E h => ?_) (fun cdv A outer s H vs Q E hr h => ?_)
  · obtain ⟨T, k, pl, it, items, rs, es, gss, rfl, _⟩ := h
    rfl
  · obtain ⟨T, k, pl, it, items, rs, es, gss, rfl, hpl, hit, ko, kU, hT, few, kk⟩ := h
    refine ⟨_, PSs.nox (pss_cons (ps_if (pt_cmp (pc_nnot hr.u64 (pe_tup (pa_cons (pv 1) (pa_cons (pv 2) pa_nil))) (pe_fld (pv 0) rfl)))
      (pss_cons (ps_set (i := 4) sc_Table_matching.nd rfl (Or.inl rfl) pe_dnewT)
      (pss_cons (ps_lock (ps_for PassesOwn.never rfl (pi_keys (pe_fld (pv 0) rfl)) (pg_name (i := 5) sc_Table_matching.nd rfl (Or.inl rfl)) (pss_one (ps_expr (pe_cal CE hr (pa_cons (pv 4) (pa_cons (pv 1) (pa_cons (pv 2) (pa_cons (pv 5) pa_nil)))))))))
      (pss_one (ps_nput hr.u64 (pe_fld (pv 0) rfl) (pe_tup (pa_cons (pv 1) (pa_cons (pv 2) pa_nil))) (pv 4) rfl)))) pss_nil)
      (pss_one (ps_ret (pe_callTy call_list_of (by rfl) gL (by decide +kernel) (pa_cons (pe_dget2 hr.u1 (pe_nget hr.u64 (pe_fld (pv 0) rfl) (pe_tup (pa_cons (pv 1) (pa_cons (pv 2) pa_nil))) (fun _ _ => rfl)) (pv 3) (pe_lst pa_nil) ⟨rfl, rfl, rfl, rfl⟩) pa_nil))))), ?_⟩
    -- the end, from a heap where the index stands
    have last : ∀ (H1 : Hp) (es1 : NEs) (gss1 : List Gr) (d : Addr) (x4 x5 : Option V), (∀ a o, a ≠ T.ix → H a = some o → H1 a = some o) → TableAt P w C U H1 T rs es1 gss1 → (∀ a ∈ owns T es1 gss1, a ∈ owns T es gss ∨ H a = none) → lookN es1 k = some d →
        tRet (tCB (fun xs H Q => ∃ p ys, xs = [.ref p] ∧ (SqL K H p ys ∨ SqT K H p ys) ∧ ∀ l, H l = none → Q (.ref l) (upd H l (.lst ys))) (tCons (tDGet2 (tNGet (cxOf CX0 P w K mg base ["self", "size", "places", "items", "index", "row"] "Table.matching" (defScope s_Table_matching) f cdv A outer s H E).nox (tFld K (tVar 0) "indexes") (tTup (tCons (tVar 1) (tCons (tVar 2) tNil)))) (tVar 3) (tLst tNil)) tNil))
          { nx := fun _ H' => Q .non H', rt := Q } [some (.ref T.t), some (.int k.1), some (.ref pl), some (.ref it), x4, x5] H1 := by
      intro H1 es1 gss1 d x4 x5 same hT1 own1 lk
      have nt : ∀ a xs, H a = some (.tup xs) → H1 a = some (.tup xs) := fun a xs e => same a _ (fun z => by rw [z, hT.dict.at_] at e; cases e) e
      refine ⟨_, rfl, T.t, C, T.dx, _, _, rfl, hT1.ins, TC.cl, TC.nI, tfs_ix _ _, _, rfl, _, rfl, by show 2 ≤ sizeLine; decide, fun q hq => ?_⟩
      have s1 : Same H1 (upd H1 q (.tup [.int k.1, .ref pl])) := same_new hq
      have hT2 := hT1.keep (H' := upd H1 q (.tup [.int k.1, .ref pl])) (fun o e => s1 _ _ e) (fun o e => s1 _ _ e) (fun a _ o e => s1 _ _ e) fun a xs e => s1 _ _ e
      have ik : IxAt (upd H1 q (.tup [.int k.1, .ref pl])) q k := ⟨pl, upd_same, s1 _ _ (nt _ _ hpl)⟩
      obtain ⟨q0, hm⟩ := lookN_some lk
      obtain ⟨gs, hgs, hI⟩ := each_inL hT2.idx hm
      refine ⟨T.ix, q, es1, k, d, rfl, rfl, hT2.dict, ik, lk, d, rfl, .inr ⟨_, .inl hI.hd⟩, _, rfl, Nat.zero_le _, fun z hz => ?_⟩
      have s2 : Same (upd H1 q (.tup [.int k.1, .ref pl])) (upd (upd H1 q (.tup [.int k.1, .ref pl])) z (.lst [])) := same_new hz
      have hit3 : RowAt (upd (upd H1 q (.tup [.int k.1, .ref pl])) z (.lst [])) it items := s2 _ _ (s1 _ _ (nt _ _ hit))
      refine ⟨_, DGet.t (s2 _ _ hI.hd) hit3, ?_⟩
      -- what is read, as a list
      have s12 := s1.trans s2
      have fin : ∀ (l : Addr) (as : List Addr), (upd (upd H1 q (.tup [.int k.1, .ref pl])) z (.lst [])) l = some (.lst (as.map V.ref)) → EachIs (RowAt (upd (upd H1 q (.tup [.int k.1, .ref pl])) z (.lst []))) as (sel k items rs) →
          ∃ p ys, [V.ref l] = [V.ref p] ∧ (SqL K (upd (upd H1 q (.tup [.int k.1, .ref pl])) z (.lst [])) p ys ∨ SqT K (upd (upd H1 q (.tup [.int k.1, .ref pl])) z (.lst [])) p ys) ∧ ∀ l2, (upd (upd H1 q (.tup [.int k.1, .ref pl])) z (.lst [])) l2 = none → Q (.ref l2) (upd (upd (upd H1 q (.tup [.int k.1, .ref pl])) z (.lst [])) l2 (.lst ys)) := by
        intro l as hl has
        refine ⟨l, _, rfl, .inl (sq_l hl), fun p hp => ?_⟩
        have s3 : Same (upd (upd H1 q (.tup [.int k.1, .ref pl])) z (.lst [])) (upd (upd (upd H1 q (.tup [.int k.1, .ref pl])) z (.lst [])) p (.lst (as.map V.ref))) := same_new hp
        have s123 := s12.trans s3
        refine kk _ p as es1 gss1 (fun a o n e => s123 _ _ (same a o n e)) (hT1.keep (fun o e => s123 _ _ e) (fun o e => s123 _ _ e) (fun a _ o e => s123 _ _ e) fun a xs e => s123 _ _ e) own1 ?_ upd_same (has.mono fun _ _ y => y.mono s3)
        cases y : H p with
        | none => rfl
        | some o =>
          by_cases e : p = T.ix
          · have := s12 _ _ hT1.dict.at_
            rw [← e, hp] at this
            cases this
          · have := s12 _ _ (same p o e y)
            rw [hp] at this
            cases this
      rw [valG]
      cases hf : gs.find? fun p => decide (p.1 = items) with
      | none =>
        refine fin z [] (by show upd _ z _ z = _; rw [upd_same]; rfl) ?_
        have : sel k items rs = [] := by
          unfold sel
          rw [List.filter_eq_nil_iff]
          intro x hx
          rw [Bool.and_eq_true, decide_eq_true_eq]
          rintro ⟨f1, e1⟩
          obtain ⟨g, hg, e2⟩ := List.mem_map.mp (hI.all x hx f1)
          rw [List.find?_eq_none] at hf
          exact hf g hg (by rw [decide_eq_true_eq, e2]; exact e1)
        rw [this]
        exact .nil
      | some g =>
        have h1 := List.find?_some hf
        simp only [decide_eq_true_eq] at h1
        obtain ⟨as, a1, a2⟩ := hI.at_ g (List.mem_of_find?_eq_some hf)
        rw [h1] at a2
        exact fin g.2 as (s2 _ _ a1) (a2.mono fun _ _ y => y.mono s2)
    refine ⟨_, rfl, _, rfl, by show 2 ≤ sizeLine; decide, fun q hq => ?_⟩
    have s1 : Same H (upd H q (.tup [.int k.1, .ref pl])) := same_new hq
    obtain ⟨H1, eH1⟩ : ∃ H1, H1 = upd H q (.tup [.int k.1, .ref pl]) := ⟨_, rfl⟩
    rw [← eH1] at s1 ⊢
    have ik1 : IxAt H1 q k := ⟨pl, by rw [eH1]; exact upd_same, s1 _ _ hpl⟩
    have hT1 := hT.keep (H' := H1) (fun o e => s1 _ _ e) (fun o e => s1 _ _ e) (fun a _ o e => s1 _ _ e) fun a xs e => s1 _ _ e
    refine ⟨_, rfl, T.t, C, T.dx, _, _, rfl, hT1.ins, TC.cl, TC.nI, tfs_ix _ _, T.ix, q, es, k, rfl, rfl, hT1.dict, ik1, _, rfl, ?_⟩
    cases lk : lookN es k with
    | some d =>
      refine iteF ?_
      exact last H1 es gss d _ _ (fun a o _ e => s1 _ _ e) hT1 (fun a ha => .inl ha) lk
    | none =>
      refine iteT ?_
      intro d hd
      have s2 : Same H1 (upd H1 d (.dT [])) := same_new hd
      have hd0 : H d = none := by
        cases y : H d with
        | none => rfl
        | some o => rw [s1 _ _ y] at hd; cases hd
      obtain ⟨H2, eH2⟩ : ∃ H2, H2 = upd H1 d (.dT []) := ⟨_, rfl⟩
      rw [← eH2] at s2 ⊢
      have s02 := s1.trans s2
      have d2 : H2 d = some (.dT []) := by rw [eH2]; exact upd_same
      have hT2 := hT1.keep (H' := H2) (fun o e => s2 _ _ e) (fun o e => s2 _ _ e) (fun a _ o e => s2 _ _ e) fun a xs e => s2 _ _ e
      have rw_d : T.rw ≠ d := ne_of_none hT1.rows hd
      refine ⟨T.rw, _, hT2.rows, trivial, fun od => ?_⟩
      obtain ⟨H3, eH3⟩ : ∃ H3, H3 = upd H2 T.rw (.frz od (.dT (sd rs))) := ⟨_, rfl⟩
      rw [← eH3]
      have f3 : H3 T.rw = some (.frz od (.dT (sd rs))) := by rw [eH3]; exact upd_same
      have o3 : ∀ a o, a ≠ T.rw → H2 a = some o → H3 a = some o := fun a o n e => by rw [eH3, upd_ne n]; exact e
      have t_rw : T.t ≠ T.rw := fun z => by have := hT2.ins; rw [z, hT2.rows] at this; cases this
      refine ⟨_, rfl, T.t, C, T.dx, _, _, rfl, o3 _ _ t_rw hT2.ins, TC.cl, TC.nR, tfs_rows _ _, T.rw, od, rfl, .inr ⟨_, f3, ?_⟩⟩
      have pl3 : H3 pl = some (.tup (k.2.map V.int)) := o3 _ _ (fun z => by have := s02 _ _ hpl; rw [z, hT2.rows] at this; cases this) (s02 _ _ hpl)
      have i0 : IdxAt H3 d k [] [] := ⟨by rw [o3 _ _ rw_d.symm d2]; rfl, by simp, by simp, Nat.le_refl _, fun g hg => (by cases hg), fun r hr => (by cases hr)⟩
      refine for_it (walk_keysT (kvs := sd rs)) (fun i σ G => (∃ x5, σ = [some (.ref T.t), some (.int k.1), some (.ref pl), some (.ref it), some (.ref d), x5]) ∧ ∃ gs, IdxAt G d k (rs.take i) gs ∧ (∀ a o, a ≠ d → H3 a = some o → G a = some o) ∧ ∀ g ∈ gs, H3 g.2 = none) ⟨⟨none, rfl⟩, [], i0, fun a o _ e => e, fun g hg => (by cases hg)⟩ (fun i σ G _ z => by
        obtain ⟨_, gs, _, k2, _⟩ := z
        exact k2 _ _ rw_d f3) ?_ ?_
      · rintro i x σ G _ hi ⟨⟨x5, rfl⟩, gs, hI, k2, k3⟩ ⟨rfl, key, v, qk, hk, rfl, hq2⟩
        have hr2 : rs[i]? = some key := by
          unfold sd at hk
          rw [List.getElem?_map] at hk
          cases z : rs[i]? with
          | none => rw [z] at hk; cases hk
          | some r0 =>
            rw [z] at hk
            have e : (r0, V.bl true) = (key, v) := Option.some.inj hk
            injection e with e1 _
            rw [e1]
        have tl : (rs.take i).length ≤ 10000 := by rw [List.length_take]; exact Nat.le_trans (Nat.min_le_right _ _) few
        have npl : pl ≠ d := fun z => by have := s1 _ _ hpl; rw [z, hd] at this; cases this
        refine ⟨_, rfl, _, rfl, _, rfl, _, rfl, d, pl, qk, k, key, rs.take i, gs, rfl, k2 _ _ npl pl3, hq2, hT.short key (List.mem_of_getElem? hr2), ko, hI, tl, fun G' gs' hI' keep' new' => ?_⟩
        refine ⟨⟨_, rfl⟩, gs', ?_, fun a o n e => ?_, fun g hg => ?_⟩
        · rw [show rs.take (i + 1) = rs.take i ++ [key] by rw [List.take_add_one, hr2]; rfl]
          exact hI'
        · refine keep' a o n (fun hm => ?_) (k2 a o n e)
          obtain ⟨g, hg, e2⟩ := List.mem_map.mp hm
          have := k3 g hg
          rw [e2, e] at this
          cases this
        · rcases new' g hg with hm | hn
          · obtain ⟨g0, hg0, e2⟩ := List.mem_map.mp hm
            rw [← e2]
            exact k3 g0 hg0
          · cases y : H3 g.2 with
            | none => rfl
            | some o =>
              by_cases e : g.2 = d
              · have := hI.hd
                rw [← e, hn] at this
                cases this
              · rw [k2 _ _ e y] at hn
                cases hn
      · rintro σ G ⟨⟨x5, rfl⟩, gs, hI, k2, k3⟩
        have ls : (sd rs).length = rs.length := by unfold sd; rw [List.length_map]
        rw [ls, List.take_length] at hI
        have frw : G T.rw = some (.frz od (.dT (sd rs))) := k2 _ _ rw_d f3
        refine ⟨frw, ?_⟩
        obtain ⟨G1, eG1⟩ : ∃ G1, G1 = upd G T.rw (.dT (sd rs)) := ⟨_, rfl⟩
        rw [← eG1]
        -- the rows again; all of H2 but d stands
        have k4 : ∀ a o, a ≠ d → H2 a = some o → G1 a = some o := fun a o n e => by
          rw [eG1]
          by_cases z : a = T.rw
          · rw [z, upd_same, ← hT2.rows, ← z]
            exact e
          · rw [upd_ne z]
            exact k2 a o n (o3 a o z e)
        have hI1 : IdxAt G1 d k rs gs := hI.keep (by rw [eG1, upd_ne rw_d.symm]) (fun g hg => by
          rw [eG1, upd_ne]
          intro z
          have := k3 g hg
          rw [z, f3] at this
          cases this) fun a xs e => by
            rw [eG1, upd_ne]
            · exact e
            · intro z
              rw [z, frw] at e
              cases e
        have k5 : ∀ a o, H1 a = some o → G1 a = some o := fun a o e => k4 a o (ne_of_none e hd) (s2 _ _ e)
        have hT3 := hT1.keep (H' := G1) (fun o e => k5 _ _ e) (fun o e => k5 _ _ e) (fun a _ o e => k5 _ _ e) fun a xs e => k5 _ _ e
        refine ⟨_, rfl, _, rfl, T.t, C, T.dx, _, _, rfl, hT3.ins, TC.cl, TC.nI, tfs_ix _ _, _, rfl, _, rfl, by show 2 ≤ sizeLine; decide, fun q2 hq2 => ?_⟩
        have s4 : Same G1 (upd G1 q2 (.tup [.int k.1, .ref pl])) := same_new hq2
        obtain ⟨G2, eG2⟩ : ∃ G2, G2 = upd G1 q2 (.tup [.int k.1, .ref pl]) := ⟨_, rfl⟩
        rw [← eG2] at s4 ⊢
        have ik2 : IxAt G2 q2 k := ⟨pl, by rw [eG2]; exact upd_same, s4 _ _ (k5 _ _ (s1 _ _ hpl))⟩
        have hT4 := hT3.keep (H' := G2) (fun o e => s4 _ _ e) (fun o e => s4 _ _ e) (fun a _ o e => s4 _ _ e) fun a xs e => s4 _ _ e
        have el : es.length < 10000 := by
          have := nodup_le (U := U) hT.dict.nd fun x hx => by
            obtain ⟨e, he, rfl⟩ := List.mem_map.mp hx
            exact (hT.uni e he).1
          rw [List.length_map] at this
          omega
        refine ⟨T.ix, q2, es, k, d, rfl, rfl, rfl, hT4.dict, ik2, lk, el, fun nd5 => ?_⟩
        obtain ⟨G3, eG3⟩ : ∃ G3, G3 = upd G2 T.ix (nO P w T.ix (es ++ [(k, q2, d)])) := ⟨_, rfl⟩
        have nd5' : NDict P w G3 T.ix (es ++ [(k, q2, d)]) := by rw [eG3]; exact nd5
        have k6 : ∀ a o, a ≠ T.ix → G2 a = some o → G3 a = some o := fun a o n e => by rw [eG3, upd_ne n]; exact e
        have d_ix : d ≠ T.ix := fun z => by
          have := hI1.hd
          rw [z, hT3.dict.at_] at this
          cases this
        have g_ix : ∀ g ∈ gs, g.2 ≠ T.ix := fun g hg z => by
          obtain ⟨as, a1, _⟩ := hI1.at_ g hg
          rw [z, hT3.dict.at_] at a1
          cases a1
        have hI3 : IdxAt G3 d k rs gs := hI1.keep (by rw [eG3, upd_ne d_ix, eG2, upd_ne (ne_of_none hI1.hd hq2)]) (fun g hg => by
          obtain ⟨as, a1, _⟩ := hI1.at_ g hg
          rw [eG3, upd_ne (g_ix g hg), eG2, upd_ne (ne_of_none a1 hq2)]) fun a xs e => k6 _ _ (fun z => by rw [z, hT3.dict.at_] at e; cases e) (s4 _ _ e)
        have same03 : ∀ a o, a ≠ T.ix → H a = some o → G3 a = some o := fun a o n e => k6 a o n (s4 _ _ (k5 _ _ (s1 _ _ e)))
        have newg : ∀ g ∈ gs, H g.2 = none := fun g hg => by
          cases y : H g.2 with
          | none => rfl
          | some o =>
            have e2 := s02 _ _ y
            by_cases z : g.2 = T.rw
            · have := k3 g hg
              rw [z, f3] at this
              cases this
            · have := k3 g hg
              rw [o3 _ _ z e2] at this
              cases this
        have hT5 := hT.grow same03 nd5' ⟨kU, ko⟩ hI3 hd0 newg
        suffices own5 : ∀ a ∈ owns T (es ++ [(k, q2, d)]) (gss ++ [gs]), a ∈ owns T es gss ∨ H a = none by
          have res := last G3 (es ++ [(k, q2, d)]) (gss ++ [gs]) d (some (.ref d)) x5 same03 hT5 own5 (lookN_snoc lk)
          rw [eG3] at res
          exact res
        intro a ha
        rcases List.mem_cons.mp ha with z | z
        · exact .inl (by rw [z]; exact List.mem_cons_self)
        · rcases List.mem_append.mp z with z | z
          · rw [List.map_append] at z
            rcases List.mem_append.mp z with z | z
            · exact .inl (List.mem_cons_of_mem _ (List.mem_append_left _ z))
            · simp only [List.map_cons, List.map_nil, List.mem_cons, List.not_mem_nil, or_false] at z
              exact .inr (by rw [z]; exact hd0)
          · rw [List.flatMap_append] at z
            rcases List.mem_append.mp z with z | z
            · exact .inl (List.mem_cons_of_mem _ (List.mem_append_right _ z))
            · simp only [List.flatMap_cons, List.flatMap_nil, List.append_nil] at z
              obtain ⟨g, hg, e⟩ := List.mem_map.mp z
              exact .inr (by rw [← e]; exact newg g hg)
end
end KA
set_option Elab.async false
set_option linter.all false
set_option maxRecDepth 100000
set_option maxHeartbeats 4000000
/-! Table.put -/
namespace KA
open PySem PySem.Spec PyProof.Rows L2
open PySem.W (EachIs)
theorem each_of_get {α β : Type} {R : α → β → Prop} : ∀ {as : List α} {bs : List β}, as.length = bs.length → (∀ (i : Nat) a b, as[i]? = some a → bs[i]? = some b → R a b) → EachIs R as bs
  | [], [], _, _ => .nil
  | [], _ :: _, h, _ => by simp at h
  | _ :: _, [], h, _ => by simp at h
  | a :: as, b :: bs, hl, h => .cons (h 0 a b rfl rfl) (each_of_get (by simpa using hl) fun i x y hx hy => h (i + 1) x y (by simpa using hx) (by simpa using hy))
section
variable {P : Program} {w : World} {K : PySem.W.Frag} {mg : Str → Option Value} {base : Heap} {f : Addr} {fd : FuncData}
def spPut (P : Program) (w : World) (C : Addr) (U : List Ix) : Sp := fun vs H Q _ => ∃ (T : Tbl) (q : Addr) (r : Row) (rs : List Row) (es : NEs) (gss : List Gr), vs = [.ref T.t, .ref q] ∧ RowAt H q r ∧ r.length ≤ 1000 ∧ r ∉ rs ∧ TableAt P w C U H T rs es gss ∧ rs.length < 10000 ∧
  ∀ H' gss', (∀ a o, a ∉ owns T es gss → H a = some o → H' a = some o) → TableAt P w C U H' T (rs ++ [r]) es gss' → (∀ a ∈ owns T es gss', a ∈ owns T es gss ∨ H a = none) → Q .non H'
theorem ok_put {C : Addr} {U : List Ix} (F : FnM K "put" "Table.put" s_Table_put f fd) (TC : TabC K mg C) (gL : mg "list" = none) (CE : Cal P w K mg base "enter" 1 ["index", "size", "places", "row"] spEnter) :
    FnOk P w K mg base CX0 2 f fd ["self", "row"] (spPut P w C U) := by
  refine F.ok sc_Table_put (fun vs H Q E h => ?_) (fun cdv A outer s H vs Q E hr h => ?_)
  · obtain ⟨T, q, r, rs, es, gss, rfl, _⟩ := h
    rfl
  · obtain ⟨T, q, r, rs, es, gss, rfl, hq, short, fresh, hT, few, kk⟩ := h
    refine ⟨_, PSs.nox (pss_cons (ps_if (pt_cmp (pc_din hr.u1 (pv 1) (pe_fld (pv 0) rfl))) (pss_one ps_retN) pss_nil)
      (pss_cons (ps_dput hr.u1 (pe_fld (pv 0) rfl) (pv 1) pe_bl rfl)
      (pss_one (ps_for PassesOwn.never rfl (pi_list (pe_callTy (call_list_n rfl) (by rfl) gL (by decide +kernel) (pa_cons (pe_fld (pv 0) rfl) pa_nil)))
        (pg_tup rfl (pgs_cons (pg_name (i := 2) sc_Table_put.nd rfl (Or.inl rfl)) (pgs_cons (pg_name (i := 3) sc_Table_put.nd rfl (Or.inl rfl)) pgs_nil)))
        (pss_one (ps_expr (pe_cal CE hr (pa_cons (pe_nget hr.u64 (pe_fld (pv 0) rfl) (pe_tup (pa_cons (pv 2) (pa_cons (pv 3) pa_nil))) (fun _ _ => rfl)) (pa_cons (pv 2) (pa_cons (pv 3) (pa_cons (pv 1) pa_nil))))))))))), ?_⟩
    refine ⟨_, rfl, _, rfl, T.t, C, T.dx, _, _, rfl, hT.ins, TC.cl, TC.nR, tfs_rows _ _, T.rw, _, rfl, DGet.t hT.rows hq, _, rfl, ?_⟩
    have e0 : memB rs r = false := memB_no.mpr fresh
    rw [sd_val, e0]
    refine iteF ?_
    refine ⟨_, rfl, T.t, C, T.dx, _, _, rfl, hT.ins, TC.cl, TC.nR, tfs_rows _ _, _, rfl, T.rw, _, rfl, DPut.t hT.rows hq (by unfold sd; rw [List.length_map]; exact Nat.lt_trans few (by decide)), ?_⟩
    have eput : putK (sd rs) r (.bl true) = sd (rs ++ [r]) := by
      rw [sd_put]
      unfold addR
      rw [e0, if_neg Bool.false_ne_true]
    rw [eput]
    obtain ⟨H1, eH1⟩ : ∃ H1, H1 = upd H T.rw (.dT (sd (rs ++ [r]))) := ⟨_, rfl⟩
    rw [← eH1]
    have off1 : ∀ a o, a ≠ T.rw → H a = some o → H1 a = some o := fun a o n e => by rw [eH1, upd_ne n]; exact e
    have rows1 : SetAt H1 T.rw (rs ++ [r]) := by rw [eH1]; exact upd_same
    have kt1 : ∀ a xs, H a = some (.tup xs) → H1 a = some (.tup xs) := fun a xs e => off1 _ _ (fun z => by rw [z, hT.rows] at e; cases e) e
    have t_rw : T.t ≠ T.rw := fun z => by have := hT.ins; rw [z, hT.rows] at this; cases this
    have ix_rw : T.ix ≠ T.rw := fun z => by have := hT.dict.at_; rw [z, hT.rows] at this; cases this
    have nd1 : NDict P w H1 T.ix es := ⟨hT.dict.low, hT.dict.len, hT.dict.nd, fun e he => (hT.dict.keys e he).mono kt1, off1 _ _ ix_rw hT.dict.at_⟩
    refine ⟨_, rfl, T.t, C, T.dx, _, _, rfl, off1 _ _ t_rw hT.ins, TC.cl, TC.nI, tfs_ix _ _, T.ix, es, rfl, nd1, fun p hp => ?_⟩
    obtain ⟨H2, eH2⟩ : ∃ H2, H2 = upd H1 p (.lst ((es.map fun e => e.2.1).map V.ref)) := ⟨_, rfl⟩
    rw [← eH2]
    have s2 : Same H1 H2 := by rw [eH2]; exact same_new hp
    have p2 : H2 p = some (.lst ((es.map fun e => e.2.1).map V.ref)) := by rw [eH2]; exact upd_same
    have hp0 : H p = none := by
      cases y : H p with
      | none => rfl
      | some o =>
        by_cases z : p = T.rw
        · rw [z, rows1] at hp; cases hp
        · rw [off1 _ _ z y] at hp; cases hp
    refine ⟨p, rfl, ⟨_, sq_l p2⟩, ?_⟩
    have kt2 : ∀ a xs, H a = some (.tup xs) → H2 a = some (.tup xs) := fun a xs e => s2 _ _ (kt1 a xs e)
    have own0 : ∀ gs ∈ gss, ∀ g ∈ gs, (g.2 ∈ owns T es gss ∨ H g.2 = none) ∧ g.2 ≠ p := fun gs hgs g hg => by
      have m : g.2 ∈ owns T es gss := List.mem_cons_of_mem _ (List.mem_append_right _ (List.mem_flatMap.mpr ⟨gs, hgs, List.mem_map.mpr ⟨g, hg, rfl⟩⟩))
      refine ⟨.inl m, fun z => ?_⟩
      rcases hT.live _ m with ⟨_, y⟩ | ⟨_, y⟩ <;> (rw [z, hp0] at y; cases y)
    -- the indexes at the start
    have idx0 : ∀ (j : Nat) (e : Ix × Addr × Addr) (gs : Gr), es[j]? = some e → gss[j]? = some gs → IdxAt H2 e.2.2 e.1 rs gs := fun j e gs he hg => by
      have hi := each_get hT.idx he hg
      have nrw : e.2.2 ≠ T.rw := fun z => (List.nodup_cons.mp hT.dd).1 (by rw [← z]; exact List.mem_map.mpr ⟨e, List.mem_of_getElem? he, rfl⟩)
      refine hi.keep (by rw [hi.hd]; exact s2 _ _ (off1 _ _ nrw hi.hd)) (fun g hg => ?_) kt2
      obtain ⟨as, a1, _⟩ := hi.at_ g hg
      rw [a1]
      exact s2 _ _ (off1 _ _ (fun z => by rw [z, hT.rows] at a1; cases a1) a1)
    refine for_it (walk_list (xs := (es.map fun e => e.2.1).map V.ref)) (fun i σ G => (∃ x2 x3, σ = [some (.ref T.t), some (.ref q), x2, x3]) ∧ ∃ gs1 : List Gr, gs1.length = es.length ∧ (∀ (j : Nat) (e : Ix × Addr × Addr) (gs : Gr), es[j]? = some e → gs1[j]? = some gs → IdxAt G e.2.2 e.1 (if j < i then rs ++ [r] else rs) gs) ∧
      (∀ (j1 j2 : Nat) (g1 g2 : Gr), j1 ≠ j2 → gs1[j1]? = some g1 → gs1[j2]? = some g2 → Disj g1 g2) ∧ (∀ a o, a ∉ owns T es gss → H a = some o → G a = some o) ∧ SetAt G T.rw (rs ++ [r]) ∧ G p = some (.lst ((es.map fun e => e.2.1).map V.ref)) ∧
      (∀ gs ∈ gs1, ∀ g ∈ gs, (g.2 ∈ owns T es gss ∨ H g.2 = none) ∧ g.2 ≠ p)) ⟨⟨none, none, rfl⟩, gss, hT.idx.length.symm, fun j e gs he hg => by rw [if_neg (Nat.not_lt_zero _)]; exact idx0 j e gs he hg, fun j1 j2 g1 g2 n h1 h2 => ?_, fun a o n e => s2 _ _ (off1 _ _ (fun z => n (by rw [z]; exact List.mem_cons_self)) e), s2 _ _ rows1, p2, fun gs hgs g hg => own0 gs hgs g hg⟩
      (fun i σ G _ z => by obtain ⟨_, gs1, _, _, _, _, _, z, _⟩ := z; exact sq_l z) ?_ ?_
    · -- no two share a list
      obtain ⟨l1, e1⟩ := List.getElem?_eq_some_iff.mp h1
      obtain ⟨l2, e2⟩ := List.getElem?_eq_some_iff.mp h2
      have pw := List.pairwise_iff_getElem.mp hT.ll
      rcases Nat.lt_or_gt_of_ne n with lt | lt
      · have := pw j1 j2 l1 l2 lt
        rw [e1, e2] at this
        exact this
      · have := pw j2 j1 l2 l1 lt
        rw [e1, e2] at this
        exact fun x hx hy => this x hy hx
    · rintro i x σ _ G hi ⟨⟨x2, x3, rfl⟩, gs1, len1, id1, dj1, kp1, rw1, pp1, nw1⟩ ⟨rfl, hx⟩
      obtain ⟨qk, hqk, rfl⟩ := ref_at hx
      rw [List.getElem?_map] at hqk
      obtain ⟨e, he, rfl⟩ := Option.map_eq_some_iff.mp hqk
      have hem := List.mem_of_getElem? he
      have off : ∀ a o, (∀ kvs, o ≠ .dT kvs) → (∀ xs, o ≠ .lst xs) → H a = some o → G a = some o := fun a o n1 n2 e => kp1 a o (fun z => by
        rcases hT.live a z with ⟨kvs, y⟩ | ⟨xs, y⟩
        · rw [y] at e; exact n1 _ (Option.some.inj e).symm
        · rw [y] at e; exact n2 _ (Option.some.inj e).symm) e
      have ktG : ∀ a xs, H a = some (.tup xs) → G a = some (.tup xs) := fun a xs e => off a _ (fun _ z => by cases z) (fun _ z => by cases z) e
      obtain ⟨pl, k1, k2⟩ := hT.dict.keys e hem
      have k1G := ktG _ _ k1
      have k2G := ktG _ _ k2
      refine ⟨e.2.1, _, rfl, sq_t k1G, rfl, _, _, rfl, _, _, rfl, rfl, ?_⟩
      have insG := off _ _ (fun _ z => by cases z) (fun _ z => by cases z) hT.ins
      refine ⟨_, rfl, T.t, C, T.dx, _, _, rfl, insG, TC.cl, TC.nI, tfs_ix _ _, _, rfl, _, rfl, by show 2 ≤ sizeLine; decide, fun q2 hq2 => ?_⟩
      obtain ⟨G2, eG2⟩ : ∃ G2, G2 = upd G q2 (.tup [.int e.1.1, .ref pl]) := ⟨_, rfl⟩
      have s3 : Same G G2 := by rw [eG2]; exact same_new hq2
      have ndG : NDict P w G2 T.ix es := ⟨hT.dict.low, hT.dict.len, hT.dict.nd, fun e he => (hT.dict.keys e he).mono fun a xs y => s3 _ _ (ktG a xs y), s3 _ _ (off _ _ (fun _ z => by cases z) (fun _ z => by cases z) hT.dict.at_)⟩
      have ik : IxAt G2 q2 e.1 := ⟨pl, by rw [eG2]; exact upd_same, s3 _ _ k2G⟩
      have il : i < es.length := (List.getElem?_eq_some_iff.mp he).1
      obtain ⟨gs, hgs⟩ : ∃ gs, gs1[i]? = some gs := ⟨_, List.getElem?_eq_getElem (by omega)⟩
      have lk : lookN es e.1 = some e.2.2 := by
        unfold lookN
        cases hf : es.find? fun x => decide (x.1 = e.1) with
        | none =>
          rw [List.find?_eq_none] at hf
          exact absurd (hf e hem) (by simp)
        | some e2 =>
          have h1 := List.find?_some hf
          simp only [decide_eq_true_eq] at h1
          obtain ⟨j, hj⟩ := List.mem_iff_getElem?.mp (List.mem_of_find?_eq_some hf)
          have q1 : (es.map (·.1))[j]? = some e.1 := by rw [List.getElem?_map, hj, Option.map_some, h1]
          have q2 : (es.map (·.1))[i]? = some e.1 := by rw [List.getElem?_map, he]; rfl
          have hij : j = i := (List.getElem?_inj (List.getElem?_eq_some_iff.mp q1).1 hT.dict.nd).mp (q1.trans q2.symm)
          rw [hij, he] at hj
          rw [← Option.some.inj hj]
          rfl
      have hI := id1 i e gs he hgs
      rw [if_neg (Nat.lt_irrefl _)] at hI
      have hI2 : IdxAt G2 e.2.2 e.1 rs gs := hI.keep (by rw [hI.hd]; exact s3 _ _ hI.hd) (fun g hg => by
        obtain ⟨as, a1, _⟩ := hI.at_ g hg
        rw [a1]
        exact s3 _ _ a1) fun a xs y => s3 _ _ y
      rw [← eG2]
      refine ⟨T.ix, q2, es, e.1, e.2.2, rfl, rfl, ndG, ik, lk, _, rfl, _, rfl, _, rfl, e.2.2, pl, q, e.1, r, rs, gs, rfl, s3 _ _ k2G, s3 _ _ (ktG _ _ hq), short, (hT.uni e hem).2, hI2, by omega, fun G3 gs' hI' keep' new' => ?_⟩
      have liveL : ∀ (j : Nat) (gs : Gr), gs1[j]? = some gs → ∀ g ∈ gs, ∃ as : List Addr, G2 g.2 = some (.lst (as.map V.ref)) := fun j gs hj g hg => by
        have jl : j < es.length := by
          have := (List.getElem?_eq_some_iff.mp hj).1
          omega
        obtain ⟨ej, hej⟩ : ∃ ej, es[j]? = some ej := ⟨_, List.getElem?_eq_getElem jl⟩
        obtain ⟨as, a1, _⟩ := (id1 j ej gs hej hj).at_ g hg
        exact ⟨as, s3 _ _ a1⟩
      have set_get : ∀ (j : Nat) (gsj : Gr), (gs1.set i gs')[j]? = some gsj → (j = i ∧ gsj = gs') ∨ (j ≠ i ∧ gs1[j]? = some gsj) := fun j gsj hj => by
        by_cases z : i = j
        · rw [← z, List.getElem?_set_self (by omega)] at hj
          exact .inl ⟨z.symm, (Option.some.inj hj).symm⟩
        · rw [List.getElem?_set_ne z] at hj
          exact .inr ⟨fun y => z y.symm, hj⟩
      -- the other indexes stand
      have others : ∀ (j : Nat) (ej : Ix × Addr × Addr) (gsj : Gr) (rs2 : List Row), j ≠ i → es[j]? = some ej → gs1[j]? = some gsj → IdxAt G ej.2.2 ej.1 rs2 gsj → IdxAt G3 ej.2.2 ej.1 rs2 gsj := fun j ej gsj rs2 n hej hgj h => by
        have hd2 := s3 _ _ h.hd
        have nd : ej.2.2 ≠ e.2.2 := fun z => by
          have q1 : (es.map (·.2.2))[j]? = some e.2.2 := by rw [List.getElem?_map, hej, Option.map_some, z]
          have q2 : (es.map (·.2.2))[i]? = some e.2.2 := by rw [List.getElem?_map, he]; rfl
          exact n ((List.getElem?_inj (List.getElem?_eq_some_iff.mp q1).1 (List.nodup_cons.mp hT.dd).2).mp (q1.trans q2.symm))
        have nl : ∀ x, (∃ kvs, G2 x = some (.dT kvs)) → x ∉ gs.map (·.2) := fun x ⟨kvs, y⟩ hm => by
          obtain ⟨g, hg, eg⟩ := List.mem_map.mp hm
          obtain ⟨as, a1⟩ := liveL i gs hgs g hg
          rw [eg, y] at a1
          cases a1
        refine h.keep (by rw [h.hd]; exact keep' _ _ nd (nl _ ⟨_, hd2⟩) hd2) (fun g hg => ?_) fun a xs y => keep' a _ (fun z => by rw [z] at y; have := hI.hd; rw [y] at this; cases this) (fun hm => by
          obtain ⟨g, hg, eg⟩ := List.mem_map.mp hm
          obtain ⟨as, a1⟩ := liveL i gs hgs g hg
          rw [eg, s3 _ _ y] at a1
          cases a1) (s3 _ _ y)
        obtain ⟨as, a1, _⟩ := h.at_ g hg
        rw [a1]
        refine keep' _ _ (fun z => ?_) (fun hm => dj1 j i gsj gs n hgj hgs _ (List.mem_map.mpr ⟨g, hg, rfl⟩) hm) (s3 _ _ a1)
        rw [z, hI.hd] at a1
        cases a1
      have keepA : ∀ a o, a ∉ owns T es gss → H a = some o → G3 a = some o := fun a o n y => by
        refine keep' a o (fun z => n (by rw [z]; exact List.mem_cons_of_mem _ (List.mem_append_left _ (List.mem_map.mpr ⟨e, hem, rfl⟩)))) (fun hm => ?_) (s3 _ _ (kp1 a o n y))
        obtain ⟨g, hg, eg⟩ := List.mem_map.mp hm
        rcases (nw1 gs (List.mem_of_getElem? hgs) g hg).1 with z | z
        · exact n (by rw [← eg]; exact z)
        · rw [eg, y] at z
          cases z
      refine ⟨⟨_, _, rfl⟩, gs1.set i gs', by rw [List.length_set]; exact len1, fun j ej gsj hej hgj => ?_, fun j1 j2 g1 g2 n h1 h2 => ?_, keepA, ?_, ?_, fun gsj hgj g hg => ?_⟩
      · rcases set_get j gsj hgj with ⟨rfl, rfl⟩ | ⟨n, hj⟩
        · rw [he] at hej
          rw [← Option.some.inj hej, if_pos (Nat.lt_succ_self _)]
          exact hI'
        · have h := others j ej gsj _ n hej hj (id1 j ej gsj hej hj)
          have e2 : (if j < i + 1 then rs ++ [r] else rs) = if j < i then rs ++ [r] else rs := by
            by_cases z : j < i
            · rw [if_pos z, if_pos (by omega)]
            · rw [if_neg z, if_neg (by omega)]
          rw [e2]
          exact h
      · -- new lists are new
        have cross : ∀ (j : Nat) (gsj : Gr), j ≠ i → gs1[j]? = some gsj → ∀ x, x ∈ gs'.map (·.2) → x ∉ gsj.map (·.2) := fun j gsj n hj x hx hy => by
          obtain ⟨g, hg, eg⟩ := List.mem_map.mp hx
          rcases new' g hg with z | z
          · exact dj1 i j gs gsj (fun y => n y.symm) hgs hj x (by rw [← eg]; exact z) hy
          · obtain ⟨g2, hg2, eg2⟩ := List.mem_map.mp hy
            obtain ⟨as, a1⟩ := liveL j gsj hj g2 hg2
            rw [eg2, ← eg, z] at a1
            cases a1
        rcases set_get j1 g1 h1 with ⟨a1, b1⟩ | ⟨a1, b1⟩
        · rcases set_get j2 g2 h2 with ⟨a2, b2⟩ | ⟨a2, b2⟩
          · exact absurd (a1.trans a2.symm) n
          · rw [b1]
            exact cross j2 g2 a2 b2
        · rcases set_get j2 g2 h2 with ⟨a2, b2⟩ | ⟨a2, b2⟩
          · rw [b2]
            exact fun x hx hy => cross j1 g1 a1 b1 x hy hx
          · exact dj1 j1 j2 g1 g2 n b1 b2
      · refine keep' _ _ (fun z => (List.nodup_cons.mp hT.dd).1 (by rw [z]; exact List.mem_map.mpr ⟨e, hem, rfl⟩)) (fun hm => ?_) (s3 _ _ rw1)
        obtain ⟨g, hg, eg⟩ := List.mem_map.mp hm
        obtain ⟨as, a1⟩ := liveL i gs hgs g hg
        rw [eg, s3 _ _ rw1] at a1
        cases a1
      · refine keep' _ _ (fun z => ?_) (fun hm => ?_) (s3 _ _ pp1)
        · have := hI.hd
          rw [← z, pp1] at this
          cases this
        · obtain ⟨g, hg, eg⟩ := List.mem_map.mp hm
          exact (nw1 gs (List.mem_of_getElem? hgs) g hg).2 eg
      · obtain ⟨j, hj⟩ := List.mem_iff_getElem?.mp hgj
        rcases set_get j gsj hj with ⟨rfl, rfl⟩ | ⟨n, hj2⟩
        · rcases new' g hg with z | z
          · obtain ⟨g0, hg0, eg⟩ := List.mem_map.mp z
            rw [← eg]
            exact nw1 gs (List.mem_of_getElem? hgs) g0 hg0
          · refine ⟨?_, fun y => by rw [y, s3 _ _ pp1] at z; cases z⟩
            cases y : H g.2 with
            | none => exact .inr rfl
            | some o =>
              by_cases m : g.2 ∈ owns T es gss
              · exact .inl m
              · have := s3 _ _ (kp1 _ _ m y)
                rw [z] at this
                cases this
        · exact nw1 gsj (List.mem_of_getElem? hj2) g hg
    · rintro σ G ⟨⟨x2, x3, rfl⟩, gs1, len1, id1, dj1, kp1, rw1, pp1, nw1⟩
      have off : ∀ a o, (∀ kvs, o ≠ .dT kvs) → (∀ xs, o ≠ .lst xs) → H a = some o → G a = some o := fun a o n1 n2 e => kp1 a o (fun z => by
        rcases hT.live a z with ⟨kvs, y⟩ | ⟨xs, y⟩
        · rw [y] at e; exact n1 _ (Option.some.inj e).symm
        · rw [y] at e; exact n2 _ (Option.some.inj e).symm) e
      refine kk G gs1 kp1 ⟨off _ _ (fun _ z => by cases z) (fun _ z => by cases z) hT.ins, rw1, ?_, fun x hx => ?_, ⟨hT.dict.low, hT.dict.len, hT.dict.nd, fun e he => (hT.dict.keys e he).mono fun a xs y => off a _ (fun _ z => by cases z) (fun _ z => by cases z) y, off _ _ (fun _ z => by cases z) (fun _ z => by cases z) hT.dict.at_⟩, hT.uni, ?_, hT.dd, ?_⟩ fun a ha => ?_
      · refine List.nodup_append.mpr ⟨hT.nd, by simp, fun x hx y hy z => ?_⟩
        rw [List.mem_singleton.mp hy] at z
        rw [z] at hx
        exact fresh hx
      · rcases List.mem_append.mp hx with z | z
        · exact hT.short x z
        · rw [List.mem_singleton.mp z]; exact short
      · refine each_of_get len1.symm fun j e gs he hg => ?_
        have h := id1 j e gs he hg
        have jl := (List.getElem?_eq_some_iff.mp he).1
        rw [List.length_map, List.length_map, if_pos jl] at h
        exact h
      · refine List.pairwise_iff_getElem.mpr fun i j hi hj lt => dj1 i j _ _ (Nat.ne_of_lt lt) (List.getElem?_eq_getElem hi) (List.getElem?_eq_getElem hj)
      · rcases List.mem_cons.mp ha with z | z
        · exact .inl (by rw [z]; exact List.mem_cons_self)
        · rcases List.mem_append.mp z with z | z
          · exact .inl (List.mem_cons_of_mem _ (List.mem_append_left _ z))
          · obtain ⟨gs, hgs, hl⟩ := List.mem_flatMap.mp z
            obtain ⟨g, hg, eg⟩ := List.mem_map.mp hl
            rw [← eg]
            exact (nw1 gs hgs g hg).1
end
end KA
set_option Elab.async false
set_option linter.all false
set_option maxRecDepth 100000
set_option maxHeartbeats 4000000
/-! zip of a list and a tuple -/
namespace KA
open PySem PySem.Spec PyProof.Rows L2
/-- the turns: a new pair of the list's and the tuple's items -/
def ItzM (K : PySem.W.Frag) (a b : Addr) : It where
  go i H := ∃ (xs ys : List V) (x y : V), (SqL K H a xs ∧ xs[i]? = some x) ∧ SqT K H b ys ∧ ys[i]? = some y
  yld i H v H' := ∃ t x y, v = .ref t ∧ H t = none ∧ H' = upd H t (.tup [x, y]) ∧ (∀ xs, SqL K H a xs → xs[i]? = some x) ∧ ∀ ys, SqT K H b ys → ys[i]? = some y
  stop i H := ∃ xs ys : List V, (SqL K H a xs ∧ i ≤ xs.length) ∧ (SqT K H b ys ∧ i ≤ ys.length) ∧ (i = xs.length ∨ i = ys.length)
structure ZipSt (a b z TI TO i1 i2 : Addr) (i : Nat) (h : Heap) : Prop where
  zip : IsZip h z TI TO .none
  ins : IsTupOf2 h TI (.ref i1) (.ref i2)
  out : ∃ x y, IsTupOf2 h TO x y
  fst : h.IsListIter i1 a i
  snd : h.IsTupleIter i2 b i
theorem five {α : Type} {p : α → Prop} {z t u i j : α} (h1 : p z) (h2 : p t) (h3 : p u) (h4 : p i) (h5 : p j) : ∀ c ∈ [z, t, u, i, j], p c := fun c hc => by
  simp only [List.mem_cons, List.not_mem_nil, or_false] at hc
  rcases hc with rfl | rfl | rfl | rfl | rfl <;> assumption
theorem turn_zipM {P : Program} {w : World} {K : PySem.W.Frag} {elts : List Expr} {kk : Nat} {tpos : Pos} {a b z TI TO i1 i2 : Addr} (D : ZipSep2 z TI TO i1 i2 [i1, a] [i2, b]) (na : a ≠ i1) (nb : b ≠ i2) :
    Turn P w K (.Tuple elts kk tpos) (ItzM K a b) [z, TI, TO, i1, i2] z (ZipSt a b z TI TO i1 i2) where
  mem := List.mem_cons_self
  obj := fun i h st => by
    obtain ⟨hz, hi, ⟨x, y, ho⟩, ⟨o1, e1, _, d1⟩, ⟨o2, e2, _, d2⟩⟩ := st
    exact five (p := fun c => ∃ o, h.get? c = some o ∧ ∀ v, o.data ≠ .cell v) ⟨_, hz, fun v q => nomatch q⟩ ⟨_, hi, fun v q => nomatch q⟩ ⟨_, ho, fun v q => nomatch q⟩ ⟨o1, e1, fun v q => by rw [d1] at q; cases q⟩ ⟨o2, e2, fun v q => by rw [d2] at q; cases q⟩
  keep := fun i h h' st k => by
    obtain ⟨hz, hi, ⟨x, y, ho⟩, f1, f2⟩ := st
    exact ⟨k z (by simp) _ hz, k TI (by simp) _ hi, ⟨x, y, k TO (by simp) _ ho⟩, f1.at fun o q => k i1 (by simp) o q, f2.at fun o q => k i2 (by simp) o q⟩
  item := by
    rintro X rfl rfl rfl hc i pins s σ H E I hf ⟨hz, hi, ⟨x0, y0, ho⟩, f1, f2⟩ ⟨xs, ys, x, y, ⟨hx, ex⟩, hy, ey⟩
    obtain ⟨its, rv, p, _⟩ := I.list hx
    obtain ⟨its2, rv2, p2, _⟩ := I.tuple hy
    obtain ⟨u, hu, ru⟩ := rv.get ex
    obtain ⟨u2, hu2, ru2⟩ := rv2.get ey
    have hd : X.A.in1.handled = none := I.ok.hd hc
    have c1 : i < its.toArray.size := by rw [List.size_toArray]; exact (List.getElem?_eq_some_iff.mp hu).1
    have c2 : i < its2.toArray.size := by rw [List.size_toArray]; exact (List.getElem?_eq_some_iff.mp hu2).1
    refine wpAny_pyNext_zipD2_item D (Draws.list hd i1 a na its.toArray) (Draws.tuple hd i2 b nb its2.toArray) hz hi ho ⟨f1, p.isList⟩ ⟨f2, p2⟩ c1 c2 fun v1 v2 h' tk q1 q2 z' o' st1 st2 hT sz k => ?_
    have e1 : v1 = u := by rw [List.getElem?_toArray, hu] at q1; exact (Option.some.inj q1).symm
    have e2 : v2 = u2 := by rw [List.getElem?_toArray, hu2] at q2; exact (Option.some.inj q2).symm
    subst e1 e2
    have zl : z < s.heap.objs.size := Heap.lt_size hz
    refine ⟨_, rfl, wpAny_letOwnedTupleGo_zip (s := { s with heap := h', toks := tk }) z' fun h'' z'' sb => ?_⟩
    have at2 : ∀ c o, c ≠ z → h'.get? c = some o → h''.get? c = some o := fun c o n e => (sb.2 c n).trans e
    have hT2 := at2 _ _ (Nat.ne_of_gt zl) hT
    have I1 : Inv X pins σ (upd H s.heap.objs.size (.tup [x, y])) { s with heap := h'', toks := tk } :=
      I.turnedNew (t' := tk) (ch := [z, TI, TO, i1, i2]) (fun c o hb q => at2 c o (fun e => hb (by simp [e])) (k c o (fun e => hb (by simp [e])) (fun e => hb (by simp [e])) (fun e => hb (by simp [e])) (fun e => hb (by simp [e])) q)) hf (Nat.le_refl _)
        ⟨by show 2 ≤ sizeLine; decide, [v1, v2], .cons ru (.cons ru2 .nil), ⟨_, hT2, rfl, _, rfl⟩⟩
    refine ⟨.ref s.heap.objs.size, _, I1, rfl, ⟨_, x, y, rfl, I.hok.fresh (Nat.le_refl _), rfl, fun l hl => by rw [I.list_inj hl hx]; exact ex, fun l hl => by rw [I.tuple_inj hl hy]; exact ey⟩, ⟨z'', at2 _ _ D.TIz (k _ _ D.TIz D.TITO D.TIi1 D.TIi2 hi), ⟨v1, v2, at2 _ _ D.TOz o'⟩, st1.1.at fun o q => at2 _ _ D.zi1.symm q, st2.1.at fun o q => at2 _ _ D.zi2.symm q⟩, ?_⟩
    obtain ⟨_, g1, _⟩ := f1
    obtain ⟨_, g2, _⟩ := f2
    have lt : ∀ c ∈ [z, TI, TO, i1, i2], c < s.heap.objs.size := five zl (Heap.lt_size hi) (Heap.lt_size ho) (Heap.lt_size g1) (Heap.lt_size g2)
    intro c hcm
    rw [upd_ne (Nat.ne_of_lt (lt c hcm))]
    exact (hf c hcm).1
  done := by
    rintro X rfl rfl rfl hc i pins s σ H E I hf ⟨hz, hi, ⟨x0, y0, ho⟩, f1, f2⟩ ⟨xs, ys, ⟨hx, lx⟩, ⟨hy, ly⟩, hend⟩
    obtain ⟨its, rv, p, _⟩ := I.list hx
    obtain ⟨its2, rv2, p2, _⟩ := I.tuple hy
    have l1 := rv.length
    have l2 := rv2.length
    have hd : X.A.in1.handled = none := I.ok.hd hc
    refine wpAny_pyNext_zipD2_end D (Draws.list hd i1 a na its.toArray) (Draws.tuple hd i2 b nb its2.toArray) hz hi ho ⟨f1, p.isList⟩ ⟨f2, p2⟩ (by rw [List.size_toArray]; omega) (by rw [List.size_toArray]; omega) (by rw [List.size_toArray, List.size_toArray]; omega) fun h' tk k => ?_
    exact ⟨rfl, I.turnedL (t' := tk) (ch := [z, TI, TO, i1, i2]) (fun c o hb q => k c o (fun e => hb (by simp [e])) (fun e => hb (by simp [e])) (fun e => hb (by simp [e])) (fun e => hb (by simp [e])) q) hf⟩
  self := fun A i s Q E st h => wpAny_pyIter_zip st.zip h
def iZipM (K : PySem.W.Frag) (ta : TA) : TI := fun σ H R => ta σ H fun vs H1 => ∃ a b xs ys, vs = [.ref a, .ref b] ∧ SqL K H1 a xs ∧ SqT K H1 b ys ∧ R (ItzM K a b) H1
theorem pi_zipM {X : Cx} {e e2 : Expr} {ta : TA} {p pos tpos : Pos} {elts : List Expr} {kk : Nat} (hg : Gl X "zip") (hm : X.mg "zip" = none) (ha : PA X [e, e2] ta)
    (st : starEach [e, e2] X.env = (false, eval e X.env) :: starEach [e2] X.env := by rfl) (pl : (backTo pos (starEach [e2] X.env)).any (·.1) = false := by rfl) : PI X (.Tuple elts kk tpos) (.Call (.Name "zip" p) [e, e2] [] pos) (iZipM X.K ta) := by
  refine ⟨fun pins s σ H R I h => Call_ (ld_blt I hg hm PyProof.Rows.boot_zip (PyProof.Rows.callWith_type1 (thn (ha.run pos pins s σ H _ I h) ?_) st pl))⟩
  rintro us t ⟨vs, H1, I1, r1, a, b, xs, ys, rfl, hx, hy, q⟩
  obtain ⟨u, r1a⟩ : ∃ u, us = u ∧ Vals [V.ref a, V.ref b] u := ⟨us, rfl, r1⟩
  have eu : us = [Value.ref a, Value.ref b] := by
    cases r1 with
    | cons g t1 =>
      cases t1 with
      | cons g2 t2 =>
        cases t2
        cases g
        cases g2
        rfl
  subst eu
  obtain ⟨its, rv, p1, _⟩ := I1.list hx
  obtain ⟨its2, rv2, p2, _⟩ := I1.tuple hy
  obtain ⟨o2, g2, _⟩ := id p2
  have la : a < t.heap.objs.size := p1.lt
  have lb : b < t.heap.objs.size := Heap.lt_size g2
  refine zip_begins2 (begins_list a its.toArray) (begins_tuple b its2.toArray) p1.isList p2 fun h' z1 z2 z3 z4 z5 sz k => wpAny_pyIter_zip z1 ?_
  have I2 : Inv X pins σ H1 { t with heap := h' } := I1.kept (t' := t.toks) k
  have new : ∀ c, t.heap.objs.size ≤ c → FpOk X pins H1 c := fun c hle => I1.fpOk hle (I1.hok.fresh hle)
  refine ⟨_, [t.heap.objs.size + 4, t.heap.objs.size + 2, t.heap.objs.size + 3, t.heap.objs.size, t.heap.objs.size + 1], _, _, H1, rfl, I2, turn_zipM (zip_sep2 (fp1 := [a]) (fp2 := [b]) (by simpa using la) (by simpa using lb)) (Nat.ne_of_lt la) (Nat.ne_of_lt (Nat.lt_succ_of_lt lb)), ⟨z1, z2, ⟨_, _, z3⟩, ⟨_, z4, rfl, rfl⟩, ⟨_, z5, rfl, rfl⟩⟩, ?_, q⟩
  exact five (new _ (Nat.le_add_right _ _)) (new _ (Nat.le_add_right _ _)) (new _ (Nat.le_add_right _ _)) (new _ (Nat.le_refl _)) (new _ (Nat.le_add_right _ _))
theorem walk_zipM {K : PySem.W.Frag} {a b : Addr} {xs ys : List V} (hl : xs.length = ys.length) : Walk (ItzM K a b) xs.length (fun H => SqL K H a xs ∧ SqT K H b ys) (YPair (fun i => xs[i]?) fun i => ys[i]?) where
  goes i H hi q := ⟨xs, ys, _, _, ⟨q.1, List.getElem?_eq_getElem hi⟩, q.2, List.getElem?_eq_getElem (by omega)⟩
  stops H q := ⟨xs, ys, ⟨q.1, Nat.le_refl _⟩, ⟨q.2, by omega⟩, .inl rfl⟩
  yields i H v H' hi q y := by
    obtain ⟨t, x, y, e1, e2, e3, f1, f2⟩ := y
    exact ⟨t, x, y, e1, e2, e3, f1 xs q.1, f2 ys q.2⟩
end KA
set_option Elab.async false
set_option linter.all false
set_option maxRecDepth 100000
set_option maxHeartbeats 4000000
/-! how rules stand in the heap; matched, filled, without -/
namespace KA
open PySem PySem.Spec PyProof.Rows L2
open PySem.W (EachIs)
def sbK (s : Sb) : List (Key × V) := s.map fun p => (Sum.inl p.1, kV p.2)
def SbAt (H : Hp) (p : Addr) (s : Sb) : Prop := H p = some (.dK (sbK s))
theorem sb_val (s : Sb) (n : Int) : valV (sbK s) (.inl n) = (getS s n).map kV := by
  induction s with
  | nil => rfl
  | cons p s ih =>
    unfold sbK getS at ih ⊢
    rw [List.map_cons]
    by_cases e : p.1 = n
    · rw [valV_pos (p := ((Sum.inl p.1 : Key), kV p.2)) (by rw [e]), List.find?_cons_of_pos (by simpa using e)]
      rfl
    · rw [valV_neg (p := ((Sum.inl p.1 : Key), kV p.2)) (fun z => e (by injection z)), List.find?_cons_of_neg (by simpa using e)]
      exact ih
theorem sb_put {s : Sb} {n : Int} (k : Key) (h : getS s n = none) : putK (sbK s) (.inl n) (kV k) = sbK (s ++ [(n, k)]) := by
  rw [putK_new _ (by rw [sb_val, h]; rfl)]
  unfold sbK
  rw [List.map_append]
  rfl
def ArgAt (H : Hp) (t : Addr) : Ar → Prop
  | .c k => H t = some (.tup [.str "const", kV k])
  | .v n => H t = some (.tup [.str "var", .int n])
def Ar.sign : Ar → Str
  | .c _ => "const"
  | .v _ => "var"
def Ar.key : Ar → Key
  | .c k => k
  | .v n => .inl n
theorem ArgAt.tup {H : Hp} {t : Addr} {a : Ar} (h : ArgAt H t a) : H t = some (.tup [.str a.sign, kV a.key]) := by cases a <;> exact h
def ArgsAt (H : Hp) (p : Addr) (as : List Ar) : Prop := ∃ ts : List Addr, H p = some (.lst (ts.map V.ref)) ∧ EachIs (ArgAt H) ts as
def Atm.sign (a : Atm) : Str := if a.yes = true then "yes" else "no"
def AtmAt (H : Hp) (t : Addr) (a : Atm) : Prop := ∃ pa, H t = some (.tup [.str a.sign, .str a.name, .ref pa]) ∧ ArgsAt H pa a.args
def AtmsAt (H : Hp) (p : Addr) (l : List Atm) : Prop := ∃ ts : List Addr, H p = some (.lst (ts.map V.ref)) ∧ EachIs (AtmAt H) ts l
def RulAt (H : Hp) (t : Addr) (ρ : Rul) : Prop := ∃ ph pb, H t = some (.tup [.ref ph, .ref pb]) ∧ ArgsAt H ph ρ.head ∧ AtmsAt H pb ρ.body
def RulesAt (H : Hp) (p : Addr) (l : List Rul) : Prop := ∃ ts : List Addr, H p = some (.lst (ts.map V.ref)) ∧ EachIs (RulAt H) ts l
/-- all tuples and lists stay -/
def KeepS (H H' : Hp) : Prop := ∀ a o, ((∃ xs, o = .tup xs) ∨ ∃ xs, o = .lst xs) → H a = some o → H' a = some o
theorem KeepS.of {H H' : Hp} (s : Same H H') : KeepS H H' := fun a o _ e => s a o e
theorem KeepS.trans {H H1 H2 : Hp} (a : KeepS H H1) (b : KeepS H1 H2) : KeepS H H2 := fun x o n e => b x o n (a x o n e)
theorem KeepS.tup {H H' : Hp} (k : KeepS H H') {a : Addr} {xs : List V} (e : H a = some (.tup xs)) : H' a = some (.tup xs) := k a _ (.inl ⟨xs, rfl⟩) e
theorem KeepS.lst {H H' : Hp} (k : KeepS H H') {a : Addr} {xs : List V} (e : H a = some (.lst xs)) : H' a = some (.lst xs) := k a _ (.inr ⟨xs, rfl⟩) e
theorem KeepS.upd {H : Hp} {p : Addr} {o : HO} (h1 : ∀ xs, H p ≠ some (.tup xs)) (h2 : ∀ xs, H p ≠ some (.lst xs)) : KeepS H (upd H p o) := fun a u n e => by
  rw [upd_ne]
  · exact e
  · intro z
    rw [z] at e
    rcases n with ⟨xs, rfl⟩ | ⟨xs, rfl⟩
    · exact h1 _ e
    · exact h2 _ e
theorem ArgAt.keep {H H' : Hp} (k : KeepS H H') {t : Addr} {a : Ar} (h : ArgAt H t a) : ArgAt H' t a := by cases a <;> exact k.tup h
theorem ArgsAt.keep {H H' : Hp} (k : KeepS H H') {p : Addr} {l : List Ar} (h : ArgsAt H p l) : ArgsAt H' p l := let ⟨ts, h1, h2⟩ := h; ⟨ts, k.lst h1, h2.mono fun _ _ z => z.keep k⟩
theorem AtmAt.keep {H H' : Hp} (k : KeepS H H') {t : Addr} {a : Atm} (h : AtmAt H t a) : AtmAt H' t a := let ⟨pa, h1, h2⟩ := h; ⟨pa, k.tup h1, h2.keep k⟩
theorem AtmsAt.keep {H H' : Hp} (k : KeepS H H') {p : Addr} {l : List Atm} (h : AtmsAt H p l) : AtmsAt H' p l := let ⟨ts, h1, h2⟩ := h; ⟨ts, k.lst h1, h2.mono fun _ _ z => z.keep k⟩
theorem RulAt.keep {H H' : Hp} (k : KeepS H H') {t : Addr} {a : Rul} (h : RulAt H t a) : RulAt H' t a := let ⟨ph, pb, h1, h2, h3⟩ := h; ⟨ph, pb, k.tup h1, h2.keep k, h3.keep k⟩
theorem RulesAt.keep {H H' : Hp} (k : KeepS H H') {p : Addr} {l : List Rul} (h : RulesAt H p l) : RulesAt H' p l := let ⟨ts, h1, h2⟩ := h; ⟨ts, k.lst h1, h2.mono fun _ _ z => z.keep k⟩
theorem key_ne (x y : Key) : (!decide (kV x = kV y)) = !decide (x = y) := by
  by_cases e : x = y
  · rw [decide_eq_true e, decide_eq_true (congrArg kV e)]
  · rw [decide_eq_false e, decide_eq_false fun z => e (kV_inj z)]
theorem scal_keys (x y : Key) : scal (kV x) (kV y) = true := by cases x <;> cases y <;> rfl
theorem flat_key (x : Key) : flatV (kV x) = true := by cases x <;> rfl
section
variable {P : Program} {w : World} {K : PySem.W.Frag} {mg : Str → Option Value} {base : Heap} {f : Addr} {fd : FuncData}
/-- what matched gives -/
def MRes (H H' : Hp) (v : V) : Option Sb → Prop
  | none => v = .non
  | some t => ∃ p, v = .ref p ∧ H p = none ∧ SbAt H' p t
def spMatched : Sp := fun vs H Q _ => ∃ (p q pk : Addr) (as : List Ar) (r : Row) (s : Sb), vs = [.ref p, .ref q, .ref pk] ∧ ArgsAt H p as ∧ RowAt H q r ∧ SbAt H pk s ∧ as.length ≤ 1000 ∧ s.length ≤ 1000 ∧ ∀ v H', Same H H' → MRes H H' v (matchR as r s) → Q v H'
theorem ok_matched (F : FnP K "matched" s_matched f fd) (gL : mg "len" = none) (gD : mg "dict" = none) (gZ : mg "zip" = none) : FnOk P w K mg base CX0 1 f fd ["arguments", "row", "known"] spMatched := by
  refine F.ok sc_matched (fun vs H Q E h => ?_) (fun cdv A outer s H vs Q E hr h => ?_)
  · obtain ⟨p, q, pk, as, r, s, rfl, _⟩ := h
    rfl
  · obtain ⟨p, q, pk, as, r, sb, rfl, ⟨ts, hp, hts⟩, hq, hk, la, ls, kk⟩ := h
    refine ⟨_, PSs.nox (pss_cons (ps_if (pt_cmpR op_ne (pe_callB call_len_seq (by rfl) gL PySem.boot_len (pa_cons (pv 0) pa_nil)) (pe_callB call_len_seq (by rfl) gL PySem.boot_len (pa_cons (pv 1) pa_nil)) (nomark _)) (pss_one (ps_ret pe_non)) pss_nil)
      (pss_cons (ps_set (i := 3) sc_matched.nd rfl (Or.inl rfl) (pe_callTy call_dictD (by rfl) gD (by decide +kernel) (pa_cons (pv 2) pa_nil)))
      (pss_cons (ps_for PassesOwn.never rfl (pi_zipM (by rfl) gZ (pa_cons (pv 0) (pa_cons (pv 1) pa_nil)))
        (pg_tup rfl (pgs_cons (pg_tup rfl (pgs_cons (pg_name (i := 4) sc_matched.nd rfl (Or.inl rfl)) (pgs_cons (pg_name (i := 5) sc_matched.nd rfl (Or.inl rfl)) pgs_nil))) (pgs_cons (pg_name (i := 6) sc_matched.nd rfl (Or.inl rfl)) pgs_nil)))
        (pss_cons (ps_set (i := 7) sc_matched.nd rfl (Or.inl rfl) (pe_ifExp (pt_cmpR op_eq (pv 4) pe_str (nomark _)) (pv 5) (pe_dsetd (pv 3) (pv 5) (pv 6) ⟨rfl, rfl, rfl, rfl⟩)))
        (pss_one (ps_if (pt_cmpR op_ne (pv 7) (pv 6) (nomark _)) (pss_one (ps_ret pe_non)) pss_nil))))
      (pss_one (ps_ret (pv 3)))))), ?_⟩
    refine ⟨_, rfl, p, _, rfl, .inl (sq_l hp), _, rfl, q, _, rfl, .inr hq.sq, rfl, _, rfl, ?_⟩
    have tl := hts.length
    rw [List.length_map, List.length_map, tl]
    by_cases e : as.length = r.length
    · rw [decide_eq_true (by rw [e])]
      refine iteF ⟨_, rfl, pk, _, rfl, .inl hk, fun fo hfo => ?_⟩
      have s1 : Same H (upd H fo (.dK (sbK sb))) := same_new hfo
      obtain ⟨H1, eH1⟩ : ∃ H1, H1 = upd H fo (.dK (sbK sb)) := ⟨_, rfl⟩
      have f1 : SbAt H1 fo sb := by rw [eH1]; exact upd_same
      rw [← eH1] at s1 ⊢
      refine ⟨_, rfl, _, rfl, p, q, _, _, rfl, sq_l (s1 _ _ hp), (hq.mono s1).sq, ?_⟩
      have big : (3000 : Nat) ≤ sizeLine := by decide
      have er : matchR as r sb = matchG as r sb := by unfold matchR; rw [if_pos e]
      refine for_it (walk_zipM (xs := ts.map V.ref) (ys := r.map kV) (by rw [List.length_map, List.length_map, tl, e])) (fun i σ G => (∃ x4 x5 x6 x7, σ = [some (.ref p), some (.ref q), some (.ref pk), some (.ref fo), x4, x5, x6, x7]) ∧ (∀ a o, a ≠ fo → H1 a = some o → G a = some o) ∧
        ∃ si, SbAt G fo si ∧ matchG as r sb = matchG (as.drop i) (r.drop i) si ∧ si.length ≤ sb.length + i) ⟨⟨none, none, none, none, rfl⟩, fun _ _ _ e => e, sb, f1, rfl, Nat.le_refl _⟩
        (fun i σ G _ z => by
          obtain ⟨_, k, _⟩ := z
          exact ⟨sq_l (k _ _ (ne_of_none hp hfo) (s1 _ _ hp)), sq_t (k _ _ (ne_of_none hq hfo) (s1 _ _ hq))⟩) ?_ ?_
      · rintro i x σ G _ hi ⟨⟨x4, x5, x6, x7, rfl⟩, k, si, fs, em, sl⟩ ⟨T, x, y, rfl, hT, rfl, hx, hy⟩
        obtain ⟨t, ht, rfl⟩ := ref_at hx
        obtain ⟨kr, hkr, rfl⟩ := map_at hy
        obtain ⟨a, ha, hat⟩ := each_at hts ht
        have s2 : Same G (upd G T (.tup [.ref t, kV kr])) := same_new hT
        have nfo : T ≠ fo := fun z => by rw [z, fs] at hT; cases hT
        obtain ⟨G2, eG2⟩ : ∃ G2, G2 = upd G T (.tup [.ref t, kV kr]) := ⟨_, rfl⟩
        have T2 : G2 T = some (.tup [.ref t, kV kr]) := by rw [eG2]; exact upd_same
        rw [← eG2] at s2 ⊢
        have tt := hat.tup
        have tG : G2 t = some (.tup [.str a.sign, kV a.key]) := s2 _ _ (k _ _ (ne_of_none tt hfo) (s1 _ _ tt))
        have il : i < as.length := (List.getElem?_eq_some_iff.mp ha).1
        have da : as.drop i = a :: as.drop (i + 1) := by rw [List.drop_eq_getElem_cons il]; congr 1; exact (List.getElem?_eq_some_iff.mp ha).2
        have dr : r.drop i = kr :: r.drop (i + 1) := by
          have ir : i < r.length := (List.getElem?_eq_some_iff.mp hkr).1
          rw [List.drop_eq_getElem_cons ir]
          congr 1
          exact (List.getElem?_eq_some_iff.mp hkr).2
        rw [da, dr] at em
        have fs2 : SbAt G2 fo si := s2 _ _ fs
        have k2 : ∀ a o, a ≠ fo → H1 a = some o → G2 a = some o := fun a o n e => s2 _ _ (k a o n e)
        refine ⟨T, _, rfl, sq_t T2, rfl, _, _, rfl, ⟨t, _, rfl, sq_t tG, rfl, _, _, rfl, _, _, rfl, rfl, _, _, rfl, rfl, ?_⟩⟩
        -- the test behind `wanted`
        have test : ∀ (want : Key) (G3 : Hp) (s3 : Sb), (∀ a o, a ≠ fo → H1 a = some o → G3 a = some o) → SbAt G3 fo s3 → s3.length ≤ sb.length + (i + 1) → matchG as r sb = (if want = kr then matchG (as.drop (i + 1)) (r.drop (i + 1)) s3 else none) →
            scal (kV want) (kV kr) = true ∧ ∃ b, V.bl (!decide (kV want = kV kr)) = .bl b ∧ if b = true then Q .non G3 else ((∃ y4 y5 y6 y7, ([some (.ref p), some (.ref q), some (.ref pk), some (.ref fo), some (.str a.sign), some (kV a.key), some (kV kr), some (kV want)] : L2.St) = [some (.ref p), some (.ref q), some (.ref pk), some (.ref fo), y4, y5, y6, y7]) ∧ (∀ a o, a ≠ fo → H1 a = some o → G3 a = some o) ∧
              ∃ si, SbAt G3 fo si ∧ matchG as r sb = matchG (as.drop (i + 1)) (r.drop (i + 1)) si ∧ si.length ≤ sb.length + (i + 1)) := fun want G3 s3 k3 f3 l3 e3 => by
          refine ⟨scal_keys _ _, _, rfl, ?_⟩
          rw [key_ne]
          by_cases z : want = kr
          · rw [decide_eq_true z]
            rw [if_pos z] at e3
            exact iteF ⟨⟨_, _, _, _, rfl⟩, k3, s3, f3, e3, l3⟩
          · rw [decide_eq_false z]
            rw [if_neg z] at e3
            refine iteT (kk _ _ (fun a o e => k3 a o (ne_of_none e hfo) (s1 _ _ e)) ?_)
            rw [er, e3]
            rfl
        cases a with
        | c k' =>
          refine ⟨_, rfl, rfl, _, rfl, ?_⟩
          rw [show decide (V.str (Ar.c k').sign = V.str "const") = true from decide_eq_true rfl]
          refine iteT ⟨_, rfl, ⟨_, rfl, _, rfl, test k' G2 si k2 fs2 (Nat.le_succ_of_le sl) em⟩⟩
        | v n =>
          refine ⟨_, rfl, rfl, _, rfl, ?_⟩
          have vc : ¬ (("var" : Str) = "const") := by decide +kernel
          rw [show decide (V.str (Ar.v n).sign = V.str "const") = false from decide_eq_false fun z => vc (by injection z)]
          refine iteF ⟨_, rfl, fo, rfl, .inl ⟨_, .inl fs2⟩, _, rfl, _, rfl, sbK si, .inl n, fs2, rfl, ?_, fun v hv => ?_, fun hn => ?_⟩
          · unfold sbK
            rw [List.length_map]
            omega
          · rw [sb_val] at hv
            obtain ⟨k', g, rfl⟩ := Option.map_eq_some_iff.mp hv
            refine ⟨_, rfl, _, rfl, test k' G2 si k2 fs2 (Nat.le_succ_of_le sl) ?_⟩
            rw [em]
            show (match getS si n with | some k' => if k' = kr then matchG _ _ si else none | none => _) = _
            rw [g]
          · rw [sb_val, Option.map_eq_none_iff] at hn
            rw [sb_put kr hn]
            refine ⟨_, rfl, _, rfl, test kr _ (si ++ [(n, kr)]) (fun a o ne e => by rw [upd_ne ne]; exact k2 a o ne e) upd_same (by rw [List.length_append]; simp; omega) ?_⟩
            rw [if_pos rfl, em]
            show (match getS si n with | some k' => if k' = kr then matchG _ _ si else none | none => matchG (as.drop (i + 1)) (r.drop (i + 1)) (si ++ [(n, kr)])) = _
            rw [hn]
      · rintro σ G ⟨⟨x4, x5, x6, x7, rfl⟩, k, si, fs, em, sl⟩
        rw [List.length_map, tl] at em
        rw [List.drop_of_length_le (Nat.le_refl _), List.drop_of_length_le (by omega)] at em
        refine ⟨_, rfl, kk _ _ (fun a o e => k a o (ne_of_none e hfo) (s1 _ _ e)) ?_⟩
        rw [er, em]
        exact ⟨fo, rfl, hfo, fs⟩
    · rw [decide_eq_false (fun z => e (by injection z with z; exact_mod_cast z))]
      refine iteT (kk _ _ (Same.refl _) ?_)
      unfold matchR
      rw [if_neg e]
      rfl
end
end KA
set_option Elab.async false
set_option linter.all false
set_option maxRecDepth 100000
set_option maxHeartbeats 4000000
/-! comprehensions with two loops; names_in_bodies, filled, without -/
namespace KA
open PySem PySem.Spec PyProof.Rows L2
open PySem.W (EachIs)
section
variable {J : It} {n : Nat} {G : Hp → Prop} {Y : Nat → Hp → V → Hp → Prop}
/-- the inner loop -/
theorem in_it (w : Walk J n G Y) {g : TG} {tt : TT} {te : TE} {vs : List Nat} {τ : L2.St} {H0 : Hp} {D : Addr} {Nd : Hp → Prop} (Pv : Nat → Hp → Prop) (h0 : Pv 0 H0) (hG : ∀ i H, i ≤ n → Pv i H → G H)
    (hs : ∀ i x H H', i < n → Pv i H → Y i H x H' → g x τ H' fun σ3 H5 => wipe σ3 vs = τ ∧ tt σ3 H5 fun b H6 => if b = true then te σ3 H6 fun y H7 => ∃ acc, H7 D = some (.lst acc) ∧ acc.length < sizeLine ∧ Pv (i + 1) (upd H7 D (.lst (acc ++ [y]))) else Pv (i + 1) H6) (hd : ∀ H, Pv n H → Nd H) :
    ∃ W1 : Nat → Nat → Hp → Prop, (∃ m, W1 0 m H0) ∧ ∀ j k H, W1 j k H → (J.stop j H ∧ Nd H) ∨ (J.go j H ∧ ∃ Nx1 : Hp → Prop, (∀ H', Nx1 H' → ∃ k', k' < k ∧ W1 (j + 1) k' H') ∧ ∀ x H', J.yld j H x H' → g x τ H' fun σ3 H5 => wipe σ3 vs = τ ∧ tt σ3 H5 fun b H6 =>
      if b = true then te σ3 H6 fun y H7 => ∃ acc, H7 D = some (.lst acc) ∧ acc.length < sizeLine ∧ Nx1 (upd H7 D (.lst (acc ++ [y]))) else Nx1 H6) := by
  refine ⟨fun i m H => m = n - i ∧ i ≤ n ∧ Pv i H, ⟨n, by simp, Nat.zero_le _, h0⟩, fun i m H ⟨em, hi, p⟩ => ?_⟩
  have q := hG i H hi p
  by_cases lt : i < n
  · exact .inr ⟨w.goes i H lt q, Pv (i + 1), fun H' p' => ⟨n - (i + 1), by omega, rfl, lt, p'⟩, fun x H' y => hs i x H H' lt p (w.yields i H x H' lt q y)⟩
  · obtain rfl : i = n := by omega
    exact .inl ⟨w.stops H q, hd H p⟩
/-- the outer loop, whatever a turn is -/
theorem out_it (w : Walk J n G Y) {H0 : Hp} {Qd : Hp → Prop} {turn : Nat → Hp → V → Hp → (Hp → Prop) → Prop} (Pv : Nat → Hp → Prop) (h0 : Pv 0 H0) (hG : ∀ i H, i ≤ n → Pv i H → G H) (hs : ∀ i x H H', i < n → Pv i H → Y i H x H' → turn i H x H' (Pv (i + 1))) (hd : ∀ H, Pv n H → Qd H) :
    ∃ W : Nat → Nat → Hp → Prop, (∃ m, W 0 m H0) ∧ ∀ i m H, W i m H → (J.stop i H ∧ Qd H) ∨ (J.go i H ∧ ∃ Nx : Hp → Prop, (∀ H', Nx H' → ∃ m', m' < m ∧ W (i + 1) m' H') ∧ ∀ x H', J.yld i H x H' → turn i H x H' Nx) := by
  refine ⟨fun i m H => m = n - i ∧ i ≤ n ∧ Pv i H, ⟨n, by simp, Nat.zero_le _, h0⟩, fun i m H ⟨em, hi, p⟩ => ?_⟩
  have q := hG i H hi p
  by_cases lt : i < n
  · exact .inr ⟨w.goes i H lt q, Pv (i + 1), fun H' p' => ⟨n - (i + 1), by omega, rfl, lt, p'⟩, fun x H' y => hs i x H H' lt p (w.yields i H x H' lt q y)⟩
  · obtain rfl : i = n := by omega
    exact .inl ⟨w.stops H q, hd H p⟩
end
theorem yes_if {A B : Hp → Prop} {σ : L2.St} {H : Hp} (h : A H) : tYes σ H fun b H3 => if b = true then A H3 else B H3 := by
  show if true = true then A H else B H
  rw [if_pos rfl]
  exact h
def memS (l : List Str) (x : Str) : Bool := l.any fun y => decide (y = x)
theorem memS_iff {l : List Str} {x : Str} : memS l x = true ↔ x ∈ l := by
  unfold memS
  rw [List.any_eq_true]
  exact ⟨fun ⟨y, h, e⟩ => by rw [← of_decide_eq_true e]; exact h, fun h => ⟨x, h, decide_eq_true rfl⟩⟩
def addS (l : List Str) (x : Str) : List Str := if memS l x = true then l else l ++ [x]
def uniS (l : List Str) : List Str := l.foldl addS []
theorem uniS_snoc (l : List Str) (x : Str) : uniS (l ++ [x]) = addS (uniS l) x := by
  unfold uniS
  rw [List.foldl_append]
  rfl
theorem addS_mem {l : List Str} {x y : Str} : y ∈ addS l x ↔ y ∈ l ∨ y = x := by
  unfold addS
  split
  · rename_i e
    rw [memS_iff] at e
    exact ⟨.inl, fun h => h.elim id fun z => by rw [z]; exact e⟩
  · rw [List.mem_append, List.mem_singleton]
theorem uniS_mem {x : Str} : ∀ (l acc : List Str), x ∈ l.foldl addS acc ↔ x ∈ acc ∨ x ∈ l
  | [], acc => by simp
  | y :: l, acc => by rw [List.foldl_cons, uniS_mem l, addS_mem, List.mem_cons, or_assoc]
theorem uniS_nd : ∀ (l acc : List Str), acc.Nodup → (l.foldl addS acc).Nodup
  | [], acc, h => h
  | y :: l, acc, h => uniS_nd l _ (by
    unfold addS
    split
    · exact h
    · rename_i e
      rw [memS_iff] at e
      refine List.nodup_append.mpr ⟨h, by simp, fun x hx z hz q => ?_⟩
      rw [List.mem_singleton.mp hz] at q
      rw [q] at hx
      exact e hx)
theorem uniS_len : ∀ (l acc : List Str), (l.foldl addS acc).length ≤ acc.length + l.length
  | [], acc => by simp
  | y :: l, acc => by
    have h1 := uniS_len l (addS acc y)
    have h2 : (addS acc y).length ≤ acc.length + 1 := by
      unfold addS
      split
      · omega
      · simp
    rw [List.foldl_cons, List.length_cons]
    omega
def kS (l : List Str) : List (Key × V) := l.map fun x => (Sum.inr x, V.bl true)
theorem kS_val (l : List Str) (x : Str) : valV (kS l) (.inr x) = if memS l x = true then some (.bl true) else none := by
  induction l with
  | nil => rfl
  | cons y l ih =>
    unfold kS at ih ⊢
    rw [List.map_cons]
    by_cases e : y = x
    · rw [valV_pos (p := ((Sum.inr y : Key), V.bl true)) (by rw [e]), if_pos]
      unfold memS
      rw [List.any_cons, decide_eq_true e, Bool.true_or]
    · rw [valV_neg (p := ((Sum.inr y : Key), V.bl true)) (fun z => e (by injection z)), ih]
      unfold memS
      rw [List.any_cons, decide_eq_false e, Bool.false_or]
theorem kS_put (l : List Str) (x : Str) : putK (kS l) (.inr x) (.bl true) = kS (addS l x) := by
  unfold addS putK
  rw [valV_any, kS_val]
  by_cases h : memS l x = true
  · rw [if_pos h, if_pos h]
    simp only [Option.isSome_some, if_true]
    unfold kS
    rw [List.map_map]
    refine List.map_congr_left fun y _ => ?_
    show (if (Sum.inr y : Key) = Sum.inr x then ((Sum.inr y : Key), V.bl true) else ((Sum.inr y : Key), V.bl true)) = ((Sum.inr y : Key), V.bl true)
    split <;> rfl
  · rw [if_neg h, if_neg h, if_neg (by simp)]
    unfold kS
    rw [List.map_append]
    rfl
/-- the names in the bodies but own -/
def bodyNames (rules : List Rul) : List Str := rules.flatMap fun ρ => ρ.body.map (·.name)
def namesB (rules : List Rul) (own : Str) : List Str := uniS ((bodyNames rules).filter fun x => !decide (x = own))
section
variable {P : Program} {w : World} {K : PySem.W.Frag} {mg : Str → Option Value} {base : Heap} {f : Addr} {fd : FuncData}
def spNamesB : Sp := fun vs H Q _ => ∃ (pr : Addr) (own : Str) (rules : List Rul), vs = [.ref pr, .str own] ∧ RulesAt H pr rules ∧ rules.length ≤ 1000 ∧ (bodyNames rules).length ≤ 1000 ∧ (∀ ρ ∈ rules, ρ.body.length ≤ 1000) ∧ ∀ H' p, Same H H' → H p = none → H' p = some (.lst ((namesB rules own).map V.str)) → Q (.ref p) H'
theorem ok_names_in_bodies (F : FnP K "names_in_bodies" s_names_in_bodies f fd) (gL : mg "list" = none) : FnOk P w K mg base CX0 1 f fd ["rules", "own"] spNamesB := by
  refine F.ok sc_names_in_bodies (fun vs H Q E h => ?_) (fun cdv A outer s H vs Q E hr h => ?_)
  · obtain ⟨pr, own, rules, rfl, _⟩ := h
    rfl
  · obtain ⟨pr, own, rules, rfl, ⟨ts, hp, hts⟩, l1, l2, l3, kk⟩ := h
    refine ⟨_, PSs.nox (pss_cons (ps_setLc2 (i := 2) (own := [("_", 3), ("body", 4), ("atom", 5)]) (vs1 := [5]) (g := gP2 K 3 4) (tt := tYes) (wi1 := iList K (tVar 4)) (g1 := gName 5) (tt1 := tYes) (te := tOp (rIxT K) (tVar 5) (tC (.int 1))) (by rfl) sc_names_in_bodies.nd rfl rfl (sw_true rfl rfl rfl (by decide +kernel)) (pi_list (pv 0))
        (blkOk_by (own := [("_", 3), ("body", 4), ("atom", 5)]) (N := ["rules", "own", "names", "_", "body", "atom", "name"]) (sc := defScope s_names_in_bodies) (by decide +kernel)) (by decide)
        (fun _ _ _ _ _ => pg_tup rfl (pgs_cons (pg_name (i := 3) sc_names_in_bodies.nd rfl (Or.inl rfl)) (pgs_cons (pg_name (i := 4) sc_names_in_bodies.nd rfl (Or.inl rfl)) pgs_nil))) (fun _ _ _ _ _ => pts_nil)
        (fun _ _ _ _ _ => pi_list (pv 4)) (fun _ _ _ _ _ => pg_name (i := 5) sc_names_in_bodies.nd rfl (Or.inl rfl)) (fun _ _ _ _ _ => pts_nil) (fun _ _ _ _ _ => pe_ix ix_tup (pv 5) pe_int (fun _ _ => rfl)))
      (pss_one (ps_ret (pe_callTy (call_list_dK rfl) (by rfl) gL (by decide +kernel) (pa_cons (pe_dc (own := [("name", 6)]) (g := gName 6) (tk := tVar 6) (tv := tC (.bl true)) (tt := tTest (tOp rNe (tVar 6) (tVar 1))) (by rfl) sc_names_in_bodies.nd (pi_list (pv 2))
        (blkOk_by (own := [("name", 6)]) (N := ["rules", "own", "names", "_", "body", "atom", "name"]) (sc := defScope s_names_in_bodies) (by decide +kernel)) (fun _ _ _ _ _ => pg_name (i := 6) sc_names_in_bodies.nd rfl (Or.inl rfl)) (fun _ _ _ _ _ => pts_one (pt_cmpR op_ne (pv 6) (pv 1) (nomark _))) (fun _ _ _ _ _ => pv 6) (fun _ _ _ _ _ => pe_bl)) pa_nil))))), ?_⟩
    have bigL : (3000 : Nat) ≤ sizeLine := by decide
    refine ⟨_, rfl, pr, rfl, ⟨_, sq_l hp⟩, fun D hD => ?_⟩
    refine out_it (walk_list (xs := ts.map V.ref)) (fun i G => Same H G ∧ G D = some (.lst ((bodyNames (rules.take i)).map V.str))) ⟨same_new hD, by rw [upd_same]; rfl⟩ (fun i G _ z => sq_l (z.1 _ _ hp)) ?_ ?_
    · rintro i x G0 G hi ⟨sG, aG⟩ ⟨rfl, hx⟩
      obtain ⟨t, ht, rfl⟩ := ref_at hx
      obtain ⟨ρ, hρ, ph, pb, h1, h2, us, h3, h4⟩ := each_at hts ht
      have hm := List.mem_of_getElem? hρ
      have et : rules.take (i + 1) = rules.take i ++ [ρ] := by rw [List.take_add_one, hρ]; rfl
      have eb : bodyNames (rules.take (i + 1)) = bodyNames (rules.take i) ++ ρ.body.map (·.name) := by
        rw [et]
        unfold bodyNames
        rw [List.flatMap_append]
        simp
      have few : (bodyNames (rules.take (i + 1))).length ≤ 1000 := by
        refine Nat.le_trans ?_ l2
        have : bodyNames rules = bodyNames (rules.take (i + 1)) ++ bodyNames (rules.drop (i + 1)) := by
          unfold bodyNames
          rw [← List.flatMap_append, List.take_append_drop]
        rw [this, List.length_append]
        omega
      refine gp2 (sG _ _ h1) ⟨rfl, yes_if ⟨_, rfl, pb, rfl, ⟨_, sq_l (sG _ _ h3)⟩, ?_⟩⟩
      refine in_it (walk_list (xs := us.map V.ref)) (fun j G2 => Same H G2 ∧ G2 D = some (.lst ((bodyNames (rules.take i) ++ (ρ.body.take j).map (·.name)).map V.str))) ⟨sG, by rw [aG]; simp⟩ (fun j G2 _ z => sq_l (z.1 _ _ h3)) ?_ ?_
      · rintro j y G1 G2 hj ⟨s2, a2⟩ ⟨rfl, hy⟩
        obtain ⟨u, hu, rfl⟩ := ref_at hy
        obtain ⟨a, ha, pa, h5, _⟩ := each_at h4 hu
        refine ⟨rfl, yes_if ⟨_, rfl, u, _, 1, _, rfl, rfl, sq_t (s2 _ _ h5), atI_nat (j := 1) rfl, _, a2, ?_, same_mut s2 hD, ?_⟩⟩
        · rw [eb, List.length_append, List.length_map] at few
          rw [List.length_map, List.length_append, List.length_map, List.length_take]
          have := Nat.min_le_right j ρ.body.length
          omega
        · rw [upd_same, List.take_add_one, ha]
          simp
      · rintro G2 ⟨s2, a2⟩
        rw [List.length_map, h4.length, List.take_length] at a2
        exact ⟨s2, by rw [a2, eb]⟩
    · rintro G ⟨sG, aG⟩
      rw [List.length_map, hts.length, List.take_length] at aG
      refine ⟨_, rfl, D, rfl, ⟨_, sq_l aG⟩, fun D2 hD2 => ?_⟩
      have s2 : Same G (upd G D2 (.dK [])) := same_new hD2
      refine out_it (walk_list (xs := (bodyNames rules).map V.str)) (fun i G2 => Same G G2 ∧ G2 D2 = some (.dK (kS (uniS (((bodyNames rules).take i).filter fun x => !decide (x = own)))))) ⟨s2, upd_same⟩ (fun i G2 _ z => sq_l (z.1 _ _ aG)) ?_ ?_
      · rintro i x G1 G2 hi ⟨s3, a3⟩ ⟨rfl, hx⟩
        obtain ⟨y, hy, rfl⟩ := map_at hx
        have et : (bodyNames rules).take (i + 1) = (bodyNames rules).take i ++ [y] := by rw [List.take_add_one, hy]; rfl
        refine ⟨rfl, _, rfl, _, rfl, rfl, _, rfl, ?_⟩
        by_cases e : y = own
        · rw [decide_eq_true (congrArg V.str e)]
          refine iteF ⟨s3, ?_⟩
          rw [et, List.filter_append, List.filter_cons_of_neg (by simp [e])]
          simpa using a3
        · rw [decide_eq_false fun z => e (by injection z)]
          refine iteT ⟨_, rfl, _, .inr y, rfl, a3, ?_, same_mut s3 hD2, ?_⟩
          · have h1 := uniS_len (((bodyNames rules).take i).filter fun x => !decide (x = own)) []
            have h2 := List.length_filter_le (fun x => !decide (x = own)) ((bodyNames rules).take i)
            have h3 : ((bodyNames rules).take i).length ≤ (bodyNames rules).length := by rw [List.length_take]; exact Nat.min_le_right _ _
            unfold kS
            rw [List.length_map]
            unfold uniS
            simp only [List.length_nil] at h1
            omega
          · rw [upd_same, kS_put, ← uniS_snoc, et, List.filter_append, List.filter_cons_of_pos (by simp [e])]
            rfl
      · rintro G2 ⟨s3, a3⟩
        rw [List.length_map, List.take_length] at a3
        refine ⟨D2, _, rfl, a3, fun p hp2 => ?_⟩
        refine kk _ p ((sG.trans s3).trans (same_new hp2)) (by
          cases y : H p with
          | none => rfl
          | some o => rw [s3 _ _ (sG _ _ y)] at hp2; cases hp2) ?_
        rw [upd_same]
        unfold kS namesB
        rw [List.map_map]
        rfl
/-- the tuple of the arguments' values -/
def spFilled : Sp := fun vs H Q _ => ∃ (p pk : Addr) (as : List Ar) (s : Sb), vs = [.ref p, .ref pk] ∧ ArgsAt H p as ∧ SbAt H pk s ∧ (∀ n, Ar.v n ∈ as → Has s n) ∧ as.length ≤ 1000 ∧ ∀ H' t, Same H H' → H t = none → RowAt H' t (fill s as) → Q (.ref t) H'
theorem ok_filled (F : FnP K "filled" s_filled f fd) (gT : mg "tuple" = none) : FnOk P w K mg base CX0 1 f fd ["arguments", "known"] spFilled := by
  refine F.ok sc_filled (fun vs H Q E h => ?_) (fun cdv A outer s H vs Q E hr h => ?_)
  · obtain ⟨p, pk, as, sb, rfl, _⟩ := h
    rfl
  · obtain ⟨p, pk, as, sb, rfl, ⟨ts, hp, hts⟩, hk, hv, la, kk⟩ := h
    refine ⟨_, PSs.nox (pss_one (ps_ret (pe_callTy call_tuple_of (by rfl) gT (by decide +kernel) (pa_cons (pe_lc (own := [("kind", 2), ("content", 3)]) (g := gP2 K 2 3) (tt := tYes) (te := tIf (tTest (tOp rEq (tVar 2) (tC (.str "const")))) (tVar 3) (tDGet (tVar 1) (tVar 3))) (by rfl) sc_filled.nd (pi_list (pv 0))
      (blkOk_by (own := [("kind", 2), ("content", 3)]) (N := ["arguments", "known", "kind", "content"]) (sc := defScope s_filled) (by decide +kernel)) (fun _ _ _ _ _ => pg_tup rfl (pgs_cons (pg_name (i := 2) sc_filled.nd rfl (Or.inl rfl)) (pgs_cons (pg_name (i := 3) sc_filled.nd rfl (Or.inl rfl)) pgs_nil))) (fun _ _ _ _ _ => pts_nil)
      (fun _ _ _ _ _ => pe_ifExp (pt_cmpR op_eq (pv 2) pe_str (nomark _)) (pv 3) (pe_dget hr.u1 (pv 1) (pv 3) (fun _ _ => rfl)))) pa_nil)))), ?_⟩
    refine ⟨_, rfl, p, rfl, ⟨_, sq_l hp⟩, fun D hD => ?_⟩
    refine lc_same (walk_list (xs := ts.map V.ref)) as (by rw [List.length_map, hts.length]) (fun _ => true) (fun _ v a => v = kV (fillA sb a)) (fun _ _ _ _ _ z => z) hD (fun H' s' => sq_l (s' _ _ hp)) (by rw [List.length_map, hts.length]; omega) ?_ ?_
    · rintro i x a H1 _ hi hb s1 ⟨rfl, hx⟩ Q' Qn h1 _
      obtain ⟨t, ht, rfl⟩ := ref_at hx
      have hat := each_get hts ht hb
      refine gp2 (s1 _ _ hat.tup) ⟨rfl, yes_in ⟨_, rfl, rfl, _, rfl, ?_⟩⟩
      cases a with
      | c k =>
        rw [show decide (V.str (Ar.c k).sign = V.str "const") = true from decide_eq_true rfl]
        exact iteT ⟨_, rfl, h1 rfl _ _ (Same.refl _) rfl⟩
      | v n =>
        have vc : ¬ (("var" : Str) = "const") := by decide +kernel
        rw [show decide (V.str (Ar.v n).sign = V.str "const") = false from decide_eq_false fun z => vc (by injection z)]
        obtain ⟨k, g⟩ := Option.isSome_iff_exists.mp (hv n (List.mem_of_getElem? hb))
        refine iteF ⟨_, rfl, _, rfl, pk, kV k, rfl, .inl ⟨sbK sb, .inl n, .inl (s1 _ _ hk), rfl, by rw [sb_val, g]; rfl⟩, h1 rfl _ _ (Same.refl _) ?_⟩
        show kV k = kV ((getS sb n).getD (.inl 0))
        rw [g]
        rfl
    · intro H1 acc s1 ha he
      rw [filter_true] at he
      have eacc : acc = (fill sb as).map kV := by
        clear ha hts hv la kk
        unfold fill
        rw [List.map_map]
        induction he with
        | nil => rfl
        | cons h t ih => rw [List.map_cons, ← ih, h]; rfl
      refine ⟨D, acc, rfl, .inl ⟨sq_l ha, fun t ht => ?_⟩⟩
      refine kk _ t (s1.trans (same_new ht)) (by
        cases y : H t with
        | none => rfl
        | some o => rw [s1 _ _ y] at ht; cases ht) ?_
      show upd H1 t _ t = _
      rw [upd_same, eacc]
/-- the rows of a dict that another dict does not have -/
def spWithout : Sp := fun vs H Q _ => ∃ (a b : Addr) (ra rb : List Row), vs = [.ref a, .ref b] ∧ SetAt H a ra ∧ SetAt H b rb ∧ ra.length ≤ 100000 ∧ ∀ H' p, Same H H' → H p = none → RowsAt H' p (ra.filter fun r => !memB rb r) → Q (.ref p) H'
theorem ok_without (F : FnP K "without" s_without f fd) : FnOk P w K mg base CX0 1 f fd ["rows", "others"] spWithout := by
  refine F.ok sc_without (fun vs H Q E h => ?_) (fun cdv A outer s H vs Q E hr h => ?_)
  · obtain ⟨a, b, ra, rb, rfl, _⟩ := h
    rfl
  · obtain ⟨a, b, ra, rb, rfl, ha, hb, la, kk⟩ := h
    refine ⟨_, PSs.nox (pss_one (ps_ret (pe_lock (pe_lc (own := [("row", 2)]) (g := gName 2) (tt := tB (tDNotIn (tVar 2) (tVar 1))) (te := tVar 2) (by rfl) sc_without.nd (pi_keys (pv 0))
      (blkOk_by (own := [("row", 2)]) (N := ["rows", "others", "row"]) (sc := defScope s_without) (by decide +kernel)) (fun _ _ _ _ _ => pg_name (i := 2) sc_without.nd rfl (Or.inl rfl)) (fun _ _ _ _ _ => pts_one (pt_cmp (pc_dnotin hr.u1 (pv 2) (pv 1)))) (fun _ _ _ _ _ => pv 2))))), ?_⟩
    refine ⟨a, _, ha, trivial, fun od => ?_⟩
    obtain ⟨H1, eH1⟩ : ∃ H1, H1 = upd H a (.frz od (.dT (sd ra))) := ⟨_, rfl⟩
    rw [← eH1]
    have a1 : H1 a = some (.frz od (.dT (sd ra))) := by rw [eH1]; exact upd_same
    have off1 : ∀ c o, c ≠ a → H c = some o → H1 c = some o := fun c o n e => by rw [eH1, upd_ne n]; exact e
    refine ⟨_, rfl, a, od, rfl, .inr ⟨_, a1, fun D hD => ?_⟩⟩
    have Da : D ≠ a := fun z => by rw [z, a1] at hD; cases hD
    have hD0 : H D = none := by
      cases y : H D with
      | none => rfl
      | some o => rw [off1 _ _ Da y] at hD; cases hD
    have rdb : ∀ G : Hp, Same H1 G → Rd G b (.dT (sd rb)) := fun G sG => by
      by_cases z : b = a
      · have e : sd ra = sd rb := by
          have h1 := ha
          have h2 := hb
          unfold SetAt at h1 h2
          rw [z, h1] at h2
          injection (Option.some.inj h2)
        rw [z]
        exact .inr ⟨od, by rw [← e]; exact sG _ _ a1⟩
      · exact .inl (sG _ _ (off1 _ _ z hb))
    have ls : (sd ra).length = ra.length := by unfold sd; rw [List.length_map]
    refine lc_same (walk_keysT (kvs := sd ra)) ra ls.symm (fun r => !memB rb r) (fun G v r => ∃ q, v = .ref q ∧ RowAt G q r) (fun G G' v r k ⟨q, e, h⟩ => ⟨q, e, h.tk k⟩) hD (fun G sG => sG _ _ a1) (by rw [ls]; exact la) ?_ ?_
    · rintro i x r G0 G hi hr2 sG ⟨rfl, k, v, q, hk, rfl, hq⟩ Q' Qn k1 k2
      have ek : k = r := by
        unfold sd at hk
        rw [List.getElem?_map, hr2] at hk
        have e : (r, V.bl true) = (k, v) := Option.some.inj hk
        injection e with e1 _
        exact e1.symm
      subst ek
      refine ⟨rfl, ?_⟩
      refine if_in (fun Q2 z => ⟨_, rfl, _, rfl, b, _, rfl, .inr ⟨sd rb, k, q, rdb _ sG, rfl, hq, rfl⟩, _, rfl, by rw [sd_val]; exact z⟩) (fun hc => ⟨_, rfl, k1 ?_ _ _ (Same.refl _) ⟨q, rfl, hq⟩⟩) fun hc => k2 ?_ _ (Same.refl _)
      · cases e : memB rb k with
        | false => rfl
        | true => rw [e] at hc; simp at hc
      · cases e : memB rb k with
        | true => rfl
        | false => rw [e] at hc; simp at hc
    · rintro G acc sG hD2 he
      refine ⟨sG _ _ a1, ?_⟩
      obtain ⟨as, rfl, has⟩ := each_list (P := RowAt G) (fun v r z => z) he
      have sm : Same H (upd G a (.dT (sd ra))) := fun c o e => by
        by_cases z : c = a
        · rw [z] at e ⊢
          rw [upd_same, ← ha]
          exact e
        · rw [upd_ne z]
          exact sG _ _ (off1 _ _ z e)
      have tG : ∀ c xs, G c = some (.tup xs) → upd G a (.dT (sd ra)) c = some (.tup xs) := fun c xs e => by
        rw [upd_ne (fun z => by rw [z, sG _ _ a1] at e; cases e)]
        exact e
      exact kk _ D sm hD0 ⟨as, by rw [upd_ne Da]; exact hD2, has.mono fun _ _ z => tG _ _ z⟩
end
end KA
set_option Elab.async false
set_option linter.all false
set_option maxRecDepth 100000
set_option maxHeartbeats 8000000
/-! extensions -/
namespace KA
open PySem PySem.Spec PyProof.Rows L2
open PySem.W (EachIs)
/-! ### which indexes there may be -/
def subl {α : Type} : List α → List (List α)
  | [] => [[]]
  | a :: l => subl l ++ (subl l).map (a :: ·)
theorem filter_subl {α : Type} (p : α → Bool) : ∀ l : List α, l.filter p ∈ subl l
  | [] => List.mem_singleton.mpr rfl
  | a :: l => by
    rw [List.filter_cons]
    split
    · exact List.mem_append_right _ (List.mem_map.mpr ⟨_, filter_subl p l, rfl⟩)
    · exact List.mem_append_left _ (filter_subl p l)
def idxs (n : Nat) : List Int := (List.range n).map fun i => ((i : Nat) : Int)
def allIx (m : Nat) : List Ix := (List.range (m + 1)).flatMap fun n => (subl (idxs n)).map fun l => ((n : Int), l)
def knownB (s : Sb) : Ar → Bool
  | .c _ => true
  | .v n => (getS s n).isSome
/-- the known arguments with their places -/
def kz (as : List Ar) (s : Sb) : List (Ar × Nat) := as.zipIdx.filter fun p => knownB s p.1
def plc (as : List Ar) (s : Sb) : List Int := (kz as s).map fun p => ((p.2 : Nat) : Int)
theorem zip_idx (as : List Ar) : (as.zipIdx.map fun p => ((p.2 : Nat) : Int)) = idxs as.length := by
  unfold idxs
  apply List.ext_getElem?
  intro i
  rw [List.getElem?_map, List.getElem?_map, List.getElem?_zipIdx]
  by_cases h : i < as.length
  · rw [List.getElem?_eq_getElem h, List.getElem?_range h]
    simp
  · rw [List.getElem?_eq_none (by omega), List.getElem?_eq_none (by rw [List.length_range]; omega)]
    rfl
theorem plc_sub (as : List Ar) (s : Sb) : plc as s ∈ subl (idxs as.length) := by
  have e : plc as s = (as.zipIdx.map fun p => ((p.2 : Nat) : Int)).filter fun i => knownB s (as.getD i.toNat (.c (.inl 0))) := by
    unfold plc kz
    rw [List.filter_map]
    congr 1
    refine List.filter_congr fun p hp => ?_
    have := List.mem_zipIdx_iff_getElem?.mp hp
    show knownB s p.1 = knownB s (as.getD ((p.2 : Nat) : Int).toNat _)
    rw [Int.toNat_natCast, List.getD_eq_getElem?_getD, this]
    rfl
  rw [e, zip_idx]
  exact filter_subl _ _
theorem ix_in {m : Nat} {as : List Ar} (h : as.length ≤ m) (s : Sb) : ((as.length : Int), plc as s) ∈ allIx m := by
  unfold allIx
  refine List.mem_flatMap.mpr ⟨as.length, List.mem_range.mpr (by omega), List.mem_map.mpr ⟨_, plc_sub as s, rfl⟩⟩
theorem kz_at {as : List Ar} {s : Sb} {p : Ar × Nat} (h : p ∈ kz as s) : as[p.2]? = some p.1 ∧ knownB s p.1 = true := by
  obtain ⟨h1, h2⟩ := List.mem_filter.mp h
  exact ⟨List.mem_zipIdx_iff_getElem?.mp h1, h2⟩
theorem kz_len (as : List Ar) (s : Sb) : (kz as s).length ≤ as.length := by
  unfold kz
  refine Nat.le_trans (List.length_filter_le _ _) ?_
  rw [List.length_zipIdx]
  exact Nat.le_refl _
theorem ixok {as : List Ar} (h : as.length ≤ 1000) (s : Sb) : IxOk ((as.length : Int), plc as s) := by
  refine ⟨fun p hp => ?_, ?_⟩
  · obtain ⟨x, hx, rfl⟩ := List.mem_map.mp hp
    have := (List.getElem?_eq_some_iff.mp (kz_at hx).1).1
    show (0 : Int) ≤ (x.2 : Nat) ∧ ((x.2 : Nat) : Int) < (as.length : Nat)
    omega
  · show ((kz as s).map _).length ≤ 1000
    rw [List.length_map]
    exact Nat.le_trans (kz_len as s) h
/-- the items that are asked for -/
def itemsOf (as : List Ar) (s : Sb) : Row := fill s ((kz as s).map (·.1))
theorem sel_all {as : List Ar} {r : Row} {s t : Sb} (h : matchR as r s = some t) : (fitB ((as.length : Int), plc as s) r && decide (pick (plc as s) r = itemsOf as s)) = true := by
  obtain ⟨hl, hm⟩ := matchR_some h
  rw [Bool.and_eq_true, decide_eq_true_eq]
  refine ⟨decide_eq_true (by show ((r.length : Nat) : Int) = (as.length : Nat); rw [hl]), ?_⟩
  obtain ⟨σ, ag⟩ := agr_ex t
  obtain ⟨ags, hr⟩ := (matchG_some hl hm σ).mp ag
  unfold pick plc itemsOf fill
  rw [List.map_map, List.map_map]
  refine List.map_congr_left fun p hp => ?_
  obtain ⟨h1, h2⟩ := kz_at hp
  show r.getD ((p.2 : Nat) : Int).toNat _ = fillA s p.1
  rw [Int.toNat_natCast, ← hr, List.getD_eq_getElem?_getD]
  unfold inst
  rw [List.getElem?_map, h1]
  show p.1.at σ = fillA s p.1
  cases e : p.1 with
  | c k => rfl
  | v n =>
    rw [e] at h2
    obtain ⟨k, g⟩ := Option.isSome_iff_exists.mp (show (getS s n).isSome = true from h2)
    show σ n = (getS s n).getD _
    rw [g, ags n k g]
    rfl
theorem fm_congr {α β : Type} {f g : α → Option β} : ∀ {l : List α}, (∀ x ∈ l, f x = g x) → l.filterMap f = l.filterMap g
  | [], _ => rfl
  | x :: l, h => by rw [List.filterMap_cons, List.filterMap_cons, h x List.mem_cons_self, fm_congr fun y hy => h y (List.mem_cons_of_mem _ hy)]
theorem sel_exts (as : List Ar) (rs : List Row) (s : Sb) : (sel ((as.length : Int), plc as s) (itemsOf as s) rs).filterMap (fun r => matchR as r s) = exts as rs s := by
  unfold sel exts
  rw [List.filterMap_filter]
  refine fm_congr fun r _ => ?_
  cases h : matchR as r s with
  | none => split <;> first | rfl | exact h
  | some t => rw [if_pos (sel_all h)]
def SbsAt (H : Hp) (p : Addr) (l : List Sb) : Prop := ∃ ts : List Addr, H p = some (.lst (ts.map V.ref)) ∧ EachIs (SbAt H) ts l
/-- all but the objects of a kind and some addresses stay -/
def OffS (S : Addr → Prop) (H H' : Hp) : Prop := ∀ a o, ¬ S a → H a = some o → H' a = some o
section
variable {P : Program} {w : World} {K : PySem.W.Frag} {mg : Str → Option Value} {base : Heap} {f : Addr} {fd : FuncData}
/-- the method's facts -/
structure MethC (P : Program) (w : World) (K : PySem.W.Frag) (mg : Str → Option Value) (base : Heap) (C : Addr) (m : Str) (k : Nat) (ps : List Str) (sp : Sp) : Prop where
  ex : ∃ f fd, Meth K C m f ∧ FnOk P w K mg base CX0 k f fd ps sp ∧ Binds K fd ps []
/-- a match, not at D -/
def MOff (D : Addr) (G : Hp) (v : V) : Option Sb → Prop
  | none => v = .non
  | some t => ∃ p, v = .ref p ∧ p ≠ D ∧ SbAt G p t
theorem filt_some {D : Addr} {acc : List V} {l : List (Option Sb)} {G : Hp} (h : EachIs (fun v o => MOff D G v o) acc l) : ∃ as : List Addr, acc.filter (fun v => !decide (v = V.non)) = as.map V.ref ∧ EachIs (SbAt G) as (l.filterMap id) := by
  induction h with
  | nil => exact ⟨[], rfl, .nil⟩
  | @cons v o vs os h _ ih =>
    obtain ⟨as, e1, e2⟩ := ih
    cases o with
    | none =>
      have ev : v = .non := h
      refine ⟨as, ?_, e2⟩
      rw [ev, List.filter_cons_of_neg (by simp)]
      exact e1
    | some t =>
      obtain ⟨p, rfl, _, hs⟩ := h
      refine ⟨p :: as, ?_, ?_⟩
      · rw [List.filter_cons_of_pos (by simp), e1]
        rfl
      · rw [List.filterMap_cons]
        exact .cons hs e2
def spExts (P : Program) (w : World) (C : Addr) (m : Nat) : Sp := fun vs H Q _ => ∃ (p pk : Addr) (as : List Ar) (s : Sb) (T : Tbl) (rs : List Row) (es : NEs) (gss : List Gr), vs = [.ref p, .ref pk, .ref T.t] ∧ ArgsAt H p as ∧ SbAt H pk s ∧ as.length ≤ m ∧ s.length ≤ 1000 ∧ TableAt P w C (allIx m) H T rs es gss ∧ rs.length ≤ 10000 ∧
  ∀ H' q es' gss', (∀ a o, a ≠ T.ix → H a = some o → H' a = some o) → TableAt P w C (allIx m) H' T rs es' gss' → (∀ a ∈ owns T es' gss', a ∈ owns T es gss ∨ H a = none) → SbsAt H' q (exts as rs s) → H q = none → Q (.ref q) H'
theorem ok_exts {C : Addr} {m : Nat} (hm : m ≤ 1000) (F : FnP K "extensions" s_extensions f fd) (TC : TabC K mg C) (gE : mg "enumerate" = none) (gL : mg "len" = none) (gT : mg "tuple" = none) (CF : Cal P w K mg base "filled" 1 ["arguments", "known"] spFilled)
    (CM : Cal P w K mg base "matched" 1 ["arguments", "row", "known"] spMatched) (MM : MethC P w K mg base C "matching" 2 ["self", "size", "places", "items"] (spMatch P w C (allIx m))) : FnOk P w K mg base CX0 3 f fd ["arguments", "known", "table"] (spExts P w C m) := by
  obtain ⟨fm, fdm, mM, GM, bM⟩ := MM.ex
  refine F.ok sc_extensions (fun vs H Q E h => ?_) (fun cdv A outer s H vs Q E hr h => ?_)
  · obtain ⟨p, pk, as, sb, T, rs, es, gss, rfl, _⟩ := h
    rfl
  · obtain ⟨p, pk, as, sb, T, rs, es, gss, rfl, ⟨ts, hp, hts⟩, hk, la, ls, hT, few, kk⟩ := h
    have nd := sc_extensions.nd
    refine ⟨_, PSs.nox (pss_cons (ps_setLc (i := 3) (own := [("k", 4), ("kind", 5), ("content", 6)]) (g := gTup K 2 (gCons (gName 4) (gCons (gTup K 2 (gCons (gName 5) (gCons (gName 6) gNil))) gNil)))
        (tt := tOr (tTest (tOp rEq (tVar 5) (tC (.str "const")))) (tB (tDIn (tVar 6) (tVar 1)))) (te := tVar 4) (by rfl) nd rfl rfl (sw_true rfl rfl rfl (by decide +kernel)) (pi_enum (by rfl) gE (pa_cons (pv 0) pa_nil))
        (blkOk_by (own := [("k", 4), ("kind", 5), ("content", 6)]) (N := ["arguments", "known", "table", "places", "k", "kind", "content", "items", "rows", "matches", "row", "longer"]) (sc := defScope s_extensions) (by decide +kernel))
        (fun _ _ _ _ _ => pg_tup rfl (pgs_cons (pg_name (i := 4) nd rfl (Or.inl rfl)) (pgs_cons (pg_tup rfl (pgs_cons (pg_name (i := 5) nd rfl (Or.inl rfl)) (pgs_cons (pg_name (i := 6) nd rfl (Or.inl rfl)) pgs_nil))) pgs_nil)))
        (fun _ _ _ _ _ => pts_one (PW.pt (pw_or (pt_cmpR op_eq (pv 5) pe_str (nomark _)) (pw_or1 (pt_cmp (pc_din hr.u1 (pv 6) (pv 1))))))) (fun _ _ _ _ _ => pv 4))
      (pss_cons (ps_set (i := 7) nd rfl (Or.inl rfl) (pe_cal CF hr.lt (pa_cons (pe_lc (own := [("k", 4)]) (g := gName 4) (tt := tYes) (te := tOp (rIxL K) (tVar 0) (tVar 4)) (by rfl) nd (pi_list (pv 3))
        (blkOk_by (own := [("k", 4)]) (N := ["arguments", "known", "table", "places", "k", "kind", "content", "items", "rows", "matches", "row", "longer"]) (sc := defScope s_extensions) (by decide +kernel)) (fun _ _ _ _ _ => pg_name (i := 4) nd rfl (Or.inl rfl)) (fun _ _ _ _ _ => pts_nil) (fun _ _ _ _ _ => pe_ix ix_list (pv 0) (pv 4) (fun _ _ => rfl))) (pa_cons (pv 1) pa_nil))))
      (pss_cons (ps_set (i := 8) nd rfl (Or.inl rfl) (pe_meth (pv 2) TC.cl mM GM hr.lt bM .nil pass0 (pa_cons (pe_callB call_len_seq (by rfl) gL PySem.boot_len (pa_cons (pv 0) pa_nil)) (pa_cons (pe_callTy call_tuple_of (by rfl) gT (by decide +kernel) (pa_cons (pv 3) pa_nil)) (pa_cons (pv 7) pa_nil)))))
      (pss_cons (ps_setLc (i := 9) (own := [("row", 10)]) (g := gName 10) (tt := tYes) (te := tCall spMatched [] E0 (tCons (tVar 0) (tCons (tVar 10) (tCons (tVar 1) tNil)))) (by rfl) nd rfl rfl (sw_true rfl rfl rfl (by decide +kernel)) (pi_list (pv 8))
        (blkOk_by (own := [("row", 10)]) (N := ["arguments", "known", "table", "places", "k", "kind", "content", "items", "rows", "matches", "row", "longer"]) (sc := defScope s_extensions) (by decide +kernel)) (fun _ _ _ _ _ => pg_name (i := 10) nd rfl (Or.inl rfl)) (fun _ _ _ _ _ => pts_nil) (fun _ _ _ _ _ => pe_cal CM hr.lt (pa_cons (pv 0) (pa_cons (pv 10) (pa_cons (pv 1) pa_nil)))))
      (pss_one (ps_ret (pe_lc (own := [("longer", 11)]) (g := gName 11) (tt := tTest (tOp (fun x y H Q => y = .non ∧ Q (.bl (!decide (x = .non))) H) (tVar 11) (tC .non))) (te := tVar 11) (by rfl) nd (pi_list (pv 9))
        (blkOk_by (own := [("longer", 11)]) (N := ["arguments", "known", "table", "places", "k", "kind", "content", "items", "rows", "matches", "row", "longer"]) (sc := defScope s_extensions) (by decide +kernel)) (fun _ _ _ _ _ => pg_name (i := 11) nd rfl (Or.inl rfl)) (fun _ _ _ _ _ => pts_one (pt_cmpR op_notN (pv 11) pe_non (nomark _))) (fun _ _ _ _ _ => pv 11)))))))), ?_⟩
    have tl := hts.length
    refine ⟨_, rfl, p, _, rfl, sq_l hp, fun D hD => ?_⟩
    refine lc_same (walk_enum (xs := ts.map V.ref)) as.zipIdx (by rw [List.length_zipIdx, List.length_map, tl]) (fun x => knownB sb x.1) (fun _ v x => v = .int ((x.2 : Nat) : Int)) (fun _ _ _ _ _ z => z) hD (fun H' s' => sq_l (s' _ _ hp)) (by rw [List.length_map, tl]; omega) ?_ ?_
    · rintro i x ⟨a, j⟩ G _ hi hb sG ⟨T2, x1, y1, rfl, hT2, rfl, hx, hy⟩ Q' Qn k1 k2
      obtain ⟨t, ht, rfl⟩ := ref_at hy
      rw [List.getElem?_zipIdx] at hb
      obtain ⟨a', ha', e2⟩ := Option.map_eq_some_iff.mp hb
      injection e2 with e3 e4
      subst e3
      have ej : j = i := by omega
      subst ej
      have ex : x1 = .int ((j : Nat) : Int) := (Option.some.inj hx).symm
      subst ex
      have hat := each_get hts ht ha'
      have s2 : Same G (upd G T2 (.tup [.int ((j : Nat) : Int), .ref t])) := same_new hT2
      refine ⟨T2, _, rfl, sq_t upd_same, rfl, _, _, rfl, _, _, rfl, t, _, rfl, sq_t (s2 _ _ (sG _ _ hat.tup)), rfl, _, _, rfl, _, _, rfl, rfl, rfl, rfl, ?_⟩
      refine if_in (c := knownB sb a') (fun Q2 z => ⟨_, rfl, rfl, _, rfl, ?_⟩) (fun hc => ⟨_, rfl, k1 hc _ _ s2 rfl⟩) fun hc => k2 hc _ s2
      cases a' with
      | c k =>
        rw [show decide (V.str (Ar.c k).sign = V.str "const") = true from decide_eq_true rfl]
        exact iteT z
      | v n =>
        have vc : ¬ (("var" : Str) = "const") := by decide +kernel
        rw [show decide (V.str (Ar.v n).sign = V.str "const") = false from decide_eq_false fun z => vc (by injection z)]
        refine iteF ⟨_, rfl, _, rfl, pk, _, rfl, .inl ⟨sbK sb, .inl n, .inl (s2 _ _ (sG _ _ hk)), rfl, rfl⟩, _, rfl, ?_⟩
        rw [sb_val, Option.isSome_map]
        exact z
    · intro H1 acc s1 ha he
      have eacc : acc = (plc as sb).map V.int := by
        unfold plc
        rw [List.map_map]
        clear ha kk
        have he' : EachIs (fun v (x : Ar × Nat) => v = V.int ((x.2 : Nat) : Int)) acc (kz as sb) := he
        generalize kz as sb = l at he'
        clear he
        induction he' with
        | nil => rfl
        | cons h t ih => rw [List.map_cons, ← ih, h]; rfl
      rw [eacc] at ha
      clear he eacc
      -- items
      refine ⟨_, rfl, D, rfl, ⟨_, sq_l ha⟩, fun D2 hD2 => ?_⟩
      have kl := kz_len as sb
      refine lc_same (walk_list (xs := (plc as sb).map V.int)) (kz as sb) (by unfold plc; rw [List.length_map, List.length_map]) (fun _ => true) (fun G v x => ∃ t, v = .ref t ∧ ArgAt G t x.1) (fun G G' v x k ⟨t, e, h⟩ => ⟨t, e, by cases hx : x.1 <;> (rw [hx] at h; exact k.at h)⟩) hD2 (fun H' s' => sq_l (s' _ _ ha)) (by unfold plc; rw [List.length_map, List.length_map]; omega) ?_ ?_
      · rintro i x ⟨a, j⟩ G _ hi hb sG ⟨rfl, hx⟩ Q' Qn k1 k2
        obtain ⟨h1, _⟩ := kz_at (List.mem_of_getElem? hb)
        have ex : x = .int ((j : Nat) : Int) := by
          unfold plc at hx
          rw [List.getElem?_map, List.getElem?_map, hb] at hx
          exact (Option.some.inj hx).symm
        subst ex
        have jl : j < ts.length := by rw [tl]; exact (List.getElem?_eq_some_iff.mp h1).1
        have hat := each_get hts (List.getElem?_eq_getElem jl) h1
        refine ⟨rfl, yes_in ⟨_, rfl, _, rfl, p, _, _, _, rfl, rfl, sq_l (sG _ _ (s1 _ _ hp)), atI_nat (j := j) (by rw [List.getElem?_map, List.getElem?_eq_getElem jl]; rfl), k1 rfl _ _ (Same.refl _) ⟨_, rfl, hat.keep (KeepS.of (s1.trans sG))⟩⟩⟩
      · intro H2 acc2 s2 ha2 he2
        rw [filter_true] at he2
        obtain ⟨us, rfl, hus⟩ := each_list (P := fun t (x : Ar × Nat) => ArgAt H2 t x.1) (fun v x z => z) he2
        have s02 := s1.trans s2
        refine ⟨_, rfl, D2, pk, (kz as sb).map (·.1), sb, rfl, ⟨us, ha2, each_map_r (R := ArgAt H2) (fun x : Ar × Nat => x.1) hus⟩, s02 _ _ hk, fun n hn => ?_, by rw [List.length_map]; omega, fun H3 it s3 _ hrow => ?_⟩
        · obtain ⟨x, hx, ex⟩ := List.mem_map.mp hn
          have := (kz_at hx).2
          rw [ex] at this
          exact this
        have s03 := s02.trans s3
        have hT3 := hT.keep (H' := H3) (fun o e => s03 _ _ e) (fun o e => s03 _ _ e) (fun a _ o e => s03 _ _ e) fun a xs e => s03 _ _ e
        have ha3 := s3 _ _ (s2 _ _ ha)
        -- rows
        refine ⟨_, rfl, T.t, T.dx, _, rfl, hT3.ins, tfs_no (by decide +kernel) (by decide +kernel), _, rfl, p, _, rfl, .inl (sq_l (s03 _ _ hp)), _, rfl, D, _, rfl, .inl ⟨sq_l ha3, fun pl hpl => ?_⟩⟩
        have s4 : Same H3 (upd H3 pl (.tup ((plc as sb).map V.int))) := same_new hpl
        obtain ⟨H4, eH4⟩ : ∃ H4, H4 = upd H3 pl (.tup ((plc as sb).map V.int)) := ⟨_, rfl⟩
        have pl4 : H4 pl = some (.tup ((plc as sb).map V.int)) := by rw [eH4]; exact upd_same
        rw [← eH4] at s4 ⊢
        have hT4 := hT3.keep (H' := H4) (fun o e => s4 _ _ e) (fun o e => s4 _ _ e) (fun a _ o e => s4 _ _ e) fun a xs e => s4 _ _ e
        have s04 := s03.trans s4
        refine ⟨_, rfl, T, ((as.length : Int), plc as sb), pl, it, itemsOf as sb, rs, es, gss, by rw [List.length_map, tl]; rfl, pl4, hrow.mono s4, ixok (by omega) sb, ix_in la sb, hT4, few, fun H5 q us5 es5 gss5 k5 hT5 own5 hq5 q5 each5 => ?_⟩
        have k05 : ∀ a o, a ≠ T.ix → H a = some o → H5 a = some o := fun a o n e => k5 a o n (s04 _ _ e)
        have nix : ∀ a o, (∀ φ, o ≠ .ext φ) → H4 a = some o → a ≠ T.ix := fun a o n e z => by
          rw [z, hT4.dict.at_] at e
          exact n _ (Option.some.inj e).symm
        have p5 := k5 _ _ (nix _ _ (fun φ z => by cases z) (s04 _ _ hp)) (s04 _ _ hp)
        have pk5 : SbAt H5 pk sb := k5 _ _ (nix _ _ (fun φ z => by cases z) (s04 _ _ hk)) (s04 _ _ hk)
        have args5 : ArgsAt H5 p as := ⟨ts, p5, hts.mono fun t a h => by
          have ht4 := (h.keep (KeepS.of s04)).tup
          have := k5 _ _ (nix _ _ (fun φ z => by cases z) ht4) ht4
          cases a <;> exact this⟩
        -- matches
        have l5 := each5.length
        have ls5 := sel_len ((as.length : Int), plc as sb) (itemsOf as sb) rs
        refine ⟨_, rfl, q, rfl, ⟨_, sq_l q5⟩, fun D3 hD3 => ?_⟩
        refine lc_off (walk_list (xs := us5.map V.ref)) (sel ((as.length : Int), plc as sb) (itemsOf as sb) rs) (by rw [List.length_map, l5]) (fun G v r => MOff D3 G v (matchR as r sb)) (fun G G' v r k h => ?_) hD3 (fun G sG => sq_l (sG _ _ q5)) (by rw [List.length_map]; omega) ?_ ?_
        · cases hm2 : matchR as r sb with
          | none => rw [hm2] at h; exact h
          | some t =>
            rw [hm2] at h
            obtain ⟨c, e1, e2, e3⟩ := h
            exact ⟨c, e1, e2, k _ _ e2 e3⟩
        · rintro i x r G0 G hi hb sG ⟨accD, dD⟩ ⟨rfl, hx⟩ Q' Qn k1
          obtain ⟨u, hu, rfl⟩ := ref_at hx
          have hur := each_get each5 hu hb
          refine ⟨rfl, yes_in ⟨_, rfl, _, rfl, _, rfl, p, u, pk, as, r, sb, rfl, args5.keep (KeepS.of sG), hur.mono sG, sG _ _ pk5, by omega, ls, fun v G' s' hres => k1 v G' s' ?_⟩⟩
          cases hm2 : matchR as r sb with
          | none => rw [hm2] at hres; exact hres
          | some t =>
            rw [hm2] at hres
            obtain ⟨c, e1, e2, e3⟩ := hres
            exact ⟨c, e1, (fun z => by rw [z, dD] at e2; cases e2), e3⟩
        · intro H6 acc6 s6 a6 he6
          -- the matches that are some
          have l6 := he6.length
          refine ⟨_, rfl, D3, rfl, ⟨_, sq_l a6⟩, fun D4 hD4 => ?_⟩
          refine lc_same (walk_list (xs := acc6)) acc6 rfl (fun v => !decide (v = V.non)) (fun _ v b => v = b) (fun _ _ _ _ _ z => z) hD4 (fun G sG => sq_l (sG _ _ a6)) (by omega) ?_ ?_
          · rintro i x b G0 G hi hb sG ⟨rfl, hx⟩ Q' Qn k1 k2
            obtain rfl : b = x := Option.some.inj (hb.symm.trans hx)
            exact ⟨rfl, if_in (c := !decide (b = V.non)) (fun Q2 z => ⟨_, rfl, rfl, _, rfl, z⟩) (fun hc => ⟨_, rfl, k1 hc _ _ (Same.refl _) rfl⟩) fun hc => k2 hc _ (Same.refl _)⟩
          · intro H7 acc7 s7 a7 he7
            have e7 : acc7 = acc6.filter fun v => !decide (v = V.non) := by
              clear a7
              generalize acc6.filter (fun v => !decide (v = V.non)) = l at he7
              induction he7 with
              | nil => rfl
              | cons h t ih => rw [ih, h]
            have he6' : EachIs (fun v o => MOff D3 H6 v o) acc6 ((sel ((as.length : Int), plc as sb) (itemsOf as sb) rs).map fun r => matchR as r sb) := each_map_r (R := fun v o => MOff D3 H6 v o) (fun r => matchR as r sb) he6
            obtain ⟨ds, e8, hds⟩ := filt_some he6'
            have ed : ((sel ((as.length : Int), plc as sb) (itemsOf as sb) rs).map fun r => matchR as r sb).filterMap id = exts as rs sb := by
              rw [List.filterMap_map, ← sel_exts]
              rfl
            rw [ed] at hds
            have s57 := s6.trans s7
            refine kk H7 D4 es5 gss5 (fun a o n e => s57 _ _ (k05 a o n e)) (hT5.keep (fun o e => s57 _ _ e) (fun o e => s57 _ _ e) (fun a _ o e => s57 _ _ e) fun a xs e => s57 _ _ e) (fun a ha => ?_) ⟨ds, by rw [a7, e7, e8], hds.mono fun _ _ z => s7 _ _ z⟩ ?_
            · rcases own5 a ha with z | z
              · exact .inl z
              · refine .inr ?_
                cases y : H a with
                | none => rfl
                | some o => rw [s04 _ _ y] at z; cases z
            · cases y : H D4 with
              | none => rfl
              | some o =>
                by_cases z : D4 = T.ix
                · rw [z, s6 _ _ hT5.dict.at_] at hD4
                  cases hD4
                · rw [s6 _ _ (k05 _ _ z y)] at hD4
                  cases hD4
end
end KA
set_option Elab.async false
set_option linter.all false
set_option maxRecDepth 100000
set_option maxHeartbeats 8000000
/-! the dict of the tables -/
namespace KA
open PySem PySem.Spec PyProof.Rows L2
open PySem.W (EachIs)
structure TSt where
  name : Str
  T : Tbl
  rs : List Row
  es : NEs
  gss : List Gr
def TSt.own (x : TSt) : List Addr := owns x.T x.es x.gss
def TSt.ky (x : TSt) : Str × Tbl × List Row := (x.name, x.T, x.rs)
structure TablesAt (P : Program) (w : World) (C : Addr) (U : List Ix) (H : Hp) (d : Addr) (l : List TSt) : Prop where
  hd : H d = some (.dK (l.map fun x => (Sum.inr x.name, V.ref x.T.t)))
  nn : (l.map (·.name)).Nodup
  at_ : ∀ x ∈ l, TableAt P w C U H x.T x.rs x.es x.gss
  dj : l.Pairwise fun x y => x.T.ix ≠ y.T.ix ∧ ∀ a ∈ x.own, a ∉ y.own
/-- the same tables later: they may have more indexes -/
structure Later (l l' : List TSt) (H H' : Hp) : Prop where
  ky : l'.map TSt.ky = l.map TSt.ky
  off : ∀ a o, (∀ x ∈ l, a ≠ x.T.ix) → H a = some o → H' a = some o
  gone : ∀ a, H' a = none → H a = none
  own : ∀ x' ∈ l', ∀ a ∈ x'.own, (∃ x ∈ l, a ∈ x.own) ∨ H a = none
theorem Later.refl (l : List TSt) (H : Hp) : Later l l H H := ⟨rfl, fun _ _ _ e => e, fun _ e => e, fun x hx a ha => .inl ⟨x, hx, ha⟩⟩
theorem ky_ix {l l' : List TSt} (h : l'.map TSt.ky = l.map TSt.ky) : ∀ x ∈ l, ∃ x' ∈ l', x'.T = x.T ∧ x'.name = x.name ∧ x'.rs = x.rs := fun x hx => by
  have : x.ky ∈ l'.map TSt.ky := by rw [h]; exact List.mem_map.mpr ⟨x, hx, rfl⟩
  obtain ⟨x', hx', e⟩ := List.mem_map.mp this
  unfold TSt.ky at e
  injection e with e1 e2
  injection e2 with e2 e3
  exact ⟨x', hx', e2, e1, e3⟩
theorem Later.trans {l l1 l2 : List TSt} {H H1 H2 : Hp} (a : Later l l1 H H1) (b : Later l1 l2 H1 H2) : Later l l2 H H2 := ⟨b.ky.trans a.ky, fun x o n e => b.off x o (fun y hy => by
  obtain ⟨y', hy', e1, _⟩ := ky_ix a.ky.symm y hy
  rw [← e1]
  exact n y' hy') (a.off x o n e), fun x e => a.gone x (b.gone x e), fun x hx c hc => by
  rcases b.own x hx c hc with ⟨y, hy, z⟩ | z
  · exact a.own y hy c z
  · exact .inr (a.gone c z)⟩
theorem Later.same {l : List TSt} {H H' : Hp} (s : Same H H') : Later l l H H' where
  ky := rfl
  off _ _ _ e := s _ _ e
  gone a e := by
    cases y : H a with
    | none => rfl
    | some o => rw [s _ _ y] at e; cases e
  own x hx a ha := .inl ⟨x, hx, ha⟩
theorem TablesAt.ixs {P : Program} {w : World} {C : Addr} {U : List Ix} {H : Hp} {d : Addr} {l : List TSt} (h : TablesAt P w C U H d l) {a : Addr} {o : HO} (e : H a = some o) (n : ∀ φ, o ≠ .ext φ) : ∀ x ∈ l, a ≠ x.T.ix := fun x hx z => by
  rw [z, (h.at_ x hx).dict.at_] at e
  exact n _ (Option.some.inj e).symm
theorem Later.keepS {P : Program} {w : World} {C : Addr} {U : List Ix} {H H' : Hp} {d : Addr} {l l' : List TSt} (t : TablesAt P w C U H d l) (k : Later l l' H H') : ∀ a o, (∀ φ, o ≠ .ext φ) → H a = some o → H' a = some o := fun a o n e => k.off a o (t.ixs e n) e
theorem Later.kS {P : Program} {w : World} {C : Addr} {U : List Ix} {H H' : Hp} {d : Addr} {l l' : List TSt} (t : TablesAt P w C U H d l) (k : Later l l' H H') : KeepS H H' := fun a o n e => k.keepS t a o (by rcases n with ⟨xs, rfl⟩ | ⟨xs, rfl⟩ <;> exact fun φ z => by cases z) e
theorem TablesAt.same {P : Program} {w : World} {C : Addr} {U : List Ix} {H H' : Hp} {d : Addr} {l : List TSt} (s : Same H H') (h : TablesAt P w C U H d l) : TablesAt P w C U H' d l :=
  ⟨s _ _ h.hd, h.nn, fun x hx => (h.at_ x hx).keep (fun o e => s _ _ e) (fun o e => s _ _ e) (fun a _ o e => s _ _ e) fun a xs e => s _ _ e, h.dj⟩
/-- the rows under a name -/
def Rof (l : List TSt) (n : Str) : List Row := ((l.find? fun x => decide (x.name = n)).map (·.rs)).getD []
theorem rof_ky : ∀ {l l' : List TSt}, l'.map TSt.ky = l.map TSt.ky → Rof l' = Rof l
  | [], [], _ => rfl
  | [], _ :: _, h => by simp at h
  | _ :: _, [], h => by simp at h
  | x :: l, x' :: l', h => by
    rw [List.map_cons, List.map_cons] at h
    injection h with h1 h2
    have e1 : x'.name = x.name := congrArg (·.1) h1
    have e3 : x'.rs = x.rs := congrArg (·.2.2) h1
    funext n
    have ih := congrFun (rof_ky h2) n
    unfold Rof at ih ⊢
    rw [List.find?_cons, List.find?_cons, e1]
    split
    · simp [e3]
    · exact ih
theorem rof_mem {l : List TSt} (nn : (l.map (·.name)).Nodup) {x : TSt} (hx : x ∈ l) : Rof l x.name = x.rs := by
  induction l with
  | nil => cases hx
  | cons y l ih =>
    rw [List.map_cons, List.nodup_cons] at nn
    unfold Rof at ih ⊢
    rw [List.find?_cons]
    by_cases e : y.name = x.name
    · rcases List.mem_cons.mp hx with z | z
      · simp [z]
      · exact absurd (List.mem_map.mpr ⟨x, z, e.symm⟩) nn.1
    · rcases List.mem_cons.mp hx with z | z
      · exact absurd (by rw [z]) e
      · rw [decide_eq_false e]
        exact ih nn.2 z
theorem tab_val {l : List TSt} (nn : (l.map (·.name)).Nodup) {x : TSt} (hx : x ∈ l) : valV (l.map fun x => ((Sum.inr x.name : Key), V.ref x.T.t)) (.inr x.name) = some (.ref x.T.t) := by
  induction l with
  | nil => cases hx
  | cons y l ih =>
    rw [List.map_cons, List.nodup_cons] at nn
    rw [List.map_cons]
    rcases List.mem_cons.mp hx with z | z
    · rw [z]
      exact valV_pos (p := ((Sum.inr y.name : Key), V.ref y.T.t)) rfl
    · have e : ¬ (Sum.inr y.name : Key) = Sum.inr x.name := fun q => nn.1 (by injection q with q; rw [q]; exact List.mem_map.mpr ⟨x, z, rfl⟩)
      rw [valV_neg (p := ((Sum.inr y.name : Key), V.ref y.T.t)) e]
      exact ih nn.2 z
def setT (l : List TSt) (x : TSt) (es : NEs) (gss : List Gr) : List TSt := l.map fun y => if y.name = x.name then { x with es := es, gss := gss } else y
theorem name_inj {l : List TSt} (nn : (l.map (·.name)).Nodup) {x y : TSt} (hx : x ∈ l) (hy : y ∈ l) (e : x.name = y.name) : x = y := by
  obtain ⟨i, hi⟩ := List.mem_iff_getElem?.mp hx
  obtain ⟨j, hj⟩ := List.mem_iff_getElem?.mp hy
  have h1 : (l.map (·.name))[i]? = some x.name := by rw [List.getElem?_map, hi]; rfl
  have h2 : (l.map (·.name))[j]? = some x.name := by rw [List.getElem?_map, hj, e]; rfl
  have hij : i = j := (List.getElem?_inj (List.getElem?_eq_some_iff.mp h1).1 nn).mp (h1.trans h2.symm)
  rw [hij, hj] at hi
  exact (Option.some.inj hi).symm
theorem setT_mem {l : List TSt} (nn : (l.map (·.name)).Nodup) {x y : TSt} {es : NEs} {gss : List Gr} (hx : x ∈ l) (h : y ∈ setT l x es gss) : y = { x with es := es, gss := gss } ∨ (y ∈ l ∧ y.name ≠ x.name) := by
  obtain ⟨z, hz, e⟩ := List.mem_map.mp h
  split at e
  · exact .inl e.symm
  · rename_i n
    rw [← e]
    exact .inr ⟨hz, n⟩
theorem setT_ky {l : List TSt} (nn : (l.map (·.name)).Nodup) {x : TSt} (es : NEs) (gss : List Gr) (hx : x ∈ l) : (setT l x es gss).map TSt.ky = l.map TSt.ky := by
  unfold setT
  rw [List.map_map]
  refine List.map_congr_left fun y hy => ?_
  show TSt.ky (if y.name = x.name then { x with es := es, gss := gss } else y) = y.ky
  split
  · rename_i e
    rw [name_inj nn hy hx e]
    rfl
  · rfl
/-- one table has more indexes -/
theorem TablesAt.step {P : Program} {w : World} {C : Addr} {U : List Ix} {H H' : Hp} {d : Addr} {l : List TSt} (h : TablesAt P w C U H d l) {x : TSt} (hx : x ∈ l) {es : NEs} {gss : List Gr} (k : ∀ a o, a ≠ x.T.ix → H a = some o → H' a = some o) (t : TableAt P w C U H' x.T x.rs es gss)
    (own : ∀ a ∈ owns x.T es gss, a ∈ owns x.T x.es x.gss ∨ H a = none) : TablesAt P w C U H' d (setT l x es gss) ∧ Later l (setT l x es gss) H H' := by
  have ky := setT_ky h.nn es gss hx
  have keepN : ∀ {a : Addr} {o : HO}, H a = some o → (∀ φ, o ≠ .ext φ) → H' a = some o := fun {a o} e n => k a o (h.ixs e n x hx) e
  have live : ∀ y ∈ l, ∀ a ∈ y.own, ∃ o, H a = some o ∧ ∀ φ, o ≠ .ext φ := fun y hy a ha => by
    rcases (h.at_ y hy).live a ha with ⟨kvs, e⟩ | ⟨xs, e⟩
    · exact ⟨_, e, fun φ z => by cases z⟩
    · exact ⟨_, e, fun φ z => by cases z⟩
  have enames : (setT l x es gss).map (·.name) = l.map (·.name) := by
    have := congrArg (List.map fun z : Str × Tbl × List Row => z.1) ky
    rwa [List.map_map, List.map_map] at this
  have epair : (setT l x es gss).map (fun x => ((Sum.inr x.name : Key), V.ref x.T.t)) = l.map fun x => (Sum.inr x.name, V.ref x.T.t) := by
    have := congrArg (List.map fun z : Str × Tbl × List Row => ((Sum.inr z.1 : Key), V.ref z.2.1.t)) ky
    rwa [List.map_map, List.map_map] at this
  have dis : ∀ y ∈ l, y.name ≠ x.name → y.T.ix ≠ x.T.ix ∧ (∀ a ∈ y.own, a ∉ x.own) := fun y hy n => by
    obtain ⟨i, hi⟩ := List.mem_iff_getElem?.mp hy
    obtain ⟨j, hj⟩ := List.mem_iff_getElem?.mp hx
    obtain ⟨li, ei⟩ := List.getElem?_eq_some_iff.mp hi
    obtain ⟨lj, ej⟩ := List.getElem?_eq_some_iff.mp hj
    have pw := List.pairwise_iff_getElem.mp h.dj
    have nij : i ≠ j := fun z => n (by subst z; rw [hi] at hj; rw [Option.some.inj hj])
    rcases Nat.lt_or_gt_of_ne nij with lt | lt
    · have := pw i j li lj lt
      rw [ei, ej] at this
      exact this
    · have := pw j i lj li lt
      rw [ei, ej] at this
      exact ⟨fun z => this.1 z.symm, fun a ha hb => this.2 a hb ha⟩
  have keepT : ∀ y ∈ l, y.name ≠ x.name → TableAt P w C U H' y.T y.rs y.es y.gss := fun y hy n => by
    obtain ⟨d1, d2⟩ := dis y hy n
    refine (h.at_ y hy).keep (fun o e => ?_) (fun o e => k _ o d1 e) (fun a ha o e => ?_) fun a xs e => keepN e fun φ z => by cases z
    · have := (h.at_ y hy).ins
      rw [this] at e
      rw [← e]
      exact keepN this fun φ z => by cases z
    · obtain ⟨o2, e2, n2⟩ := live y hy a ha
      rw [e2] at e
      rw [← e]
      exact keepN e2 n2
  have ownX : ∀ a ∈ owns x.T es gss, ∀ y ∈ l, y.name ≠ x.name → a ∉ y.own := fun a ha y hy n hm => by
    rcases own a ha with z | z
    · exact (dis y hy n).2 a hm z
    · obtain ⟨o, e, _⟩ := live y hy a hm
      rw [z] at e
      cases e
  refine ⟨⟨?_, by rw [enames]; exact h.nn, fun y hy => ?_, ?_⟩, ky, fun a o n e => k a o (n x hx) e, fun a e => ?_, fun y hy a ha => ?_⟩
  · rw [epair]
    exact keepN h.hd fun φ z => by cases z
  · rcases setT_mem h.nn hx hy with rfl | ⟨z, n⟩
    · exact t
    · exact keepT y z n
  · unfold setT
    rw [List.pairwise_map]
    refine List.Pairwise.imp_of_mem ?_ h.dj
    intro a b ha hb hab
    have nab : a.name = x.name → b.name = x.name → False := fun e1 e2 => by
      have := name_inj h.nn ha hb (e1.trans e2.symm)
      rw [this] at hab
      exact hab.1 rfl
    by_cases e1 : a.name = x.name
    · by_cases e2 : b.name = x.name
      · exact (nab e1 e2).elim
      · rw [if_pos e1, if_neg e2]
        exact ⟨fun z => (dis b hb e2).1 z.symm, fun c hc => ownX c hc b hb e2⟩
    · by_cases e2 : b.name = x.name
      · rw [if_neg e1, if_pos e2]
        exact ⟨(dis a ha e1).1, fun c hc hd => ownX c hd a ha e1 hc⟩
      · rw [if_neg e1, if_neg e2]
        exact hab
  · cases y : H a with
    | none => rfl
    | some o =>
      by_cases z : a = x.T.ix
      · rw [z, t.dict.at_] at e
        cases e
      · rw [k a o z y] at e
        cases e
  · rcases setT_mem h.nn hx hy with rfl | ⟨z, n⟩
    · rcases own a ha with q | q
      · exact .inl ⟨x, hx, q⟩
      · exact .inr q
    · exact .inl ⟨y, z, ha⟩
end KA
set_option Elab.async false
set_option linter.all false
set_option maxRecDepth 100000
set_option maxHeartbeats 8000000
/-! solutions -/
namespace KA
open PySem PySem.Spec PyProof.Rows L2
open PySem.W (EachIs)
theorem matchG_len : ∀ {as : List Ar} {r : Row} {s t : Sb}, matchG as r s = some t → t.length ≤ s.length + as.length
  | [], r, s, t, h => by
    have e : s = t := by cases r <;> exact Option.some.inj h
    rw [e]; simp
  | a :: as, [], s, t, h => by
    have e : s = t := Option.some.inj h
    rw [e]; simp
  | a :: as, k :: r, s, t, h => by
    rw [List.length_cons]
    cases a with
    | c k' =>
      have h' : (if k' = k then matchG as r s else none) = some t := h
      split at h'
      · have := matchG_len h'; omega
      · cases h'
    | v n =>
      have h' : (match getS s n with | some k' => if k' = k then matchG as r s else none | none => matchG as r (s ++ [(n, k)])) = some t := h
      cases g : getS s n with
      | some k' =>
        rw [g] at h'
        have h2 : (if k' = k then matchG as r s else none) = some t := h'
        split at h2
        · have := matchG_len h2; omega
        · cases h2
      | none =>
        rw [g] at h'
        have h2 : matchG as r (s ++ [(n, k)]) = some t := h'
        have := matchG_len h2
        rw [List.length_append] at this
        simp only [List.length_cons, List.length_nil] at this
        omega
theorem exts_len {as : List Ar} {rs : List Row} {s t : Sb} (h : t ∈ exts as rs s) : t.length ≤ s.length + as.length := by
  obtain ⟨r, _, e⟩ := List.mem_filterMap.mp h
  exact matchG_len (matchR_some e).2
theorem step1_len {T : Str → List Row} {m : Nat} : ∀ {atoms : List Atm} {found : List Sb} {n : Nat}, (∀ a ∈ atoms, a.args.length ≤ m) → (∀ s ∈ found, s.length ≤ n) → ∀ s ∈ atoms.foldl (step1 T) found, s.length ≤ n + atoms.length * m
  | [], found, n, _, h => fun s hs => by have := h s hs; simp; exact this
  | a :: atoms, found, n, ha, h => fun s hs => by
    rw [List.foldl_cons] at hs
    have h1 : ∀ s ∈ step1 T found a, s.length ≤ n + m := fun s hs => by
      unfold step1 at hs
      split at hs
      · obtain ⟨s0, h0, h1⟩ := List.mem_flatMap.mp hs
        have := exts_len h1
        have := h s0 h0
        have := ha a List.mem_cons_self
        omega
      · have := h s hs; omega
    have := step1_len (n := n + m) (fun b hb => ha b (List.mem_cons_of_mem _ hb)) h1 s hs
    rw [List.length_cons, Nat.add_mul, Nat.one_mul]
    omega
theorem SbAt.keep {H H' : Hp} (k : ∀ a o, (∀ φ, o ≠ .ext φ) → H a = some o → H' a = some o) {p : Addr} {s : Sb} (h : SbAt H p s) : SbAt H' p s := k _ _ (fun φ z => by cases z) h
theorem SbsAt.keep {H H' : Hp} (k : ∀ a o, (∀ φ, o ≠ .ext φ) → H a = some o → H' a = some o) {p : Addr} {l : List Sb} (h : SbsAt H p l) : SbsAt H' p l := let ⟨ts, h1, h2⟩ := h; ⟨ts, k _ _ (fun φ z => by cases z) h1, h2.mono fun _ _ z => z.keep k⟩
theorem each_zip {α β : Type} {R : α → β → Prop} {p : α × β → Bool} {q : β → Bool} (hp : ∀ a b, p (a, b) = q b) : ∀ {as : List α} {bs : List β}, EachIs R as bs → EachIs R (((as.zip bs).filter p).map (·.1)) (bs.filter q)
  | _, _, .nil => .nil
  | _, _, .cons (a := a) (b := b) h t => by
    rw [List.zip_cons_cons, List.filter_cons, List.filter_cons, hp]
    split
    · exact .cons h (each_zip hp t)
    · exact each_zip hp t
theorem if_inS {te : TE} {tt : TT} {c : Bool} {σ : L2.St} {H : Hp} {Q : VK} {Qn : Hp → Prop} (ht : ∀ Q : Bool → Hp → Prop, (∀ H', Same H H' → Q c H') → tt σ H Q) (h1 : c = true → ∀ H', Same H H' → te σ H' Q) (h2 : c = false → ∀ H', Same H H' → Qn H') : tt σ H fun c H3 => if c = true then te σ H3 Q else Qn H3 := by
  refine ht _ fun H' s => ?_
  cases c with
  | true => rw [if_pos rfl]; exact h1 rfl H' s
  | false => rw [if_neg Bool.false_ne_true]; exact h2 rfl H' s
theorem TablesAt.live {P : Program} {w : World} {C : Addr} {U : List Ix} {H : Hp} {d : Addr} {l : List TSt} (h : TablesAt P w C U H d l) {x : TSt} (hx : x ∈ l) {a : Addr} (ha : a ∈ x.own) : ∃ o, H a = some o := by
  rcases (h.at_ x hx).live a ha with ⟨_, e⟩ | ⟨_, e⟩ <;> exact ⟨_, e⟩
theorem TablesAt.off {P : Program} {w : World} {C : Addr} {U : List Ix} {H H' : Hp} {d D : Addr} {l : List TSt} {ws : List V} (h : TablesAt P w C U H d l) (hD : H D = some (.lst ws)) (n : ∀ x ∈ l, D ∉ x.own) (k : Off D H H') : TablesAt P w C U H' d l :=
  have ne : ∀ {a : Addr} {o : HO}, H a = some o → (∀ xs, o ≠ .lst xs) → a ≠ D := fun {a o} e q z => by rw [z, hD] at e; exact q _ (Option.some.inj e).symm
  ⟨k _ _ (ne h.hd fun xs z => by cases z) h.hd, h.nn, fun x hx => (h.at_ x hx).keep
    (fun o e => k _ _ (ne (h.at_ x hx).ins fun xs z => by cases z) e)
    (fun o e => k _ _ (ne (h.at_ x hx).dict.at_ fun xs z => by cases z) e)
    (fun a ha o e => k _ _ (fun z => n x hx (by rw [← z]; exact ha)) e)
    fun a xs e => k _ _ (ne e fun xs z => by cases z) e, h.dj⟩
theorem Later.offD {l l' : List TSt} {H G H' : Hp} {D : Addr} (kl : Later l l' H G) (hD : H D = none) (k : Off D G H') : Later l l' H H' where
  ky := kl.ky
  off a o n e := k a o (fun z => by rw [z, hD] at e; cases e) (kl.off a o n e)
  gone a e := by
    by_cases z : a = D
    · rw [z]; exact hD
    · refine kl.gone a ?_
      cases y : G a with
      | none => rfl
      | some o => rw [k a o z y] at e; cases e
  own := kl.own
theorem each_takes {α β : Type} {R : α → β → Prop} : ∀ {as : List α} {bs : List β} (k : Nat), EachIs R as bs → EachIs R (as.take k) (bs.take k)
  | _, _, _, .nil => by simp; exact .nil
  | _, _, 0, .cons _ _ => .nil
  | _, _, k + 1, .cons h t => .cons h (each_takes k t)
theorem each_cat {α β : Type} {R : α → β → Prop} {as' : List α} {bs' : List β} (q : EachIs R as' bs') : ∀ {as : List α} {bs : List β}, EachIs R as bs → EachIs R (as ++ as') (bs ++ bs')
  | _, _, .nil => q
  | _, _, .cons h t => .cons h (each_cat q t)
theorem SbAt.off {D : Addr} {H H' : Hp} {ws : List V} (hD : H D = some (.lst ws)) (k : Off D H H') {p : Addr} {s : Sb} (h : SbAt H p s) : SbAt H' p s := k _ _ (fun z => by have h' : H p = some (.dK (sbK s)) := h; rw [z, hD] at h'; cases h') h
section
variable {P : Program} {w : World} {K : PySem.W.Frag} {mg : Str → Option Value} {base : Heap} {f : Addr} {fd : FuncData}
/-- atoms that may be asked of the tables l -/
structure AtomsOk (m : Nat) (l : List TSt) (starts : List Sb) (atoms : List Atm) : Prop where
  names : ∀ a ∈ atoms, a.name ∈ l.map (·.name)
  args : ∀ a ∈ atoms, a.args.length ≤ m
  few : atoms.length ≤ 20
  small : ∀ s ∈ starts, s.length ≤ 100
  safe : ∀ a ∈ atoms, a.yes ≠ true → Safe starts atoms a.args
def spSols (P : Program) (w : World) (C : Addr) (m B : Nat) : Sp := fun vs H Q _ => ∃ (ps pa d : Addr) (starts : List Sb) (atoms : List Atm) (l : List TSt), vs = [.ref ps, .ref pa, .ref d] ∧ SbsAt H ps starts ∧ AtmsAt H pa atoms ∧ TablesAt P w C (allIx m) H d l ∧ AtomsOk m l starts atoms ∧
  (∀ x ∈ l, x.rs.length ≤ B) ∧ starts.length * B ^ (atoms.filter (·.yes)).length ≤ 50000 ∧ ∀ H' q l', Later l l' H H' → TablesAt P w C (allIx m) H' d l' → SbsAt H' q (sols (Rof l) starts atoms) → Q (.ref q) H'
theorem ok_sols {C : Addr} {m B : Nat} (hm : m ≤ 8) (h1B : 1 ≤ B) (hB : B ≤ 10000) (F : FnP K "solutions" s_solutions f fd) (TC : TabC K mg C) (CF : Cal P w K mg base "filled" 1 ["arguments", "known"] spFilled)
    (CE : Cal P w K mg base "extensions" 3 ["arguments", "known", "table"] (spExts P w C m)) : FnOk P w K mg base CX0 4 f fd ["starts", "atoms", "tables"] (spSols P w C m B) := by
  refine F.ok sc_solutions (fun vs H Q E h => ?_) (fun cdv A outer s H vs Q E hr h => ?_)
  · obtain ⟨ps, pa, d, starts, atoms, l, rfl, _⟩ := h
    rfl
  · obtain ⟨ps, pa, d, starts, atoms, l, rfl, hst, ⟨ts, hpa, hts⟩, hT, ao, lB, few, kk⟩ := h
    have nd := sc_solutions.nd
    refine ⟨_, PSs.nox (pss_cons (ps_set (i := 3) nd rfl (Or.inl rfl) (pv 0))
      (pss_cons (ps_for PassesOwn.never rfl (pi_list (pv 1)) (pg_tup rfl (pgs_cons (pg_name (i := 4) nd rfl (Or.inl rfl)) (pgs_cons (pg_name (i := 5) nd rfl (Or.inr rfl)) (pgs_cons (pg_name (i := 6) nd rfl (Or.inr rfl)) pgs_nil))))
        (pss_one (ps_if (pt_cmpR op_eq (pv 4) pe_str (nomark _))
          (pss_one (ps_setLc2 (i := 3) (own := [("known", 7), ("longer", 8)]) (vs1 := [8]) (g := gName 7) (tt := tYes) (wi1 := iList K (tCall (spExts P w C m) [] E0 (tCons (tVar 6) (tCons (tVar 7) (tCons (tDGet (tVar 2) (tVar 5)) tNil))))) (g1 := gName 8) (tt1 := tYes) (te := tVar 8) (by rfl) nd rfl rfl (sw_true rfl rfl rfl (by decide +kernel)) (pi_list (pv 3))
            (blkOk_by (own := [("known", 7), ("longer", 8)]) (N := ["starts", "atoms", "tables", "found", "sign", "name", "arguments", "known", "longer"]) (sc := defScope s_solutions) (by decide +kernel)) (by decide)
            (fun _ _ _ _ _ => pg_name (i := 7) nd rfl (Or.inl rfl)) (fun _ _ _ _ _ => pts_nil) (fun _ _ _ _ _ => pi_list (pe_cal CE hr.lt (pa_cons (pv 6) (pa_cons (pv 7) (pa_cons (pe_dget hr.u1 (pv 2) (pv 5) (fun _ _ => rfl)) pa_nil)))))
            (fun _ _ _ _ _ => pg_name (i := 8) nd rfl (Or.inl rfl)) (fun _ _ _ _ _ => pts_nil) (fun _ _ _ _ _ => pv 8))) pss_nil)))
      (pss_cons (ps_for PassesOwn.never rfl (pi_list (pv 1)) (pg_tup rfl (pgs_cons (pg_name (i := 4) nd rfl (Or.inl rfl)) (pgs_cons (pg_name (i := 5) nd rfl (Or.inr rfl)) (pgs_cons (pg_name (i := 6) nd rfl (Or.inr rfl)) pgs_nil))))
        (pss_one (ps_if (pt_cmpR op_eq (pv 4) pe_str (nomark _))
          (pss_one (ps_setLc (i := 3) (own := [("known", 7)]) (g := gName 7) (tt := tB (tDNotIn (tCall spFilled [] E0 (tCons (tVar 6) (tCons (tVar 7) tNil))) (tFld K (tDGet (tVar 2) (tVar 5)) "rows"))) (te := tVar 7) (by rfl) nd rfl rfl (sw_true rfl rfl rfl (by decide +kernel)) (pi_list (pv 3))
            (blkOk_by (own := [("known", 7)]) (N := ["starts", "atoms", "tables", "found", "sign", "name", "arguments", "known", "longer"]) (sc := defScope s_solutions) (by decide +kernel)) (fun _ _ _ _ _ => pg_name (i := 7) nd rfl (Or.inl rfl))
            (fun _ _ _ _ _ => pts_one (pt_cmp (pc_dnotin hr.u1 (pe_cal CF hr.lt (pa_cons (pv 6) (pa_cons (pv 7) pa_nil))) (pe_fld (pe_dget hr.u1 (pv 2) (pv 5) (fun _ _ => rfl)) rfl)))) (fun _ _ _ _ _ => pv 7))) pss_nil)))
      (pss_one (ps_ret (pv 3)))))), ?_⟩
    have signY : ∀ a : Atm, decide (V.str a.sign = V.str "yes") = a.yes := fun a => by
      unfold Atm.sign
      have ny : ¬ (("no" : Str) = "yes") := by decide +kernel
      cases a.yes with
      | true => exact decide_eq_true rfl
      | false => exact decide_eq_false fun z => ny (by injection z)
    have signN : ∀ a : Atm, decide (V.str a.sign = V.str "no") = !a.yes := fun a => by
      unfold Atm.sign
      have ny : ¬ (("yes" : Str) = "no") := by decide +kernel
      cases a.yes with
      | true => exact decide_eq_false fun z => ny (by injection z)
      | false => exact decide_eq_true rfl
    have bigL : (60000 : Nat) ≤ sizeLine := by decide
    have la := ao.few
    have R_few : ∀ n, (Rof l n).length ≤ B := fun n => by
      unfold Rof
      cases z : l.find? fun x => decide (x.name = n) with
      | none => exact Nat.zero_le _
      | some x => exact lB x (List.mem_of_find?_eq_some z)
    -- how many are found
    have size : ∀ i, ((atoms.take i).foldl (step1 (Rof l)) starts).length ≤ 50000 := fun i => by
      refine Nat.le_trans (sols_len h1B R_few (atoms.take i) starts) (Nat.le_trans (Nat.mul_le_mul_left _ ?_) few)
      refine Nat.pow_le_pow_right h1B ?_
      have : ((atoms.take i).filter (·.yes)).length ≤ (atoms.filter (·.yes)).length := (List.Sublist.filter _ (List.take_sublist i atoms)).length_le
      exact this
    have short : ∀ i, ∀ s ∈ (atoms.take i).foldl (step1 (Rof l)) starts, s.length ≤ 300 := fun i s hs => by
      have := step1_len (m := m) (fun a ha => ao.args a (List.mem_of_mem_take ha)) ao.small s hs
      have l2 : (atoms.take i).length ≤ 20 := by rw [List.length_take]; exact Nat.le_trans (Nat.min_le_right _ _) la
      have : (atoms.take i).length * m ≤ 20 * 8 := Nat.mul_le_mul l2 hm
      omega
    refine ⟨_, rfl, _, rfl, pa, rfl, ⟨_, sq_l hpa⟩, ?_⟩
    refine for_it (walk_list (xs := ts.map V.ref)) (fun i σ G => ∃ l1 q x4 x5 x6 x7 x8, σ = [some (.ref ps), some (.ref pa), some (.ref d), some (.ref q), x4, x5, x6, x7, x8] ∧ Later l l1 H G ∧ TablesAt P w C (allIx m) G d l1 ∧ SbsAt G q ((atoms.take i).foldl (step1 (Rof l)) starts))
      ⟨l, ps, none, none, none, none, none, rfl, Later.refl _ _, hT, hst⟩ (fun i σ G _ z => by obtain ⟨l1, q, x4, x5, x6, x7, x8, _, k, _⟩ := z; exact sq_l (k.keepS hT _ _ (fun φ z => by cases z) hpa)) ?_ ?_
    · rintro i x σ G0 G hi ⟨l1, q, x4, x5, x6, x7, x8, rfl, kl, hT1, hf⟩ ⟨rfl, hx⟩
      obtain ⟨t, ht, rfl⟩ := ref_at hx
      obtain ⟨a, ha, pg, h1, h2⟩ := each_at hts ht
      have hm2 := List.mem_of_getElem? ha
      have keep1 := kl.keepS hT
      have g1 := keep1 _ _ (fun φ z => by cases z) h1
      have g2 := h2.keep (kl.kS hT)
      have et : (atoms.take (i + 1)).foldl (step1 (Rof l)) starts = step1 (Rof l) ((atoms.take i).foldl (step1 (Rof l)) starts) a := by
        rw [show atoms.take (i + 1) = atoms.take i ++ [a] by rw [List.take_add_one, ha]; rfl, List.foldl_append]
        rfl
      refine ⟨t, _, rfl, sq_t g1, rfl, _, _, rfl, _, _, rfl, _, _, rfl, rfl, _, rfl, rfl, _, rfl, ?_⟩
      rw [signY]
      cases y : a.yes with
      | false =>
        refine iteF ⟨l1, q, _, _, _, _, _, rfl, kl, hT1, ?_⟩
        rw [et]
        unfold step1
        rw [y, if_neg Bool.false_ne_true]
        exact hf
      | true =>
        refine iteT ?_
        obtain ⟨us, hq, hus⟩ := hf
        have sz := size i
        have sz1 := size (i + 1)
        have sh := short i
        obtain ⟨x0, hx0, en⟩ := List.mem_map.mp (ao.names a hm2)
        obtain ⟨found, ef⟩ : ∃ found, found = (atoms.take i).foldl (step1 (Rof l)) starts := ⟨_, rfl⟩
        rw [← ef] at hus sz sh et
        have e1 : step1 (Rof l) found a = found.flatMap (exts a.args (Rof l a.name)) := by unfold step1; rw [if_pos y]
        rw [e1] at et
        rw [et] at sz1
        refine ⟨_, rfl, q, rfl, ⟨_, sq_l hq⟩, fun D hD => ?_⟩
        have sD : Same G (upd G D (.lst [])) := same_new hD
        refine out_it (walk_list (xs := us.map V.ref)) (fun j G2 => ∃ l2, Later l l2 H G2 ∧ TablesAt P w C (allIx m) G2 d l2 ∧ G2 q = some (.lst (us.map V.ref)) ∧ EachIs (SbAt G2) us found ∧ SbsAt G2 D ((found.take j).flatMap (exts a.args (Rof l a.name))) ∧ D ≠ q ∧ ∀ x ∈ l2, D ∉ x.own)
          ⟨l1, kl.trans (Later.same sD), hT1.same sD, sD _ _ hq, hus.mono fun _ _ z => sD _ _ z, ⟨[], upd_same, by simpa using EachIs.nil⟩, fun z => (by rw [z, hq] at hD; cases hD), fun x hx ho => by
            rcases hT1.live hx ho with ⟨o, e⟩
            rw [hD] at e
            cases e⟩ (fun j G2 _ z => by obtain ⟨l2, _, _, z, _⟩ := z; exact sq_l z) ?_ ?_
        · rintro j xx G1 G2 hj ⟨l2, kl2, hT2, hq2, hus2, hD2, Dq, Dn⟩ ⟨rfl, hxx⟩
          obtain ⟨u, hu, rfl⟩ := ref_at hxx
          obtain ⟨sb, hsb, hsu⟩ := each_at hus2 hu
          have keep2 := kl2.keepS hT
          obtain ⟨x2, hx2, e2, e3, e4⟩ := ky_ix kl2.ky x0 hx0
          have hT3 := hT2.at_ x2 hx2
          have er : Rof l a.name = x2.rs := by rw [← en, rof_mem hT.nn hx0, e4]
          have hval : valV (l2.map fun x => ((Sum.inr x.name : Key), V.ref x.T.t)) (.inr a.name) = some (.ref x2.T.t) := by
            rw [← en, ← e3]
            exact tab_val hT2.nn hx2
          refine ⟨rfl, yes_if ⟨_, rfl, _, rfl, _, rfl, _, rfl, d, _, rfl, .inl ⟨_, .inr a.name, .inl hT2.hd, rfl, hval.symm⟩, pg, u, a.args, sb, x2.T, x2.rs, x2.es, x2.gss, rfl, h2.keep (kl2.kS hT), hsu, ao.args a hm2, by have := sh sb (List.mem_of_getElem? hsb); omega, hT3, by rw [e4]; exact Nat.le_trans (lB x0 hx0) hB, fun G3 q3 es3 gss3 k3 hT4 own3 hq3 n3 => ?_⟩⟩
          obtain ⟨hT5, kl3⟩ := hT2.step hx2 k3 hT4 own3
          have kl5 := kl2.trans kl3
          have keep3 := kl3.keepS hT2
          obtain ⟨vs3, hv3, hvs3⟩ := hq3
          rw [← er] at hvs3
          refine ⟨q3, rfl, ⟨_, sq_l hv3⟩, ?_⟩
          obtain ⟨wsD, hDl, hDe⟩ := hD2
          have Dq3 : q3 ≠ D := fun z => by rw [z, hDl] at n3; cases n3
          have hD3 := keep3 D _ (fun φ z => by cases z) hDl
          have tk : (found.take (j + 1)) = found.take j ++ [sb] := by rw [List.take_add_one, hsb]; rfl
          have szj : ((found.take (j + 1)).flatMap (exts a.args (Rof l a.name))).length ≤ 50000 := by
            refine Nat.le_trans ?_ sz1
            have : found.flatMap (exts a.args (Rof l a.name)) = (found.take (j + 1)).flatMap (exts a.args (Rof l a.name)) ++ (found.drop (j + 1)).flatMap (exts a.args (Rof l a.name)) := by rw [← List.flatMap_append, List.take_append_drop]
            rw [this, List.length_append]
            omega
          rw [tk, List.flatMap_append] at szj
          simp only [List.flatMap_cons, List.flatMap_nil, List.append_nil] at szj
          rw [List.length_append] at szj
          have nD : H D = none := kl.gone _ hD
          have Dn3 : ∀ x ∈ setT l2 x2 es3 gss3, D ∉ x.own := fun x hx ho => by
            rcases kl3.own x hx D ho with ⟨y, hy, z⟩ | z
            · exact Dn y hy z
            · rw [hDl] at z; cases z
          refine in_it (walk_list (xs := vs3.map V.ref)) (fun k G5 => Off D G3 G5 ∧ G5 D = some (.lst ((wsD ++ vs3.take k).map V.ref))) ⟨fun a o n e => e, by rw [List.take_zero, List.append_nil]; exact hD3⟩ (fun k G5 _ z => sq_l (z.1 _ _ Dq3 hv3)) ?_ ?_
          · rintro k x5 G5 G6 hk ⟨o5, d5⟩ ⟨rfl, hx5⟩
            obtain ⟨v, hv, rfl⟩ := ref_at hx5
            have l3 := hvs3.length
            have lD := hDe.length
            refine ⟨rfl, yes_in ⟨_, rfl, _, d5, ?_, fun a o n e => ?_, ?_⟩⟩
            · rw [List.length_map, List.length_append, List.length_take]
              omega
            · rw [upd_ne n]; exact o5 a o n e
            · rw [upd_same, List.take_add_one, hv]
              simp only [List.map_append, Option.toList, List.map_cons, List.map_nil, List.append_assoc]
          · rintro G5 ⟨o5, d5⟩
            rw [List.length_map, List.take_length] at d5
            have g3 := hv3
            refine ⟨setT l2 x2 es3 gss3, kl5.offD nD o5, hT5.off hD3 Dn3 o5, o5 _ _ (Ne.symm Dq) (keep3 _ _ (fun φ z => by cases z) hq2), hus2.mono fun _ _ z => (z.keep keep3).off hD3 o5, ⟨_, d5, ?_⟩, Dq, Dn3⟩
            rw [tk, List.flatMap_append]
            refine each_cat ?_ (hDe.mono fun _ _ z => (z.keep keep3).off hD3 o5)
            rw [List.flatMap_cons, List.flatMap_nil, List.append_nil]
            exact hvs3.mono fun _ _ z => z.off hD3 o5
        · rintro G2 ⟨l2, kl2, hT2, hq2, hus2, hD2, Dq, Dn⟩
          rw [List.length_map, hus.length, List.take_length] at hD2
          refine ⟨l2, D, _, _, _, _, _, rfl, kl2, hT2, ?_⟩
          rw [et]
          exact hD2
    · rintro σ G ⟨l1, q, x4, x5, x6, x7, x8, rfl, kl, hT1, hf⟩
      have tl : (ts.map V.ref).length = atoms.length := by rw [List.length_map, hts.length]
      rw [tl, List.take_length] at hf
      have sz := size atoms.length
      have sh := short atoms.length
      rw [List.take_length] at sz sh
      obtain ⟨found, ef⟩ : ∃ found, found = atoms.foldl (step1 (Rof l)) starts := ⟨_, rfl⟩
      rw [← ef] at hf sz sh
      have hpa1 := kl.keepS hT _ _ (fun φ z => by cases z) hpa
      refine ⟨_, rfl, pa, rfl, ⟨_, sq_l hpa1⟩, ?_⟩
      refine for_it (walk_list (xs := ts.map V.ref)) (fun i σ G2 => ∃ q x4 x5 x6 x7 x8, σ = [some (.ref ps), some (.ref pa), some (.ref d), some (.ref q), x4, x5, x6, x7, x8] ∧ Same G G2 ∧ SbsAt G2 q ((atoms.take i).foldl (stepN (Rof l)) found))
        ⟨q, x4, x5, x6, x7, x8, rfl, Same.refl _, hf⟩ (fun i σ G2 _ z => by obtain ⟨q, x4, x5, x6, x7, x8, _, k, _⟩ := z; exact sq_l (k _ _ hpa1)) ?_ ?_
      · rintro i x σ G0 G2 hi ⟨q, x4, x5, x6, x7, x8, rfl, s2, hf⟩ ⟨rfl, hx⟩
        obtain ⟨t, ht, rfl⟩ := ref_at hx
        obtain ⟨a, ha, pg, h1, h2⟩ := each_at hts ht
        have hm2 := List.mem_of_getElem? ha
        have keep1 := kl.keepS hT
        have g1 := s2 _ _ (keep1 _ _ (fun φ z => by cases z) h1)
        have g2 := (h2.keep (kl.kS hT)).keep (KeepS.of s2)
        have et : (atoms.take (i + 1)).foldl (stepN (Rof l)) found = stepN (Rof l) ((atoms.take i).foldl (stepN (Rof l)) found) a := by
          rw [show atoms.take (i + 1) = atoms.take i ++ [a] by rw [List.take_add_one, ha]; rfl, List.foldl_append]
          rfl
        refine ⟨t, _, rfl, sq_t g1, rfl, _, _, rfl, _, _, rfl, _, _, rfl, rfl, _, rfl, rfl, _, rfl, ?_⟩
        rw [signN]
        cases y : a.yes with
        | true =>
          refine iteF ⟨q, _, _, _, _, _, rfl, s2, ?_⟩
          rw [et]
          unfold stepN
          rw [if_pos y]
          exact hf
        | false =>
          refine iteT ?_
          obtain ⟨fd2, ef2⟩ : ∃ fd2, fd2 = (atoms.take i).foldl (stepN (Rof l)) found := ⟨_, rfl⟩
          rw [← ef2] at hf et
          obtain ⟨us, hq, hus⟩ := hf
          have mem2 : ∀ s ∈ fd2, s ∈ found := fun s hs => by rw [ef2] at hs; exact (stepN_mem.mp hs).1
          have sz2 : fd2.length ≤ 50000 := by
            refine Nat.le_trans ?_ sz
            rw [ef2]
            clear ef2 et ht hx hi ha hm2 hus hq g1 g2 mem2
            generalize atoms.take i = as
            clear ef sz sh h1 h2 hf kk
            induction as generalizing found with
            | nil => exact Nat.le_refl _
            | cons b as ih =>
              rw [List.foldl_cons]
              refine Nat.le_trans (ih _) ?_
              unfold stepN
              split
              · exact Nat.le_refl _
              · exact List.length_filter_le _ _
          obtain ⟨x0, hx0, en⟩ := List.mem_map.mp (ao.names a hm2)
          obtain ⟨x2, hx2, e2, e3, e4⟩ := ky_ix kl.ky x0 hx0
          have hT2 := (hT1.same s2)
          have hT3 := hT2.at_ x2 hx2
          have er : Rof l a.name = x2.rs := by rw [← en, rof_mem hT.nn hx0, e4]
          have hval : valV (l1.map fun x => ((Sum.inr x.name : Key), V.ref x.T.t)) (.inr a.name) = some (.ref x2.T.t) := by
            rw [← en, ← e3]
            exact tab_val hT2.nn hx2
          have e1 : stepN (Rof l) fd2 a = fd2.filter fun s => !memB x2.rs (fill s a.args) := by unfold stepN; rw [if_neg (by rw [y]; exact Bool.false_ne_true), er]
          rw [e1] at et
          refine ⟨_, rfl, q, rfl, ⟨_, sq_l hq⟩, fun D hD => ?_⟩
          have ul := hus.length
          refine lc_same (walk_list (xs := us.map V.ref)) (us.zip fd2) (by rw [List.length_map, List.length_zip, ul, Nat.min_self]) (fun p => !memB x2.rs (fill p.2 a.args)) (fun _ v p => v = .ref p.1) (fun _ _ _ _ _ z => z) hD (fun G' s' => sq_l (s' _ _ hq)) (by rw [List.length_map]; omega) ?_ ?_
          · rintro j x ⟨u', sb⟩ G3 G4 hj hb s3 ⟨rfl, hx⟩ Q' Qn k1 k2
            obtain ⟨u, hu, rfl⟩ := ref_at hx
            obtain ⟨hb1, hb2⟩ := List.getElem?_zip_eq_some.mp hb
            obtain rfl : u = u' := Option.some.inj (hu.symm.trans hb1)
            have hsu := each_get hus hu hb2
            have s4 := s2.trans s3
            have sf := mem2 sb (List.mem_of_getElem? hb2)
            have hT4 := hT3.keep (H' := G4) (fun o e => s3 _ _ e) (fun o e => s3 _ _ e) (fun a _ o e => s3 _ _ e) fun a xs e => s3 _ _ e
            refine ⟨rfl, if_inS (c := !memB x2.rs (fill sb a.args)) (fun Q2 z => ⟨_, rfl, _, rfl, pg, u, a.args, sb, rfl, g2.keep (KeepS.of s3), s3 _ _ hsu, fun n hn => ?_, ?_, fun G5 it s5 n5 hrow => ?_⟩) (fun hc H6 s6 => ⟨_, rfl, k1 hc _ _ s6 rfl⟩) fun hc H6 s6 => k2 hc _ s6⟩
            · rw [ef] at sf
              exact step1_has (ao.safe a hm2 (by rw [y]; exact Bool.false_ne_true) n hn) sb sf
            · have := ao.args a hm2
              omega
            · have hT5 := hT4.keep (H' := G5) (fun o e => s5 _ _ e) (fun o e => s5 _ _ e) (fun a _ o e => s5 _ _ e) fun a xs e => s5 _ _ e
              refine ⟨_, rfl, _, rfl, d, _, rfl, .inl ⟨_, .inr a.name, .inl ((hT2.same s3).same s5).hd, rfl, hval.symm⟩, x2.T.t, C, x2.T.dx, _, _, rfl, hT5.ins, TC.cl, TC.nR, tfs_rows _ _, x2.T.rw, _, rfl, DGet.t hT5.rows hrow, _, rfl, ?_⟩
              have := z G5 s5
              rw [sd_val]
              cases hm : memB x2.rs (fill sb a.args) <;> (rw [hm] at this; exact this)
          · intro G3 acc s3 ha3 he3
            have e3 : acc = (((us.zip fd2).filter fun p => !memB x2.rs (fill p.2 a.args)).map (·.1)).map V.ref := by
              clear ha3
              generalize (us.zip fd2).filter (fun p => !memB x2.rs (fill p.2 a.args)) = zl at he3
              induction he3 with
              | nil => rfl
              | cons h t ih => rw [h, ih]; rfl
            refine ⟨D, _, _, _, _, _, rfl, s2.trans s3, ?_⟩
            rw [et]
            exact ⟨_, by rw [ha3, e3], each_zip (R := SbAt G3) (q := fun s => !memB x2.rs (fill s a.args)) (fun a b => rfl) (hus.mono fun _ _ z => s3 _ _ z)⟩
      · rintro σ G2 ⟨q, x4, x5, x6, x7, x8, rfl, s2, hf⟩
        rw [tl, List.take_length] at hf
        refine ⟨_, rfl, kk G2 q l1 (kl.trans (Later.same s2)) (hT1.same s2) ?_⟩
        unfold sols
        rw [← ef]
        exact hf
end
end KA
set_option Elab.async false
set_option linter.all false
set_option maxRecDepth 100000
set_option maxHeartbeats 8000000
/-! all_heads -/
namespace KA
open PySem PySem.Spec PyProof.Rows L2
open PySem.W (EachIs)
/-- what stays where only a dict of rows is written -/
theorem TablesAt.offT {P : Program} {w : World} {C : Addr} {U : List Ix} {H H' : Hp} {d D : Addr} {l : List TSt} {ws : List (Row × V)} (h : TablesAt P w C U H d l) (hD : H D = some (.dT ws)) (n : ∀ x ∈ l, D ∉ x.own) (k : Off D H H') : TablesAt P w C U H' d l :=
  have ne : ∀ {a : Addr} {o : HO}, H a = some o → (∀ xs, o ≠ .dT xs) → a ≠ D := fun {a o} e q z => by rw [z, hD] at e; exact q _ (Option.some.inj e).symm
  ⟨k _ _ (ne h.hd fun xs z => by cases z) h.hd, h.nn, fun x hx => (h.at_ x hx).keep
    (fun o e => k _ _ (ne (h.at_ x hx).ins fun xs z => by cases z) e)
    (fun o e => k _ _ (ne (h.at_ x hx).dict.at_ fun xs z => by cases z) e)
    (fun a ha o e => k _ _ (fun z => n x hx (by rw [← z]; exact ha)) e)
    fun a xs e => k _ _ (ne e fun xs z => by cases z) e, h.dj⟩
theorem SbAt.offT {D : Addr} {H H' : Hp} {ws : List (Row × V)} (hD : H D = some (.dT ws)) (k : Off D H H') {p : Addr} {s : Sb} (h : SbAt H p s) : SbAt H' p s := k _ _ (fun z => by have h' : H p = some (.dK (sbK s)) := h; rw [z, hD] at h'; cases h') h
theorem KeepS.offT {D : Addr} {H H' : Hp} {ws : List (Row × V)} (hD : H D = some (.dT ws)) (k : Off D H H') : KeepS H H' := fun a o n e => k a o (fun z => by rw [z, hD] at e; cases e; rcases n with ⟨xs, q⟩ | ⟨xs, q⟩ <;> cases q) e
/-- a rule that may be asked of the tables l -/
structure RulOk (m B : Nat) (l : List TSt) (own : Str) (ρ : Rul) : Prop where
  wf : WfR own ρ
  names : ∀ a ∈ ρ.body, a.name ∈ l.map (·.name)
  args : ∀ a ∈ ρ.body, a.args.length ≤ m
  head : ρ.head.length ≤ m
  few : ρ.body.length ≤ 20
  size : B ^ (ρ.body.filter (·.yes)).length ≤ 50000
theorem RulOk.ky {m B : Nat} {l l' : List TSt} {own : Str} {ρ : Rul} (h : RulOk m B l own ρ) (e : l'.map TSt.ky = l.map TSt.ky) : RulOk m B l' own ρ :=
  ⟨h.wf, fun a ha => by
    obtain ⟨x, hx, ex⟩ := List.mem_map.mp (h.names a ha)
    obtain ⟨x', hx', _, en, _⟩ := ky_ix e x hx
    exact List.mem_map.mpr ⟨x', hx', en.trans ex⟩, h.args, h.head, h.few, h.size⟩
theorem flat_len {α β : Type} {f : α → List β} {b : Nat} : ∀ {l : List α}, (∀ x ∈ l, (f x).length ≤ b) → (l.flatMap f).length ≤ l.length * b
  | [], _ => by simp
  | x :: l, h => by
    rw [List.flatMap_cons, List.length_append, List.length_cons, Nat.add_mul, Nat.one_mul, Nat.add_comm]
    exact Nat.add_le_add (flat_len fun y hy => h y (List.mem_cons_of_mem _ hy)) (h x List.mem_cons_self)
theorem rof_len {B : Nat} {l : List TSt} (lB : ∀ x ∈ l, x.rs.length ≤ B) (n : Str) : (Rof l n).length ≤ B := by
  unfold Rof
  cases z : l.find? fun x => decide (x.name = n) with
  | none => exact Nat.zero_le _
  | some x => exact lB x (List.mem_of_find?_eq_some z)
theorem stepN_len {T : Str → List Row} : ∀ {as : List Atm} {found : List Sb}, (as.foldl (stepN T) found).length ≤ found.length
  | [], _ => Nat.le_refl _
  | b :: as, found => by
    rw [List.foldl_cons]
    refine Nat.le_trans stepN_len ?_
    unfold stepN
    split
    · exact Nat.le_refl _
    · exact List.length_filter_le _ _
theorem sols_len2 {T : Str → List Row} {B : Nat} (hB : 1 ≤ B) (hT : ∀ n, (T n).length ≤ B) (starts : List Sb) (atoms : List Atm) : (sols T starts atoms).length ≤ starts.length * B ^ (atoms.filter (·.yes)).length :=
  Nat.le_trans stepN_len (sols_len hB hT atoms starts)
section
variable {P : Program} {w : World} {K : PySem.W.Frag} {mg : Str → Option Value} {base : Heap} {f : Addr} {fd : FuncData}
def spAllH (P : Program) (w : World) (C : Addr) (m B : Nat) : Sp := fun vs H Q _ => ∃ (pr d : Addr) (own : Str) (rules : List Rul) (l : List TSt), vs = [.ref pr, .ref d] ∧ RulesAt H pr rules ∧ TablesAt P w C (allIx m) H d l ∧ (∀ ρ ∈ rules, RulOk m B l own ρ) ∧ rules.length ≤ 100 ∧
  (∀ x ∈ l, x.rs.length ≤ B) ∧ ∀ H' D l', Later l l' H H' → TablesAt P w C (allIx m) H' d l' → H D = none → (∀ x ∈ l', D ∉ x.own) → SetAt H' D (uniR (rules.flatMap (allH (Rof l)))) → Q (.ref D) H'
theorem ok_all_heads {C : Addr} {m B : Nat} (hm : m ≤ 8) (h1B : 1 ≤ B) (hB : B ≤ 10000) (F : FnP K "all_heads" s_all_heads f fd) (CF : Cal P w K mg base "filled" 1 ["arguments", "known"] spFilled)
    (CS : Cal P w K mg base "solutions" 4 ["starts", "atoms", "tables"] (spSols P w C m B)) : FnOk P w K mg base CX0 5 f fd ["rules", "tables"] (spAllH P w C m B) := by
  refine F.ok sc_all_heads (fun vs H Q E h => ?_) (fun cdv A outer s H vs Q E hr h => ?_)
  · obtain ⟨pr, d, own, rules, l, rfl, _⟩ := h
    rfl
  · obtain ⟨pr, d, own, rules, l, rfl, ⟨ts, hpr, hts⟩, hT, rok, few, lB, kk⟩ := h
    have nd := sc_all_heads.nd
    refine ⟨_, PSs.nox (pss_cons (ps_set (i := 2) nd rfl (Or.inl rfl) pe_dnewT)
      (pss_cons (ps_for PassesOwn.never rfl (pi_list (pv 0)) (pg_tup rfl (pgs_cons (pg_name (i := 3) nd rfl (Or.inl rfl)) (pgs_cons (pg_name (i := 4) nd rfl (Or.inl rfl)) pgs_nil)))
        (pss_one (ps_for PassesOwn.never rfl (pi_list (pe_cal CS hr.lt (pa_cons (pe_lst (pa_cons pe_dnewK pa_nil)) (pa_cons (pv 4) (pa_cons (pv 1) pa_nil))))) (pg_name (i := 5) nd rfl (Or.inl rfl))
          (pss_one (ps_dput hr.u1 (pv 2) (pe_cal CF hr.lt (pa_cons (pv 3) (pa_cons (pv 5) pa_nil))) pe_bl rfl)))))
      (pss_one (ps_ret (pv 2))))), ?_⟩
    refine fun D hD => ?_
    have sD : Same H (upd H D (.dT [])) := same_new hD
    refine ⟨_, rfl, pr, rfl, ⟨_, sq_l (sD _ _ hpr)⟩, ?_⟩
    refine for_it (walk_list (xs := ts.map V.ref)) (fun i σ G => ∃ l1 x3 x4 x5, σ = [some (.ref pr), some (.ref d), some (.ref D), x3, x4, x5] ∧ Later l l1 H G ∧ TablesAt P w C (allIx m) G d l1 ∧ (∀ x ∈ l1, D ∉ x.own) ∧ SetAt G D (uniR ((rules.take i).flatMap (allH (Rof l)))))
      ⟨l, none, none, none, rfl, Later.same sD, hT.same sD, fun x hx ho => ?_, upd_same⟩ (fun i σ G _ z => by obtain ⟨l1, x3, x4, x5, _, k, _⟩ := z; exact sq_l (k.keepS hT _ _ (fun φ z => by cases z) hpr)) ?_ ?_
    · obtain ⟨o, e⟩ := hT.live hx ho
      rw [hD] at e
      cases e
    · rintro i x σ G0 G hi ⟨l1, x3, x4, x5, rfl, kl, hT1, Dn, dD⟩ ⟨rfl, hx⟩
      obtain ⟨t, ht, rfl⟩ := ref_at hx
      obtain ⟨ρ, hρ, ph, pb, h1, h2, h3⟩ := each_at hts ht
      have ok := rok ρ (List.mem_of_getElem? hρ)
      have g1 := kl.keepS hT _ _ (fun φ z => by cases z) h1
      have g2 := h2.keep (kl.kS hT)
      have g3 := h3.keep (kl.kS hT)
      refine ⟨t, _, rfl, sq_t g1, rfl, _, _, rfl, _, _, rfl, rfl, fun p1 hp1 => ?_⟩
      refine ⟨by show 1 ≤ sizeLine; decide, fun p2 hp2 => ?_⟩
      have s1 : Same G (upd G p1 (.dK [])) := same_new hp1
      have s2 : Same (upd G p1 (.dK [])) (upd (upd G p1 (.dK [])) p2 (.lst [.ref p1])) := same_new hp2
      have s12 := s1.trans s2
      obtain ⟨G1, eG1⟩ : ∃ G1, G1 = upd (upd G p1 (.dK [])) p2 (.lst [.ref p1]) := ⟨_, rfl⟩
      have f1 : G1 p2 = some (.lst [.ref p1]) := by rw [eG1]; exact upd_same
      have f2 : SbAt G1 p1 [] := by rw [eG1]; exact s2 _ _ upd_same
      rw [← eG1] at s12 ⊢
      clear s1 s2 hp2 eG1
      have ok1 := ok.ky kl.ky
      have er := rof_ky kl.ky
      have kl1 := kl.trans (Later.same (l := l1) s12)
      have lB1 : ∀ x ∈ l1, x.rs.length ≤ B := fun x hx => by
        obtain ⟨y, hy, _, _, e⟩ := ky_ix kl.ky.symm x hx
        rw [← e]
        exact lB y hy
      refine ⟨_, rfl, _, rfl, p2, pb, d, [[]], ρ.body, l1, rfl, ⟨[p1], f1, .cons f2 .nil⟩, g3.keep (KeepS.of s12), hT1.same s12, ⟨ok1.names, ok1.args, ok1.few, fun s hs => ?_, fun a ha y n hn => .inr (ok1.wf.no a ha y n hn)⟩, lB1, by rw [List.length_singleton, Nat.one_mul]; exact ok1.size, fun G2 q l2 kl2 hT2 hq => ?_⟩
      · rw [List.mem_singleton.mp hs]; exact Nat.zero_le _
      have kl3 := kl1.trans kl2
      have er2 := rof_ky kl3.ky
      have dD1 := s12 _ _ dD
      have dD2 : SetAt G2 D _ := kl2.keepS (hT1.same s12) _ _ (fun φ z => by cases z) dD1
      have Dn2 : ∀ x ∈ l2, D ∉ x.own := fun x hx ho => by
        rcases kl2.own x hx D ho with ⟨y, hy, z⟩ | z
        · exact Dn y hy z
        · rw [dD1] at z; cases z
      rw [er] at hq
      obtain ⟨us, hq, hus⟩ := hq
      have tk : (rules.take (i + 1)).flatMap (allH (Rof l)) = (rules.take i).flatMap (allH (Rof l)) ++ allH (Rof l) ρ := by
        rw [List.take_add_one, hρ, List.flatMap_append]
        simp
      obtain ⟨pre, epre⟩ : ∃ pre, pre = (rules.take i).flatMap (allH (Rof l)) := ⟨_, rfl⟩
      rw [← epre] at dD2 tk
      have lsol : (sols (Rof l) [[]] ρ.body).length ≤ 50000 := by
        refine Nat.le_trans (sols_len2 h1B (rof_len lB) _ _) ?_
        rw [List.length_singleton, Nat.one_mul]
        exact ok.size
      have lpre : pre.length ≤ 100 * 50000 := by
        rw [epre]
        refine Nat.le_trans (flat_len (b := 50000) fun x hx => ?_) (Nat.mul_le_mul_right _ ?_)
        · unfold allH
          rw [List.length_map]
          refine Nat.le_trans (sols_len2 h1B (rof_len lB) _ _) ?_
          rw [List.length_singleton, Nat.one_mul]
          exact (rok x (List.mem_of_mem_take hx)).size
        · rw [List.length_take]; omega
      refine ⟨q, rfl, ⟨_, sq_l hq⟩, ?_⟩
      have Dq : q ≠ D := fun z => by rw [z, dD2] at hq; cases hq
      have kl3k := kl3.keepS hT
      refine for_it (walk_list (xs := us.map V.ref)) (fun j σ G3 => ∃ x5, σ = [some (.ref pr), some (.ref d), some (.ref D), some (.ref ph), some (.ref pb), x5] ∧ Off D G2 G3 ∧ SetAt G3 D (uniR (pre ++ ((sols (Rof l) [[]] ρ.body).take j).map fun s => fill s ρ.head)))
        ⟨x5, rfl, fun a o n e => e, by rw [List.take_zero, List.map_nil, List.append_nil]; exact dD2⟩ (fun j σ G3 _ z => by obtain ⟨x5, _, k, _⟩ := z; exact sq_l (k _ _ Dq hq)) ?_ ?_
      · rintro j x σ G3 G4 hj ⟨x5, rfl, o3, d3⟩ ⟨rfl, hx⟩
        obtain ⟨u, hu, rfl⟩ := ref_at hx
        obtain ⟨sb, hsb, hsu⟩ := each_at hus hu
        have lus := hus.length
        refine ⟨_, rfl, _, rfl, _, rfl, ph, u, ρ.head, sb, rfl, ((h2.keep (kl3.kS hT)).keep (KeepS.offT dD2 o3)), hsu.offT dD2 o3, sols_has (fun n hn => .inr (ok.wf.head n hn)) (List.mem_of_getElem? hsb), by have := ok.head; omega, fun G5 it s5 n5 hrow => ?_⟩
        have d5 := s5 _ _ d3
        have ul := uni_len (pre ++ ((sols (Rof l) [[]] ρ.body).take j).map fun s => fill s ρ.head)
        have big : (6000000 : Nat) ≤ sizeLine := by decide
        refine ⟨_, _, rfl, DPut.t d5 hrow ?_, _, rfl, (fun a o n e => by rw [upd_ne n]; exact s5 _ _ (o3 a o n e)), ?_⟩
        · unfold sd
          rw [List.length_map]
          rw [List.length_append, List.length_map, List.length_take] at ul
          omega
        · show upd G5 D _ D = _
          rw [upd_same, sd_put, ← uni_snoc, List.take_add_one, hsb]
          simp
      · rintro σ G3 ⟨x5, rfl, o3, d3⟩
        rw [List.length_map, hus.length, List.take_length] at d3
        refine ⟨l2, _, _, _, rfl, kl3.offD hD o3, hT2.offT dD2 Dn2 o3, Dn2, ?_⟩
        rw [tk]
        exact d3
    · rintro σ G ⟨l1, x3, x4, x5, rfl, kl, hT1, Dn, dD⟩
      rw [List.length_map, hts.length, List.take_length] at dD
      exact ⟨_, rfl, kk G D l1 kl hT1 hD Dn dD⟩
end
end KA
set_option Elab.async false
set_option linter.all false
set_option maxRecDepth 100000
set_option maxHeartbeats 8000000
/-! heads_through -/
namespace KA
open PySem PySem.Spec PyProof.Rows L2
open PySem.W (EachIs)
/-- the rows under each name -/
def CrAt (H : Hp) (kvs : List (Key × V)) (T : Str → List Row) : Prop := ∀ n : Str, (valV kvs (.inr n) = none ∧ T n = []) ∨ ∃ a, valV kvs (.inr n) = some (.ref a) ∧ RowsAt H a (T n)
/-- what is changed, for each sign -/
def ChgAt (H : Hp) (pc : Addr) (C : Bool → Str → List Row) : Prop := ∃ py pn ky kn, H pc = some (.dK [((.inr "yes" : Key), V.ref py), (.inr "no", V.ref pn)]) ∧ H py = some (.dK ky) ∧ H pn = some (.dK kn) ∧ CrAt H ky (C true) ∧ CrAt H kn (C false)
theorem CrAt.keep {H H' : Hp} (k : ∀ a o, (∀ φ, o ≠ .ext φ) → H a = some o → H' a = some o) {kvs : List (Key × V)} {T : Str → List Row} (h : CrAt H kvs T) : CrAt H' kvs T := fun n => by
  rcases h n with z | ⟨a, e, ts, h1, h2⟩
  · exact .inl z
  · exact .inr ⟨a, e, ts, k _ _ (fun φ z => by cases z) h1, h2.mono fun _ _ z => k _ _ (fun φ z => by cases z) z⟩
theorem ChgAt.keep {H H' : Hp} (k : ∀ a o, (∀ φ, o ≠ .ext φ) → H a = some o → H' a = some o) {pc : Addr} {C : Bool → Str → List Row} (h : ChgAt H pc C) : ChgAt H' pc C :=
  let ⟨py, pn, ky, kn, h1, h2, h3, h4, h5⟩ := h
  ⟨py, pn, ky, kn, k _ _ (fun φ z => by cases z) h1, k _ _ (fun φ z => by cases z) h2, k _ _ (fun φ z => by cases z) h3, h4.keep k, h5.keep k⟩
theorem ChgAt.get {H : Hp} {pc : Addr} {C : Bool → Str → List Row} (h : ChgAt H pc C) (a : Atm) : ∃ kvs0 ps kvs, H pc = some (.dK kvs0) ∧ valV kvs0 (.inr a.sign) = some (.ref ps) ∧ H ps = some (.dK kvs) ∧ CrAt H kvs (C a.yes) := by
  obtain ⟨py, pn, ky, kn, h1, h2, h3, h4, h5⟩ := h
  unfold Atm.sign
  cases a.yes with
  | true => exact ⟨_, py, ky, h1, valV_pos (p := ((Sum.inr ("yes" : Str) : Key), V.ref py)) rfl, h2, h4⟩
  | false =>
    refine ⟨_, pn, kn, h1, ?_, h3, h5⟩
    have ny : ¬ ((Sum.inr ("yes" : Str) : Key) = Sum.inr ("no" : Str)) := by decide +kernel
    exact (valV_neg (p := ((Sum.inr ("yes" : Str) : Key), V.ref py)) ny).trans (valV_pos (p := ((Sum.inr ("no" : Str) : Key), V.ref pn)) rfl)
theorem cut_to (xs : List V) (k : Nat) : cutV xs none (some (k : Int)) = xs.take k := by
  unfold cutV
  rw [HT.sIx_none, HT.sIx_nat, List.drop_zero, Nat.sub_zero]
  by_cases h : k ≤ xs.length
  · rw [Nat.min_eq_left h]
  · rw [Nat.min_eq_right (by omega), List.take_of_length_le (Nat.le_refl _), List.take_of_length_le (by omega)]
theorem cut_from (xs : List V) (k : Nat) : cutV xs (some ((k : Int) + 1)) none = xs.drop (k + 1) := by
  unfold cutV
  rw [HT.sIx_none, show ((k : Int) + 1) = ((k + 1 : Nat) : Int) by omega, HT.sIx_nat]
  by_cases h : k + 1 ≤ xs.length
  · rw [Nat.min_eq_left h, List.take_of_length_le (by rw [List.length_drop]; omega)]
  · rw [Nat.min_eq_right (by omega), List.drop_of_length_le (Nat.le_refl _), List.drop_of_length_le (by omega)]
    simp
theorem each_drops {α β : Type} {R : α → β → Prop} : ∀ {as : List α} {bs : List β} (k : Nat), EachIs R as bs → EachIs R (as.drop k) (bs.drop k)
  | _, _, _, .nil => by simp; exact .nil
  | _, _, 0, .cons h t => .cons h t
  | _, _, k + 1, .cons _ t => each_drops k t
/-- the heads of a rule through any changed atom -/
def thruR (T : Str → List Row) (C : Bool → Str → List Row) (ρ : Rul) : List Row := ρ.body.zipIdx.flatMap fun p => thru T C ρ p.2 p.1
theorem thruR_mem {T : Str → List Row} {C : Bool → Str → List Row} {own : Str} {rules : List Rul} (wf : ∀ ρ ∈ rules, WfR own ρ) {r : Row} : r ∈ rules.flatMap (thruR T C) ↔ Through T C rules r := by
  rw [List.mem_flatMap]
  unfold Through
  constructor
  · rintro ⟨ρ, hρ, h⟩
    obtain ⟨⟨a, k⟩, hk, h⟩ := List.mem_flatMap.mp h
    have hk2 : ρ.body[k]? = some a := by
      have := List.mem_zipIdx_iff_getElem?.mp hk
      exact this
    obtain ⟨σ, h1, h2, h3⟩ := (thru_mem (wf ρ hρ) hk2).mp h
    exact ⟨ρ, hρ, σ, k, a, hk2, h1, h2, h3⟩
  · rintro ⟨ρ, hρ, σ, k, a, hk, h1, h2, h3⟩
    exact ⟨ρ, hρ, List.mem_flatMap.mpr ⟨(a, k), List.mem_zipIdx_iff_getElem?.mpr hk, (thru_mem (wf ρ hρ) hk).mpr ⟨σ, h1, h2, h3⟩⟩⟩
section
variable {P : Program} {w : World} {K : PySem.W.Frag} {mg : Str → Option Value} {base : Heap} {f : Addr} {fd : FuncData}
def spThru (P : Program) (w : World) (C : Addr) (m B : Nat) : Sp := fun vs H Q _ => ∃ (pr pc d : Addr) (own : Str) (rules : List Rul) (Cg : Bool → Str → List Row) (l : List TSt), vs = [.ref pr, .ref pc, .ref d] ∧ RulesAt H pr rules ∧ ChgAt H pc Cg ∧ TablesAt P w C (allIx m) H d l ∧ (∀ ρ ∈ rules, RulOk m B l own ρ) ∧ rules.length ≤ 10 ∧
  (∀ x ∈ l, x.rs.length ≤ B) ∧ (∀ ρ ∈ rules, ∀ k a, ρ.body[k]? = some a → (Cg a.yes a.name).length * B ^ ((ρ.body.take k ++ ρ.body.drop (k + 1)).filter (·.yes)).length ≤ 50000) ∧
  ∀ H' D l', Later l l' H H' → TablesAt P w C (allIx m) H' d l' → H D = none → (∀ x ∈ l', D ∉ x.own) → SetAt H' D (uniR (rules.flatMap (thruR (Rof l) Cg))) → Q (.ref D) H'
theorem ok_heads_through {C : Addr} {m B : Nat} (hm : m ≤ 8) (h1B : 1 ≤ B) (hB : B ≤ 10000) (F : FnP K "heads_through" s_heads_through f fd) (gE : mg "enumerate" = none) (CF : Cal P w K mg base "filled" 1 ["arguments", "known"] spFilled)
    (CM : Cal P w K mg base "matched" 1 ["arguments", "row", "known"] spMatched) (CS : Cal P w K mg base "solutions" 4 ["starts", "atoms", "tables"] (spSols P w C m B)) : FnOk P w K mg base CX0 5 f fd ["rules", "changed", "tables"] (spThru P w C m B) := by
  refine F.ok sc_heads_through (fun vs H Q E h => ?_) (fun cdv A outer s H vs Q E hr h => ?_)
  · obtain ⟨pr, pc, d, own, rules, Cg, l, rfl, _⟩ := h
    rfl
  · obtain ⟨pr, pc, d, own, rules, Cg, l, rfl, ⟨ts, hpr, hts⟩, hC, hT, rok, few, lB, cfew, kk⟩ := h
    have nd := sc_heads_through.nd
    refine ⟨_, PSs.nox (pss_cons (ps_set (i := 3) nd rfl (Or.inl rfl) pe_dnewT)
      (pss_cons (ps_for PassesOwn.never rfl (pi_list (pv 0)) (pg_tup rfl (pgs_cons (pg_name (i := 4) nd rfl (Or.inl rfl)) (pgs_cons (pg_name (i := 5) nd rfl (Or.inl rfl)) pgs_nil)))
        (pss_one (ps_for PassesOwn.never rfl (pi_enum (by rfl) gE (pa_cons (pv 5) pa_nil)) (pg_tup rfl (pgs_cons (pg_name (i := 6) nd rfl (Or.inl rfl)) (pgs_cons (pg_tup rfl (pgs_cons (pg_name (i := 7) nd rfl (Or.inl rfl)) (pgs_cons (pg_name (i := 8) nd rfl (Or.inl rfl)) (pgs_cons (pg_name (i := 9) nd rfl (Or.inr rfl)) pgs_nil)))) pgs_nil)))
          (pss_cons (ps_setLc (i := 10) (own := [("row", 11)]) (g := gName 11) (tt := tYes) (te := tCall spMatched [] E0 (tCons (tVar 9) (tCons (tVar 11) (tCons tDNewK tNil)))) (by rfl) nd rfl rfl (sw_true rfl rfl rfl (by decide +kernel)) (pi_list (pe_dget2 hr.u1 (pe_dget hr.u1 (pv 1) (pv 7) (fun _ _ => rfl)) (pv 8) (pe_lst pa_nil) ⟨rfl, rfl, rfl, rfl⟩))
            (blkOk_by (own := [("row", 11)]) (N := ["rules", "changed", "tables", "found", "head", "body", "k", "sign", "name", "arguments", "matches", "row", "starts", "known"]) (sc := defScope s_heads_through) (by decide +kernel)) (fun _ _ _ _ _ => pg_name (i := 11) nd rfl (Or.inl rfl)) (fun _ _ _ _ _ => pts_nil) (fun _ _ _ _ _ => pe_cal CM hr.lt (pa_cons (pv 9) (pa_cons (pv 11) (pa_cons pe_dnewK pa_nil)))))
          (pss_cons (ps_setLc (i := 12) (own := [("known", 13)]) (g := gName 13) (tt := tTest (tOp (fun x y H Q => y = .non ∧ Q (.bl (!decide (x = .non))) H) (tVar 13) (tC .non))) (te := tVar 13) (by rfl) nd rfl rfl (sw_true rfl rfl rfl (by decide +kernel)) (pi_list (pv 10))
            (blkOk_by (own := [("known", 13)]) (N := ["rules", "changed", "tables", "found", "head", "body", "k", "sign", "name", "arguments", "matches", "row", "starts", "known"]) (sc := defScope s_heads_through) (by decide +kernel)) (fun _ _ _ _ _ => pg_name (i := 13) nd rfl (Or.inl rfl)) (fun _ _ _ _ _ => pts_one (pt_cmpR op_notN (pv 13) pe_non (nomark _))) (fun _ _ _ _ _ => pv 13))
          (pss_one (ps_for PassesOwn.never rfl (pi_list (pe_cal CS hr.lt (pa_cons (pv 12) (pa_cons (pe_op op_cat (pe_slice sl_list (pv 5) po_none (po_some (pv 6))) (pe_slice sl_list (pv 5) (po_some (pe_op op_add (pv 6) pe_int)) po_none)) (pa_cons (pv 2) pa_nil))))) (pg_name (i := 13) nd rfl (Or.inl rfl))
            (pss_one (ps_dput hr.u1 (pv 3) (pe_cal CF hr.lt (pa_cons (pv 4) (pa_cons (pv 13) pa_nil))) pe_bl rfl)))))))))
      (pss_one (ps_ret (pv 3))))), ?_⟩
    refine fun D hD => ?_
    have sD : Same H (upd H D (.dT [])) := same_new hD
    have thL : ∀ ρ ∈ rules, ∀ p ∈ ρ.body.zipIdx, (thru (Rof l) Cg ρ p.2 p.1).length ≤ 50000 := fun ρ hρ p hp => by
      unfold thru
      rw [List.length_map]
      refine Nat.le_trans (sols_len2 h1B (rof_len lB) _ _) (Nat.le_trans (Nat.mul_le_mul_right _ (List.length_filterMap_le _ _)) (cfew ρ hρ p.2 p.1 (List.mem_zipIdx_iff_getElem?.mp hp)))
    refine ⟨_, rfl, pr, rfl, ⟨_, sq_l (sD _ _ hpr)⟩, ?_⟩
    refine for_it (walk_list (xs := ts.map V.ref)) (fun i σ G => ∃ l1 x4 x5 x6 x7 x8 x9 x10 x11 x12 x13, σ = [some (.ref pr), some (.ref pc), some (.ref d), some (.ref D), x4, x5, x6, x7, x8, x9, x10, x11, x12, x13] ∧ Later l l1 H G ∧ TablesAt P w C (allIx m) G d l1 ∧ (∀ x ∈ l1, D ∉ x.own) ∧ SetAt G D (uniR ((rules.take i).flatMap (thruR (Rof l) Cg))))
      ⟨l, none, none, none, none, none, none, none, none, none, none, rfl, Later.same sD, hT.same sD, fun x hx ho => ?_, upd_same⟩ (fun i σ G _ z => by obtain ⟨l1, x4, x5, x6, x7, x8, x9, x10, x11, x12, x13, _, k, _⟩ := z; exact sq_l (k.keepS hT _ _ (fun φ z => by cases z) hpr)) ?_ ?_
    · obtain ⟨o, e⟩ := hT.live hx ho
      rw [hD] at e
      cases e
    · rintro i x σ G0 G hi ⟨l1, x4, x5, x6, x7, x8, x9, x10, x11, x12, x13, rfl, kl, hT1, Dn, dD⟩ ⟨rfl, hx⟩
      obtain ⟨t, ht, rfl⟩ := ref_at hx
      obtain ⟨ρ, hρ, ph, pb, h1, h2, ⟨bs, h3, h4⟩⟩ := each_at hts ht
      have hρm := List.mem_of_getElem? hρ
      have ok := rok ρ hρm
      have K0 := kl.keepS hT
      have tk : (rules.take (i + 1)).flatMap (thruR (Rof l) Cg) = (rules.take i).flatMap (thruR (Rof l) Cg) ++ thruR (Rof l) Cg ρ := by
        rw [List.take_add_one, hρ, List.flatMap_append]
        simp
      obtain ⟨pre, epre⟩ : ∃ pre, pre = (rules.take i).flatMap (thruR (Rof l) Cg) := ⟨_, rfl⟩
      have lpre : pre.length ≤ 10 * (20 * 50000) := by
        rw [epre]
        refine Nat.le_trans (flat_len (b := 20 * 50000) fun x hx => ?_) (Nat.mul_le_mul_right _ ?_)
        · have hxm := List.mem_of_mem_take hx
          unfold thruR
          refine Nat.le_trans (flat_len (b := 50000) fun p hp => thL x hxm p hp) (Nat.mul_le_mul_right _ ?_)
          rw [List.length_zipIdx]
          exact (rok x hxm).few
        · rw [List.length_take]; omega
      rw [← epre] at dD tk
      refine ⟨t, _, rfl, sq_t (K0 _ _ (fun φ z => by cases z) h1), rfl, _, _, rfl, _, _, rfl, rfl, _, rfl, pb, _, rfl, sq_l (K0 _ _ (fun φ z => by cases z) h3), ?_⟩
      refine for_it (walk_enum (xs := bs.map V.ref)) (fun j σ G => ∃ l1 x6 x7 x8 x9 x10 x11 x12 x13, σ = [some (.ref pr), some (.ref pc), some (.ref d), some (.ref D), some (.ref ph), some (.ref pb), x6, x7, x8, x9, x10, x11, x12, x13] ∧ Later l l1 H G ∧ TablesAt P w C (allIx m) G d l1 ∧ (∀ x ∈ l1, D ∉ x.own) ∧ SetAt G D (uniR (pre ++ (ρ.body.zipIdx.take j).flatMap fun p => thru (Rof l) Cg ρ p.2 p.1)))
        ⟨l1, x6, x7, x8, x9, x10, x11, x12, x13, rfl, kl, hT1, Dn, by rw [List.take_zero, List.flatMap_nil, List.append_nil]; exact dD⟩ (fun j σ G _ z => by obtain ⟨l1, x6, x7, x8, x9, x10, x11, x12, x13, _, k, _⟩ := z; exact sq_l (k.keepS hT _ _ (fun φ z => by cases z) h3)) ?_ ?_
      · clear hT1 Dn dD kl K0 l1
        rintro j x σ G0 G hj ⟨l1, x6, x7, x8, x9, x10, x11, x12, x13, rfl, kl, hT1, Dn, dD⟩ ⟨T2, x1, y1, rfl, hT2, rfl, hx1, hy1⟩
        obtain ⟨at_, hat, rfl⟩ := ref_at hy1
        obtain ⟨a, ha, pa, g1, g2⟩ := each_at h4 hat
        have ex : x1 = .int ((j : Nat) : Int) := (Option.some.inj hx1).symm
        subst ex
        have s2 : Same G0 (upd G0 T2 (.tup [.int ((j : Nat) : Int), .ref at_])) := same_new hT2
        obtain ⟨G, eG⟩ : ∃ G, G = upd G0 T2 (.tup [.int ((j : Nat) : Int), .ref at_]) := ⟨_, rfl⟩
        have fT : G T2 = some (.tup [.int ((j : Nat) : Int), .ref at_]) := by rw [eG]; exact upd_same
        rw [← eG] at s2 ⊢
        have kl1 := kl.trans (Later.same (l := l1) s2)
        have hT1 := hT1.same s2
        have dD := s2 _ _ dD
        have K1 := kl1.keepS hT
        refine ⟨T2, _, rfl, sq_t fT, rfl, _, _, rfl, _, _, rfl, at_, _, rfl, sq_t (K1 _ _ (fun φ z => by cases z) g1), rfl, _, _, rfl, _, _, rfl, _, _, rfl, rfl, rfl, ?_⟩
        obtain ⟨kvs0, ps, kvs, c1, c2, c3, c4⟩ := (hC.keep K1).get a
        refine ⟨_, rfl, _, rfl, pc, _, rfl, .inl ⟨kvs0, .inr a.sign, .inl c1, rfl, c2.symm⟩, ps, rfl, .inl ⟨kvs, .inl c3⟩, _, rfl, Nat.zero_le _, fun z hz => ?_⟩
        have s3 : Same G (upd G z (.lst [])) := same_new hz
        obtain ⟨G3, eG3⟩ : ∃ G3, G3 = upd G z (.lst []) := ⟨_, rfl⟩
        have fz : G3 z = some (.lst []) := by rw [eG3]; exact upd_same
        rw [← eG3] at s3 ⊢
        obtain ⟨rl, erl, hrl⟩ : ∃ rl, (valV kvs (.inr a.name)).getD (.ref z) = .ref rl ∧ RowsAt G3 rl (Cg a.yes a.name) := by
          rcases c4 a.name with ⟨e1, e2⟩ | ⟨rl, e1, e2⟩
          · exact ⟨z, by rw [e1]; rfl, by rw [e2]; exact ⟨[], fz, .nil⟩⟩
          · exact ⟨rl, by rw [e1]; rfl, let ⟨us, u1, u2⟩ := e2; ⟨us, s3 _ _ u1, u2.mono fun _ _ q => q.mono s3⟩⟩
        obtain ⟨rs, hr1, hr2⟩ := hrl
        have lrs := hr2.length
        refine ⟨_, .inl ⟨kvs, .inr a.name, .inl (s3 _ _ c3), rfl, rfl⟩, rl, erl, ⟨_, sq_l hr1⟩, fun D3 hD3 => ?_⟩
        have okm := List.mem_of_getElem? ha
        have ala := ok.args a okm
        have clen : (Cg a.yes a.name).length ≤ 50000 := Nat.le_trans (Nat.le_mul_of_pos_right _ (Nat.pow_pos h1B)) (cfew ρ hρm j a ha)
        have args3 : ArgsAt G3 pa a.args := (g2.keep (kl1.kS hT)).keep (KeepS.of s3)
        refine lc_off (walk_list (xs := rs.map V.ref)) (Cg a.yes a.name) (by rw [List.length_map, lrs]) (fun G v r => MOff D3 G v (matchR a.args r [])) (fun G G' v r k h => ?_) hD3 (fun G sG => sq_l (sG _ _ hr1)) (by rw [List.length_map]; omega) ?_ ?_
        · cases hm2 : matchR a.args r [] with
          | none => rw [hm2] at h; exact h
          | some t =>
            rw [hm2] at h
            obtain ⟨c, e1, e2, e3⟩ := h
            exact ⟨c, e1, e2, k _ _ e2 e3⟩
        · rintro i x r _ G4 hi hb sG ⟨accD, dD5⟩ ⟨rfl, hx⟩ Q' Qn k1
          obtain ⟨u, hu, rfl⟩ := ref_at hx
          have hur := each_get hr2 hu hb
          refine ⟨rfl, yes_in ⟨_, rfl, _, rfl, fun p0 hp0 => ?_⟩⟩
          have s0 : Same G4 (upd G4 p0 (.dK [])) := same_new hp0
          refine ⟨pa, u, p0, a.args, r, [], rfl, (args3.keep (KeepS.of sG)).keep (KeepS.of s0), (hur.mono sG).mono s0, upd_same, by omega, Nat.zero_le _, fun v G' s' hres => k1 v G' (s0.trans s') ?_⟩
          cases hm2 : matchR a.args r [] with
          | none => rw [hm2] at hres; exact hres
          | some t =>
            rw [hm2] at hres
            obtain ⟨c, e1, e2, e3⟩ := hres
            exact ⟨c, e1, (fun z => by rw [z, s0 _ _ dD5] at e2; cases e2), e3⟩
        · intro G6 acc6 s6 a6 he6
          have l6 := he6.length
          refine ⟨_, rfl, D3, rfl, ⟨_, sq_l a6⟩, fun D4 hD4 => ?_⟩
          refine lc_same (walk_list (xs := acc6)) acc6 rfl (fun v => !decide (v = V.non)) (fun _ v b => v = b) (fun _ _ _ _ _ z => z) hD4 (fun G sG => sq_l (sG _ _ a6)) (by omega) ?_ ?_
          · rintro i x b G0 G hi hb sG ⟨rfl, hx⟩ Q' Qn k1 k2
            obtain rfl : b = x := Option.some.inj (hb.symm.trans hx)
            exact ⟨rfl, if_in (c := !decide (b = V.non)) (fun Q2 z => ⟨_, rfl, rfl, _, rfl, z⟩) (fun hc => ⟨_, rfl, k1 hc _ _ (Same.refl _) rfl⟩) fun hc => k2 hc _ (Same.refl _)⟩
          · intro G7 acc7 s7 a7 he7
            have e7 : acc7 = acc6.filter fun v => !decide (v = V.non) := by
              clear a7
              generalize acc6.filter (fun v => !decide (v = V.non)) = l at he7
              induction he7 with
              | nil => rfl
              | cons h t ih => rw [ih, h]
            have he6' : EachIs (fun v o => MOff D3 G6 v o) acc6 ((Cg a.yes a.name).map fun r => matchR a.args r []) := each_map_r (R := fun v o => MOff D3 G6 v o) (fun r => matchR a.args r []) he6
            obtain ⟨ds, e8, hds⟩ := filt_some he6'
            have ed : ((Cg a.yes a.name).map fun r => matchR a.args r []).filterMap id = exts a.args (Cg a.yes a.name) [] := by
              rw [List.filterMap_map]
              rfl
            rw [ed] at hds
            have s57 := s6.trans s7
            have sG7 : Same G G7 := (s3.trans s6).trans s7
            have kl7 := kl1.trans (Later.same (l := l1) sG7)
            have K7 := kl7.keepS hT
            have f4 : G7 D4 = some (.lst (ds.map V.ref)) := by rw [a7, e7, e8]
            have f5 := K7 _ _ (fun φ z => by cases z) h3
            refine ⟨_, rfl, _, rfl, _, rfl, _, rfl, pb, _, rfl, sq_l f5, fun p1 hp1 => ?_⟩
            rw [cut_to]
            have t1 : Same G7 (upd G7 p1 (.lst ((bs.map V.ref).take j))) := same_new hp1
            obtain ⟨G8, eG8⟩ : ∃ G8, G8 = upd G7 p1 (.lst ((bs.map V.ref).take j)) := ⟨_, rfl⟩
            have f8 : G8 p1 = some (.lst ((bs.map V.ref).take j)) := by rw [eG8]; exact upd_same
            rw [← eG8] at t1 ⊢
            refine ⟨_, rfl, _, rfl, _, _, rfl, rfl, _, rfl, pb, _, rfl, sq_l (t1 _ _ f5), fun p2 hp2 => ?_⟩
            rw [cut_from]
            have t2 : Same G8 (upd G8 p2 (.lst ((bs.map V.ref).drop (j + 1)))) := same_new hp2
            obtain ⟨G9, eG9⟩ : ∃ G9, G9 = upd G8 p2 (.lst ((bs.map V.ref).drop (j + 1))) := ⟨_, rfl⟩
            have f9 : G9 p2 = some (.lst ((bs.map V.ref).drop (j + 1))) := by rw [eG9]; exact upd_same
            rw [← eG9] at t2 ⊢
            have lb := h4.length
            have lbf := ok.few
            have big : (12000000 : Nat) ≤ sizeLine := by decide
            refine ⟨p1, p2, _, _, rfl, rfl, t2 _ _ f8, f9, by rw [List.length_take, List.length_drop, List.length_map]; omega, fun p3 hp3 => ?_⟩
            have t3 : Same G9 (upd G9 p3 (.lst ((bs.map V.ref).take j ++ (bs.map V.ref).drop (j + 1)))) := same_new hp3
            obtain ⟨GA, eGA⟩ : ∃ GA, GA = upd G9 p3 (.lst ((bs.map V.ref).take j ++ (bs.map V.ref).drop (j + 1))) := ⟨_, rfl⟩
            have fA : GA p3 = some (.lst ((bs.take j ++ bs.drop (j + 1)).map V.ref)) := by rw [eGA, upd_same, List.map_append, List.map_take, List.map_drop]
            rw [← eGA] at t3 ⊢
            have t7A := (t1.trans t2).trans t3
            have sGA := sG7.trans t7A
            have klA := kl1.trans (Later.same (l := l1) sGA)
            have atA : AtmsAt GA p3 (ρ.body.take j ++ ρ.body.drop (j + 1)) := ⟨_, fA, each_cat ((each_drops (j + 1) h4).mono fun _ _ z => z.keep (klA.kS hT)) ((each_takes j h4).mono fun _ _ z => z.keep (klA.kS hT))⟩
            have er := rof_ky kl1.ky
            have ok1 := ok.ky kl1.ky
            have sub : ∀ b ∈ ρ.body.take j ++ ρ.body.drop (j + 1), b ∈ ρ.body := fun b hb => by
              obtain ⟨k, _, hk⟩ := mem_less.mp hb
              exact List.mem_of_getElem? hk
            have lB1 : ∀ x ∈ l1, x.rs.length ≤ B := fun x hx => by
              obtain ⟨y, hy, _, _, e⟩ := ky_ix kl1.ky.symm x hx
              rw [← e]
              exact lB y hy
            have elen : (exts a.args (Cg a.yes a.name) []).length ≤ (Cg a.yes a.name).length := List.length_filterMap_le _ _
            refine ⟨_, rfl, D4, p3, d, exts a.args (Cg a.yes a.name) [], ρ.body.take j ++ ρ.body.drop (j + 1), l1, rfl, ⟨ds, t7A _ _ f4, hds.mono fun _ _ z => t7A _ _ (s7 _ _ z)⟩, atA, hT1.same sGA, ⟨fun b hb => ok1.names b (sub b hb), fun b hb => ok1.args b (sub b hb), ?_, fun s hs => ?_, fun b hb y => less_safe ok.wf ha _ (ok.wf.no b (sub b hb) y)⟩, lB1, Nat.le_trans (Nat.mul_le_mul_right _ elen) (cfew ρ hρm j a ha), fun G2 q l2 kl2 hT2 hq => ?_⟩
            · rw [List.length_append, List.length_take, List.length_drop]; omega
            · have := exts_len hs
              have e0 : ([] : Sb).length = 0 := rfl
              omega
            have kl3 := klA.trans kl2
            have er2 := rof_ky kl3.ky
            have dD1 := sGA _ _ dD
            have dD2 : SetAt G2 D _ := kl2.keepS (hT1.same sGA) _ _ (fun φ z => by cases z) dD1
            have Dn2 : ∀ x ∈ l2, D ∉ x.own := fun x hx ho => by
              rcases kl2.own x hx D ho with ⟨y, hy, z⟩ | z
              · exact Dn y hy z
              · rw [dD1] at z; cases z
            rw [er] at hq
            obtain ⟨us, hq, hus⟩ := hq
            have hjz : ρ.body.zipIdx[j]? = some (a, j) := by rw [List.getElem?_zipIdx, ha]; simp
            have tkj : (ρ.body.zipIdx.take (j + 1)).flatMap (fun p => thru (Rof l) Cg ρ p.2 p.1) = (ρ.body.zipIdx.take j).flatMap (fun p => thru (Rof l) Cg ρ p.2 p.1) ++ thru (Rof l) Cg ρ j a := by
              rw [List.take_add_one, hjz, List.flatMap_append]
              simp
            obtain ⟨pre2, epre2⟩ : ∃ pre2, pre2 = pre ++ (ρ.body.zipIdx.take j).flatMap (fun p => thru (Rof l) Cg ρ p.2 p.1) := ⟨_, rfl⟩
            have lpre2 : pre2.length ≤ 11000000 := by
              have : ((ρ.body.zipIdx.take j).flatMap (fun p => thru (Rof l) Cg ρ p.2 p.1)).length ≤ 20 * 50000 := by
                refine Nat.le_trans (flat_len (b := 50000) fun p hp => thL ρ hρm p (List.mem_of_mem_take hp)) (Nat.mul_le_mul_right _ ?_)
                rw [List.length_take, List.length_zipIdx]
                omega
              rw [epre2, List.length_append]
              omega
            have lsol := thL ρ hρm (a, j) (List.mem_of_getElem? hjz)
            have eth : thru (Rof l) Cg ρ j a = (sols (Rof l) (exts a.args (Cg a.yes a.name) []) (ρ.body.take j ++ ρ.body.drop (j + 1))).map fun s => fill s ρ.head := rfl
            obtain ⟨so, eso⟩ : ∃ so, so = sols (Rof l) (exts a.args (Cg a.yes a.name) []) (ρ.body.take j ++ ρ.body.drop (j + 1)) := ⟨_, rfl⟩
            rw [eth, ← eso] at tkj
            have lsol2 : so.length ≤ 50000 := by
              have z : (thru (Rof l) Cg ρ j a).length ≤ 50000 := lsol
              rw [eth, ← eso, List.length_map] at z
              exact z
            rw [← eso] at hus
            rw [← epre2] at dD2
            refine ⟨q, rfl, ⟨_, sq_l hq⟩, ?_⟩
            have Dq : q ≠ D := fun z => by rw [z, dD2] at hq; cases hq
            refine for_it (walk_list (xs := us.map V.ref)) (fun i2 σ G3 => ∃ x13, σ = [some (.ref pr), some (.ref pc), some (.ref d), some (.ref D), some (.ref ph), some (.ref pb), some (.int ((j : Nat) : Int)), some (.str a.sign), some (.str a.name), some (.ref pa), some (.ref D3), x11, some (.ref D4), x13] ∧ Off D G2 G3 ∧ SetAt G3 D (uniR (pre2 ++ (so.take i2).map fun s => fill s ρ.head)))
              ⟨_, rfl, fun a o n e => e, by rw [List.take_zero, List.map_nil, List.append_nil]; exact dD2⟩ (fun i2 σ G3 _ z => by obtain ⟨x13, _, k, _⟩ := z; exact sq_l (k _ _ Dq hq)) ?_ ?_
            · rintro i2 x σ _ G4 hj2 ⟨x13, rfl, o3, d3⟩ ⟨rfl, hx⟩
              obtain ⟨u, hu, rfl⟩ := ref_at hx
              obtain ⟨sb, hsb, hsu⟩ := each_at hus hu
              have lus := hus.length
              refine ⟨_, rfl, _, rfl, _, rfl, ph, u, ρ.head, sb, rfl, ((h2.keep (kl3.kS hT)).keep (KeepS.offT dD2 o3)), hsu.offT dD2 o3, ?_, by have := ok.head; omega, fun G5 it s5 n5 hrow => ?_⟩
              · have := List.mem_of_getElem? hsb
                rw [eso] at this
                exact sols_has (less_safe ok.wf ha _ ok.wf.head) this
              have d5 := s5 _ _ d3
              have ul := uni_len (pre2 ++ (so.take i2).map fun s => fill s ρ.head)
              refine ⟨_, _, rfl, DPut.t d5 hrow ?_, _, rfl, (fun a o n e => by rw [upd_ne n]; exact s5 _ _ (o3 a o n e)), ?_⟩
              · unfold sd
                rw [List.length_map]
                rw [List.length_append, List.length_map, List.length_take] at ul
                omega
              · show upd G5 D _ D = _
                rw [upd_same, sd_put, ← uni_snoc, List.take_add_one, hsb]
                simp
            · rintro σ G3 ⟨x13, rfl, o3, d3⟩
              rw [List.length_map, hus.length, List.take_length] at d3
              refine ⟨l2, _, _, _, _, _, _, _, _, rfl, kl3.offD hD o3, hT2.offT dD2 Dn2 o3, Dn2, ?_⟩
              rw [tkj, ← List.append_assoc, ← epre2]
              exact d3
      · rintro σ G2 ⟨l2, x6, x7, x8, x9, x10, x11, x12, x13, rfl, kl2, hT2, Dn2, dD2⟩
        rw [List.length_map, h4.length, List.take_of_length_le (by rw [List.length_zipIdx]; exact Nat.le_refl _)] at dD2
        refine ⟨l2, _, _, _, _, _, _, _, _, _, _, rfl, kl2, hT2, Dn2, ?_⟩
        rw [tk]
        exact dD2
    · rintro σ G ⟨l1, x4, x5, x6, x7, x8, x9, x10, x11, x12, x13, rfl, kl, hT1, Dn, dD⟩
      rw [List.length_map, hts.length, List.take_length] at dD
      exact ⟨_, rfl, kk G D l1 kl hT1 hD Dn dD⟩
end
end KA
set_option Elab.async false
set_option linter.all false
set_option maxRecDepth 100000
set_option maxHeartbeats 4000000
/-! a dict comprehension that a local is set to -/
namespace KA
open PySem PySem.Spec PyProof.Rows L2
theorem swaps_dict {kx vx : Expr} {gs : List Comprehension} {scope : Scope} {pos py : Pos} {y : Str} {l : Nat} {env : Env} (hk : env.scope.kind = .function) (hy : env.scope.names.lookup y = some .local) (hl : (py.line == pos.line) = true)
    (ha : (scope.names.any fun (n, k) => n == y && (k == .local || k == .cell)) = false) : swapsWith (.DictComp kx vx gs scope pos) (some (.Name y py)) l env = pure true := by
  have ky : env.kindOf y = some .local := hy
  have hb : env.blockKind = .function := by unfold Env.blockKind; rw [hk]; rfl
  unfold swapsWith
  simp only [hb, ky, ha, Expr.pos, hl]
  rfl
section
variable {X : Cx} {i : Nat} {y : Str} {py : Pos} {kx vx tg iter : Expr} {ifs : List Expr} {scope : Scope} {own : List (Str × Nat)} {pos spos : Pos} {wi : TI} {g : TG} {tt : TT} {tk tv : TE}
theorem ps_setDict (hc : X.calm = true) (hN : X.N.Nodup) (hy : X.N[i]? = some y) (hyl : X.env.scope.names.lookup y = some .local)
    (sw : swapsWith (.DictComp kx vx [⟨tg, iter, ifs, 0⟩] scope pos) (some (.Name y py)) spos.line X.env = pure true) (hi : PI X tg iter wi) (bo : BlkOk X.N X.env.scope scope own)
    (hg : ∀ s H C cl fp, PG (blkC X scope s H C cl fp) tg g) (ht : ∀ s H C cl fp, PTs (blkC X scope s H C cl fp) ifs tt) (hk : ∀ s H C cl fp, PE (blkC X scope s H C cl fp) kx tk) (hv : ∀ s H C cl fp, PE (blkC X scope s H C cl fp) vx tv)
    (plain : ∀ x, foldedSetIterable iter X.env x = pure x := by intro _; rfl) : PS X (.Assign [.Name y py] (.DictComp kx vx [⟨tg, iter, ifs, 0⟩] scope pos) spos) (tAsg (tDc wi g tt tk tv (own.map (·.2))) (gName i)) := by
  refine ⟨fun pins s σ H D I h => ?_⟩
  rw [exec_Assign_Name_used _ _ _ _ sw]
  refine wpAny_bind (wpAny_standAt (wpAny_bind ?_))
  have h2 : tDc wi g tt tk tv (own.map (·.2)) σ H (fun x H1 => gName i x σ H1 D.nx) := h
  have core := dc_core (pos := pos) (use := some (assign (.Name y py) X.env)) (Qf := fun _ s' => SP X pins D .next s') (pos' := firstIterPos [⟨tg, iter, ifs, 0⟩] pos) hc hN I hi bo hg ht hk hv plain h2
  refine wpAny_bind (thn (core fun M c s' m H' J q hn fr => ?_) fun _ s' hq => wpAny_pure (wpAny_pure hq))
  refine wpAny_assign_Name (store_ok2 (v := V.ref M) J hN hy (.inl hyl) rfl (fun s2 J2 ⟨a, sb, ha⟩ => ?_) (.inr hyl))
  obtain ⟨a0, a1, a2, a3, a4, a5⟩ := fr
  have ca : c ≠ a := by
    rcases ha with rfl | z
    · exact a1
    · exact fun e => a4 y a z e.symm
  exact ⟨m, hn.sameBut sb ca, fun h3 sb3 => ⟨_, H', J2.turned (t' := s2.toks) (fun b o hb e => (sb3.2 b hb).trans e) a0 a1 a3 a4 a5, q⟩⟩
end
end KA
set_option Elab.async false
set_option linter.all false
set_option maxRecDepth 100000
set_option maxHeartbeats 8000000
/-! tables_for -/
namespace KA
open PySem PySem.Spec PyProof.Rows L2
open PySem.W (EachIs)
/-- what a table consists of is new -/
def NewT (H : Hp) (l : List TSt) : Prop := ∀ x ∈ l, H x.T.ix = none ∧ ∀ a ∈ x.own, H a = none
def TSt.nr (x : TSt) : Str × List Row := (x.name, x.rs)
def SetsAt (H : Hp) (ps : Addr) (names : List Str) (S : Str → List Row) : Prop := ∃ kvs, H ps = some (.dK kvs) ∧ ∀ n ∈ names, ∃ a, valV kvs (.inr n) = some (.ref a) ∧ SetAt H a (S n) ∧ (S n).Nodup ∧ (∀ r ∈ S n, r.length ≤ 1000) ∧ (S n).length ≤ 100000
theorem SetsAt.same {H H' : Hp} (s : Same H H') {ps : Addr} {names : List Str} {S : Str → List Row} (h : SetsAt H ps names S) : SetsAt H' ps names S :=
  let ⟨kvs, e, q⟩ := h
  ⟨kvs, s _ _ e, fun n hn => let ⟨a, e1, e2, e3⟩ := q n hn; ⟨a, e1, s _ _ e2, e3⟩⟩
theorem TablesAt.add {P : Program} {w : World} {C : Addr} {U : List Ix} {G G1 : Hp} {D : Addr} {l : List TSt} (h : TablesAt P w C U G D l) (s : Same G G1) {x : TSt} (hT : TableAt P w C U G1 x.T x.rs x.es x.gss) (hn : x.name ∉ l.map (·.name)) (nix : G x.T.ix = none) (nt : G x.T.t = none) (nown : ∀ a ∈ x.own, G a = none) :
    TablesAt P w C U (upd G1 D (.dK ((l ++ [x]).map fun x => (Sum.inr x.name, V.ref x.T.t)))) D (l ++ [x]) := by
  have kd : ∀ {a : Addr} {o : HO}, G1 a = some o → (∀ kvs, o ≠ .dK kvs) → upd G1 D (.dK ((l ++ [x]).map fun x => (Sum.inr x.name, V.ref x.T.t))) a = some o := fun {a o} e n => by
    rw [upd_ne (fun z => by rw [z, s _ _ h.hd] at e; exact n _ (Option.some.inj e).symm)]
    exact e
  have keep : ∀ y : TSt, TableAt P w C U G1 y.T y.rs y.es y.gss → TableAt P w C U (upd G1 D (.dK ((l ++ [x]).map fun x => (Sum.inr x.name, V.ref x.T.t)))) y.T y.rs y.es y.gss := fun y hy => by
    refine hy.keep (fun o e => ?_) (fun o e => ?_) (fun a ha o e => ?_) fun a xs e => kd e fun kvs z => by cases z
    · have := hy.ins
      rw [this] at e
      rw [← e]
      exact kd this fun kvs z => by cases z
    · have := hy.dict.at_
      rw [this] at e
      rw [← e]
      exact kd this fun kvs z => by cases z
    · refine kd e fun kvs z => ?_
      rcases hy.live a ha with ⟨_, q⟩ | ⟨_, q⟩ <;> (rw [q, z] at e; cases e)
  refine ⟨upd_same, ?_, fun y hy => ?_, ?_⟩
  · rw [List.map_append, List.nodup_append]
    refine ⟨h.nn, by simp, fun a ha b hb e => ?_⟩
    rw [List.map_singleton, List.mem_singleton] at hb
    rw [e, hb] at ha
    exact hn ha
  · rcases List.mem_append.mp hy with z | z
    · exact keep y ((h.at_ y z).keep (fun o e => s _ _ e) (fun o e => s _ _ e) (fun a _ o e => s _ _ e) fun a xs e => s _ _ e)
    · rw [List.mem_singleton.mp z]
      exact keep x hT
  · rw [List.pairwise_append]
    refine ⟨h.dj, List.pairwise_singleton _ _, fun y hy b hb => ?_⟩
    rw [List.mem_singleton.mp hb]
    refine ⟨fun z => ?_, fun a ha hb => ?_⟩
    · have := (h.at_ y hy).dict.at_
      rw [z, nix] at this
      cases this
    · obtain ⟨o, e⟩ := h.live hy ha
      rw [nown a hb] at e
      cases e
theorem put_tab {l : List TSt} {x : TSt} (hn : x.name ∉ l.map (·.name)) : putK (l.map fun x => ((Sum.inr x.name : Key), V.ref x.T.t)) (.inr x.name) (.ref x.T.t) = (l ++ [x]).map fun x => (Sum.inr x.name, V.ref x.T.t) := by
  have no : valV (l.map fun x => ((Sum.inr x.name : Key), V.ref x.T.t)) (.inr x.name) = none := by
    induction l with
    | nil => rfl
    | cons y l ih =>
      rw [List.map_cons]
      rw [List.map_cons, List.mem_cons, not_or] at hn
      rw [valV_neg (p := ((Sum.inr y.name : Key), V.ref y.T.t)) (fun z => hn.1 (by injection z with z; exact z.symm))]
      exact ih hn.2
  rw [putK_new _ (by rw [no]), List.map_append]
  rfl
theorem rof_nr {l : List TSt} {names : List Str} {S : Str → List Row} (nn : (l.map (·.name)).Nodup) (e : ∃ pre post, l = pre ++ post ∧ pre.map TSt.nr = names.map fun n => (n, S n)) : ∀ n ∈ names, Rof l n = S n := fun n hn => by
  obtain ⟨pre, post, e1, e2⟩ := e
  have : (n, S n) ∈ pre.map TSt.nr := by rw [e2]; exact List.mem_map.mpr ⟨n, hn, rfl⟩
  obtain ⟨x, hx, ex⟩ := List.mem_map.mp this
  unfold TSt.nr at ex
  injection ex with e3 e4
  rw [← e3, rof_mem nn (by rw [e1]; exact List.mem_append_left _ hx), e4, e3]
theorem nr_names {l : List TSt} {names : List Str} {S : Str → List Row} (e : l.map TSt.nr = names.map fun n => (n, S n)) : l.map (·.name) = names := by
  have := congrArg (List.map fun z : Str × List Row => z.1) e
  rw [List.map_map, List.map_map] at this
  simpa [Function.comp_def, TSt.nr] using this
section
variable {P : Program} {w : World} {K : PySem.W.Frag} {mg : Str → Option Value} {base : Heap} {f : Addr} {fd : FuncData}
/-- the class can be made -/
structure MakeC (P : Program) (w : World) (K : PySem.W.Frag) (mg : Str → Option Value) (base : Heap) (C : Addr) (k : Nat) (ps : List Str) (sp : Sp) : Prop where
  ex : ∃ f fd, Mk K C f ∧ FnOk P w K mg base CX0 k f fd ps sp ∧ Binds K fd ps []
def spTabs (P : Program) (w : World) (C : Addr) (m : Nat) : Sp := fun vs H Q _ => ∃ (pr ps pw : Addr) (own : Str) (rules : List Rul) (S : Str → List Row) (rows : List Row), vs = [.ref pr, .str own, .ref ps, .ref pw] ∧ RulesAt H pr rules ∧ rules.length ≤ 1000 ∧ (bodyNames rules).length ≤ 1000 ∧ (∀ ρ ∈ rules, ρ.body.length ≤ 1000) ∧
  SetsAt H ps (namesB rules own) S ∧ RowsAt H pw rows ∧ (∀ r ∈ rows, r.length ≤ 1000) ∧ rows.length ≤ 100000 ∧
  ∀ H' d l, Same H H' → H d = none → TablesAt P w C (allIx m) H' d l → NewT H l → l.map (·.name) = namesB rules own ++ [own] → (∀ n ∈ namesB rules own, Rof l n = S n) → Rof l own = uniR rows → Q (.ref d) H'
theorem ok_tables_for {C : Addr} {m : Nat} (F : FnP K "tables_for" s_tables_for f fd) (TC : TabC K mg C) (CN : Cal P w K mg base "names_in_bodies" 1 ["rules", "own"] spNamesB) (MI : MakeC P w K mg base C 1 ["self", "rows"] (spInit P w C)) :
    FnOk P w K mg base CX0 3 f fd ["rules", "own", "sets", "rows"] (spTabs P w C m) := by
  obtain ⟨fi, fdi, MK, FI, bI⟩ := MI.ex
  refine F.ok sc_tables_for (fun vs H Q E h => ?_) (fun cdv A outer s H vs Q E hr h => ?_)
  · obtain ⟨pr, ps, pw, own, rules, S, rows, rfl, _⟩ := h
    rfl
  · obtain ⟨pr, ps, pw, own, rules, S, rows, rfl, hrl, l1, l2, l3, hS, hrw, short, few, kk⟩ := h
    have nd := sc_tables_for.nd
    refine ⟨_, PSs.nox (pss_cons (ps_setDict (i := 4) (own := [("name", 5)]) (g := gName 5) (tk := tVar 5) (tv := tMake C (spInit P w C) [] E0 (tCons (tDGet (tVar 2) (tVar 5)) tNil)) (tt := tYes) (by rfl) nd rfl rfl (swaps_dict rfl rfl rfl (by decide +kernel)) (pi_list (pe_cal CN hr.lt (pa_cons (pv 0) (pa_cons (pv 1) pa_nil))))
        (blkOk_by (own := [("name", 5)]) (N := ["rules", "own", "sets", "rows", "tables", "name"]) (sc := defScope s_tables_for) (by decide +kernel)) (fun _ _ _ _ _ => pg_name (i := 5) nd rfl (Or.inl rfl)) (fun _ _ _ _ _ => pts_nil) (fun _ _ _ _ _ => pv 5) (fun _ _ _ _ _ => pe_make MK FI hr.lt (by rfl) TC.mgC bI .nil pass0 (pa_cons (pe_dget hr.u1 (pv 2) (pv 5) (fun _ _ => rfl)) pa_nil)))
      (pss_cons (ps_dput hr.u1 (pv 4) (pv 1) (pe_make MK FI hr.lt (by rfl) TC.mgC bI .nil pass0 (pa_cons (pv 3) pa_nil)) rfl)
      (pss_one (ps_ret (pv 4))))), ?_⟩
    have sz : (2000 : Nat) ≤ sizeLine := by decide
    have bl1 : (bodyNames rules).length ≤ 1000 := l2
    have nnd : (namesB rules own).Nodup := uniS_nd _ _ List.nodup_nil
    have nown : own ∉ namesB rules own := fun hm => by
      unfold namesB uniS at hm
      rcases (uniS_mem _ _).mp hm with z | z
      · cases z
      · have := (List.mem_filter.mp z).2
        simp at this
    have nlen : (namesB rules own).length ≤ 1000 := by
      unfold namesB uniS
      have h1 := uniS_len ((bodyNames rules).filter fun x => !decide (x = own)) []
      have h2 := List.length_filter_le (fun x => !decide (x = own)) (bodyNames rules)
      simp only [List.length_nil] at h1
      omega
    -- a new table behind the heap G
    have made : ∀ (G G3 : Hp) (t dx rw ix : Addr) (U : List Ix) (o : V → Hp → Prop), G t = none → G dx = none → dx ≠ t → (∀ a o, a ≠ t → upd (upd G dx (.own t)) t (.ins C dx []) a = some o → G3 a = some o) → upd (upd G dx (.own t)) t (.ins C dx []) rw = none → upd (upd G dx (.own t)) t (.ins C dx []) ix = none → Same G G3 ∧ G rw = none ∧ G ix = none := fun G G3 t dx rw ix U o ht hdx n k hrw hix => by
      have s2 : Same G (upd (upd G dx (.own t)) t (.ins C dx [])) := fun a o e => by
        rw [upd_ne (ne_of_none e ht), upd_ne (ne_of_none e hdx)]
        exact e
      refine ⟨fun a o e => k a o (ne_of_none e ht) (s2 _ _ e), ?_, ?_⟩
      · cases y : G rw with
        | none => rfl
        | some o => rw [s2 _ _ y] at hrw; cases hrw
      · cases y : G ix with
        | none => rfl
        | some o => rw [s2 _ _ y] at hix; cases hix
    refine ⟨_, rfl, _, rfl, pr, own, rules, rfl, hrl, l1, l2, l3, fun H1 p s1 hp1 hp => ⟨p, rfl, ⟨_, sq_l hp⟩, fun D hD => ?_⟩⟩
    have hD0 : H D = none := by
      cases y : H D with
      | none => rfl
      | some o => rw [s1 _ _ y] at hD; cases hD
    refine out_it (walk_list (xs := (namesB rules own).map V.str)) (fun i G => ∃ li, Same H1 G ∧ TablesAt P w C (allIx m) G D li ∧ NewT H li ∧ li.map TSt.nr = ((namesB rules own).take i).map fun n => (n, S n)) ⟨[], same_new hD, ⟨upd_same, List.nodup_nil, fun x hx => (by cases hx), .nil⟩, fun x hx => (by cases hx), by rw [List.take_zero]; rfl⟩ (fun i G _ z => by obtain ⟨li, z, _⟩ := z; exact sq_l (z _ _ hp)) ?_ ?_
    · rintro i x G0 G hi ⟨li, sG, hT, hN, hli⟩ ⟨rfl, hx⟩
      obtain ⟨n, hn, rfl⟩ := map_at hx
      have hnm := List.mem_of_getElem? hn
      obtain ⟨kvs, hS1, hS2⟩ := hS.same (s1.trans sG)
      obtain ⟨a, e1, e2, e3, e4, e5⟩ := hS2 n hnm
      have et : (namesB rules own).take (i + 1) = (namesB rules own).take i ++ [n] := by rw [List.take_add_one, hn]; rfl
      have nin : n ∉ (namesB rules own).take i := fun z => by
        have : ((namesB rules own).take (i + 1)).Nodup := nnd.sublist (List.take_sublist _ _)
        rw [et, List.nodup_append] at this
        exact this.2.2 n z n (by simp) rfl
      refine ⟨rfl, yes_if ⟨_, rfl, _, rfl, _, rfl, ps, _, rfl, .inl ⟨kvs, .inr n, .inl hS1, rfl, e1.symm⟩, fun t dx ht hdx ndx => ?_⟩⟩
      refine ⟨t, dx, a, S n, rfl, upd_same, .inl ⟨e3, sd (S n), ?_, ?_⟩, e4, e5, fun G3 rw_ ix k hrw hix hTn => ⟨rfl, ?_⟩⟩
      · rw [upd_ne (ne_of_none e2 ht), upd_ne (ne_of_none e2 hdx)]
        exact e2
      · unfold sd
        rw [List.map_map]
        exact List.map_id' _
      obtain ⟨s3, nrw, nix⟩ := made G G3 t dx rw_ ix (allIx m) (fun _ _ => True) ht hdx ndx k hrw hix
      have names := nr_names hli
      have lli : li.length = ((namesB rules own).take i).length := by rw [← names, List.length_map]
      have hTn2 := hTn (allIx m)
      rw [uni_id e3] at hTn2
      refine ⟨_, .inr n, rfl, s3 _ _ hT.hd, ?_, li ++ [⟨n, ⟨t, dx, rw_, ix⟩, S n, [], []⟩], ?_, ?_, ?_, ?_⟩
      · rw [List.length_map, lli, List.length_take]
        omega
      · exact fun b o e => by
          rw [upd_ne (ne_of_none e hD)]
          exact s3 _ _ (sG _ _ e)
      · have := hT.add s3 (x := ⟨n, ⟨t, dx, rw_, ix⟩, S n, [], []⟩) hTn2 (by rw [names]; exact nin) nix ht (fun b hb => by
          rcases List.mem_singleton.mp hb with rfl
          exact nrw)
        rw [put_tab (x := ⟨n, ⟨t, dx, rw_, ix⟩, S n, [], []⟩) (by rw [names]; exact nin)]
        exact this
      · have nn : ∀ b, G b = none → H b = none := fun b e => by
          cases y : H b with
          | none => rfl
          | some o => rw [sG _ _ (s1 _ _ y)] at e; cases e
        intro x hx
        rcases List.mem_append.mp hx with z | z
        · exact hN x z
        · rw [List.mem_singleton.mp z]
          refine ⟨nn _ nix, fun b hb => ?_⟩
          rcases List.mem_singleton.mp hb with rfl
          exact nn _ nrw
      · rw [List.map_append, hli, et, List.map_append]
        rfl
    · rintro G ⟨li, sG, hT, hN, hli⟩
      rw [List.length_map, List.take_length] at hli
      have names := nr_names hli
      have lli : li.length = (namesB rules own).length := by rw [← names, List.length_map]
      have s1G := s1.trans sG
      refine ⟨_, rfl, fun t dx ht hdx ndx => ?_⟩
      obtain ⟨qs, hq1, hq2⟩ := hrw
      have sM : Same G (upd (upd G dx (.own t)) t (.ins C dx [])) := fun a o e => by
        rw [upd_ne (ne_of_none e ht), upd_ne (ne_of_none e hdx)]
        exact e
      refine ⟨t, dx, pw, rows, rfl, upd_same, .inr ⟨qs, sM _ _ (s1G _ _ hq1), hq2.mono fun _ _ z => (z.mono s1G).mono sM⟩, short, few, fun G3 rw_ ix k hrw hix hTn => ⟨rfl, ?_⟩⟩
      obtain ⟨s3, nrw, nix⟩ := made G G3 t dx rw_ ix (allIx m) (fun _ _ => True) ht hdx ndx k hrw hix
      have nn : ∀ b, G b = none → H b = none := fun b e => by
        cases y : H b with
        | none => rfl
        | some o => rw [s1G _ _ y] at e; cases e
      have nin : own ∉ li.map (·.name) := by rw [names]; exact nown
      refine ⟨_, rfl, _, rfl, _, _, rfl, .inl ⟨_, .inr own, s3 _ _ hT.hd, rfl, ?_, rfl⟩, _, rfl, ?_⟩
      · rw [List.length_map, lli]
        omega
      have hfin := hT.add s3 (x := ⟨own, ⟨t, dx, rw_, ix⟩, uniR rows, [], []⟩) (hTn (allIx m)) nin nix ht (fun b hb => by
          rcases List.mem_singleton.mp hb with rfl
          exact nrw)
      rw [put_tab (x := ⟨own, ⟨t, dx, rw_, ix⟩, uniR rows, [], []⟩) nin]
      refine kk _ D (li ++ [⟨own, ⟨t, dx, rw_, ix⟩, uniR rows, [], []⟩]) (fun b o e => ?_) hD0 hfin ?_ ?_ ?_ ?_
      · rw [upd_ne (ne_of_none e hD0)]
        exact s3 _ _ (s1G _ _ e)
      · intro x hx
        rcases List.mem_append.mp hx with z | z
        · exact hN x z
        · rw [List.mem_singleton.mp z]
          refine ⟨nn _ nix, fun b hb => ?_⟩
          rcases List.mem_singleton.mp hb with rfl
          exact nn _ nrw
      · rw [List.map_append, names]
        rfl
      · exact rof_nr hfin.nn ⟨li, _, rfl, hli⟩
      · exact rof_mem hfin.nn (x := ⟨own, ⟨t, dx, rw_, ix⟩, uniR rows, [], []⟩) (List.mem_append_right _ (List.mem_singleton.mpr rfl))
end
end KA
set_option Elab.async false
set_option linter.all false
set_option maxRecDepth 100000
set_option maxHeartbeats 4000000
/-! the smallest set, step by step -/
namespace KA
open PySem PySem.Spec PyProof.Rows L2
def Agrees (rules : List Rul) (T T' : Str → List Row) : Prop := ∀ ρ ∈ rules, ∀ a ∈ ρ.body, T a.name = T' a.name
section
variable {rules : List Rul} {own : Str} {S T T' : Str → List Row} {O hs : List Row}
theorem holdsA_congr {σ : Int → Key} {a : Atm} (h : T a.name = T' a.name) : HoldsA (InT T) σ a ↔ HoldsA (InT T') σ a := by
  unfold HoldsA
  show (if a.yes = true then inst σ a.args ∈ T a.name else ¬ inst σ a.args ∈ T a.name) ↔ (if a.yes = true then inst σ a.args ∈ T' a.name else ¬ inst σ a.args ∈ T' a.name)
  rw [h]
theorem satB_congr (h : Agrees rules T T') {ρ : Rul} (hρ : ρ ∈ rules) {σ : Int → Key} : SatB T σ ρ.body ↔ SatB T' σ ρ.body :=
  ⟨fun q a ha => (holdsA_congr (h ρ hρ a ha)).mp (q a ha), fun q a ha => (holdsA_congr (h ρ hρ a ha)).mpr (q a ha)⟩
theorem through_congr (h : Agrees rules T T') {C : Bool → Str → List Row} {r : Row} : Through T C rules r → Through T' C rules r := by
  rintro ⟨ρ, hρ, σ, k, a, hk, h1, h2, h3⟩
  exact ⟨ρ, hρ, σ, k, a, hk, h1, fun j b n hj => (holdsA_congr (h ρ hρ b (List.mem_of_getElem? hj))).mp (h2 j b n hj), h3⟩
/-- the rows `own` has more of -/
def chg (own : Str) (fresh : List Row) : Bool → Str → List Row := fun y n => if y = true then (if n = own then fresh else []) else []
structure Semi (rules : List Rul) (own : Str) (S : Str → List Row) (O hs : List Row) : Prop where
  nd : O.Nodup
  sub : ∀ r ∈ O, Lst rules own (InT S) r
  hsub : ∀ r ∈ hs, Lst rules own (InT S) r
  cl : ∀ ρ ∈ rules, ∀ σ, SatB (withO own S O) σ ρ.body → inst σ ρ.head ∈ O ∨ inst σ ρ.head ∈ hs
theorem Semi.start (wf : ∀ ρ ∈ rules, WfR own ρ) (h : Agrees rules T (withO own S O)) (nd : O.Nodup) (sub : ∀ r ∈ O, Lst rules own (InT S) r) : Semi rules own S O (uniR (rules.flatMap (allH T))) := by
  refine ⟨nd, sub, fun r hr => ?_, fun ρ hρ σ q => .inr ?_⟩
  · obtain ⟨ρ, hρ, hm⟩ := List.mem_flatMap.mp (uni_mem.mp hr)
    obtain ⟨σ, hs, rfl⟩ := (allH_mem (wf ρ hρ)).mp hm
    exact lst_of wf sub hρ ((satB_congr h hρ).mp hs)
  · exact uni_mem.mpr (List.mem_flatMap.mpr ⟨ρ, hρ, (allH_mem (wf ρ hρ)).mpr ⟨σ, (satB_congr h hρ).mpr q, rfl⟩⟩)
theorem withO_own (own : Str) (S : Str → List Row) (O : List Row) : withO own S O own = O := if_pos rfl
theorem withO_ne {n : Str} (h : ¬ n = own) : withO own S O n = S n := if_neg h
def freshOf (O hs : List Row) : List Row := hs.filter fun r => !memB O r
theorem fresh_mem {r : Row} : r ∈ freshOf O hs ↔ r ∈ hs ∧ r ∉ O := by
  unfold freshOf
  rw [List.mem_filter, Bool.not_eq_true', memB_no]
theorem Semi.next (wf : ∀ ρ ∈ rules, WfR own ρ) (I : Semi rules own S O hs) (hn : hs.Nodup) (h : Agrees rules T (withO own S (O ++ freshOf O hs))) : Semi rules own S (O ++ freshOf O hs) (uniR (rules.flatMap (thruR T (chg own (freshOf O hs))))) := by
  have sub : ∀ r ∈ O ++ freshOf O hs, Lst rules own (InT S) r := fun r hr => by
    rcases List.mem_append.mp hr with z | z
    · exact I.sub r z
    · exact I.hsub r (fresh_mem.mp z).1
  refine ⟨?_, sub, fun r hr => ?_, fun ρ hρ σ q => ?_⟩
  · rw [List.nodup_append]
    exact ⟨I.nd, hn.sublist List.filter_sublist, fun a ha b hb e => (fresh_mem.mp hb).2 (e ▸ ha)⟩
  · obtain ⟨ρ, hρ, σ, k, a, hk, h1, h2, rfl⟩ := through_congr h ((thruR_mem wf).mp (uni_mem.mp hr))
    refine lst_of wf sub hρ fun b hb => ?_
    obtain ⟨j, hj⟩ := List.mem_iff_getElem?.mp hb
    by_cases z : j = k
    · rw [z, hk] at hj
      rw [← Option.some.inj hj]
      unfold chg at h1
      by_cases y : a.yes = true
      · rw [if_pos y] at h1
        by_cases e : a.name = own
        · rw [if_pos e] at h1
          unfold HoldsA
          rw [if_pos y]
          show inst σ a.args ∈ withO own S (O ++ freshOf O hs) a.name
          rw [e, withO_own]
          exact List.mem_append_right _ h1
        · rw [if_neg e] at h1; cases h1
      · rw [if_neg y] at h1; cases h1
    · exact h2 j b z hj
  · by_cases all : ∀ a ∈ ρ.body, a.name = own → inst σ a.args ∈ O
    · have q0 : SatB (withO own S O) σ ρ.body := fun a ha => by
        have := q a ha
        by_cases e : a.name = own
        · unfold HoldsA
          rw [if_pos ((wf ρ hρ).own a ha e)]
          show inst σ a.args ∈ withO own S O a.name
          rw [e, withO_own]
          exact all a ha e
        · exact (holdsA_congr (by rw [withO_ne e, withO_ne e])).mp this
      rcases I.cl ρ hρ σ q0 with z | z
      · exact .inl (List.mem_append_left _ z)
      · by_cases z2 : inst σ ρ.head ∈ O
        · exact .inl (List.mem_append_left _ z2)
        · exact .inl (List.mem_append_right _ (fresh_mem.mpr ⟨z, z2⟩))
    · simp only [Classical.not_forall] at all
      obtain ⟨a, ha, e, no⟩ := all
      obtain ⟨k, hk⟩ := List.mem_iff_getElem?.mp ha
      have y := (wf ρ hρ).own a ha e
      have hf : inst σ a.args ∈ freshOf O hs := by
        have := q a ha
        unfold HoldsA at this
        rw [if_pos y] at this
        have t2 : inst σ a.args ∈ withO own S (O ++ freshOf O hs) a.name := this
        rw [e, withO_own] at t2
        rcases List.mem_append.mp t2 with z | z
        · exact absurd z no
        · exact z
      refine .inr (uni_mem.mpr ((thruR_mem wf).mpr ⟨ρ, hρ, σ, k, a, hk, ?_, fun j b n hj => ?_, rfl⟩))
      · unfold chg
        rw [if_pos y, if_pos e]
        exact hf
      · exact (holdsA_congr (h ρ hρ b (List.mem_of_getElem? hj))).mpr (q b (List.mem_of_getElem? hj))
theorem Semi.done (wf : ∀ ρ ∈ rules, WfR own ρ) (I : Semi rules own S O []) {r : Row} : r ∈ O ↔ Lst rules own (InT S) r :=
  ⟨I.sub r, lst_in wf (fun ρ hρ σ q => (I.cl ρ hρ σ q).elim id fun z => by cases z) r⟩
theorem thru_none (wf : ∀ ρ ∈ rules, WfR own ρ) : uniR (rules.flatMap (thruR T (chg own []))) = [] := by
  cases e : uniR (rules.flatMap (thruR T (chg own []))) with
  | nil => rfl
  | cons r l =>
    have : r ∈ uniR (rules.flatMap (thruR T (chg own []))) := by rw [e]; exact List.mem_cons_self
    obtain ⟨ρ, hρ, σ, k, a, hk, h1, _⟩ := (thruR_mem wf).mp (uni_mem.mp this)
    unfold chg at h1
    split at h1
    · split at h1 <;> cases h1
    · cases h1
end
end KA
set_option Elab.async false
set_option linter.all false
set_option maxRecDepth 100000
set_option maxHeartbeats 8000000
/-! sorted(d, key=f), d a dict whose keys are rows -/
namespace KA
open PySem PySem.Spec PyProof.Rows L2
open PySem.W (EachIs SortsAt KeepsBut sorted_of_sort copyHeap copyHeap_at copyHeap_old keyH_end sortVals)
open PySem.Calls
section
variable {prog : Program} {w : World} {A : Around} {E : Value → Shared → Prop} {s : Shared} {T : String} {r d : Addr} {n : Nat} {P : Nat → Value → Prop} {OK : Heap → Prop}
/-- what an iterable gives, in a list; the heap grows by this list at least -/
theorem collect_grow {R : List Value → Shared → Prop} (src : PySem.W.KdlSrc prog w T r d n P OK) (calm : A.handled = none) (ok : OK s.heap) (few : n ≤ sizeLine)
    (next : ∀ (g : Heap) (tk : Nat) (its : Array Value), (∀ b o, s.heap.get? b = some o → g.get? b = some o) → s.heap.objs.size < g.objs.size → ItemsOf P its n → R its.toList { s with heap := g, toks := tk }) :
    wpAny (model prog w) A (collect (.ref r)) R E s := by
  obtain ⟨r_lt, d_lt⟩ := src.there _ ok
  have here : (s.heap.push { cls := .type "list", data := .seq #[] }).get? s.heap.objs.size = some { cls := .type "list", data := .seq #[] } := Heap.get?_push_size _ rfl
  -- what stands behind the walk
  have last : ∀ (g : Heap) (tk : Nat) (its : Array Value) (c : Nat), (∀ b o, b ≠ s.heap.objs.size → (s.heap.push { cls := .type "list", data := .seq #[] }).get? b = some o → g.get? b = some o) →
      g.get? s.heap.objs.size = some { cls := .type "list", dict := none, data := .seq its c, slots := #[] } → ItemsOf P its n → R its.toList { s with heap := g, toks := tk } :=
    fun g tk its c old now items => next g tk its (fun b o e => old b o (Nat.ne_of_lt (Heap.lt_size e)) (Heap.get?_push_of_some _ e)) (Heap.lt_size now) items
  have walk := PySem.W.kdl_extend (A := A) (s := { s with heap := s.heap.push { cls := .type "list", data := .seq #[] } })
    (R := fun q t => ∃ (g : Heap) (tk : Nat) (its : Array Value) (c : Nat), q = Except.ok (Flow.ret (.ref s.heap.objs.size)) ∧ t = { s with heap := g, toks := tk } ∧ g.get? s.heap.objs.size = some { cls := .type "list", dict := none, data := .seq its c, slots := #[] } ∧ R its.toList { s with heap := g, toks := tk })
    src calm (src.keep _ _ ok fun b _ o e => Heap.get?_push_of_some _ e) s.heap.objs.size (Nat.ne_of_gt r_lt) (Nat.ne_of_gt d_lt) (.ref s.heap.objs.size) 0 here
    (fun g tk its c old now items => ⟨g, tk, its, c, rfl, rfl, now, last g tk its c old now items⟩) few
  unfold collect
  refine wpAny_bind (wpAny_runValue (codeAny_builtin entry_proto_collect' ?_))
  rw [Around.under_plainId PySem.F.plain_proto_collect _]
  refine wpAny_bind (wpAny_newObj_type ?_)
  refine wpAny_pure ⟨plainId_quiet PySem.F.plain_list_iadd _, codeAny_builtin entry_list_iadd' ?_⟩
  rw [Around.under_plainId PySem.F.plain_list_iadd _]
  refine wpAny_mono walk (fun fin t x => ?_) fun e t x => ?_
  · cases fin with
    | done fl =>
      obtain ⟨g, tk, its, c, e, rfl, now, fin⟩ := x
      cases e
      exact wpAny_bind (wpAny_load now (wpAny_pure fin))
    | again code =>
      refine ⟨x.1, codeAny_mono x.2 fun q t2 y => ?_⟩
      obtain ⟨g, tk, its, c, rfl, rfl, now, fin⟩ := y
      exact wpAny_bind (wpAny_load now (wpAny_pure fin))
  · obtain ⟨_, _, _, _, e2, _⟩ := x
    cases e2
end
section
variable {X : Cx}
/-- the sort of a list that was just made -/
theorem sort_bodyK {E : Row → PyData} {f : Addr} (T : Tells E)
    (hS : ∀ (prog : Program) (w : World) (A : Around) (s : Shared) (ks : List Value) (rows : List Row), EachIs (KeyIs1 s.heap E) ks rows → A.units + 12 < cLine → SortsAt prog w A s (rowKind s.heap E) ks)
    (hc : KeyCall X E f) (hu : X.A.units + 64 < cLine) (hx : X.ex = []) {pins : List (Addr × Obj)} {s : Shared} {σ : L2.St} {H : Hp} {Q : VK} {a : Addr} {as : List Addr} {rows : List Row} {hL : Heap} (I : Inv X pins σ H s) (le : s.heap.objs.size ≤ a) (old : ∀ b u, s.heap.get? b = some u → hL.get? b = some u)
    {n : Nat} (ho : hL.get? a = some (seqObj "list" (as.map Value.ref).toArray n)) (hz : as.length ≤ sizeLine) (hrow : EachIs (RowAt H) as rows) (hrl : ∀ r ∈ rows, r.length ≤ 1000) (h0 : ∀ p, H p = none → X.H_0 p = none)
    (q : ∀ (p : Addr) (H' : Hp), Same H H' → H p = none → RowsAt H' p (sortRows rows) → Q (.ref p) H') (E' : Value → Shared → Prop) :
    wpAny (model X.prog X.w) X.A.in1.in1 (Builtin.«list.sort» ⟨[.ref a], [(Str.ofString "key", .ref f)]⟩) (fun fl s' => fl = .done (.ret .none) ∧ EP X pins σ Q (.ref a) s') E' { s with heap := hL } := by
  have hzi : (as.map Value.ref).length ≤ sizeLine := by rw [List.length_map]; exact hz
  rw [ksk_t1]
  have hHa : H a = none := I.hok.fresh le
  obtain ⟨e1, ho1⟩ : ∃ e1, (hL.update a (Obj.mapSeq fun _ => (#[] : Array Value))).get? a = some (seqObj "list" #[] e1) := ⟨_, get?_update_seq ho fun _ => #[]⟩
  have s1 := Heap.SameBut.update hL a (Obj.mapSeq fun _ => (#[] : Array Value))
  have k1 : ∀ b u, s.heap.get? b = some u → (hL.update a (Obj.mapSeq fun _ => (#[] : Array Value))).get? b = some u := fun b u z =>
    (s1.2 b (Nat.ne_of_lt (Nat.lt_of_lt_of_le (Heap.lt_size z) le))).trans (old b u z)
  unfold ksk_tree
  refine wpAny_bind (listItems_at ho rfl ?_)
  refine wpAny_bind (listUpdate_at ho rfl ?_ (by rw [List.size_toArray]; exact hzi) (Nat.zero_le _))
  refine wpAny_bind (seqEpoch_at ho1 rfl ?_)
  refine wpAny_bind (wpAny_newTuple ?_ (by show (as.map Value.ref).toArray.toList.length ≤ _; simpa using hz))
  refine wpAny_bind (wpAny_newList ?_ (Nat.zero_le _))
  refine wpAny_holding ?_
  have I1 : Inv X pins σ (upd H a (nilO a e1)) { s with heap := hL.update a (Obj.mapSeq fun _ => (#[] : Array Value)) } :=
    I.laid (t' := s.toks) k1 le (nilO_ok ho1)
  obtain ⟨hT, ehT⟩ : ∃ hT, hT = (hL.update a (Obj.mapSeq fun _ => (#[] : Array Value))).push (seqObj "tuple" (as.map Value.ref).toArray 0) := ⟨_, rfl⟩
  have I2 : Inv X pins σ (upd H a (nilO a e1)) { s with heap := hT } := I1.kept (t' := s.toks) fun b u z => by rw [ehT]; exact Heap.get?_push_of_some _ z
  obtain ⟨kS, ekS⟩ : ∃ kS, kS = hT.objs.size := ⟨_, rfl⟩
  have hk0 : (upd H a (nilO a e1)) kS = none := I2.hok.fresh (by rw [ekS]; exact Nat.le_refl _)
  have hka : kS ≠ a := fun z => by
    rw [z, upd_same] at hk0
    cases hk0
  have hHk : H kS = none := by
    rw [upd_ne hka] at hk0
    exact hk0
  have nk0 : (hT.push (seqObj "list" #[] 0)).get? kS = some (seqObj "list" #[] 0) := by
    rw [ekS]
    exact Heap.get?_push_size _ rfl
  have I3 : Inv X pins σ (upd (upd H a (nilO a e1)) kS (keysO kS [])) { s with heap := hT.push (seqObj "list" #[] 0) } :=
    I2.laid (t' := s.toks) (fun b u z => Heap.get?_push_of_some _ z) (by rw [ekS]; exact Nat.le_refl _) (keysO_ok (arr := #[]) .nil nk0)
  rw [← ehT]
  show wpAny _ X.A.in1.in1 (ksk_rest a (.ref f) false (as.map Value.ref).toArray e1 (.ref hT.objs.size)) _ _ { s with heap := hT.push (seqObj "list" #[] 0) }
  rw [← ekS]
  unfold ksk_rest
  refine wpAny_bind (wpAny_rule ?_)
  rw [List.forIn_toArray]
  refine wpAny_bind (ksk_fold (fun i s' => ∃ H' kvs, Inv X pins σ H' s' ∧ Same H H' ∧ H' a = some (nilO a e1) ∧ H' kS = some (keysO kS kvs) ∧ EachIs (fun v r => Dp X.K H' v (E r)) kvs (rows.take i)) (as.map Value.ref) 0 _
    ⟨_, [], I3, same_mut (same_mut (Same.refl H) hHa) hHk, by rw [upd_ne hka.symm, upd_same], upd_same, by rw [List.take_zero]; exact .nil⟩ ?step ?done)
  case step =>
    rintro j x s' hxj ⟨H', kvs, I', sm, na, nk, hd⟩
    simp only [Nat.zero_add] at hd ⊢
    rw [List.getElem?_map] at hxj
    cases haj : as[j]? with
    | none => rw [haj] at hxj; cases hxj
    | some p =>
      rw [haj] at hxj
      obtain rfl : Value.ref p = x := Option.some.inj hxj
      obtain ⟨r, hrj, hrp⟩ := each_at hrow haj
      have hj : j < rows.length := (List.getElem?_eq_some_iff.mp hrj).1
      refine wpAny_bind (wpAny_attempt (wpAny_mono (hc pins s' σ H' p r I' (hrp.mono sm) (hrl r (List.mem_of_getElem? hrj))) (fun v s'' he => ?_) fun _ _ hF => hF.elim))
      obtain ⟨kv, H2, I4, sm2, rkv, hdp⟩ := he
      try dsimp only
      obtain ⟨⟨arr, e, va, gk⟩, _, _⟩ := I4.hok kS _ (sm2 _ _ nk)
      have la : arr.size ≤ as.length := by
        have q1 := va.length
        have q2 := hd.length
        rw [List.length_take] at q2
        have q3 := hrow.length
        have q4 : arr.toList.length = arr.size := Array.length_toList
        omega
      obtain ⟨c2, hc2⟩ : ∃ c2, (s''.heap.update kS (Obj.mapSeq (·.push v))).get? kS = some (seqObj "list" (arr.push v) c2) := ⟨_, get?_update_seq gk (·.push v)⟩
      have s3 := Heap.SameBut.update s''.heap kS (Obj.mapSeq (·.push v))
      refine wpAny_bind (listUpdate_at gk rfl ?_ (Nat.le_trans la hz) (Nat.le_trans (Nat.le_of_eq (Array.size_push ..)) (Nat.succ_le_succ (Nat.le_trans la hz))))
      have nk2 : H2 kS = some (keysO kS kvs) := sm2 _ _ nk
      have I5 : Inv X pins σ (upd H2 kS (keysO kS (kvs ++ [kv]))) { s'' with heap := s''.heap.update kS (Obj.mapSeq (·.push v)) } :=
        I4.write (t' := s''.toks) (by rw [nk2]; trivial) (.inl rfl) (fun b u hb z => (s3.2 b hb).trans z) ⟨_, hc2⟩ (keysO_ok (arr := arr.push v) (by rw [Array.toList_push]; exact vals_snoc rkv va) hc2)
      have sd : SameD H2 (upd H2 kS (keysO kS (kvs ++ [kv]))) := upd_ext nk2
      refine wpAny_pure ⟨rfl, _, kvs ++ [kv], I5, same_mut (sm.trans sm2) hHk, by rw [upd_ne hka.symm]; exact sm2 _ _ na, upd_same, ?_⟩
      rw [List.take_add_one, hrj]
      exact each_snoc1 (R := fun v r => Dp X.K (upd H2 kS (keysO kS (kvs ++ [kv]))) v (E r)) (Dp.monoD sd _ _ hdp) (hd.mono fun v r z => Dp.monoD sd _ _ (Dp.mono sm2 z))
  case done =>
    rintro s' ⟨H', kvs, I', sm, na, nk, hd⟩
    have et : rows.take (0 + (as.map Value.ref).length) = rows := List.take_of_length_le (by rw [List.length_map, hrow.length]; omega)
    rw [et] at hd
    obtain ⟨⟨arr, e, va, gk⟩, _, _⟩ := I'.hok kS _ nk
    have ga : s'.heap.get? a = some (seqObj "list" #[] e1) := (I'.hok a _ na).1
    try dsimp only
    refine wpAny_bind (listItems_at gk rfl ?_)
    have hks : EachIs (KeyIs1 s'.heap E) arr.toList rows := dps_reads I' hd va
    have hsz : arr.size = (as.map Value.ref).length := by
      have q1 := hks.length
      rw [Array.length_toList] at q1
      rw [q1, List.length_map, hrow.length]
    obtain ⟨G, gs, gn, J⟩ := I'.untrack nk (fr0_none (h0 kS hHk)) hx
    refine keyH_end (κ := rowKind s'.heap E) (h₁ := G) (fun b o _ z => gs b o z) gn gk ga hka (hS _ _ _ _ _ _ hks (by show X.A.units + 1 + 1 + 12 < _; omega)) hsz hzi fun h3 tk c k3 n3 => ⟨rfl, ?_⟩
    have hout : EachIs (fun v r => ∃ b, v = Value.ref b ∧ RowAt H b r) (sortVals (rowKind s'.heap E) false arr.toList (as.map Value.ref)) (sortRows rows) :=
      PySem.W.sortVals_each (κ := rowKind s'.heap E) (rev := false) (fun r => r) (each_map_l (R := fun v r => ∃ b, v = Value.ref b ∧ RowAt H b r) Value.ref (hrow.mono fun a r z => ⟨a, rfl, z⟩)) (hks.mono fun v r z => rowKind_some T z)
    obtain ⟨bs, eb, hb⟩ := each_refs hout
    rw [eb] at n3
    have nka : (delH H' kS) a = some (nilO a e1) := by
      rw [delH_ne hka.symm]
      exact na
    have J2 : Inv X pins σ (upd (delH H' kS) a (.lst (bs.map V.ref))) { s' with heap := h3, toks := tk } :=
      J.write (t' := tk) (by rw [nka]; trivial) (.inl rfl) (fun b u hbn z => k3 b u hbn z) ⟨_, n3⟩ ⟨by rw [List.length_map, hb.length, (sortRows_perm rows).length_eq, ← hrow.length]; exact hz, bs.map Value.ref, c, vals_refs bs, by simpa using n3⟩
    have sf : Same H (upd (delH H' kS) a (.lst (bs.map V.ref))) := by
      refine same_mut (fun b o z => ?_) hHa
      rw [delH_ne (ne_of_none z hHk)]
      exact sm b o z
    exact ⟨.ref a, _, J2, rfl, q a _ sf hHa ⟨bs, upd_same, hb.mono fun b r z => z.mono sf⟩⟩
def rSortD (X : Cx) (f : Addr) : List V → List V → Hp → VK → Prop := fun vs zs H Q => ∃ (d : Addr) (kvs : List (Row × V)) (rows : List Row), vs = [.ref d] ∧ zs = [.ref f] ∧ H d = some (.dT kvs) ∧ kvs.map (·.1) = rows ∧
  (∀ r ∈ rows, r.length ≤ 1000) ∧ (∀ p, H p = none → X.H_0 p = none) ∧ ∀ (p : Addr) (H' : Hp), Same H H' → H p = none → RowsAt H' p (sortRows rows) → Q (.ref p) H'
theorem dt_rows {H : Hp} : ∀ {kvs : List (Row × V)} {xs : List (Row × Addr × Value)}, Paired (fun (p : Row × V) (q : Row × Addr × Value) => p.1 = q.1 ∧ H q.2.1 = some (.tup (p.1.map kV)) ∧ RelV p.2 q.2.2) kvs xs → EachIs (RowAt H) (xs.map fun x => x.2.1) (kvs.map (·.1))
  | _, _, .nil => .nil
  | _, _, .cons h t => .cons h.2.1 (dt_rows t)
theorem cr_sortKeyD {E : Row → PyData} {f : Addr} (T : Tells E)
    (hS : ∀ (prog : Program) (w : World) (A : Around) (s : Shared) (ks : List Value) (rows : List Row), EachIs (KeyIs1 s.heap E) ks rows → A.units + 12 < cLine → SortsAt prog w A s (rowKind s.heap E) ks)
    (hc : KeyCall X E f) (hu : X.A.units + 64 < cLine) (hx : X.ex = []) (calm : X.calm = true) : CallRK X (.builtin "sorted") [Str.ofString "key"] (rSortD X f) := by
  intro pins s σ H vs zs us ws Q I r rz h
  obtain ⟨d, kvs, rows, rfl, rfl, hd, er, hrl, h0, q⟩ := h
  obtain rfl := Vals.ref1 r
  obtain ⟨w1, rfl, e1⟩ := vals1 rz
  obtain rfl : w1 = Value.ref f := e1
  obtain ⟨len, low, xs, rel, o, es, ep, ho, hx1, hdt, he, hnn⟩ := (show ObjOk X.prog X.w H s.heap d (.dT kvs) from I.hok d _ hd)
  have hrow : EachIs (RowAt H) (xs.map fun x => x.2.1) rows := by rw [← er]; exact dt_rows rel
  have lx : xs.length = kvs.length := (Paired.length rel).symm
  have l1 : es.size = xs.length := by
    have := congrArg List.length he
    rw [List.length_map, Array.length_toList] at this
    exact this
  show wpAny (model X.prog X.w) X.A (call (.builtin "sorted") [.ref d] [(Str.ofString "key", .ref f)]) (EP X pins σ Q) X.xe s
  refine call_function_entry_kw kind_sorted plain_sorted entry_sorted (ksk_s1 _ _) ?_
  unfold Builtin.«sorted»
  refine wpAny_bind (m := checkCount "sorted" 1 1 _) (wpAny_pure ?_)
  refine wpAny_bind (collect_grow (A := X.A.in1) (kdl_raw low hx1 hdt) (I.ok.hd calm) ho (by rw [l1, lx]; exact len) fun h' tk acc hk hgr hacc => ?_)
  have ea : acc.toList = (xs.map fun x => x.2.1).map Value.ref := by
    have hl : acc.toList.length = xs.length := by rw [Array.length_toList, hacc.1]; exact l1
    apply List.ext_getElem?
    intro j
    rw [List.map_map, List.getElem?_map]
    cases hj : acc.toList[j]? with
    | none =>
      have h1 := List.getElem?_eq_none_iff.mp hj
      rw [List.getElem?_eq_none (by omega)]
      all_goals rfl
    | some v =>
      obtain ⟨en, hen, hv⟩ := hacc.2 j v (by rw [← Array.getElem?_toList]; exact hj)
      have qe := entry_at he j
      rw [hen] at qe
      cases hb : xs[j]? with
      | none =>
        rw [hb] at qe
        exact nomatch (show some en = none from qe)
      | some b =>
        rw [hb] at qe
        have e2 : en = entryOfKey (tupleKind (mixKind X.prog X.w)) b := Option.some.inj qe
        rw [hv, e2]
        all_goals rfl
  have hla : acc.toList.length ≤ sizeLine := by rw [ea, List.length_map, List.length_map, lx]; exact len
  refine wpAny_bind (wpAny_newList ?_ hla)
  have hget : (h'.push { cls := .type "list", data := .seq acc.toList.toArray }).get? h'.objs.size = some (seqObj "list" ((xs.map fun x => x.2.1).map Value.ref).toArray 0) := by
    rw [ea]
    exact Heap.get?_push_size _ rfl
  refine wpAny_bind (wpAny_holding (wpAny_call_entry_kw slot_list_sort ⟨_, hget, rfl⟩ entry_list_sort ?body (ksk_l1 _ _)))
  case body =>
    have main := sort_bodyK T hS hc hu hx (I.tok tk) (s := { s with toks := tk }) (Q := Q) (a := h'.objs.size) (hL := h'.push { cls := .type "list", data := .seq acc.toList.toArray }) ?le (fun b u z => Heap.get?_push_of_some _ (hk b u z)) hget (by rw [List.length_map, lx]; exact len) hrow hrl h0 q (fun _ _ => False)
    · refine wpAny_mono main (fun f s' hf => ?_) fun _ _ e => e.elim
      obtain ⟨rfl, hq⟩ := hf
      exact ⟨_, rfl, wpAny_pure ⟨_, rfl, hq⟩⟩
    case le => exact Nat.le_of_lt hgr
end
end KA
set_option Elab.async false
set_option linter.all false
set_option maxRecDepth 100000
set_option maxHeartbeats 4000000
/-! the truth of a dict whose keys are rows -/
namespace KA
open PySem PySem.Spec PyProof.Rows L2
section
variable {X : Cx}
theorem tru_rows : TruR X (fun x H Q => ∃ a kvs, x = .ref a ∧ H a = some (.dT kvs) ∧ Q (!kvs.isEmpty) H) := by
  intro pins s σ H x v Q I rx h
  obtain ⟨a, kvs, rfl, e, q⟩ := h
  obtain rfl : v = Value.ref a := rx
  obtain ⟨z, low, ys, rel, dd⟩ := dt_of I.hok e
  have hl : kvs.length = ys.length := Paired.length rel
  have fits : (ys.length : Int) < 2 ^ 63 := by rw [← hl]; rw [sizeLine_eq] at z; omega
  have yes : ((ys.length : Int) != 0) = !kvs.isEmpty := by
    cases kvs <;> cases ys <;> simp at hl ⊢ <;> omega
  have len : ∀ E : Value → Shared → Prop, wpAny (model X.prog X.w) X.A (runValue (.builtin "len" ⟨[.ref a], []⟩)) (fun r s' => r = .int ys.length (s.toks + 1) ∧ s' = { s with toks := s.toks + 1 + 1 }) E s := fun E => by
    refine wpAny_runValue (codeAny_builtin entry_len ?_)
    rw [Around.under_plainId plain_len _]
    exact wpAny_mono (wpAny_len_body_dictH (Q := fun r s' => r = .int ys.length (s.toks + 1) ∧ s' = { s with toks := s.toks + 1 + 1 }) low dd fits ⟨rfl, rfl⟩) (fun f s' h' => by obtain ⟨r, rfl, hq⟩ := h'; exact hq) fun _ _ e => e
  unfold truthy
  refine wpAny_bind (wpAny_callSpecial?_none (name := Str.ofString "__bool__") dd.typeIs noBool_dict ?_)
  refine wpAny_bind (wpAny_specialOf (name := Str.ofString "__len__") dd.typeIs F.slot_dict_len.lookup ?_)
  refine wpAny_bind (wpAny_mono (len _) (fun r s' h' => ?_) fun _ _ e => e)
  obtain ⟨rfl, rfl⟩ := h'
  exact wpAny_pure (yes ▸ ⟨H, I.tok _, q⟩)
end
end KA
set_option Elab.async false
set_option linter.all false
set_option maxRecDepth 100000
set_option maxHeartbeats 8000000
/-! a table of the dict has more rows -/
namespace KA
open PySem PySem.Spec PyProof.Rows L2
open PySem.W (EachIs)
def repl (l : List TSt) (x' : TSt) : List TSt := l.map fun y => if y.name = x'.name then x' else y
theorem repl_mem {l : List TSt} {x' y : TSt} (h : y ∈ repl l x') : y = x' ∨ (y ∈ l ∧ y.name ≠ x'.name) := by
  obtain ⟨z, hz, e⟩ := List.mem_map.mp h
  split at e
  · exact .inl e.symm
  · rename_i n
    rw [← e]
    exact .inr ⟨hz, n⟩
theorem repl_names (l : List TSt) (x' : TSt) : (repl l x').map (·.name) = l.map (·.name) := by
  unfold repl
  rw [List.map_map]
  refine List.map_congr_left fun y _ => ?_
  show (if y.name = x'.name then x' else y).name = y.name
  split
  · rename_i e; exact e.symm
  · rfl
theorem rof_repl {l : List TSt} {x' : TSt} (n : Str) : Rof (repl l x') n = if n = x'.name ∧ x'.name ∈ l.map (·.name) then x'.rs else Rof l n := by
  unfold Rof repl
  induction l with
  | nil => simp
  | cons y l ih =>
    rw [List.map_cons, List.find?_cons, List.find?_cons]
    by_cases e : y.name = x'.name
    · rw [if_pos e]
      by_cases e2 : x'.name = n
      · rw [decide_eq_true e2]
        rw [if_pos ⟨e2.symm, by rw [List.map_cons]; exact List.mem_cons.mpr (.inl e.symm)⟩]
        rfl
      · rw [decide_eq_false e2, decide_eq_false (by rw [e]; exact e2)]
        dsimp only
        rw [ih, if_neg (fun z => e2 z.1.symm), if_neg (fun z => e2 z.1.symm)]
    · rw [if_neg e]
      by_cases e2 : y.name = n
      · rw [decide_eq_true e2]
        rw [if_neg (fun z => e (e2.trans z.1))]
      · rw [decide_eq_false e2]
        dsimp only
        rw [ih]
        have : (n = x'.name ∧ x'.name ∈ l.map (·.name)) ↔ (n = x'.name ∧ x'.name ∈ (y :: l).map (·.name)) := by
          rw [List.map_cons, List.mem_cons]
          exact ⟨fun z => ⟨z.1, .inr z.2⟩, fun z => ⟨z.1, z.2.elim (fun q => absurd q.symm e) id⟩⟩
        by_cases c : n = x'.name ∧ x'.name ∈ l.map (·.name)
        · rw [if_pos c, if_pos (this.mp c)]
        · rw [if_neg c, if_neg (fun z => c (this.mpr z))]
theorem TablesAt.put {P : Program} {w : World} {C : Addr} {U : List Ix} {H H' : Hp} {d : Addr} {l : List TSt} (h : TablesAt P w C U H d l) {x x' : TSt} (hx : x ∈ l) (en : x'.name = x.name) (eT : x'.T = x.T) (k : ∀ a o, a ∉ x.own → H a = some o → H' a = some o)
    (t : TableAt P w C U H' x'.T x'.rs x'.es x'.gss) (own : ∀ a ∈ x'.own, a ∈ x.own ∨ H a = none) : TablesAt P w C U H' d (repl l x') := by
  have live : ∀ y ∈ l, ∀ a ∈ y.own, ∃ o, H a = some o ∧ ((∃ kvs, o = .dT kvs) ∨ ∃ xs, o = .lst xs) := fun y hy a ha => by
    rcases (h.at_ y hy).live a ha with ⟨kvs, e⟩ | ⟨xs, e⟩
    · exact ⟨_, e, .inl ⟨_, rfl⟩⟩
    · exact ⟨_, e, .inr ⟨_, rfl⟩⟩
  have keepN : ∀ {a : Addr} {o : HO}, H a = some o → (∀ kvs, o ≠ .dT kvs) → (∀ xs, o ≠ .lst xs) → H' a = some o := fun {a o} e n1 n2 => k a o (fun z => by
    obtain ⟨o2, e2, z2⟩ := live x hx a z
    rw [e] at e2
    rcases z2 with ⟨_, q⟩ | ⟨_, q⟩
    · exact n1 _ ((Option.some.inj e2).trans q)
    · exact n2 _ ((Option.some.inj e2).trans q)) e
  have epair : (repl l x').map (fun x => ((Sum.inr x.name : Key), V.ref x.T.t)) = l.map fun x => (Sum.inr x.name, V.ref x.T.t) := by
    unfold repl
    rw [List.map_map]
    refine List.map_congr_left fun y hy => ?_
    show ((Sum.inr (if y.name = x'.name then x' else y).name : Key), V.ref (if y.name = x'.name then x' else y).T.t) = (Sum.inr y.name, V.ref y.T.t)
    split
    · rename_i e
      rw [name_inj h.nn hy hx (e.trans en), ← en, ← eT]
    · rfl
  have dis : ∀ y ∈ l, y.name ≠ x.name → y.T.ix ≠ x.T.ix ∧ (∀ a ∈ y.own, a ∉ x.own) := fun y hy n => by
    obtain ⟨i, hi⟩ := List.mem_iff_getElem?.mp hy
    obtain ⟨j, hj⟩ := List.mem_iff_getElem?.mp hx
    obtain ⟨li, ei⟩ := List.getElem?_eq_some_iff.mp hi
    obtain ⟨lj, ej⟩ := List.getElem?_eq_some_iff.mp hj
    have pw := List.pairwise_iff_getElem.mp h.dj
    have nij : i ≠ j := fun z => n (by subst z; rw [hi] at hj; rw [Option.some.inj hj])
    rcases Nat.lt_or_gt_of_ne nij with lt | lt
    · have := pw i j li lj lt
      rw [ei, ej] at this
      exact this
    · have := pw j i lj li lt
      rw [ei, ej] at this
      exact ⟨fun z => this.1 z.symm, fun a ha hb => this.2 a hb ha⟩
  have keepT : ∀ y ∈ l, y.name ≠ x.name → TableAt P w C U H' y.T y.rs y.es y.gss := fun y hy n => by
    obtain ⟨d1, d2⟩ := dis y hy n
    refine (h.at_ y hy).keep (fun o e => ?_) (fun o e => ?_) (fun a ha o e => k _ _ (d2 a ha) e) fun a xs e => keepN e (fun kvs z => by cases z) fun xs z => by cases z
    · have := (h.at_ y hy).ins
      rw [this] at e
      rw [← e]
      exact keepN this (fun kvs z => by cases z) fun xs z => by cases z
    · have := (h.at_ y hy).dict.at_
      rw [this] at e
      rw [← e]
      exact keepN this (fun kvs z => by cases z) fun xs z => by cases z
  have ownX : ∀ a ∈ x'.own, ∀ y ∈ l, y.name ≠ x.name → a ∉ y.own := fun a ha y hy n hm => by
    rcases own a ha with z | z
    · exact (dis y hy n).2 a hm z
    · obtain ⟨o, e, _⟩ := live y hy a hm
      rw [z] at e
      cases e
  refine ⟨?_, by rw [repl_names]; exact h.nn, fun y hy => ?_, ?_⟩
  · rw [epair]
    exact keepN h.hd (fun kvs z => by cases z) fun xs z => by cases z
  · rcases repl_mem hy with rfl | ⟨z, n⟩
    · exact t
    · exact keepT y z (by rw [← en]; exact n)
  · unfold repl
    rw [List.pairwise_map]
    refine List.Pairwise.imp_of_mem ?_ h.dj
    intro a b ha hb hab
    by_cases e1 : a.name = x'.name
    · by_cases e2 : b.name = x'.name
      · have := name_inj h.nn ha hb (e1.trans e2.symm)
        rw [this] at hab
        exact (hab.1 rfl).elim
      · rw [if_pos e1, if_neg e2, eT]
        have n2 : b.name ≠ x.name := by rw [← en]; exact e2
        exact ⟨fun z => (dis b hb n2).1 z.symm, fun c hc => ownX c hc b hb n2⟩
    · have n1 : a.name ≠ x.name := by rw [← en]; exact e1
      by_cases e2 : b.name = x'.name
      · rw [if_neg e1, if_pos e2, eT]
        exact ⟨(dis a ha n1).1, fun c hc hd => ownX c hd a ha n1 hc⟩
      · rw [if_neg e1, if_neg e2]
        exact hab
/-- the names of a body's atoms -/
theorem body_names {rules : List Rul} {own : Str} {ρ : Rul} (hρ : ρ ∈ rules) {a : Atm} (ha : a ∈ ρ.body) (n : a.name ≠ own) : a.name ∈ namesB rules own := by
  unfold namesB uniS
  refine (uniS_mem _ _).mpr (.inr (List.mem_filter.mpr ⟨?_, by simpa using n⟩))
  unfold bodyNames
  exact List.mem_flatMap.mpr ⟨ρ, hρ, List.mem_map.mpr ⟨a, ha, rfl⟩⟩
theorem filter_less {α : Type} {p : α → Bool} : ∀ {l : List α} {k : Nat} {a : α}, l[k]? = some a → p a = true → ((l.take k ++ l.drop (k + 1)).filter p).length + 1 = (l.filter p).length
  | [], k, a, h, _ => by simp at h
  | x :: l, 0, a, h, hp => by
    have e : x = a := Option.some.inj h
    subst e
    rw [List.take_zero, List.nil_append, List.filter_cons_of_pos hp]
    rfl
  | x :: l, k + 1, a, h, hp => by
    have ih := filter_less (l := l) (k := k) (a := a) h hp
    rw [List.take_succ_cons, List.drop_succ_cons, List.cons_append, List.filter_cons, List.filter_cons]
    split
    · rw [List.length_cons, List.length_cons, ih]
    · exact ih
end KA
set_option Elab.async false
set_option linter.all false
set_option maxRecDepth 100000
set_option maxHeartbeats 8000000
/-! completed -/
namespace KA
open PySem PySem.Spec PyProof.Rows L2
open PySem.W (EachIs)
/-- a rule that the sets' sizes allow -/
structure RulB (m B : Nat) (own : Str) (ρ : Rul) : Prop where
  wf : WfR own ρ
  args : ∀ a ∈ ρ.body, a.args.length ≤ m
  head : ρ.head.length ≤ m
  few : ρ.body.length ≤ 20
  size : B ^ (ρ.body.filter (·.yes)).length ≤ 50000
/-- the tables at a step -/
structure TbOk (P : Program) (w : World) (C : Addr) (m : Nat) (H G : Hp) (d : Addr) (rules : List Rul) (own : Str) (S : Str → List Row) (O : List Row) (l : List TSt) : Prop where
  sm : Same H G
  tb : TablesAt P w C (allIx m) G d l
  nw : NewT H l
  nm : l.map (·.name) = namesB rules own ++ [own]
  st : ∀ n ∈ namesB rules own, Rof l n = S n
  ow : Rof l own = O
theorem disp_facts {G : Hp} {p1 p2 p3 : Addr} {e o1 o2 : HO} (h1 : G p1 = none) (h2 : upd G p1 e p2 = none) (h3 : upd (upd (upd G p1 e) p2 e) p2 o2 p3 = none) :
    Same G (upd (upd (upd (upd (upd G p1 e) p2 e) p2 o2) p3 e) p1 o1) ∧ upd (upd (upd (upd (upd G p1 e) p2 e) p2 o2) p3 e) p1 o1 p1 = some o1 ∧ upd (upd (upd (upd (upd G p1 e) p2 e) p2 o2) p3 e) p1 o1 p2 = some o2 ∧
      upd (upd (upd (upd (upd G p1 e) p2 e) p2 o2) p3 e) p1 o1 p3 = some e ∧ upd (upd (upd (upd G p1 e) p2 e) p2 o2) p3 e p1 = some e := by
  have n12 : p1 ≠ p2 := fun z => by rw [← z, upd_same] at h2; cases h2
  have n23 : p2 ≠ p3 := fun z => by rw [← z, upd_same] at h3; cases h3
  have n13 : p1 ≠ p3 := fun z => by rw [← z, upd_ne n12, upd_ne n12, upd_same] at h3; cases h3
  have g2 : G p2 = none := by rwa [upd_ne n12.symm] at h2
  have g3 : G p3 = none := by rwa [upd_ne n23.symm, upd_ne n23.symm, upd_ne n13.symm] at h3
  refine ⟨fun a o z => ?_, upd_same, ?_, ?_, ?_⟩
  · rw [upd_ne (ne_of_none z h1), upd_ne (ne_of_none z g3), upd_ne (ne_of_none z g2), upd_ne (ne_of_none z g2), upd_ne (ne_of_none z h1)]
    exact z
  · rw [upd_ne n12.symm, upd_ne n23, upd_same]
  · rw [upd_ne n13.symm, upd_same]
  · rw [upd_ne n13, upd_ne n12, upd_ne n12, upd_same]
theorem chg_at {H : Hp} {p1 p2 p3 pf : Addr} {own : Str} {fresh : List Row} (h1 : H p1 = some (.dK [(.inr "yes", .ref p2), (.inr "no", .ref p3)])) (h2 : H p2 = some (.dK [(.inr own, .ref pf)])) (h3 : H p3 = some (.dK [])) (hf : RowsAt H pf fresh) : ChgAt H p1 (chg own fresh) := by
  refine ⟨p2, p3, _, _, h1, h2, h3, fun n => ?_, fun n => .inl ⟨rfl, ?_⟩⟩
  · by_cases e : own = n
    · refine .inr ⟨pf, valV_pos (p := ((Sum.inr own : Key), V.ref pf)) (by rw [e]), ?_⟩
      unfold chg
      rw [if_pos rfl, if_pos e.symm]
      exact hf
    · refine .inl ⟨(valV_neg (p := ((Sum.inr own : Key), V.ref pf)) (fun z => e (by injection z))).trans rfl, ?_⟩
      unfold chg
      rw [if_pos rfl, if_neg (fun z => e z.symm)]
  · unfold chg
    rw [if_neg Bool.false_ne_true]
section
variable {P : Program} {w : World} {C : Addr} {m B : Nat} {H G : Hp} {d : Addr} {rules : List Rul} {own : Str} {S : Str → List Row} {O : List Row} {l : List TSt}
theorem TbOk.agrees (h : TbOk P w C m H G d rules own S O l) : Agrees rules (Rof l) (withO own S O) := fun ρ hρ a ha => by
  by_cases e : a.name = own
  · rw [e, h.ow, withO_own]
  · rw [withO_ne e]
    exact h.st _ (body_names hρ ha e)
theorem TbOk.rul (h : TbOk P w C m H G d rules own S O l) {ρ : Rul} (hρ : ρ ∈ rules) (b : RulB m B own ρ) : RulOk m B l own ρ := ⟨b.wf, fun a ha => by
  rw [h.nm]
  by_cases e : a.name = own
  · rw [e]; exact List.mem_append_right _ (List.mem_singleton.mpr rfl)
  · exact List.mem_append_left _ (body_names hρ ha e), b.args, b.head, b.few, b.size⟩
theorem TbOk.later (h : TbOk P w C m H G d rules own S O l) {l' : List TSt} {G' : Hp} (k : Later l l' G G') (t : TablesAt P w C (allIx m) G' d l') : TbOk P w C m H G' d rules own S O l' := by
  have er := rof_ky k.ky
  have en : l'.map (·.name) = l.map (·.name) := by
    have := congrArg (List.map fun z : Str × Tbl × List Row => z.1) k.ky
    rw [List.map_map, List.map_map] at this
    exact this
  refine ⟨fun a o e => k.off a o (fun x hx z => ?_) (h.sm a o e), t, fun x hx => ?_, en.trans h.nm, fun n hn => by rw [er]; exact h.st n hn, by rw [er]; exact h.ow⟩
  · have := (h.nw x hx).1
    rw [← z, e] at this
    cases this
  · obtain ⟨y, hy, e1, _⟩ := ky_ix k.ky.symm x hx
    refine ⟨by rw [← e1]; exact (h.nw y hy).1, fun a ha => ?_⟩
    rcases k.own x hx a ha with ⟨z, hz, q⟩ | q
    · exact (h.nw z hz).2 a q
    · cases e : H a with
      | none => rfl
      | some o => rw [h.sm _ _ e] at q; cases q
theorem TbOk.same (h : TbOk P w C m H G d rules own S O l) {G' : Hp} (s : Same G G') : TbOk P w C m H G' d rules own S O l := h.later (Later.same s) (h.tb.same s)
theorem TbOk.len (h : TbOk P w C m H G d rules own S O l) (hS : ∀ n ∈ namesB rules own, (S n).length ≤ B) (hO : O.length ≤ B) : ∀ x ∈ l, x.rs.length ≤ B := fun x hx => by
  rw [← rof_mem h.tb.nn hx]
  have : x.name ∈ l.map (·.name) := List.mem_map.mpr ⟨x, hx, rfl⟩
  rw [h.nm] at this
  rcases List.mem_append.mp this with z | z
  · rw [h.st _ z]; exact hS _ z
  · rw [List.mem_singleton.mp z, h.ow]; exact hO
theorem TbOk.own_mem (h : TbOk P w C m H G d rules own S O l) : ∃ x ∈ l, x.name = own ∧ x.rs = O := by
  have : own ∈ l.map (·.name) := by rw [h.nm]; exact List.mem_append_right _ (List.mem_singleton.mpr rfl)
  obtain ⟨x, hx, e⟩ := List.mem_map.mp this
  exact ⟨x, hx, e, by rw [← rof_mem h.tb.nn hx, e, h.ow]⟩
theorem lst_head {r : Row} (h : Lst rules own (InT S) r) (hm : ∀ ρ ∈ rules, ρ.head.length ≤ m) : r.length ≤ m := by
  cases h with
  | mk ρ σ hr _ _ =>
    unfold inst
    rw [List.length_map]
    exact hm ρ hr
end
section
variable {P : Program} {w : World} {K : PySem.W.Frag} {mg : Str → Option Value} {base : Heap} {f : Addr} {fd : FuncData}
def spCompl (P : Program) (w : World) (m B : Nat) : Sp := fun vs H Q _ => ∃ (pr ps pw : Addr) (own : Str) (rules : List Rul) (S : Str → List Row) (rows U : List Row), vs = [.ref pr, .str own, .ref ps, .ref pw] ∧ RulesAt H pr rules ∧ rules.length ≤ 10 ∧ (bodyNames rules).length ≤ 1000 ∧ (∀ ρ ∈ rules, RulB m B own ρ) ∧
  SetsAt H ps (namesB rules own) S ∧ (∀ n ∈ namesB rules own, (S n).length ≤ B) ∧ RowsAt H pw rows ∧ rows.length ≤ 100000 ∧ (∀ r ∈ rows, Lst rules own (InT S) r) ∧ (∀ r, Lst rules own (InT S) r → r ∈ U) ∧ U.length ≤ B ∧
  ∀ H' q O, Same H H' → H q = none → O.Nodup → (∀ r, r ∈ O ↔ Lst rules own (InT S) r) → RowsAt H' q (sortRows O) → Q (.ref q) H'
theorem ok_completed {C : Addr} {m B : Nat} (hm : m ≤ 8) (h1B : 1 ≤ B) (hB : B ≤ 9000) (F : FnP K "completed" s_completed f fd) (TC : TabC K mg C) (gS : mg "sorted" = none)
    (CT : Cal P w K mg base "tables_for" 3 ["rules", "own", "sets", "rows"] (spTabs P w C m)) (CA : Cal P w K mg base "all_heads" 5 ["rules", "tables"] (spAllH P w C m B)) (CW : Cal P w K mg base "without" 1 ["rows", "others"] spWithout)
    (MP : MethC P w K mg base C "put" 2 ["self", "row"] (spPut P w C (allIx m))) (CH : Cal P w K mg base "heads_through" 5 ["rules", "changed", "tables"] (spThru P w C m B)) (CR : Cal P w K mg base "row_rank" 2 ["row"] (spKey K rankRow)) :
    FnOk P w K mg base CX0 6 f fd ["rules", "own", "sets", "rows"] (spCompl P w m B) := by
  obtain ⟨fP, fdP, mP, GP, bP⟩ := MP.ex
  obtain ⟨fR, fdR, gR, kR, bR, GR⟩ := CR
  refine F.ok sc_completed (fun vs H Q E h => ?_) (fun cdv A outer s H vs Q E hr h => ?_)
  · obtain ⟨pr, ps, pw, own, rules, S, rows, U, rfl, _⟩ := h
    rfl
  · obtain ⟨pr, ps, pw, own, rules, S, rows, U, rfl, hrl, l1, l2, rb, hS, hSB, hrw, lrw, sub0, hU, lU, kk⟩ := h
    have nd := sc_completed.nd
    have hcall : ∀ E0 : XK, KeyCall (cxOf CX0 P w K mg base ["rules", "own", "sets", "rows", "tables", "heads", "fresh", "row"] "completed" (defScope s_completed) f cdv A outer s H E0).nox rankRow fR := fun _ => keyCall_of GR bR (hr.mono (by decide))
    refine ⟨_, PSs.nox (pss_cons (ps_set (i := 4) nd rfl (Or.inl rfl) (pe_cal CT hr.lt (pa_cons (pv 0) (pa_cons (pv 1) (pa_cons (pv 2) (pa_cons (pv 3) pa_nil))))))
      (pss_cons (ps_set (i := 5) nd rfl (Or.inl rfl) (pe_cal CA hr.lt (pa_cons (pv 0) (pa_cons (pv 4) pa_nil))))
      (pss_cons (ps_while PassesOwn.never (pt_truthR (pv 5) tru_rows (fun _ => rfl))
        (pss_cons (ps_set (i := 6) nd rfl (Or.inl rfl) (pe_cal CW hr.lt (pa_cons (pv 5) (pa_cons (pe_fld (pe_dget hr.u1 (pv 4) (pv 1) (fun _ _ => rfl)) rfl) pa_nil))))
        (pss_cons (ps_for PassesOwn.never rfl (pi_list (pv 6)) (pg_name (i := 7) nd rfl (Or.inl rfl)) (pss_one (ps_expr (pe_meth (pe_dget hr.u1 (pv 4) (pv 1) (fun _ _ => rfl)) TC.cl mP GP hr.lt bP .nil pass0 (pa_cons (pv 7) pa_nil)))))
        (pss_one (ps_set (i := 5) nd rfl (Or.inl rfl) (pe_cal CH hr.lt (pa_cons (pv 0) (pa_cons (pe_disp (pps_cons pe_str (pe_disp (pps_cons (pv 1) (pv 6) pps_nil) rfl rfl (by simp) (by decide)) (pps_cons pe_str pe_dnewK pps_nil)) rfl rfl (by simp) (by decide)) (pa_cons (pv 4) pa_nil)))))))))
      (pss_one (ps_ret (pe_callBK (cr_sortKeyD tells_rank (fun _ _ _ _ _ _ e u => sorts_rank e u) (hcall _) hr.u64 rfl rfl) (by rfl) gS (by decide +kernel) (pa_cons (pe_fld (pe_dget hr.u1 (pv 4) (pv 1) (fun _ _ => rfl)) rfl) pa_nil) (pk_cons (pe_glob (v := .ref fR) rfl gR rfl) pk_nil))))))), ?_⟩
    have wf : ∀ ρ ∈ rules, WfR own ρ := fun ρ hρ => (rb ρ hρ).wf
    have own_not : own ∉ namesB rules own := fun hm => by
      unfold namesB uniS at hm
      rcases (uniS_mem _ _).mp hm with z | z
      · cases z
      · have := (List.mem_filter.mp z).2
        simp at this
    have big : (12000000 : Nat) ≤ sizeLine := by decide
    have hOB : ∀ O : List Row, O.Nodup → (∀ r ∈ O, Lst rules own (InT S) r) → O.length ≤ U.length := fun O h1 h2 => nodup_le h1 fun r hr => hU r (h2 r hr)
    have rlen : ∀ r, Lst rules own (InT S) r → r.length ≤ m := fun r hr => lst_head hr fun ρ hρ => (rb ρ hρ).head
    refine ⟨_, rfl, _, rfl, _, rfl, _, rfl, pr, ps, pw, own, rules, S, rows, rfl, hrl, by omega, l2, fun ρ hρ => by have := (rb ρ hρ).few; omega, hS, hrw, fun r hr => by have := rlen r (sub0 r hr); omega, lrw, fun H1 d l s1 hd tb nw nm st ow => ?_⟩
    have ok1 : TbOk P w C m H H1 d rules own S (uniR rows) l := ⟨s1, tb, nw, nm, st, ow⟩
    have subU : ∀ r ∈ uniR rows, Lst rules own (InT S) r := fun r hr => sub0 r (uni_mem.mp hr)
    have I0 := Semi.start wf ok1.agrees (uni_nd rows) subU
    refine ⟨_, rfl, _, rfl, pr, d, own, rules, l, rfl, hrl.keep (KeepS.of s1), tb, fun ρ hρ => ok1.rul hρ (rb ρ hρ), by omega, ok1.len hSB (Nat.le_trans (hOB _ (uni_nd rows) subU) lU), fun H2 hp l2 kl tb2 _ _ shd => ?_⟩
    have ok2 := ok1.later kl tb2
    refine ⟨fun n σ G => ∃ l O hs hp x6 x7, σ = [some (.ref pr), some (.str own), some (.ref ps), some (.ref pw), some (.ref d), some (.ref hp), x6, x7] ∧ TbOk P w C m H G d rules own S O l ∧ SetAt G hp hs ∧ hs.Nodup ∧ Semi rules own S O hs ∧ n = 2 * (U.length - O.length) + (if hs = [] then 0 else 1),
      ⟨_, l2, uniR rows, _, hp, none, none, rfl, ok2, shd, uni_nd _, I0, rfl⟩, ?_⟩
    clear I0 shd ok2 tb2 kl ok1 subU tb nw nm st ow
    rintro n σ G ⟨l, O, hs, hp, x6, x7, rfl, ok, shd, nhs, I, en⟩
    obtain ⟨x, hx, exn, exr⟩ := ok.own_mem
    have hT := ok.tb.at_ x hx
    have hval : valV (l.map fun x => ((Sum.inr x.name : Key), V.ref x.T.t)) (.inr own) = some (.ref x.T.t) := by
      rw [← exn]
      exact tab_val ok.tb.nn hx
    refine ⟨_, rfl, hp, sd hs, rfl, shd, ?_⟩
    by_cases he : hs = []
    · subst he
      refine iteF ?_
      have h0 : ∀ p, G p = none → H p = none := fun p hp => by
        cases y : H p with
        | none => rfl
        | some o => rw [ok.sm _ _ y] at hp; cases hp
      refine ⟨_, rfl, _, rfl, d, _, rfl, .inl ⟨_, .inr own, .inl ok.tb.hd, rfl, hval.symm⟩, x.T.t, C, x.T.dx, _, _, rfl, hT.ins, TC.cl, TC.nR, tfs_rows _ _, x.T.rw, sd O, O, rfl, rfl, by rw [← exr]; exact hT.rows, ?_, fun r hr => by have := rlen r (I.sub r hr); omega, h0, fun p H' s' n' hrows => kk H' p O (ok.sm.trans s') (h0 p n') I.nd (fun r => I.done wf) hrows⟩
      unfold sd
      rw [List.map_map]
      exact List.map_id' _
    · have eb : (!(sd hs).isEmpty) = true := by cases hs with | nil => exact absurd rfl he | cons a b => rfl
      rw [eb]
      refine iteT ?_
      -- one turn
      have hsL := I.hsub
      obtain ⟨fresh, efr⟩ : ∃ fresh, fresh = freshOf O hs := ⟨_, rfl⟩
      have hsub : ∀ r ∈ O ++ fresh, Lst rules own (InT S) r := fun r hr => by
        rw [efr] at hr
        rcases List.mem_append.mp hr with z | z
        · exact I.sub r z
        · exact I.hsub r (fresh_mem.mp z).1
      have fnd : fresh.Nodup := by rw [efr]; exact nhs.sublist List.filter_sublist
      have fno : ∀ r ∈ fresh, r ∉ O := fun r hr => by rw [efr] at hr; exact (fresh_mem.mp hr).2
      have ond : (O ++ fresh).Nodup := List.nodup_append.mpr ⟨I.nd, fnd, fun a ha b hb e => fno b hb (e ▸ ha)⟩
      have lof := hOB _ ond hsub
      rw [List.length_append] at lof
      have lhs := hOB _ nhs hsL
      refine ⟨fun σ G => ∃ l x6 x7 hp, σ = [some (.ref pr), some (.str own), some (.ref ps), some (.ref pw), some (.ref d), some (.ref hp), x6, x7] ∧ TbOk P w C m H G d rules own S (O ++ fresh) l ∧ SetAt G hp (uniR (rules.flatMap (thruR (Rof l) (chg own fresh)))), ?_, ?_⟩
      · rintro σ' G' ⟨l', x6', x7', hp', rfl, ok', shd'⟩
        have In := Semi.next wf I nhs (T := Rof l') (by rw [← efr]; exact ok'.agrees)
        rw [← efr] at In
        refine ⟨_, ?_, l', O ++ fresh, _, hp', x6', x7', rfl, ok', shd', uni_nd _, In, rfl⟩
        rw [en, if_neg he, List.length_append]
        by_cases fe : fresh = []
        · rw [fe, thru_none wf, if_pos rfl]
          simp
        · have : 0 < fresh.length := List.length_pos_iff.mpr fe
          split <;> omega
      · refine ⟨_, rfl, _, rfl, _, rfl, d, _, rfl, .inl ⟨_, .inr own, .inl ok.tb.hd, rfl, hval.symm⟩, x.T.t, C, x.T.dx, _, _, rfl, hT.ins, TC.cl, TC.nR, tfs_rows _ _, hp, x.T.rw, hs, O, rfl, shd, by rw [← exr]; exact hT.rows, by omega, fun G1 pf s1 npf hpf => ?_⟩
        obtain ⟨ts, hpf1, hpf2⟩ := hpf
        have efr2 : fresh = hs.filter fun r => !memB O r := efr
        rw [← efr2] at hpf2
        have ok1 := ok.same s1
        refine ⟨_, rfl, pf, rfl, ⟨_, sq_l hpf1⟩, ?_⟩
        refine for_it (walk_list (xs := ts.map V.ref)) (fun j σ G2 => ∃ l2 x7, σ = [some (.ref pr), some (.str own), some (.ref ps), some (.ref pw), some (.ref d), some (.ref hp), some (.ref pf), x7] ∧ TbOk P w C m H G2 d rules own S (O ++ fresh.take j) l2 ∧ G2 pf = some (.lst (ts.map V.ref)) ∧ EachIs (RowAt G2) ts fresh ∧ ∀ x ∈ l2, pf ∉ x.own)
          ⟨l, x7, rfl, by rw [List.take_zero, List.append_nil]; exact ok1, hpf1, hpf2, fun y hy ho => ?_⟩ (fun j σ G2 _ z => by obtain ⟨l2, x7, _, _, z, _⟩ := z; exact sq_l z) ?_ ?_
        · obtain ⟨o, e⟩ := ok.tb.live hy ho
          rw [npf] at e
          cases e
        · rintro j xx σ _ G2 hj ⟨l2, x7, rfl, ok2, f1, f2, nf⟩ ⟨rfl, hxx⟩
          obtain ⟨q, hq, rfl⟩ := ref_at hxx
          obtain ⟨r, hr, hqr⟩ := each_at f2 hq
          have hrm := List.mem_of_getElem? hr
          obtain ⟨y, hy, eyn, eyr⟩ := ok2.own_mem
          have hTy := ok2.tb.at_ y hy
          have hval2 : valV (l2.map fun x => ((Sum.inr x.name : Key), V.ref x.T.t)) (.inr own) = some (.ref y.T.t) := by
            rw [← eyn]
            exact tab_val ok2.tb.nn hy
          have et : fresh.take (j + 1) = fresh.take j ++ [r] := by rw [List.take_add_one, hr]; rfl
          have nr : r ∉ O ++ fresh.take j := fun z => by
            have nd3 : (O ++ fresh.take (j + 1)).Nodup := ond.sublist (List.Sublist.append (List.Sublist.refl _) (List.take_sublist _ _))
            rw [et, ← List.append_assoc, List.nodup_append] at nd3
            exact nd3.2.2 r z r (by simp) rfl
          have ltk : (O ++ fresh.take j).length ≤ U.length := by rw [List.length_append, List.length_take]; omega
          refine ⟨_, rfl, _, rfl, d, _, rfl, .inl ⟨_, .inr own, .inl ok2.tb.hd, rfl, hval2.symm⟩, y.T.t, y.T.dx, _, rfl, hTy.ins, tfs_no (by decide +kernel) (by decide +kernel), _, rfl, y.T, q, r, y.rs, y.es, y.gss, rfl, hqr, ?_, by rw [eyr]; exact nr, hTy, by rw [eyr]; omega, fun G3 gss' k3 hT3 own3 => ?_⟩
          · have := rlen r (hsub r (List.mem_append_right _ hrm))
            omega
          have tb3 := ok2.tb.put hy (x' := { y with rs := y.rs ++ [r], gss := gss' }) rfl rfl k3 hT3 own3
          refine ⟨_, _, rfl, ⟨fun a o e => k3 a o (fun z => ?_) (ok2.sm _ _ e), tb3, fun z hz => ?_, by rw [repl_names]; exact ok2.nm, fun n hn => ?_, ?_⟩, k3 _ _ (nf y hy) f1, f2.mono fun a b z => k3 _ _ (fun w2 => ?_) z, fun z hz ho => ?_⟩
          · have := (ok2.nw y hy).2 a z
            rw [e] at this
            cases this
          · rcases repl_mem hz with rfl | ⟨z2, _⟩
            · refine ⟨(ok2.nw y hy).1, fun a ha => ?_⟩
              rcases own3 a ha with q1 | q1
              · exact (ok2.nw y hy).2 a q1
              · cases e : H a with
                | none => rfl
                | some o => rw [ok2.sm _ _ e] at q1; cases q1
            · exact ok2.nw z z2
          · rw [rof_repl, if_neg]
            · exact ok2.st n hn
            · rintro ⟨z, _⟩
              have z2 : n = own := z.trans eyn
              rw [z2] at hn
              exact own_not hn
          · rw [rof_repl, if_pos ⟨eyn.symm, List.mem_map.mpr ⟨y, hy, rfl⟩⟩, et, ← List.append_assoc, ← eyr]
          · have hRow : G2 a = some (.tup (b.map kV)) := z
            rcases hTy.live a w2 with ⟨_, q1⟩ | ⟨_, q1⟩ <;> (rw [hRow] at q1; cases q1)
          · rcases repl_mem hz with rfl | ⟨z2, _⟩
            · rcases own3 pf ho with q1 | q1
              · exact nf y hy q1
              · rw [f1] at q1; cases q1
            · exact nf z z2 ho
        · rintro σ G2 ⟨l2, x7, rfl, ok2, f1, f2, nf⟩
          rw [List.length_map, hpf2.length, List.take_length] at ok2
          have lf : fresh.length ≤ B := by omega
          refine ⟨_, rfl, fun p1 hp1 => fun p2 hp2 => ⟨_, rfl, _, rfl, upd_same, [(.inr own, .ref pf)], rfl, by show 1 ≤ 15; decide, fun p3 hp3 => ⟨?_, [(.inr "yes", .ref p2), (.inr "no", .ref p3)], rfl, by show 2 ≤ 15; decide, _, rfl, ?_⟩⟩⟩
          · exact (disp_facts (o1 := .dK []) hp1 hp2 hp3).2.2.2.2
          · have em1 : mergeK [] [((.inr own : Key), V.ref pf)] = [((.inr own : Key), V.ref pf)] := rfl
            have em2 : mergeK [] [((.inr ("yes" : Str) : Key), V.ref p2), (.inr ("no" : Str), V.ref p3)] = [((.inr ("yes" : Str) : Key), V.ref p2), (.inr ("no" : Str), V.ref p3)] := by
              show putK [((.inr ("yes" : Str) : Key), V.ref p2)] (.inr ("no" : Str)) (.ref p3) = _
              rw [putK_new _ ((valV_neg (p := ((Sum.inr ("yes" : Str) : Key), V.ref p2)) (show ¬ (Sum.inr ("yes" : Str) : Key) = Sum.inr ("no" : Str) by decide +kernel)).trans rfl)]
              rfl
            obtain ⟨s5, q1, q2, q3, _⟩ := disp_facts (o1 := .dK (mergeK [] [((.inr ("yes" : Str) : Key), V.ref p2), (.inr ("no" : Str), V.ref p3)])) hp1 hp2 hp3
            rw [em2] at q1
            have ok5 := ok2.same s5
            refine ⟨pr, p1, d, own, rules, chg own fresh, l2, rfl, hrl.keep (KeepS.of ok5.sm), chg_at q1 q2 q3 ⟨ts, s5 _ _ f1, f2.mono fun _ _ z => s5 _ _ z⟩, ok5.tb, fun ρ hρ => ok5.rul hρ (rb ρ hρ), l1, ok5.len hSB (by rw [List.length_append]; omega), fun ρ hρ k a ha => ?_, fun G6 hp' l3 kl tb3 _ _ shd' => ?_⟩
            · unfold chg
              by_cases ya : a.yes = true
              · rw [if_pos ya]
                by_cases na : a.name = own
                · rw [if_pos na]
                  refine Nat.le_trans (Nat.mul_le_mul_right _ lf) ?_
                  have := (rb ρ hρ).size
                  rw [← filter_less (p := fun x : Atm => x.yes) ha ya, Nat.pow_succ, Nat.mul_comm] at this
                  exact this
                · rw [if_neg na]
                  simp
              · rw [if_neg ya]
                simp
            · have ok6 := ok5.later kl tb3
              refine ⟨l3, _, _, hp', rfl, ok6, ?_⟩
              rw [rof_ky kl.ky]
              exact shd'
end
end KA
set_option Elab.async false
set_option linter.all false
set_option maxRecDepth 100000
set_option maxHeartbeats 4000000
/-! what is kept of a smallest set when the sets change -/
namespace KA
open PySem PySem.Spec PyProof.Rows L2
def diffR (a b : List Row) : List Row := a.filter fun r => !memB b r
theorem diff_mem {a b : List Row} {r : Row} : r ∈ diffR a b ↔ r ∈ a ∧ r ∉ b := by
  unfold diffR
  rw [List.mem_filter, Bool.not_eq_true', memB_no]
/-- the rows lost and gained under each name -/
def chg2 (names : List Str) (So Sn : Str → List Row) : Bool → Str → List Row := fun y n => if memS names n = true then (if y = true then diffR (So n) (Sn n) else diffR (Sn n) (So n)) else []
section
variable {rules : List Rul} {own : Str} {So Sn T : Str → List Row} {R D hs : List Row}
/-- an atom that may be lost -/
def Shaken (own : Str) (So Sn : Str → List Row) (D : List Row) (σ : Int → Key) (a : Atm) : Prop :=
  if a.name = own then inst σ a.args ∈ D else if a.yes = true then inst σ a.args ∈ So a.name ∧ inst σ a.args ∉ Sn a.name else inst σ a.args ∈ Sn a.name ∧ inst σ a.args ∉ So a.name
structure Doub (rules : List Rul) (own : Str) (So Sn : Str → List Row) (R D hs : List Row) : Prop where
  nd : D.Nodup
  sub : ∀ r ∈ D, r ∈ R
  hsub : ∀ r ∈ hs, r ∈ R
  cl : ∀ ρ ∈ rules, ∀ σ, SatB (withO own So R) σ ρ.body → (∃ a ∈ ρ.body, Shaken own So Sn D σ a) → inst σ ρ.head ∈ D ∨ inst σ ρ.head ∈ hs
/-- heads through rows that were there are heads of the old set -/
theorem thru_old (wf : ∀ ρ ∈ rules, WfR own ρ) (hR : ∀ r, r ∈ R ↔ Lst rules own (InT So) r) (h : Agrees rules T (withO own So R)) {C : Bool → Str → List Row} (hC : ∀ ρ ∈ rules, ∀ a ∈ ρ.body, ∀ σ : Int → Key, inst σ a.args ∈ C a.yes a.name → HoldsA (InT (withO own So R)) σ a) : ∀ r ∈ uniR (rules.flatMap (thruR T C)), r ∈ R := fun r hr => by
  obtain ⟨ρ, hρ, σ, k, a, hk, h1, h2, rfl⟩ := through_congr h ((thruR_mem wf).mp (uni_mem.mp hr))
  refine (hR _).mpr (lst_of wf (fun r hr => (hR r).mp hr) hρ fun b hb => ?_)
  obtain ⟨j, hj⟩ := List.mem_iff_getElem?.mp hb
  by_cases z : j = k
  · rw [z, hk] at hj
    rw [← Option.some.inj hj]
    exact hC ρ hρ a (List.mem_of_getElem? hk) σ h1
  · exact h2 j b z hj
theorem Doub.start (wf : ∀ ρ ∈ rules, WfR own ρ) (hR : ∀ r, r ∈ R ↔ Lst rules own (InT So) r) (h : Agrees rules T (withO own So R)) : Doub rules own So Sn R [] (uniR (rules.flatMap (thruR T (chg2 (namesB rules own) So Sn)))) := by
  refine ⟨List.nodup_nil, fun r z => (by cases z), thru_old wf hR h fun ρ hρ a ha σ hi => ?_, fun ρ hρ σ q ⟨a, ha, hs⟩ => .inr (uni_mem.mpr ((thruR_mem wf).mpr ?_))⟩
  · unfold chg2 at hi
    split at hi
    · rename_i hm
      have ne : ¬ a.name = own := fun e => by
        rw [e] at hm
        have hm2 := memS_iff.mp hm
        unfold namesB uniS at hm2
        rcases (uniS_mem _ _).mp hm2 with z | z
        · cases z
        · have := (List.mem_filter.mp z).2
          simp at this
      unfold HoldsA
      by_cases y : a.yes = true
      · rw [if_pos y] at hi ⊢
        show inst σ a.args ∈ withO own So R a.name
        rw [withO_ne ne]
        exact (diff_mem.mp hi).1
      · rw [if_neg y] at hi ⊢
        show ¬ inst σ a.args ∈ withO own So R a.name
        rw [withO_ne ne]
        exact (diff_mem.mp hi).2
    · cases hi
  obtain ⟨k, hk⟩ := List.mem_iff_getElem?.mp ha
  unfold Shaken at hs
  by_cases e : a.name = own
  · rw [if_pos e] at hs
    cases hs
  · rw [if_neg e] at hs
    refine ⟨ρ, hρ, σ, k, a, hk, ?_, fun j b n hj => (holdsA_congr (h ρ hρ b (List.mem_of_getElem? hj))).mpr (q b (List.mem_of_getElem? hj)), rfl⟩
    unfold chg2
    rw [if_pos (memS_iff.mpr (body_names hρ ha e))]
    by_cases y : a.yes = true
    · rw [if_pos y] at hs ⊢
      exact diff_mem.mpr hs
    · rw [if_neg y] at hs ⊢
      exact diff_mem.mpr hs
def freshD (D R hs : List Row) : List Row := (diffR hs D).filter fun r => memB R r
theorem freshD_mem {r : Row} : r ∈ freshD D R hs ↔ (r ∈ hs ∧ r ∉ D) ∧ r ∈ R := by
  unfold freshD
  rw [List.mem_filter, diff_mem, memB_iff]
theorem Doub.next (wf : ∀ ρ ∈ rules, WfR own ρ) (hR : ∀ r, r ∈ R ↔ Lst rules own (InT So) r) (I : Doub rules own So Sn R D hs) (hn : hs.Nodup) (h : Agrees rules T (withO own So R)) :
    Doub rules own So Sn R (D ++ freshD D R hs) (uniR (rules.flatMap (thruR T (chg own (freshD D R hs))))) := by
  refine ⟨?_, fun r hr => ?_, thru_old wf hR h fun ρ hρ a ha σ hi => ?_, fun ρ hρ σ q ⟨a, ha, hs⟩ => ?_⟩
  · rw [List.nodup_append]
    exact ⟨I.nd, (hn.sublist List.filter_sublist).sublist List.filter_sublist, fun a ha b hb e => (freshD_mem.mp hb).1.2 (e ▸ ha)⟩
  · rcases List.mem_append.mp hr with z | z
    · exact I.sub r z
    · exact (freshD_mem.mp z).2
  · unfold chg at hi
    split at hi
    · rename_i y
      split at hi
      · rename_i e
        unfold HoldsA
        rw [if_pos y]
        show inst σ a.args ∈ withO own So R a.name
        rw [e, withO_own]
        exact (freshD_mem.mp hi).2
      · cases hi
    · cases hi
  · have inR : inst σ ρ.head ∈ R := (hR _).mpr (lst_of wf (fun r hr => (hR r).mp hr) hρ q)
    by_cases z : Shaken own So Sn D σ a
    · rcases I.cl ρ hρ σ q ⟨a, ha, z⟩ with z2 | z2
      · exact .inl (List.mem_append_left _ z2)
      · by_cases z3 : inst σ ρ.head ∈ D
        · exact .inl (List.mem_append_left _ z3)
        · exact .inl (List.mem_append_right _ (freshD_mem.mpr ⟨⟨z2, z3⟩, inR⟩))
    · obtain ⟨k, hk⟩ := List.mem_iff_getElem?.mp ha
      unfold Shaken at hs z
      by_cases e : a.name = own
      · rw [if_pos e] at hs z
        rcases List.mem_append.mp hs with z2 | z2
        · exact absurd z2 z
        · refine .inr (uni_mem.mpr ((thruR_mem wf).mpr ⟨ρ, hρ, σ, k, a, hk, ?_, fun j b n hj => (holdsA_congr (h ρ hρ b (List.mem_of_getElem? hj))).mpr (q b (List.mem_of_getElem? hj)), rfl⟩))
          unfold chg
          rw [if_pos ((wf ρ hρ).own a ha e), if_pos e]
          exact z2
      · rw [if_neg e] at hs z
        exact absurd hs z
theorem Doub.done (wf : ∀ ρ ∈ rules, WfR own ρ) (hR : ∀ r, r ∈ R ↔ Lst rules own (InT So) r) (I : Doub rules own So Sn R D []) : ∀ r, Lst rules own (InT So) r → r ∉ D → Lst rules own (InT Sn) r := by
  intro r hr
  induction hr with
  | mk ρ σ hρ ho hs ih =>
    intro nD
    have q : SatB (withO own So R) σ ρ.body := fun a ha => by
      by_cases e : a.name = own
      · unfold HoldsA
        rw [if_pos ((wf ρ hρ).own a ha e)]
        show inst σ a.args ∈ withO own So R a.name
        rw [e, withO_own]
        exact (hR _).mpr (ho a ha e)
      · exact (holdsA_congr (by rw [withO_ne e])).mp (hs a ha e)
    have no : ∀ a ∈ ρ.body, ¬ Shaken own So Sn D σ a := fun a ha z => by
      rcases I.cl ρ hρ σ q ⟨a, ha, z⟩ with z2 | z2
      · exact nD z2
      · cases z2
    refine .mk ρ σ hρ (fun a ha e => ih a ha e fun z => no a ha ?_) fun a ha e => ?_
    · unfold Shaken
      rw [if_pos e]
      exact z
    · have h1 := hs a ha e
      have h2 := no a ha
      unfold Shaken at h2
      rw [if_neg e] at h2
      unfold HoldsA at h1 ⊢
      by_cases y : a.yes = true
      · rw [if_pos y] at h1 h2 ⊢
        exact Classical.byContradiction fun z => h2 ⟨h1, z⟩
      · rw [if_neg y] at h1 h2 ⊢
        exact fun z => h2 ⟨z, h1⟩
end
end KA
set_option Elab.async false
set_option linter.all false
set_option maxRecDepth 100000
set_option maxHeartbeats 8000000
/-! doubtful -/
namespace KA
open PySem PySem.Spec PyProof.Rows L2
open PySem.W (EachIs)
def kvD : List Str → List Addr → List (Key × V)
  | n :: ns, a :: as => (.inr n, .ref a) :: kvD ns as
  | _, _ => []
theorem kvD_len : ∀ (ns : List Str) (as : List Addr), (kvD ns as).length ≤ ns.length
  | [], _ => by simp [kvD]
  | _ :: _, [] => Nat.zero_le _
  | n :: ns, a :: as => Nat.succ_le_succ (kvD_len ns as)
theorem kvD_val {n : Str} : ∀ {ns : List Str} {as : List Addr}, n ∉ ns → valV (kvD ns as) (.inr n) = none
  | [], as, _ => by cases as <;> rfl
  | _ :: _, [], _ => rfl
  | m :: ns, a :: as, h => by
    rw [List.mem_cons, not_or] at h
    exact (valV_neg (p := ((Sum.inr m : Key), V.ref a)) (fun z => h.1 (by injection z with z; exact z.symm))).trans (kvD_val h.2)
theorem kvD_snoc {n : Str} {a : Addr} : ∀ {ns : List Str} {as : List Addr}, as.length = ns.length → kvD (ns ++ [n]) (as ++ [a]) = kvD ns as ++ [(.inr n, .ref a)]
  | [], [], _ => rfl
  | [], _ :: _, h => by simp at h
  | _ :: _, [], h => by simp at h
  | m :: ns, b :: as, h => by
    show _ :: kvD (ns ++ [n]) (as ++ [a]) = _ :: (kvD ns as ++ _)
    rw [kvD_snoc (by simpa using h)]
theorem kvD_put {n : Str} {a : Addr} {ns : List Str} {as : List Addr} (h : n ∉ ns) (hl : as.length = ns.length) : putK (kvD ns as) (.inr n) (.ref a) = kvD (ns ++ [n]) (as ++ [a]) := by
  rw [putK_new _ (kvD_val h), kvD_snoc hl]
theorem kvD_cr {H : Hp} {Tn : Str → List Row} : ∀ {ns : List Str} {as : List Addr}, EachIs (fun a n => RowsAt H a (Tn n)) as ns → CrAt H (kvD ns as) (fun n => if memS ns n = true then Tn n else [])
  | _, _, .nil => fun n => .inl ⟨rfl, rfl⟩
  | _, _, .cons (a := a) (b := m) (as := as) (bs := ns) h t => fun n => by
    by_cases e : m = n
    · refine .inr ⟨a, valV_pos (p := ((Sum.inr m : Key), V.ref a)) (by rw [e]), ?_⟩
      show RowsAt H a (if memS (m :: ns) n = true then Tn n else [])
      have hm : memS (m :: ns) n = true := memS_iff.mpr (by rw [e]; exact List.mem_cons_self)
      rw [if_pos hm, ← e]
      exact h
    · have e2 : (if memS (m :: ns) n = true then Tn n else []) = if memS ns n = true then Tn n else [] := by
        have : memS (m :: ns) n = memS ns n := by
          unfold memS
          rw [List.any_cons, decide_eq_false e]
          rfl
        rw [this]
      have hv : valV (kvD (m :: ns) (a :: as)) (.inr n) = valV (kvD ns as) (.inr n) := valV_neg (p := ((Sum.inr m : Key), V.ref a)) (fun z => e (by injection z))
      show (valV (kvD (m :: ns) (a :: as)) (.inr n) = none ∧ (if memS (m :: ns) n = true then Tn n else []) = []) ∨ ∃ b, valV (kvD (m :: ns) (a :: as)) (.inr n) = some (.ref b) ∧ RowsAt H b (if memS (m :: ns) n = true then Tn n else [])
      rw [hv, e2]
      exact kvD_cr t n
theorem TbOk.offT {P : Program} {w : World} {C : Addr} {m : Nat} {H G G' : Hp} {d : Addr} {rules : List Rul} {own : Str} {S : Str → List Row} {O : List Row} {l : List TSt} (h : TbOk P w C m H G d rules own S O l) {D : Addr} {ws : List (Row × V)} (hD : G D = some (.dT ws)) (n0 : H D = none) (n : ∀ x ∈ l, D ∉ x.own) (k : Off D G G') : TbOk P w C m H G' d rules own S O l :=
  ⟨fun a o e => k a o (ne_of_none e n0) (h.sm a o e), h.tb.offT hD n k, h.nw, h.nm, h.st, h.ow⟩
theorem diff_it {K : PySem.W.Frag} {G0 : Hp} {pnm q1 q2 D : Addr} {i1 i2 : Nat} {τ : L2.St} {names : List Str} {S1 S2 : Str → List Row} {Qd : Hp → Prop} (hD : G0 D = none) (hn : G0 pnm = some (.lst (names.map V.str))) (nnd : names.Nodup) (nlen : names.length ≤ 1000) (h1 : SetsAt G0 q1 names S1) (h2 : SetsAt G0 q2 names S2)
    (hw : ∀ x, wipe (τ.set 8 (some x)) [8] = τ) (v1 : ∀ x, (τ.set 8 (some x))[i1]? = some (some (.ref q1))) (v2 : ∀ x, (τ.set 8 (some x))[i2]? = some (some (.ref q2))) (v8 : ∀ x, (τ.set 8 (some x))[8]? = some (some x))
    (done : ∀ G as, Same G0 G → G D = some (.dK (kvD names as)) → EachIs (fun a n => RowsAt G a (diffR (S1 n) (S2 n))) as names → Qd G) :
    ∃ W : Nat → Nat → Hp → Prop, (∃ m, W 0 m (upd G0 D (.dK []))) ∧ ∀ i m H, W i m H → ((Itl K pnm).stop i H ∧ Qd H) ∨ ((Itl K pnm).go i H ∧ ∃ Nx : Hp → Prop, (∀ H', Nx H' → ∃ m', m' < m ∧ W (i + 1) m' H') ∧ ∀ x H', (Itl K pnm).yld i H x H' → gName 8 x τ H' fun σ2 H2 => wipe σ2 [8] = τ ∧ tYes σ2 H2 fun b H3 =>
      if b = true then tVar 8 σ2 H3 fun y H4 => tCall spWithout [] E0 (tCons (tDGet (tVar i1) (tVar 8)) (tCons (tDGet (tVar i2) (tVar 8)) tNil)) σ2 H4 fun z H5 => ∃ kvs k, y = kV k ∧ H5 D = some (.dK kvs) ∧ kvs.length < sizeLine ∧ Nx (upd H5 D (.dK (putK kvs k z))) else Nx H3) := by
  have big : (2000 : Nat) ≤ sizeLine := by decide
  refine out_it (walk_list (xs := names.map V.str)) (fun i G => ∃ as, Same G0 G ∧ G D = some (.dK (kvD (names.take i) as)) ∧ EachIs (fun a n => RowsAt G a (diffR (S1 n) (S2 n))) as (names.take i)) ⟨[], same_new hD, by rw [upd_same, List.take_zero]; rfl, by rw [List.take_zero]; exact .nil⟩ (fun i G _ z => by obtain ⟨as, z, _⟩ := z; exact sq_l (z _ _ hn)) ?_ ?_
  · rintro i x G0' G hi ⟨as, sG, dG, he⟩ ⟨rfl, hx⟩
    obtain ⟨n, hnm, rfl⟩ := map_at hx
    have hm := List.mem_of_getElem? hnm
    obtain ⟨k1, a1, a2⟩ := h1.same sG
    obtain ⟨k2, b1, b2⟩ := h2.same sG
    obtain ⟨r1, c1, c2, c3, c4, c5⟩ := a2 n hm
    obtain ⟨r2, d1, d2, _⟩ := b2 n hm
    have et : names.take (i + 1) = names.take i ++ [n] := by rw [List.take_add_one, hnm]; rfl
    have nin : n ∉ names.take i := fun z => by
      have : (names.take (i + 1)).Nodup := nnd.sublist (List.take_sublist _ _)
      rw [et, List.nodup_append] at this
      exact this.2.2 n z n (by simp) rfl
    refine ⟨hw _, yes_if ⟨_, v8 _, _, v1 _, _, v8 _, q1, _, rfl, .inl ⟨k1, .inr n, .inl a1, rfl, c1.symm⟩, _, v2 _, _, v8 _, q2, _, rfl, .inl ⟨k2, .inr n, .inl b1, rfl, d1.symm⟩, r1, r2, S1 n, S2 n, rfl, c2, d2, c5, fun G2 p s2 np hp => ⟨_, .inr n, rfl, s2 _ _ dG, ?_, as ++ [p], ?_, ?_, ?_⟩⟩⟩
    · have := kvD_len (names.take i) as
      rw [List.length_take] at this
      omega
    · exact fun b o e => by rw [upd_ne (ne_of_none e hD)]; exact s2 _ _ (sG _ _ e)
    · rw [upd_same, kvD_put nin he.length, et]
    · have kd : ∀ (a : Addr) (l : List Row), RowsAt G2 a l → ∀ kvs, G2 D = some (.dK kvs) → RowsAt (upd G2 D (.dK (putK (kvD (names.take i) as) (.inr n) (.ref p)))) a l := fun a l ⟨ts, e1, e2⟩ kvs eD =>
        ⟨ts, by rw [upd_ne (fun z => by rw [z, eD] at e1; cases e1)]; exact e1, e2.mono fun t r z => by
          have z' : G2 t = some (.tup (r.map kV)) := z
          show upd G2 D _ t = _
          rw [upd_ne (fun z2 => by rw [z2, eD] at z'; cases z')]
          exact z'⟩
      rw [et]
      exact each_snoc1 (R := fun a m => RowsAt (upd G2 D (.dK (putK (kvD (names.take i) as) (.inr n) (.ref p)))) a (diffR (S1 m) (S2 m))) (kd _ _ hp _ (s2 _ _ dG)) (he.mono fun a m ⟨ts, e1, e2⟩ => kd _ _ ⟨ts, s2 _ _ e1, e2.mono fun _ _ z => s2 _ _ z⟩ _ (s2 _ _ dG))
  · rintro G ⟨as, sG, dG, he⟩
    rw [List.length_map, List.take_length] at dG he
    exact done G as sG dG he
theorem chg2_yes (names : List Str) (So Sn : Str → List Row) : chg2 names So Sn true = fun n => if memS names n = true then diffR (So n) (Sn n) else [] := by
  funext n
  unfold chg2
  rw [if_pos rfl]
theorem chg2_no (names : List Str) (So Sn : Str → List Row) : chg2 names So Sn false = fun n => if memS names n = true then diffR (Sn n) (So n) else [] := by
  funext n
  unfold chg2
  rw [if_neg Bool.false_ne_true]
section
variable {P : Program} {w : World} {K : PySem.W.Frag} {mg : Str → Option Value} {base : Heap} {f : Addr} {fd : FuncData}
def spDoubt (P : Program) (w : World) (m B : Nat) : Sp := fun vs H Q _ => ∃ (pr po pn pw : Addr) (own : Str) (rules : List Rul) (So Sn : Str → List Row) (R : List Row), vs = [.ref pr, .str own, .ref po, .ref pn, .ref pw] ∧ RulesAt H pr rules ∧ rules.length ≤ 10 ∧ (bodyNames rules).length ≤ 1000 ∧ (∀ ρ ∈ rules, RulB m B own ρ) ∧
  SetsAt H po (namesB rules own) So ∧ SetsAt H pn (namesB rules own) Sn ∧ (∀ n ∈ namesB rules own, (So n).length ≤ B) ∧ (∀ ρ ∈ rules, ∀ n ∈ namesB rules own, (diffR (Sn n) (So n)).length * B ^ (ρ.body.filter (·.yes)).length ≤ 50000) ∧
  RowsAt H pw R ∧ R.Nodup ∧ R.length ≤ B ∧ (∀ r, r ∈ R ↔ Lst rules own (InT So) r) ∧ ∀ H' q D, Same H H' → H q = none → SetAt H' q D → (∀ r, Lst rules own (InT So) r → r ∉ D → Lst rules own (InT Sn) r) → Q (.ref q) H'
theorem ok_doubtful {C : Addr} {m B : Nat} (hm : m ≤ 8) (h1B : 1 ≤ B) (hB : B ≤ 9000) (F : FnP K "doubtful" s_doubtful f fd) (TC : TabC K mg C)
    (CT : Cal P w K mg base "tables_for" 3 ["rules", "own", "sets", "rows"] (spTabs P w C m)) (CN : Cal P w K mg base "names_in_bodies" 1 ["rules", "own"] spNamesB) (CW : Cal P w K mg base "without" 1 ["rows", "others"] spWithout)
    (CH : Cal P w K mg base "heads_through" 5 ["rules", "changed", "tables"] (spThru P w C m B)) :
    FnOk P w K mg base CX0 6 f fd ["rules", "own", "olds", "news", "rows"] (spDoubt P w m B) := by
  refine F.ok sc_doubtful (fun vs H Q E h => ?_) (fun cdv A outer s H vs Q E hr h => ?_)
  · obtain ⟨pr, po, pn, pw, own, rules, So, Sn, R, rfl, _⟩ := h
    rfl
  · obtain ⟨pr, po, pn, pw, own, rules, So, Sn, R, rfl, hrl, l1, l2, rb, hSo, hSn, hSB, cg, hrw, hRn, lR, hR, kk⟩ := h
    have nd := sc_doubtful.nd
    refine ⟨_, PSs.nox (pss_cons (ps_set (i := 5) nd rfl (Or.inr rfl) (pe_cal CT hr.lt (pa_cons (pv 0) (pa_cons (pv 1) (pa_cons (pv 2) (pa_cons (pv 4) pa_nil))))))
      (pss_cons (ps_set (i := 6) nd rfl (Or.inl rfl) (pe_cal CN hr.lt (pa_cons (pv 0) (pa_cons (pv 1) pa_nil))))
      (pss_cons (ps_setDict (i := 7) (own := [("name", 8)]) (g := gName 8) (tk := tVar 8) (tv := tCall spWithout [] E0 (tCons (tDGet (tVar 2) (tVar 8)) (tCons (tDGet (tVar 3) (tVar 8)) tNil))) (tt := tYes) (by rfl) nd rfl rfl (swaps_dict rfl rfl rfl (by decide +kernel)) (pi_list (pv 6))
        (blkOk_by (own := [("name", 8)]) (N := ["rules", "own", "olds", "news", "rows", "tables", "names", "lost", "name", "gained", "removed", "heads", "fresh", "row"]) (sc := defScope s_doubtful) (by decide +kernel)) (fun _ _ _ _ _ => pg_name (i := 8) nd rfl (Or.inl rfl)) (fun _ _ _ _ _ => pts_nil) (fun _ _ _ _ _ => pv 8)
        (fun _ _ _ _ _ => pe_cal CW hr.lt (pa_cons (pe_dget hr.u1 (pv 2) (pv 8) (fun _ _ => rfl)) (pa_cons (pe_dget hr.u1 (pv 3) (pv 8) (fun _ _ => rfl)) pa_nil))))
      (pss_cons (ps_setDict (i := 9) (own := [("name", 8)]) (g := gName 8) (tk := tVar 8) (tv := tCall spWithout [] E0 (tCons (tDGet (tVar 3) (tVar 8)) (tCons (tDGet (tVar 2) (tVar 8)) tNil))) (tt := tYes) (by rfl) nd rfl rfl (swaps_dict rfl rfl rfl (by decide +kernel)) (pi_list (pv 6))
        (blkOk_by (own := [("name", 8)]) (N := ["rules", "own", "olds", "news", "rows", "tables", "names", "lost", "name", "gained", "removed", "heads", "fresh", "row"]) (sc := defScope s_doubtful) (by decide +kernel)) (fun _ _ _ _ _ => pg_name (i := 8) nd rfl (Or.inl rfl)) (fun _ _ _ _ _ => pts_nil) (fun _ _ _ _ _ => pv 8)
        (fun _ _ _ _ _ => pe_cal CW hr.lt (pa_cons (pe_dget hr.u1 (pv 3) (pv 8) (fun _ _ => rfl)) (pa_cons (pe_dget hr.u1 (pv 2) (pv 8) (fun _ _ => rfl)) pa_nil))))
      (pss_cons (ps_set (i := 10) nd rfl (Or.inl rfl) pe_dnewT)
      (pss_cons (ps_set (i := 11) nd rfl (Or.inl rfl) (pe_cal CH hr.lt (pa_cons (pv 0) (pa_cons (pe_disp (pps_cons pe_str (pv 7) (pps_cons pe_str (pv 9) pps_nil)) rfl rfl (by simp) (by decide)) (pa_cons (pv 5) pa_nil)))))
      (pss_cons (ps_while PassesOwn.never (pt_truthR (pv 11) tru_rows (fun _ => rfl))
        (pss_cons (ps_setLc (i := 12) (own := [("row", 13)]) (g := gName 13) (tt := tB (tDIn (tVar 13) (tFld K (tDGet (tVar 5) (tVar 1)) "rows"))) (te := tVar 13) (by rfl) nd rfl rfl (sw_true rfl rfl rfl (by decide +kernel)) (pi_list (pe_cal CW hr.lt (pa_cons (pv 11) (pa_cons (pv 10) pa_nil))))
          (blkOk_by (own := [("row", 13)]) (N := ["rules", "own", "olds", "news", "rows", "tables", "names", "lost", "name", "gained", "removed", "heads", "fresh", "row"]) (sc := defScope s_doubtful) (by decide +kernel)) (fun _ _ _ _ _ => pg_name (i := 13) nd rfl (Or.inl rfl)) (fun _ _ _ _ _ => pts_one (pt_cmp (pc_din hr.u1 (pv 13) (pe_fld (pe_dget hr.u1 (pv 5) (pv 1) (fun _ _ => rfl)) rfl)))) (fun _ _ _ _ _ => pv 13))
        (pss_cons (ps_for PassesOwn.never rfl (pi_list (pv 12)) (pg_name (i := 13) nd rfl (Or.inl rfl)) (pss_one (ps_dput hr.u1 (pv 10) (pv 13) pe_bl rfl)))
        (pss_one (ps_set (i := 11) nd rfl (Or.inl rfl) (pe_cal CH hr.lt (pa_cons (pv 0) (pa_cons (pe_disp (pps_cons pe_str (pe_disp (pps_cons (pv 1) (pv 12) pps_nil) rfl rfl (by simp) (by decide)) (pps_cons pe_str pe_dnewK pps_nil)) rfl rfl (by simp) (by decide)) (pa_cons (pv 5) pa_nil)))))))))
      (pss_one (ps_ret (pv 10)))))))))), ?_⟩
    have wf : ∀ ρ ∈ rules, WfR own ρ := fun ρ hρ => (rb ρ hρ).wf
    have rlen : ∀ r, Lst rules own (InT So) r → r.length ≤ m := fun r hr => lst_head hr fun ρ hρ => (rb ρ hρ).head
    have big : (12000000 : Nat) ≤ sizeLine := by decide
    have nnd : (namesB rules own).Nodup := uniS_nd _ _ List.nodup_nil
    have nlen : (namesB rules own).length ≤ 1000 := by
      unfold namesB uniS
      have h1 := uniS_len ((bodyNames rules).filter fun x => !decide (x = own)) []
      have h2 := List.length_filter_le (fun x => !decide (x = own)) (bodyNames rules)
      simp only [List.length_nil] at h1
      omega
    refine ⟨_, rfl, _, rfl, _, rfl, _, rfl, pr, po, pw, own, rules, So, R, rfl, hrl, by omega, l2, fun ρ hρ => by have := (rb ρ hρ).few; omega, hSo, hrw, fun r hr => by have := rlen r ((hR r).mp hr); omega, by omega, fun H1 d l s1 hd tb nw nm st ow => ?_⟩
    rw [uni_id hRn] at ow
    have ok1 : TbOk P w C m H H1 d rules own So R l := ⟨s1, tb, nw, nm, st, ow⟩
    refine ⟨_, rfl, _, rfl, pr, own, rules, rfl, hrl.keep (KeepS.of s1), by omega, l2, fun ρ hρ => by have := (rb ρ hρ).few; omega, fun H2 pnm s2 npn hnm => ?_⟩
    refine ⟨_, rfl, pnm, rfl, ⟨_, sq_l hnm⟩, fun pl hpl => ?_⟩
    refine diff_it hpl hnm nnd nlen (hSo.same (s1.trans s2)) (hSn.same (s1.trans s2)) (fun _ => rfl) (fun _ => rfl) (fun _ => rfl) (fun _ => rfl) fun H3 al s3 hl1 hl2 => ?_
    refine ⟨_, rfl, pnm, rfl, ⟨_, sq_l (s3 _ _ hnm)⟩, fun pg hpg => ?_⟩
    refine diff_it hpg (s3 _ _ hnm) nnd nlen (hSn.same ((s1.trans s2).trans s3)) (hSo.same ((s1.trans s2).trans s3)) (fun _ => rfl) (fun _ => rfl) (fun _ => rfl) (fun _ => rfl) fun H4 ag s4 hg1 hg2 => ?_
    refine fun pd hpd => ?_
    have s5 : Same H4 (upd H4 pd (.dT [])) := same_new hpd
    obtain ⟨H5, eH5⟩ : ∃ H5, H5 = upd H4 pd (.dT []) := ⟨_, rfl⟩
    have fd5 : H5 pd = some (.dT []) := by rw [eH5]; exact upd_same
    rw [← eH5] at s5 ⊢
    have s15 : Same H1 H5 := ((s2.trans s3).trans s4).trans s5
    have ok5 := ok1.same s15
    have n0 : H pd = none := by
      cases y : H pd with
      | none => rfl
      | some o => rw [s4 _ _ (s3 _ _ (s2 _ _ (s1 _ _ y)))] at hpd; cases hpd
    have pdn : ∀ x ∈ l, pd ∉ x.own := fun x hx ho => by
      obtain ⟨o, e⟩ := (ok1.same ((s2.trans s3).trans s4)).tb.live hx ho
      rw [hpd] at e
      cases e
    refine ⟨_, rfl, fun p1 hp1 => ⟨_, rfl, _, rfl, upd_same, [(.inr ("yes" : Str), .ref pl), (.inr ("no" : Str), .ref pg)], rfl, by show 2 ≤ 15; decide, _, rfl, ?_⟩⟩
    have em2 : mergeK [] [((.inr ("yes" : Str) : Key), V.ref pl), (.inr ("no" : Str), V.ref pg)] = [((.inr ("yes" : Str) : Key), V.ref pl), (.inr ("no" : Str), V.ref pg)] := by
      show putK [((.inr ("yes" : Str) : Key), V.ref pl)] (.inr ("no" : Str)) (.ref pg) = _
      rw [putK_new _ ((valV_neg (p := ((Sum.inr ("yes" : Str) : Key), V.ref pl)) (show ¬ (Sum.inr ("yes" : Str) : Key) = Sum.inr ("no" : Str) by decide +kernel)).trans rfl)]
      rfl
    rw [em2]
    obtain ⟨H6, eH6⟩ : ∃ H6, H6 = upd (upd H5 p1 (.dK [])) p1 (.dK [((.inr ("yes" : Str) : Key), V.ref pl), (.inr ("no" : Str), V.ref pg)]) := ⟨_, rfl⟩
    have s6 : Same H5 H6 := fun a o e => by rw [eH6, upd_ne (ne_of_none e hp1), upd_ne (ne_of_none e hp1)]; exact e
    have f1 : H6 p1 = some (.dK [((.inr ("yes" : Str) : Key), V.ref pl), (.inr ("no" : Str), V.ref pg)]) := by rw [eH6]; exact upd_same
    rw [← eH6]
    have ok6 := ok5.same s6
    have kl1 : ∀ {a : Addr} {r : List Row} {G G' : Hp}, Same G G' → RowsAt G a r → RowsAt G' a r := fun s ⟨ts, e1, e2⟩ => ⟨ts, s _ _ e1, e2.mono fun _ _ z => s _ _ z⟩
    have ch6 : ChgAt H6 p1 (chg2 (namesB rules own) So Sn) := by
      refine ⟨pl, pg, _, _, f1, s6 _ _ (s5 _ _ (s4 _ _ hl1)), s6 _ _ (s5 _ _ hg1), ?_, ?_⟩
      · rw [chg2_yes]
        exact kvD_cr (hl2.mono fun a n z => kl1 ((s4.trans s5).trans s6) z)
      · rw [chg2_no]
        exact kvD_cr (hg2.mono fun a n z => kl1 (s5.trans s6) z)
    refine ⟨pr, p1, d, own, rules, chg2 (namesB rules own) So Sn, l, rfl, hrl.keep (KeepS.of ok6.sm), ch6, ok6.tb, fun ρ hρ => ok6.rul hρ (rb ρ hρ), l1, ok6.len hSB lR, fun ρ hρ k a ha => ?_, fun H7 hp l' kl tb7 nhp hpn shp => ?_⟩
    · unfold chg2
      by_cases hm2 : memS (namesB rules own) a.name = true
      · rw [if_pos hm2]
        have hn := memS_iff.mp hm2
        by_cases ya : a.yes = true
        · rw [if_pos ya]
          refine Nat.le_trans (Nat.mul_le_mul_right _ (Nat.le_trans (List.length_filter_le _ _) (hSB _ hn))) ?_
          have := (rb ρ hρ).size
          rw [← filter_less (p := fun x : Atm => x.yes) ha ya, Nat.pow_succ, Nat.mul_comm] at this
          exact this
        · rw [if_neg ya]
          refine Nat.le_trans (Nat.mul_le_mul_left _ (Nat.pow_le_pow_right h1B ?_)) (cg ρ hρ _ hn)
          have sl : ((ρ.body.take k ++ ρ.body.drop (k + 1)).filter (·.yes)).length ≤ (ρ.body.filter (·.yes)).length := by
            have e3 : ρ.body.filter (·.yes) = (ρ.body.take k).filter (·.yes) ++ (ρ.body.drop k).filter (·.yes) := by rw [← List.filter_append, List.take_append_drop]
            rw [e3, List.filter_append, List.length_append, List.length_append]
            have : ((ρ.body.drop (k + 1)).filter (·.yes)).length ≤ ((ρ.body.drop k).filter (·.yes)).length := (List.Sublist.filter _ (List.drop_sublist_drop_left _ (Nat.le_succ k))).length_le
            omega
          exact sl
      · rw [if_neg hm2]
        simp
    have ok7 := ok6.later kl tb7
    have I0 := Doub.start (Sn := Sn) wf hR ok6.agrees
    have fd7 : H7 pd = some (.dT []) := kl.keepS ok6.tb _ _ (fun φ z => by cases z) (s6 _ _ fd5)
    have pdn7 : ∀ x ∈ l', pd ∉ x.own := fun x hx ho => by
      rcases kl.own x hx pd ho with ⟨y, hy, z⟩ | z
      · exact pdn y hy z
      · rw [s6 _ _ fd5] at z; cases z
    refine ⟨fun n σ G => ∃ l D hs hp x12 x13, σ = [some (.ref pr), some (.str own), some (.ref po), some (.ref pn), some (.ref pw), some (.ref d), some (.ref pnm), some (.ref pl), none, some (.ref pg), some (.ref pd), some (.ref hp), x12, x13] ∧ TbOk P w C m H G d rules own So R l ∧ SetAt G pd D ∧ (∀ x ∈ l, pd ∉ x.own) ∧ SetAt G hp hs ∧ hs.Nodup ∧ Doub rules own So Sn R D hs ∧ n = 2 * (R.length - D.length) + (if hs = [] then 0 else 1),
      ⟨_, l', [], _, hp, none, none, rfl, ok7, fd7, pdn7, shp, uni_nd _, I0, rfl⟩, ?_⟩
    rintro n σ G ⟨l, D, hs, hp, x12, x13, rfl, ok, sd_, pdn, shd, nhs, I, en⟩
    refine ⟨_, rfl, hp, sd hs, rfl, shd, ?_⟩
    by_cases he : hs = []
    · subst he
      have eb : (!(sd ([] : List Row)).isEmpty) = false := rfl
      rw [eb]
      refine iteF ⟨_, rfl, kk G pd D ok.sm n0 sd_ (I.done wf hR)⟩
    · have eb : (!(sd hs).isEmpty) = true := by cases hs with | nil => exact absurd rfl he | cons a b => rfl
      rw [eb]
      refine iteT ?_
      obtain ⟨fresh, efr⟩ : ∃ fresh, fresh = freshD D R hs := ⟨_, rfl⟩
      have lhs := nodup_le nhs I.hsub
      have fnd : fresh.Nodup := by rw [efr]; exact (nhs.sublist List.filter_sublist).sublist List.filter_sublist
      have fno : ∀ r ∈ fresh, r ∉ D := fun r hr => by rw [efr] at hr; exact (freshD_mem.mp hr).1.2
      have fR : ∀ r ∈ fresh, r ∈ R := fun r hr => by rw [efr] at hr; exact (freshD_mem.mp hr).2
      have ond : (D ++ fresh).Nodup := List.nodup_append.mpr ⟨I.nd, fnd, fun a ha b hb e => fno b hb (e ▸ ha)⟩
      have lof := nodup_le ond (U := R) fun r hr => (List.mem_append.mp hr).elim (I.sub r) (fR r)
      rw [List.length_append] at lof
      obtain ⟨x, hx, exn, exr⟩ := ok.own_mem
      have hval : valV (l.map fun x => ((Sum.inr x.name : Key), V.ref x.T.t)) (.inr own) = some (.ref x.T.t) := by
        rw [← exn]
        exact tab_val ok.tb.nn hx
      refine ⟨fun σ G => ∃ l x12 x13 hp, σ = [some (.ref pr), some (.str own), some (.ref po), some (.ref pn), some (.ref pw), some (.ref d), some (.ref pnm), some (.ref pl), none, some (.ref pg), some (.ref pd), some (.ref hp), x12, x13] ∧ TbOk P w C m H G d rules own So R l ∧ SetAt G pd (D ++ fresh) ∧ (∀ x ∈ l, pd ∉ x.own) ∧ SetAt G hp (uniR (rules.flatMap (thruR (Rof l) (chg own fresh)))), ?_, ?_⟩
      · rintro σ' G' ⟨l', x12', x13', hp', rfl, ok', sd', pdn', shd'⟩
        have In := Doub.next wf hR I nhs (T := Rof l') ok'.agrees
        rw [← efr] at In
        refine ⟨_, ?_, l', D ++ fresh, _, hp', x12', x13', rfl, ok', sd', pdn', shd', uni_nd _, In, rfl⟩
        rw [en, if_neg he, List.length_append]
        by_cases fe : fresh = []
        · rw [fe, thru_none wf, if_pos rfl]
          simp
        · have : 0 < fresh.length := List.length_pos_iff.mpr fe
          split <;> omega
      · refine ⟨_, rfl, _, rfl, hp, pd, hs, D, rfl, shd, sd_, by omega, fun G1 q s1 nq hq => ?_⟩
        obtain ⟨qs, hq1, hq2⟩ := hq
        have hq3 : EachIs (RowAt G1) qs (diffR hs D) := hq2
        have lq := hq3.length
        have ld : (diffR hs D).length ≤ hs.length := List.length_filter_le _ _
        refine ⟨q, rfl, ⟨_, sq_l hq1⟩, fun D3 hD3 => ?_⟩
        refine lc_same (walk_list (xs := qs.map V.ref)) (diffR hs D) (by rw [List.length_map, lq]) (fun r => memB R r) (fun G v r => ∃ t, v = .ref t ∧ RowAt G t r) (fun G G' v r k ⟨t, e, h⟩ => ⟨t, e, h.tk k⟩) hD3 (fun G sG => sq_l (sG _ _ hq1)) (by rw [List.length_map]; omega) ?_ ?_
        · rintro i y r _ G2 hi hb sG ⟨rfl, hy⟩ Q' Qn k1 k2
          obtain ⟨u, hu, rfl⟩ := ref_at hy
          have hur := (each_get hq3 hu hb).mono sG
          have ok2 := ok.same (s1.trans sG)
          have hT := ok2.tb.at_ x hx
          refine ⟨rfl, if_in (c := memB R r) (fun Q2 z => ⟨_, rfl, _, rfl, _, rfl, d, _, rfl, .inl ⟨_, .inr own, .inl ok2.tb.hd, rfl, hval.symm⟩, x.T.t, C, x.T.dx, _, _, rfl, hT.ins, TC.cl, TC.nR, tfs_rows _ _, x.T.rw, _, rfl, DGet.t hT.rows hur, _, rfl, ?_⟩) (fun hc => ⟨_, rfl, k1 hc _ _ (Same.refl _) ⟨u, rfl, hur⟩⟩) fun hc => k2 hc _ (Same.refl _)⟩
          rw [sd_val, exr]
          cases hm3 : memB R r <;> (rw [hm3] at z; exact z)
        · intro G2 acc s2 ha2 he2
          have he3 : EachIs (fun v r => ∃ t, v = V.ref t ∧ RowAt G2 t r) acc fresh := by rw [efr]; exact he2
          obtain ⟨ts, rfl, hts⟩ := each_list (P := RowAt G2) (fun v r z => z) he3
          have ok2 := ok.same (s1.trans s2)
          have sd2 : SetAt G2 pd D := s2 _ _ (s1 _ _ sd_)
          refine ⟨_, rfl, D3, rfl, ⟨_, sq_l ha2⟩, ?_⟩
          have D3p : D3 ≠ pd := fun z => by rw [z, sd2] at ha2; cases ha2
          refine for_it (walk_list (xs := ts.map V.ref)) (fun j σ G3 => ∃ x13, σ = [some (.ref pr), some (.str own), some (.ref po), some (.ref pn), some (.ref pw), some (.ref d), some (.ref pnm), some (.ref pl), none, some (.ref pg), some (.ref pd), some (.ref hp), some (.ref D3), x13] ∧ Off pd G2 G3 ∧ SetAt G3 pd (D ++ fresh.take j))
            ⟨x13, rfl, fun a o n e => e, by rw [List.take_zero, List.append_nil]; exact sd2⟩ (fun j σ G3 _ z => by obtain ⟨x13, _, k, _⟩ := z; exact sq_l (k _ _ D3p ha2)) ?_ ?_
          · rintro j y σ _ G3 hj ⟨x13, rfl, o3, d3⟩ ⟨rfl, hy⟩
            obtain ⟨u, hu, rfl⟩ := ref_at hy
            obtain ⟨r, hr, hur⟩ := each_at hts hu
            have hur3 : RowAt G3 u r := o3 _ _ (fun z => by
              have hu2 : G2 u = some (.tup (r.map kV)) := hur
              rw [z, sd2] at hu2
              cases hu2) hur
            have et : fresh.take (j + 1) = fresh.take j ++ [r] := by rw [List.take_add_one, hr]; rfl
            have nr : memB (D ++ fresh.take j) r = false := memB_no.mpr fun z => by
              have nd3 : (D ++ fresh.take (j + 1)).Nodup := ond.sublist (List.Sublist.append (List.Sublist.refl _) (List.take_sublist _ _))
              rw [et, ← List.append_assoc, List.nodup_append] at nd3
              exact nd3.2.2 r z r (by simp) rfl
            refine ⟨_, rfl, _, rfl, _, _, rfl, DPut.t d3 hur3 ?_, _, rfl, (fun a o n e => by rw [upd_ne n]; exact o3 a o n e), ?_⟩
            · unfold sd
              rw [List.length_map, List.length_append, List.length_take]
              omega
            · show upd G3 pd _ pd = _
              rw [upd_same, sd_put]
              unfold addR
              rw [nr, if_neg Bool.false_ne_true, et, List.append_assoc]
          · rintro σ G3 ⟨x13, rfl, o3, d3⟩
            rw [List.length_map, hts.length, List.take_length] at d3
            have pdn2 : ∀ x ∈ l, pd ∉ x.own := pdn
            have ok3 := ok2.offT sd2 n0 pdn o3
            have f1 : G3 D3 = some (.lst (ts.map V.ref)) := o3 _ _ D3p ha2
            have f2 : EachIs (RowAt G3) ts fresh := hts.mono fun u r z => o3 _ _ (fun z2 => by
              have hu2 : G2 u = some (.tup (r.map kV)) := z
              rw [z2, sd2] at hu2
              cases hu2) z
            refine ⟨_, rfl, fun p1 hp1 => fun p2 hp2 => ⟨_, rfl, _, rfl, upd_same, [(.inr own, .ref D3)], rfl, by show 1 ≤ 15; decide, fun p3 hp3 => ⟨?_, [(.inr ("yes" : Str), .ref p2), (.inr ("no" : Str), .ref p3)], rfl, by show 2 ≤ 15; decide, _, rfl, ?_⟩⟩⟩
            · exact (disp_facts (o1 := .dK []) hp1 hp2 hp3).2.2.2.2
            · have em1 : mergeK [] [((.inr own : Key), V.ref D3)] = [((.inr own : Key), V.ref D3)] := rfl
              have em2 : mergeK [] [((.inr ("yes" : Str) : Key), V.ref p2), (.inr ("no" : Str), V.ref p3)] = [((.inr ("yes" : Str) : Key), V.ref p2), (.inr ("no" : Str), V.ref p3)] := by
                show putK [((.inr ("yes" : Str) : Key), V.ref p2)] (.inr ("no" : Str)) (.ref p3) = _
                rw [putK_new _ ((valV_neg (p := ((Sum.inr ("yes" : Str) : Key), V.ref p2)) (show ¬ (Sum.inr ("yes" : Str) : Key) = Sum.inr ("no" : Str) by decide +kernel)).trans rfl)]
                rfl
              obtain ⟨s5, q1, q2, q3, _⟩ := disp_facts (o1 := .dK (mergeK [] [((.inr ("yes" : Str) : Key), V.ref p2), (.inr ("no" : Str), V.ref p3)])) hp1 hp2 hp3
              rw [em2] at q1
              have ok5 := ok3.same s5
              refine ⟨pr, p1, d, own, rules, chg own fresh, l, rfl, hrl.keep (KeepS.of ok5.sm), chg_at q1 q2 q3 ⟨ts, s5 _ _ f1, f2.mono fun _ _ z => s5 _ _ z⟩, ok5.tb, fun ρ hρ => ok5.rul hρ (rb ρ hρ), l1, ok5.len hSB lR, fun ρ hρ k a ha => ?_, fun G6 hp' l3 kl tb3 _ _ shd' => ?_⟩
              · unfold chg
                by_cases ya : a.yes = true
                · rw [if_pos ya]
                  by_cases na : a.name = own
                  · rw [if_pos na]
                    refine Nat.le_trans (Nat.mul_le_mul_right _ (show fresh.length ≤ B by omega)) ?_
                    have := (rb ρ hρ).size
                    rw [← filter_less (p := fun x : Atm => x.yes) ha ya, Nat.pow_succ, Nat.mul_comm] at this
                    exact this
                  · rw [if_neg na]
                    simp
                · rw [if_neg ya]
                  simp
              · have ok6 := ok5.later kl tb3
                refine ⟨l3, _, _, hp', rfl, ok6, kl.keepS ok5.tb _ _ (fun φ z => by cases z) (s5 _ _ d3), fun y hy ho => ?_, ?_⟩
                · rcases kl.own y hy pd ho with ⟨z, hz, q⟩ | q
                  · exact pdn z hz q
                  · rw [s5 _ _ d3] at q; cases q
                · rw [rof_ky kl.ky]
                  exact shd'
end
end KA
set_option Elab.async false
set_option linter.all false
set_option maxRecDepth 100000
set_option maxHeartbeats 8000000
/-! least_set, updated_set -/
namespace KA
open PySem PySem.Spec PyProof.Rows L2
open PySem.W (EachIs)
/-- rules that may be asked -/
structure RulsB (m B : Nat) (own : Str) (rules : List Rul) : Prop where
  few : rules.length ≤ 10
  names : (bodyNames rules).length ≤ 1000
  each : ∀ ρ ∈ rules, RulB m B own ρ
section
variable {P : Program} {w : World} {K : PySem.W.Frag} {mg : Str → Option Value} {base : Heap} {f : Addr} {fd : FuncData}
def spLeast (m B : Nat) : Sp := fun vs H Q _ => ∃ (pr ps : Addr) (own : Str) (rules : List Rul) (S : Str → List Row) (U : List Row), vs = [.ref pr, .str own, .ref ps] ∧ RulesAt H pr rules ∧ RulsB m B own rules ∧ SetsAt H ps (namesB rules own) S ∧ (∀ n ∈ namesB rules own, (S n).length ≤ B) ∧
  (∀ r, Lst rules own (InT S) r → r ∈ U) ∧ U.length ≤ B ∧ ∀ H' q O, Same H H' → H q = none → O.Nodup → (∀ r, r ∈ O ↔ Lst rules own (InT S) r) → RowsAt H' q (sortRows O) → Q (.ref q) H'
theorem ok_least_set {m B : Nat} (F : FnP K "least_set" s_least_set f fd) (CC : Cal P w K mg base "completed" 6 ["rules", "own", "sets", "rows"] (spCompl P w m B)) : FnOk P w K mg base CX0 7 f fd ["rules", "own", "sets"] (spLeast m B) := by
  refine F.ok sc_least_set (fun vs H Q E h => ?_) (fun cdv A outer s H vs Q E hr h => ?_)
  · obtain ⟨pr, ps, own, rules, S, U, rfl, _⟩ := h
    rfl
  · obtain ⟨pr, ps, own, rules, S, U, rfl, hrl, rb, hS, hSB, hU, lU, kk⟩ := h
    refine ⟨_, PSs.nox (pss_one (ps_ret (pe_cal CC hr.lt (pa_cons (pv 0) (pa_cons (pv 1) (pa_cons (pv 2) (pa_cons (pe_lst pa_nil) pa_nil))))))), ?_⟩
    refine ⟨_, rfl, _, rfl, _, rfl, Nat.zero_le _, fun p hp => ?_⟩
    have s1 : Same H (upd H p (.lst [])) := same_new hp
    refine ⟨pr, ps, p, own, rules, S, [], U, rfl, hrl.keep (KeepS.of s1), rb.few, rb.names, rb.each, hS.same s1, hSB, ⟨[], upd_same, .nil⟩, Nat.zero_le _, fun r hr => (by cases hr), hU, lU, fun H' q O s' nq nd hO hq => kk H' q O (s1.trans s') ?_ nd hO hq⟩
    cases y : H q with
    | none => rfl
    | some o => rw [s1 _ _ y] at nq; cases nq
def spUpd (m B : Nat) : Sp := fun vs H Q _ => ∃ (pr po pn pw : Addr) (own : Str) (rules : List Rul) (So Sn : Str → List Row) (R U : List Row), vs = [.ref pr, .str own, .ref po, .ref pn, .ref pw] ∧ RulesAt H pr rules ∧ RulsB m B own rules ∧ SetsAt H po (namesB rules own) So ∧ SetsAt H pn (namesB rules own) Sn ∧
  (∀ n ∈ namesB rules own, (So n).length ≤ B) ∧ (∀ n ∈ namesB rules own, (Sn n).length ≤ B) ∧ (∀ ρ ∈ rules, ∀ n ∈ namesB rules own, (diffR (Sn n) (So n)).length * B ^ (ρ.body.filter (·.yes)).length ≤ 50000) ∧
  RowsAt H pw R ∧ R.Nodup ∧ R.length ≤ B ∧ (∀ r, r ∈ R ↔ Lst rules own (InT So) r) ∧ (∀ r, Lst rules own (InT Sn) r → r ∈ U) ∧ U.length ≤ B ∧
  ∀ H' q O, Same H H' → H q = none → O.Nodup → (∀ r, r ∈ O ↔ Lst rules own (InT Sn) r) → RowsAt H' q (sortRows O) → Q (.ref q) H'
theorem ok_updated_set {m B : Nat} (hB : B ≤ 9000) (F : FnP K "updated_set" s_updated_set f fd) (CC : Cal P w K mg base "completed" 6 ["rules", "own", "sets", "rows"] (spCompl P w m B)) (CD : Cal P w K mg base "doubtful" 6 ["rules", "own", "olds", "news", "rows"] (spDoubt P w m B)) :
    FnOk P w K mg base CX0 7 f fd ["rules", "own", "olds", "news", "rows"] (spUpd m B) := by
  refine F.ok sc_updated_set (fun vs H Q E h => ?_) (fun cdv A outer s H vs Q E hr h => ?_)
  · obtain ⟨pr, po, pn, pw, own, rules, So, Sn, R, U, rfl, _⟩ := h
    rfl
  · obtain ⟨pr, po, pn, pw, own, rules, So, Sn, R, U, rfl, hrl, rb, hSo, hSn, hSB, hSB2, cg, ⟨ts, hw1, hw2⟩, hRn, lR, hR, hU, lU, kk⟩ := h
    refine ⟨_, PSs.nox (pss_cons (ps_set (i := 5) sc_updated_set.nd rfl (Or.inr rfl) (pe_cal CD hr.lt (pa_cons (pv 0) (pa_cons (pv 1) (pa_cons (pv 2) (pa_cons (pv 3) (pa_cons (pv 4) pa_nil)))))))
      (pss_one (ps_ret (pe_cal CC hr.lt (pa_cons (pv 0) (pa_cons (pv 1) (pa_cons (pv 3) (pa_cons (pe_lc (own := [("row", 6)]) (g := gName 6) (tt := tB (tDNotIn (tVar 6) (tVar 5))) (te := tVar 6) (by rfl) sc_updated_set.nd (pi_list (pv 4))
        (blkOk_by (own := [("row", 6)]) (N := ["rules", "own", "olds", "news", "rows", "removed", "row"]) (sc := defScope s_updated_set) (by decide +kernel)) (fun _ _ _ _ _ => pg_name (i := 6) sc_updated_set.nd rfl (Or.inl rfl)) (fun _ _ _ _ _ => pts_one (pt_cmp (pc_dnotin hr.u1 (pv 6) (pv 5)))) (fun _ _ _ _ _ => pv 6)) pa_nil)))))))), ?_⟩
    refine ⟨_, rfl, _, rfl, _, rfl, _, rfl, _, rfl, pr, po, pn, pw, own, rules, So, Sn, R, rfl, hrl, rb.few, rb.names, rb.each, hSo, hSn, hSB, cg, ⟨ts, hw1, hw2⟩, hRn, lR, hR, fun H1 pd D s1 nd1 sd1 keep => ?_⟩
    have lw := hw2.length
    refine ⟨_, rfl, _, rfl, _, rfl, _, rfl, pw, rfl, ⟨_, sq_l (s1 _ _ hw1)⟩, fun D3 hD3 => ?_⟩
    refine lc_same (walk_list (xs := ts.map V.ref)) R (by rw [List.length_map, lw]) (fun r => !memB D r) (fun G v r => ∃ t, v = .ref t ∧ RowAt G t r) (fun G G' v r k ⟨t, e, h⟩ => ⟨t, e, h.tk k⟩) hD3 (fun G sG => sq_l (sG _ _ (s1 _ _ hw1))) (by rw [List.length_map]; omega) ?_ ?_
    · rintro i y r _ G2 hi hb sG ⟨rfl, hy⟩ Q' Qn k1 k2
      obtain ⟨u, hu, rfl⟩ := ref_at hy
      have hur := ((each_get hw2 hu hb).mono s1).mono sG
      refine ⟨rfl, if_in (c := !memB D r) (fun Q2 z => ⟨_, rfl, _, rfl, pd, _, rfl, DGet.t (sG _ _ sd1) hur, _, rfl, ?_⟩) (fun hc => ⟨_, rfl, k1 hc _ _ (Same.refl _) ⟨u, rfl, hur⟩⟩) fun hc => k2 hc _ (Same.refl _)⟩
      rw [sd_val]
      cases hm3 : memB D r <;> (rw [hm3] at z; exact z)
    · intro G2 acc s2 ha2 he2
      obtain ⟨us, rfl, hus⟩ := each_list (P := RowAt G2) (fun v r z => z) he2
      have s12 := s1.trans s2
      have mem : ∀ r, r ∈ R.filter (fun r => !memB D r) ↔ r ∈ R ∧ r ∉ D := fun r => diff_mem
      refine ⟨pr, pn, D3, own, rules, Sn, R.filter (fun r => !memB D r), U, rfl, hrl.keep (KeepS.of s12), rb.few, rb.names, rb.each, hSn.same s12, hSB2, ⟨us, ha2, hus⟩, ?_, fun r hr => keep r ((hR r).mp ((mem r).mp hr).1) ((mem r).mp hr).2, hU, lU, fun H' q O s' nq nd hO hq => kk H' q O (s12.trans s') ?_ nd hO hq⟩
      · have := List.length_filter_le (fun r => !memB D r) R
        omega
      · cases y : H q with
        | none => rfl
        | some o => rw [s12 _ _ y] at nq; cases nq
end
end KA
set_option Elab.async false
set_option linter.all false
set_option maxRecDepth 100000
set_option maxHeartbeats 8000000
/-! the law's draws: values, arguments, atoms -/
namespace KA
open PySem PySem.Spec PyProof.Rows L2
open PySem.W (EachIs)
/-- tuples stay, and lists of objects -/
structure KeepR (H H' : Hp) : Prop where
  tup : ∀ a xs, H a = some (.tup xs) → H' a = some (.tup xs)
  lst : ∀ a (ts : List Addr), H a = some (.lst (ts.map V.ref)) → H' a = some (.lst (ts.map V.ref))
theorem KeepR.of {H H' : Hp} (s : Same H H') : KeepR H H' := ⟨fun a xs e => s _ _ e, fun a ts e => s _ _ e⟩
theorem KeepR.trans {H G H' : Hp} (a : KeepR H G) (b : KeepR G H') : KeepR H H' := ⟨fun x xs e => b.tup _ _ (a.tup _ _ e), fun x ts e => b.lst _ _ (a.lst _ _ e)⟩
theorem KeepR.refl (H : Hp) : KeepR H H := ⟨fun _ _ e => e, fun _ _ e => e⟩
theorem Drawn.keepR {st cl : Addr} {H H' : Hp} (d : Drawn st cl H H') (h : StOk H st cl) : KeepR H H' := by
  refine ⟨fun a xs e => ?_, fun a ts e => d.refs h e⟩
  obtain ⟨c, z, S⟩ := h
  refine d.but a _ (fun q => ?_) (fun q => ?_) e
  · rw [q, S.hs] at e; cases e
  · rw [q, S.hc] at e; cases e
theorem ArgAt.keepR {H H' : Hp} (k : KeepR H H') {t : Addr} {a : Ar} (h : ArgAt H t a) : ArgAt H' t a := by cases a <;> exact k.tup _ _ h
theorem ArgsAt.keepR {H H' : Hp} (k : KeepR H H') {p : Addr} {l : List Ar} (h : ArgsAt H p l) : ArgsAt H' p l := let ⟨ts, h1, h2⟩ := h; ⟨ts, k.lst _ _ h1, h2.mono fun _ _ z => z.keepR k⟩
theorem AtmAt.keepR {H H' : Hp} (k : KeepR H H') {t : Addr} {a : Atm} (h : AtmAt H t a) : AtmAt H' t a := let ⟨pa, h1, h2⟩ := h; ⟨pa, k.tup _ _ h1, h2.keepR k⟩
theorem AtmsAt.keepR {H H' : Hp} (k : KeepR H H') {p : Addr} {l : List Atm} (h : AtmsAt H p l) : AtmsAt H' p l := let ⟨ts, h1, h2⟩ := h; ⟨ts, k.lst _ _ h1, h2.mono fun _ _ z => z.keepR k⟩
theorem RulAt.keepR {H H' : Hp} (k : KeepR H H') {t : Addr} {a : Rul} (h : RulAt H t a) : RulAt H' t a := let ⟨ph, pb, h1, h2, h3⟩ := h; ⟨ph, pb, k.tup _ _ h1, h2.keepR k, h3.keepR k⟩
theorem RulesAt.keepR {H H' : Hp} (k : KeepR H H') {p : Addr} {l : List Rul} (h : RulesAt H p l) : RulesAt H' p l := let ⟨ts, h1, h2⟩ := h; ⟨ts, k.lst _ _ h1, h2.mono fun _ _ z => z.keepR k⟩
theorem RowsAt.keepR {H H' : Hp} (k : KeepR H H') {p : Addr} {l : List Row} (h : RowsAt H p l) : RowsAt H' p l := let ⟨ts, h1, h2⟩ := h; ⟨ts, k.lst _ _ h1, h2.mono fun _ _ z => k.tup _ _ z⟩
theorem four4 {v : Int} (h0 : 0 ≤ v) (h1 : v < 4) : v = 0 ∨ v = 1 ∨ v = 2 ∨ v = 3 := by omega
theorem three3 {v : Int} (h0 : 0 ≤ v) (h1 : v < 3) : v = 0 ∨ v = 1 ∨ v = 2 := by omega
theorem StateAt.off {H : Hp} {st cl : Addr} {c : List Int} {z : Int} (S : StateAt H st cl c z) {p : Addr} (h : H p = none) : p ≠ st ∧ p ≠ cl := ⟨fun e => (by rw [e, S.hs] at h; cases h), fun e => (by rw [e, S.hc] at h; cases h)⟩
/-- what was new before a draw stays -/
theorem Drawn.newly {st cl : Addr} {H H' : Hp} {p : Addr} {o : HO} (h : StOk H st cl) (hp : H p = none) (d : Drawn st cl (upd H p o) H') : H' p = some o := by
  obtain ⟨c, z, S⟩ := h
  obtain ⟨h1, h2⟩ := S.off hp
  exact d.but p o h1 h2 upd_same
theorem StOk.lay {H : Hp} {st cl p : Addr} {o : HO} (h : StOk H st cl) (hp : H p = none) : StOk (upd H p o) st cl := h.same (same_new hp)
theorem Drawn.put {st cl : Addr} {H H' : Hp} (d : Drawn st cl H H') {p : Addr} {o : HO} (hp : H' p = none) : Drawn st cl H (upd H' p o) := d.trans (Drawn.of_same (same_new hp) d.ok)
/-- the values that the law draws -/
def ones : List Key := [.inl 0, .inl 9, .inl 10, .inr "a"]
def vars : List Int := [0, 1, 5]
def ArOk : Ar → Prop
  | .c k => k ∈ ones
  | .v n => n ∈ vars
section
variable {P : Program} {w : World} {K : PySem.W.Frag} {mg : Str → Option Value} {base : Heap} {f : Addr} {fd : FuncData}
abbrev DrawC (P : Program) (w : World) (K : PySem.W.Frag) (mg : Str → Option Value) (base : Heap) : Prop := Cal P w K mg base "_law_draw" 1 ["state", "many"] spDraw
def spOne : Sp := fun vs H Q _ => ∃ (st cl : Addr), vs = [.ref st] ∧ StOk H st cl ∧ ∀ x H', Drawn st cl H H' → x ∈ ones → Q (kV x) H'
theorem ok_one (F : FnP K "_law_one" s__law_one f fd) (C : DrawC P w K mg base) : FnOk P w K mg base CX0 2 f fd ["state"] spOne := by
  refine F.ok sc__law_one (fun vs H Q E h => ?_) (fun cdv A outer s H vs Q E hr h => ?_)
  · obtain ⟨n, r, rfl, _⟩ := h
    rfl
  · obtain ⟨st, cl, rfl, hS, q⟩ := h
    refine ⟨_, PSs.nox (pss_one (ps_ret (pe_ix ix_list (pe_lst (pa_cons pe_int (pa_cons pe_int (pa_cons pe_int (pa_cons pe_str pa_nil))))) (pe_cal C hr (pa_cons (pv 0) (pa_cons pe_int pa_nil))) (fun _ _ => rfl)))), ?_⟩
    refine ⟨(by show 4 ≤ sizeLine; decide), fun p hp => ?_⟩
    refine ⟨_, rfl, st, cl, 4, rfl, hS.lay hp, by decide, by decide, fun v H2 d2 v0 v1 => ?_⟩
    have hp2 := d2.newly hS hp
    have d3 := (Drawn.of_same (same_new (o := .lst [.int 0, .int 9, .int 10, .str "a"]) hp) hS).trans d2
    rcases four4 v0 v1 with rfl | rfl | rfl | rfl
    · exact ⟨p, _, 0, .int 0, rfl, rfl, sq_l hp2, atI_nat (j := 0) rfl, q (.inl 0) _ d3 (by simp [ones])⟩
    · exact ⟨p, _, 1, .int 9, rfl, rfl, sq_l hp2, atI_nat (j := 1) rfl, q (.inl 9) _ d3 (by simp [ones])⟩
    · exact ⟨p, _, 2, .int 10, rfl, rfl, sq_l hp2, atI_nat (j := 2) rfl, q (.inl 10) _ d3 (by simp [ones])⟩
    · exact ⟨p, _, 3, .str "a", rfl, rfl, sq_l hp2, atI_nat (j := 3) rfl, q (.inr "a") _ d3 (by simp [ones])⟩
end
end KA
set_option Elab.async false
set_option linter.all false
set_option maxRecDepth 100000
set_option maxHeartbeats 8000000
/-! what is made at the run: a part of the heap, all of it new -/
namespace KA
open PySem PySem.Spec PyProof.Rows L2
open PySem.W (EachIs)
/-- something of new objects stands -/
def Made (H H' : Hp) (φ : Hp → Prop) : Prop := ∃ X : Hp, Same X H' ∧ (∀ a o, H a = some o → X a = none) ∧ φ X
def Mono (φ : Hp → Prop) : Prop := ∀ X Y, Same X Y → φ X → φ Y
def Liv (H H' : Hp) : Prop := ∀ a o, H a = some o → ∃ o', H' a = some o'
theorem Liv.of {H H' : Hp} (s : Same H H') : Liv H H' := fun a o e => ⟨o, s _ _ e⟩
theorem Liv.trans {H G H' : Hp} (a : Liv H G) (b : Liv G H') : Liv H H' := fun x o e => let ⟨_, e2⟩ := a x o e; b x _ e2
theorem Liv.upd {H G : Hp} (a : Liv H G) {p : Addr} {o : HO} : Liv H (upd G p o) := fun x u e => by
  by_cases z : x = p
  · exact ⟨o, by rw [z, upd_same]⟩
  · obtain ⟨v, e2⟩ := a x u e
    exact ⟨v, by rw [upd_ne z]; exact e2⟩
theorem Liv.free {H H' : Hp} (a : Liv H H') {p : Addr} (h : H' p = none) : H p = none := by
  cases y : H p with
  | none => rfl
  | some o =>
    obtain ⟨o', e⟩ := a p o y
    rw [h] at e
    cases e
theorem Drawn.liv {st cl : Addr} {H H' : Hp} (d : Drawn st cl H H') : Liv H H' := fun a o e => by
  obtain ⟨c, z, S⟩ := d.ok
  by_cases h1 : a = st
  · exact ⟨_, by rw [h1]; exact S.hs⟩
  · by_cases h2 : a = cl
    · exact ⟨_, by rw [h2]; exact S.hc⟩
    · exact ⟨o, d.but a o h1 h2 e⟩
theorem Made.at_ {H H' : Hp} {φ : Hp → Prop} (hm : Mono φ) (m : Made H H' φ) : φ H' := let ⟨X, s, _, p⟩ := m; hm X _ s p
theorem Made.map {H H' : Hp} {φ ψ : Hp → Prop} (m : Made H H' φ) (h : ∀ X, φ X → ψ X) : Made H H' ψ := let ⟨X, s, n, p⟩ := m; ⟨X, s, n, h X p⟩
theorem Made.same {H G H' : Hp} {φ : Hp → Prop} (m : Made H G φ) (s : Same G H') : Made H H' φ := let ⟨X, s1, n, p⟩ := m; ⟨X, s1.trans s, n, p⟩
theorem Made.drawn {st cl : Addr} {H G H' : Hp} {φ : Hp → Prop} (m : Made H G φ) (h : StOk H st cl) (d : Drawn st cl G H') : Made H H' φ := by
  obtain ⟨X, s1, n, p⟩ := m
  obtain ⟨c, z, S⟩ := h
  refine ⟨X, fun a o e => d.but a o (fun q => ?_) (fun q => ?_) (s1 a o e), n, p⟩
  · rw [q, n _ _ S.hs] at e; cases e
  · rw [q, n _ _ S.hc] at e; cases e
/-- an object that is live from the start may change -/
theorem Made.write {H G : Hp} {φ : Hp → Prop} (m : Made H G φ) {p : Addr} {u o : HO} (h : H p = some u) : Made H (upd G p o) φ := by
  obtain ⟨X, s1, n, q⟩ := m
  exact ⟨X, fun a v e => by rw [upd_ne (fun z => by rw [z, n _ _ h] at e; cases e)]; exact s1 a v e, n, q⟩
theorem Made.from_ {H0 H H' : Hp} {φ : Hp → Prop} (m : Made H H' φ) (l : Liv H0 H) : Made H0 H' φ := let ⟨X, s, n, p⟩ := m; ⟨X, s, fun a o e => let ⟨_, e2⟩ := l a o e; n a _ e2, p⟩
theorem Made.nil {H : Hp} {φ : Hp → Prop} (h : φ fun _ => none) : Made H H φ := ⟨fun _ => none, (fun a o e => by cases e), (fun _ _ _ => rfl), h⟩
theorem Made.and {H H' : Hp} {φ ψ : Hp → Prop} (m : Made H H' φ) (hφ : Mono φ) (hψ : Mono ψ) (m2 : Made H H' ψ) : Made H H' fun X => φ X ∧ ψ X := by
  obtain ⟨X, s1, n1, p1⟩ := m
  obtain ⟨Y, s2, n2, p2⟩ := m2
  refine ⟨fun a => (X a).or (Y a), fun a o e => ?_, fun a o e => ?_, hφ X _ (fun a o e => ?_) p1, hψ Y _ (fun a o e => ?_) p2⟩
  · cases x : X a with
    | some u =>
      have e' : (some u).or (Y a) = some o := by rw [← x]; exact e
      rw [← e']
      exact s1 _ _ x
    | none =>
      have e' : (none : Option HO).or (Y a) = some o := by rw [← x]; exact e
      exact s2 _ _ e'
  · show (X a).or (Y a) = none
    rw [n1 a o e, n2 a o e]
    rfl
  · show (X a).or (Y a) = some o
    rw [e]
    rfl
  · show (X a).or (Y a) = some o
    cases x : X a with
    | none => exact e
    | some u =>
      have h1 := s1 _ _ x
      have h2 := s2 _ _ e
      rw [h2] at h1
      rw [h1]
      rfl
theorem Made.new {H G : Hp} {φ : Hp → Prop} (m : Made H G φ) (hφ : Mono φ) (l : Liv H G) {p : Addr} (hp : G p = none) (o : HO) : Made H (upd G p o) fun X => φ X ∧ X p = some o := by
  obtain ⟨X, s, n, q⟩ := m
  have Xp : X p = none := by
    cases y : X p with
    | none => rfl
    | some u => rw [s _ _ y] at hp; cases hp
  refine ⟨upd X p o, fun a v e => ?_, fun a v e => ?_, hφ X _ (same_new Xp) q, upd_same⟩
  · by_cases z : a = p
    · rw [z, upd_same] at e ⊢
      exact e
    · rw [upd_ne z] at e ⊢
      exact s _ _ e
  · have hpH := l.free hp
    rw [upd_ne (ne_of_none e hpH)]
    exact n _ _ e
theorem mono_arg (t : Addr) (a : Ar) : Mono fun X => ArgAt X t a := fun X Y s h => h.keep (KeepS.of s)
theorem mono_args (t : Addr) (a : List Ar) : Mono fun X => ArgsAt X t a := fun X Y s h => h.keep (KeepS.of s)
theorem mono_atm (t : Addr) (a : Atm) : Mono fun X => AtmAt X t a := fun X Y s h => h.keep (KeepS.of s)
theorem mono_atms (t : Addr) (a : List Atm) : Mono fun X => AtmsAt X t a := fun X Y s h => h.keep (KeepS.of s)
theorem mono_rul (t : Addr) (a : Rul) : Mono fun X => RulAt X t a := fun X Y s h => h.keep (KeepS.of s)
theorem mono_each {α : Type} {R : Hp → Addr → α → Prop} (hR : ∀ t a, Mono fun X => R X t a) (ts : List Addr) (as : List α) : Mono fun X => EachIs (R X) ts as := fun X Y s h => h.mono fun t a z => hR t a X Y s z
/-- [draw for k in range(n)] -/
theorem range_draw {st cl D : Addr} {n : Nat} {α : Type} {R : Hp → Addr → α → Prop} {Ok : α → Prop} (hR : ∀ t a, Mono fun X => R X t a) {g : TG} {te : TE} {vs : List Nat} {σ : L2.St} {H1 : Hp} {Qd : Hp → Prop} (hS : StOk H1 st cl) (hD : H1 D = none) (hz : n ≤ 100000) {J : It} {Y : Nat → Hp → V → Hp → Prop} (w : Walk J n (fun _ => True) Y) (hY : ∀ i H x H', Y i H x H' → H' = H)
    (turn : ∀ i x H, i < n → StOk H st cl → Y i H x H → ∀ (Q : VK) (Qn : Hp → Prop), (∀ t a H', Drawn st cl H H' → Made H H' (fun X => R X t a) → Ok a → Q (.ref t) H') → g x (wipe σ vs) H fun σ2 H2 => wipe σ2 vs = wipe σ vs ∧ tYes σ2 H2 fun c H3 => if c = true then te σ2 H3 Q else Qn H3)
    (done : ∀ H ts as, Drawn st cl H1 H → Made H1 H (fun X => X D = some (.lst (ts.map V.ref)) ∧ EachIs (R X) ts as) → (∀ a ∈ as, Ok a) → as.length = n → Qd H) :
    ∃ W : Nat → Nat → Hp → Prop, (∃ m, W 0 m (upd H1 D (.lst []))) ∧ ∀ i m H, W i m H → (J.stop i H ∧ Qd H) ∨ (J.go i H ∧ ∃ Nx : Hp → Prop, (∀ H', Nx H' → ∃ m', m' < m ∧ W (i + 1) m' H') ∧ ∀ x H', J.yld i H x H' → g x (wipe σ vs) H' fun σ2 H2 => wipe σ2 vs = wipe σ vs ∧ tYes σ2 H2 fun b H3 =>
      if b = true then te σ2 H3 fun y H4 => ∃ acc, H4 D = some (.lst acc) ∧ acc.length < sizeLine ∧ Nx (upd H4 D (.lst (acc ++ [y]))) else Nx H3) := by
  have big : (100001 : Nat) ≤ sizeLine := by decide
  obtain ⟨Dst, Dcl⟩ : D ≠ st ∧ D ≠ cl := by
    obtain ⟨c, z, S⟩ := hS
    exact S.off hD
  obtain ⟨B0, eB⟩ : ∃ B0, B0 = upd H1 D (.lst []) := ⟨_, rfl⟩
  have bD : B0 D = some (.lst []) := by rw [eB]; exact upd_same
  have sB : Same H1 B0 := by rw [eB]; exact same_new hD
  have okB : StOk B0 st cl := hS.same sB
  refine lc_it w (fun i H => ∃ ts as, Drawn st cl H1 H ∧ H D = some (.lst (ts.map V.ref)) ∧ Made B0 H (fun X => EachIs (R X) ts as) ∧ (∀ a ∈ as, Ok a) ∧ as.length = i ∧ Liv B0 H) ⟨[], [], Drawn.of_same (same_new hD) hS, upd_same, by rw [eB]; exact Made.nil .nil, (fun a ha => by cases ha), rfl, by rw [eB]; exact Liv.of (Same.refl _)⟩ (fun i H _ _ => trivial) ?_ ?_
  · rintro i x H H' hi ⟨ts, as, d, dD, m, ok, la, lv⟩ y
    obtain rfl := hY _ _ _ _ y
    have lt : ts.length = as.length := by
      obtain ⟨X, _, _, e⟩ := m
      exact e.length
    refine turn i x H' hi d.ok y _ _ fun t a H2 d2 m2 oa => ?_
    have dD2 : H2 D = some (.lst (ts.map V.ref)) := d2.but D _ Dst Dcl dD
    refine ⟨ts.map V.ref, dD2, by rw [List.length_map]; omega, ts ++ [t], as ++ [a], ?_, ?_, ?_, ?_, by rw [List.length_append, la]; rfl, (lv.trans d2.liv).upd⟩
    · refine ⟨fun b o h1 h2 e => ?_, ?_, fun z => ?_⟩
      · rw [upd_ne (ne_of_none e hD)]
        exact (d.trans d2).but b o h1 h2 e
      · obtain ⟨c, z, S⟩ := d2.ok
        exact ⟨c, z, by rw [upd_ne Dst.symm]; exact S.hs, by rw [upd_ne Dcl.symm]; exact S.hc, S.lo, S.hi, S.len, S.nn⟩
      · rw [upd_ne Dcl.symm]
        exact (d.trans d2).nil z
    · rw [upd_same, List.map_append]
      rfl
    · have m3 : Made B0 H2 (fun X => EachIs (R X) ts as ∧ R X t a) := (m.drawn okB d2).and (mono_each hR ts as) (hR t a) (m2.from_ lv)
      exact (m3.write bD).map fun X ⟨h1, h2⟩ => each_snoc1 (R := R X) h2 h1
    · intro b hb
      rcases List.mem_append.mp hb with z | z
      · exact ok b z
      · rw [List.mem_singleton.mp z]
        exact oa
  · rintro H ⟨ts, as, d, dD, m, ok, la, lv⟩
    refine done H ts as d ?_ ok la
    obtain ⟨X, s, n1, e⟩ := m
    have XD : X D = none := n1 _ _ bD
    refine ⟨upd X D (.lst (ts.map V.ref)), fun a o q => ?_, fun a o q => ?_, upd_same, mono_each hR ts as X _ (same_new XD) e⟩
    · by_cases z : a = D
      · rw [z, upd_same] at q
        rw [z, dD, q]
      · rw [upd_ne z] at q
        exact s _ _ q
    · rw [upd_ne (ne_of_none q hD)]
      exact n1 _ _ (sB _ _ q)
end KA
set_option Elab.async false
set_option linter.all false
set_option maxRecDepth 100000
set_option maxHeartbeats 8000000
/-! the law's draws: arguments, atoms -/
namespace KA
open PySem PySem.Spec PyProof.Rows L2
open PySem.W (EachIs)
theorem Made.triv (H H' : Hp) : Made H H' fun _ => True := ⟨fun _ => none, (fun a o e => by cases e), (fun _ _ _ => rfl), trivial⟩
theorem mono_triv : Mono fun _ => True := fun _ _ _ _ => trivial
/-- one new object -/
theorem Made.one {H G : Hp} (l : Liv H G) {p : Addr} (hp : G p = none) (o : HO) : Made H (upd G p o) fun X => X p = some o := ((Made.triv H G).new mono_triv l hp o).map fun _ h => h.2
def szOf (n : Str) : Nat := if n = "u" then 1 else 2
structure AtmOk (yes : Bool) (names : List Str) (a : Atm) : Prop where
  sign : a.yes = yes
  name : a.name ∈ names
  len : a.args.length = szOf a.name
  args : ∀ x ∈ a.args, ArOk x
def signOf (yes : Bool) : Str := if yes = true then "yes" else "no"
theorem sizes_at {n : Str} (h : n = "u" ∨ n = "w" ∨ n = "own") : valV (mergeK [] [((.inr ("u" : Str) : Key), V.int 1), (.inr ("w" : Str), .int 2), (.inr ("own" : Str), .int 2)]) (.inr n) = some (.int ((szOf n : Nat) : Int)) := by
  have uw : ¬ (Sum.inr ("u" : Str) : Key) = Sum.inr ("w" : Str) := by decide +kernel
  have uo : ¬ (Sum.inr ("u" : Str) : Key) = Sum.inr ("own" : Str) := by decide +kernel
  have wo : ¬ (Sum.inr ("w" : Str) : Key) = Sum.inr ("own" : Str) := by decide +kernel
  have e1 : mergeK [] [((.inr ("u" : Str) : Key), V.int 1), (.inr ("w" : Str), .int 2), (.inr ("own" : Str), .int 2)] = [((.inr ("u" : Str) : Key), V.int 1), (.inr ("w" : Str), .int 2), (.inr ("own" : Str), .int 2)] := by
    show putK (putK [((.inr ("u" : Str) : Key), V.int 1)] (.inr ("w" : Str)) (.int 2)) (.inr ("own" : Str)) (.int 2) = _
    rw [putK_new _ ((valV_neg (p := ((Sum.inr ("u" : Str) : Key), V.int 1)) uw).trans rfl)]
    show putK [((.inr ("u" : Str) : Key), V.int 1), (.inr ("w" : Str), .int 2)] (.inr ("own" : Str)) (.int 2) = _
    rw [putK_new _ ((valV_neg (p := ((Sum.inr ("u" : Str) : Key), V.int 1)) uo).trans ((valV_neg (p := ((Sum.inr ("w" : Str) : Key), V.int 2)) wo).trans rfl))]
    rfl
  rw [e1]
  unfold szOf
  rcases h with rfl | rfl | rfl
  · rw [if_pos rfl]
    exact valV_pos (p := ((Sum.inr ("u" : Str) : Key), V.int 1)) rfl
  · rw [if_neg (by decide +kernel)]
    exact (valV_neg (p := ((Sum.inr ("u" : Str) : Key), V.int 1)) uw).trans (valV_pos (p := ((Sum.inr ("w" : Str) : Key), V.int 2)) rfl)
  · rw [if_neg (by decide +kernel)]
    exact (valV_neg (p := ((Sum.inr ("u" : Str) : Key), V.int 1)) uo).trans ((valV_neg (p := ((Sum.inr ("w" : Str) : Key), V.int 2)) wo).trans (valV_pos (p := ((Sum.inr ("own" : Str) : Key), V.int 2)) rfl))
section
variable {P : Program} {w : World} {K : PySem.W.Frag} {mg : Str → Option Value} {base : Heap} {f : Addr} {fd : FuncData}
def spArgument : Sp := fun vs H Q _ => ∃ (st cl : Addr), vs = [.ref st] ∧ StOk H st cl ∧ ∀ t a H', Drawn st cl H H' → Made H H' (fun X => ArgAt X t a) → ArOk a → Q (.ref t) H'
theorem ok_argument (F : FnP K "_law_argument" s__law_argument f fd) (C : DrawC P w K mg base) (CO : Cal P w K mg base "_law_one" 2 ["state"] spOne) : FnOk P w K mg base CX0 3 f fd ["state"] spArgument := by
  refine F.ok sc__law_argument (fun vs H Q E h => ?_) (fun cdv A outer s H vs Q E hr h => ?_)
  · obtain ⟨n, r, rfl, _⟩ := h
    rfl
  · obtain ⟨st, cl, rfl, hS, q⟩ := h
    refine ⟨_, PSs.nox (pss_cons (ps_if (pt_cmpR op_eq (pe_cal C hr.lt (pa_cons (pv 0) (pa_cons pe_int pa_nil))) pe_int (nomark _)) (pss_one (ps_ret (pe_tup (pa_cons pe_str (pa_cons (pe_cal CO hr.lt (pa_cons (pv 0) pa_nil)) pa_nil))))) pss_nil)
      (pss_one (ps_ret (pe_tup (pa_cons pe_str (pa_cons (pe_ix ix_list (pe_lst (pa_cons pe_int (pa_cons pe_int (pa_cons pe_int pa_nil)))) (pe_cal C hr.lt (pa_cons (pv 0) (pa_cons pe_int pa_nil))) (fun _ _ => rfl)) pa_nil)))))), ?_⟩
    refine ⟨_, rfl, st, cl, 4, rfl, hS, by decide, by decide, fun k H1 d1 k0 k1 => ?_⟩
    refine ⟨rfl, _, rfl, ite2 (fun _ => ?_) fun _ => ?_⟩
    · refine ⟨_, rfl, st, cl, rfl, d1.ok, fun x H2 d2 hx => ⟨(by show 2 ≤ sizeLine; decide), fun p hp => ?_⟩⟩
      exact q p (.c x) _ ((d1.trans d2).put hp) ((Made.one (d1.trans d2).liv hp _).map fun _ z => z) hx
    · refine ⟨(by show 3 ≤ sizeLine; decide), fun p hp => ?_⟩
      refine ⟨_, rfl, st, cl, 3, rfl, d1.ok.lay hp, by decide, by decide, fun v H2 d2 v0 v1 => ?_⟩
      have hp2 := d2.newly d1.ok hp
      have d3 := (d1.put (o := .lst [.int 0, .int 1, .int 5]) hp).trans d2
      rcases three3 v0 v1 with rfl | rfl | rfl
      · exact ⟨p, _, 0, .int 0, rfl, rfl, sq_l hp2, atI_nat (j := 0) rfl, (by show 2 ≤ sizeLine; decide), fun p2 hn => q p2 (.v 0) _ (d3.put hn) ((Made.one d3.liv hn _).map fun _ z => z) (by simp [ArOk, vars])⟩
      · exact ⟨p, _, 1, .int 1, rfl, rfl, sq_l hp2, atI_nat (j := 1) rfl, (by show 2 ≤ sizeLine; decide), fun p2 hn => q p2 (.v 1) _ (d3.put hn) ((Made.one d3.liv hn _).map fun _ z => z) (by simp [ArOk, vars])⟩
      · exact ⟨p, _, 2, .int 5, rfl, rfl, sq_l hp2, atI_nat (j := 2) rfl, (by show 2 ≤ sizeLine; decide), fun p2 hn => q p2 (.v 5) _ (d3.put hn) ((Made.one d3.liv hn _).map fun _ z => z) (by simp [ArOk, vars])⟩
/-- a list of names that draws leave -/
def NamesAt (H : Hp) (st cl pn : Addr) (names : List Str) : Prop := H pn = some (.lst (names.map V.str)) ∧ pn ≠ st ∧ pn ≠ cl
def spAtom : Sp := fun vs H Q _ => ∃ (st cl pn : Addr) (yes : Bool) (names : List Str), vs = [.ref st, .str (signOf yes), .ref pn] ∧ StOk H st cl ∧ NamesAt H st cl pn names ∧ 0 < names.length ∧ names.length ≤ 10 ∧ (∀ n ∈ names, n = "u" ∨ n = "w" ∨ n = "own") ∧
  ∀ t a H', Drawn st cl H H' → Made H H' (fun X => AtmAt X t a) → AtmOk yes names a → Q (.ref t) H'
theorem ok_atom (F : FnP K "_law_atom" s__law_atom f fd) (gL : mg "len" = none) (gR : mg "range" = none) (C : DrawC P w K mg base) (CA : Cal P w K mg base "_law_argument" 3 ["state"] spArgument) : FnOk P w K mg base CX0 4 f fd ["state", "sign", "names"] spAtom := by
  refine F.ok sc__law_atom (fun vs H Q E h => ?_) (fun cdv A outer s H vs Q E hr h => ?_)
  · obtain ⟨st, cl, pn, yes, names, rfl, _⟩ := h
    rfl
  · obtain ⟨st, cl, pn, yes, names, rfl, hS, ⟨hn, n1, n2⟩, l0, l1, hnm, q⟩ := h
    refine ⟨_, PSs.nox (pss_cons (ps_set (i := 3) sc__law_atom.nd rfl (Or.inl rfl) (pe_ix ix_list (pv 2) (pe_cal C hr.lt (pa_cons (pv 0) (pa_cons (pe_callB call_len_seq (by rfl) gL PySem.boot_len (pa_cons (pv 2) pa_nil)) pa_nil))) (fun _ _ => rfl)))
      (pss_cons (ps_set (i := 4) sc__law_atom.nd rfl (Or.inl rfl) (pe_dget hr.u1 (pe_disp (pps_cons pe_str pe_int (pps_cons pe_str pe_int (pps_cons pe_str pe_int pps_nil))) rfl rfl (by simp) (by decide)) (pv 3) (fun _ _ => rfl)))
      (pss_one (ps_ret (pe_tup (pa_cons (pv 1) (pa_cons (pv 3) (pa_cons (pe_lc (own := [("k", 5)]) (g := gName 5) (tt := tYes) (te := tCall spArgument [] E0 (tCons (tVar 0) tNil)) (by rfl) sc__law_atom.nd (pi_range1 rfl gR (pa_cons (pv 4) pa_nil))
        (blkOk_by (own := [("k", 5)]) (N := ["state", "sign", "names", "name", "size", "k"]) (sc := defScope s__law_atom) (by decide +kernel)) (fun _ _ _ _ _ => pg_name (i := 5) sc__law_atom.nd rfl (Or.inl rfl)) (fun _ _ _ _ _ => pts_nil) (fun _ _ _ _ _ => pe_cal CA hr.lt (pa_cons (pv 0) pa_nil))) pa_nil)))))))), ?_⟩
    refine ⟨_, rfl, _, rfl, _, rfl, pn, _, rfl, .inl (sq_l hn), ?_⟩
    refine ⟨st, cl, _, rfl, hS, by rw [List.length_map]; omega, by rw [List.length_map]; omega, fun v H1 d1 v0 v1 => ?_⟩
    rw [List.length_map] at v1
    obtain ⟨i, rfl⟩ : ∃ i : Nat, v = ((i : Nat) : Int) := ⟨v.toNat, by omega⟩
    have il : i < names.length := by omega
    obtain ⟨n, hi⟩ : ∃ n, names[i]? = some n := ⟨_, List.getElem?_eq_getElem il⟩
    have hnn := List.mem_of_getElem? hi
    refine ⟨pn, _, _, .str n, rfl, rfl, sq_l (d1.but pn _ n1 n2 hn), atI_nat (by rw [List.getElem?_map, hi]; rfl), ?_⟩
    refine fun p1 hp1 => ⟨upd_same, [(.inr ("u" : Str), .int 1), (.inr ("w" : Str), .int 2), (.inr ("own" : Str), .int 2)], rfl, by show 3 ≤ 15; decide, _, rfl, p1, _, rfl, .inl ⟨_, .inr n, .inl upd_same, rfl, (sizes_at (hnm n hnn)).symm⟩, ?_⟩
    have s2 : Same H1 (upd (upd H1 p1 (.dK [])) p1 (.dK (mergeK [] [((.inr ("u" : Str) : Key), V.int 1), (.inr ("w" : Str), .int 2), (.inr ("own" : Str), .int 2)]))) := fun a o e => by
      rw [upd_ne (ne_of_none e hp1), upd_ne (ne_of_none e hp1)]
      exact e
    obtain ⟨H2, eH2⟩ : ∃ H2, H2 = upd (upd H1 p1 (.dK [])) p1 (.dK (mergeK [] [((.inr ("u" : Str) : Key), V.int 1), (.inr ("w" : Str), .int 2), (.inr ("own" : Str), .int 2)])) := ⟨_, rfl⟩
    rw [← eH2] at s2 ⊢
    have d2 := d1.trans (Drawn.of_same s2 d1.ok)
    have sz : szOf n ≤ 2 := by unfold szOf; split <;> omega
    refine ⟨_, rfl, _, rfl, _, rfl, _, rfl, by omega, by omega, fun D hD => ?_⟩
    refine range_draw (st := st) (cl := cl) (R := ArgAt) (Ok := ArOk) mono_arg d2.ok hD (by omega) walk_range (fun _ _ _ _ y => y.1) ?_ ?_
    · rintro i x H3 hi ok3 ⟨_, rfl⟩ Q' Qn k1
      exact ⟨rfl, yes_in ⟨_, rfl, st, cl, rfl, ok3, fun t a H4 d4 m4 oa => k1 t a H4 d4 m4 oa⟩⟩
    · intro H3 ts as d3 m3 ok3 la
      refine ⟨(by show 3 ≤ sizeLine; decide), fun p hp => ?_⟩
      have d13 := d2.trans d3
      refine q p ⟨yes, n, as⟩ _ (d13.put hp) (((m3.from_ d2.liv).new (fun X Y s h => ⟨s _ _ h.1, mono_each mono_arg ts as X Y s h.2⟩) d13.liv hp _).map fun X ⟨⟨h1, h2⟩, h3⟩ => ⟨D, h3, ts, h1, h2⟩) ⟨rfl, hnn, la.trans (Int.toNat_natCast _), ok3⟩
end
end KA
set_option Elab.async false
set_option linter.all false
set_option maxRecDepth 100000
set_option maxHeartbeats 8000000
/-! the law's draws: variables, rules -/
namespace KA
open PySem PySem.Spec PyProof.Rows L2
open PySem.W (EachIs)
def isVar : Ar → Bool
  | .c _ => false
  | .v _ => true
def varsOf (as : List Ar) : List Int := as.filterMap fun a => match a with
  | .c _ => none
  | .v n => some n
theorem vars_mem {as : List Ar} {n : Int} : n ∈ varsOf as ↔ Ar.v n ∈ as := by
  unfold varsOf
  rw [List.mem_filterMap]
  constructor
  · rintro ⟨a, ha, e⟩
    cases a with
    | c k => cases e
    | v m => rw [← Option.some.inj e]; exact ha
  · exact fun h => ⟨_, h, rfl⟩
theorem vars_acc : ∀ {acc : List V} {l : List Ar}, EachIs (fun v (a : Ar) => v = kV a.key) acc (l.filter isVar) → acc = (varsOf l).map V.int
  | acc, [], h => by
    cases h
    rfl
  | acc, .c k :: l, h => vars_acc (l := l) h
  | acc, .v n :: l, h => by
    have h' : EachIs (fun v (a : Ar) => v = kV a.key) acc (.v n :: l.filter isVar) := h
    cases h' with
    | cons e t =>
      rw [e, vars_acc t]
      rfl
theorem vars_len (as : List Ar) : (varsOf as).length ≤ as.length := List.length_filterMap_le _ _
section
variable {P : Program} {w : World} {K : PySem.W.Frag} {mg : Str → Option Value} {base : Heap} {f : Addr} {fd : FuncData}
def spVars : Sp := fun vs H Q _ => ∃ (p : Addr) (as : List Ar), vs = [.ref p] ∧ ArgsAt H p as ∧ as.length ≤ 1000 ∧ ∀ H' q, Same H H' → H q = none → H' q = some (.lst ((varsOf as).map V.int)) → Q (.ref q) H'
theorem ok_variables (F : FnP K "_law_variables" s__law_variables f fd) : FnOk P w K mg base CX0 1 f fd ["arguments"] spVars := by
  refine F.ok sc__law_variables (fun vs H Q E h => ?_) (fun cdv A outer s H vs Q E hr h => ?_)
  · obtain ⟨p, as, rfl, _⟩ := h
    rfl
  · obtain ⟨p, as, rfl, ⟨ts, hp, hts⟩, la, kk⟩ := h
    refine ⟨_, PSs.nox (pss_one (ps_ret (pe_lc (own := [("argument", 1)]) (g := gName 1) (tt := tTest (tOp rEq (tOp (rIxT K) (tVar 1) (tC (.int 0))) (tC (.str "var")))) (te := tOp (rIxT K) (tVar 1) (tC (.int 1))) (by rfl) sc__law_variables.nd (pi_list (pv 0))
      (blkOk_by (own := [("argument", 1)]) (N := ["arguments", "argument"]) (sc := defScope s__law_variables) (by decide +kernel)) (fun _ _ _ _ _ => pg_name (i := 1) sc__law_variables.nd rfl (Or.inl rfl)) (fun _ _ _ _ _ => pts_one (pt_cmpR op_eq (pe_ix ix_tup (pv 1) pe_int (fun _ _ => rfl)) pe_str (nomark _))) (fun _ _ _ _ _ => pe_ix ix_tup (pv 1) pe_int (fun _ _ => rfl))))), ?_⟩
    have tl := hts.length
    refine ⟨_, rfl, p, rfl, ⟨_, sq_l hp⟩, fun D hD => ?_⟩
    refine lc_same (walk_list (xs := ts.map V.ref)) as (by rw [List.length_map, tl]) isVar (fun _ v a => v = kV a.key) (fun _ _ _ _ _ z => z) hD (fun G sG => sq_l (sG _ _ hp)) (by rw [List.length_map]; omega) ?_ ?_
    · rintro i x a _ G hi hb sG ⟨rfl, hx⟩ Q' Qn k1 k2
      obtain ⟨t, ht, rfl⟩ := ref_at hx
      have hat := (each_get hts ht hb).tup
      have hg := sG _ _ hat
      refine ⟨rfl, if_in (c := isVar a) (fun Q2 z => ⟨_, rfl, t, _, 0, _, rfl, rfl, sq_t hg, atI_nat (j := 0) rfl, rfl, _, rfl, ?_⟩) (fun hc => ⟨_, rfl, t, _, 1, _, rfl, rfl, sq_t hg, atI_nat (j := 1) rfl, k1 hc _ _ (Same.refl _) rfl⟩) fun hc => k2 hc _ (Same.refl _)⟩
      have cv : ¬ (("const" : Str) = "var") := by decide +kernel
      cases a with
      | c k => rw [show decide (V.str (Ar.c k).sign = V.str "var") = false from decide_eq_false fun z => cv (by injection z)]; exact z
      | v n => rw [show decide (V.str (Ar.v n).sign = V.str "var") = true from decide_eq_true rfl]; exact z
    · intro G acc sG ha he
      exact kk G D sG hD (by rw [ha, vars_acc he])
end
end KA
set_option Elab.async false
set_option linter.all false
set_option maxRecDepth 100000
set_option maxHeartbeats 8000000
/-! the law's rules -/
namespace KA
open PySem PySem.Spec PyProof.Rows L2
open PySem.W (EachIs)
def namesY : List Str := ["u", "w", "w", "own"]
def namesN : List Str := ["u", "w"]
/-- a rule that the law draws -/
structure RulL (ρ : Rul) : Prop where
  ex : ∃ ys ns : List Atm, (ρ.body = ns ++ ys ∨ ρ.body = ys ++ ns) ∧ ys.length ≤ 3 ∧ ns.length ≤ 2 ∧ (∀ a ∈ ys, AtmOk true namesY a) ∧ (∀ a ∈ ns, AtmOk false namesN a ∧ ∀ n, Ar.v n ∈ a.args → ∃ b ∈ ys, Ar.v n ∈ b.args) ∧ (∀ n, Ar.v n ∈ ρ.head → ∃ b ∈ ys, Ar.v n ∈ b.args)
  head : ∀ a ∈ ρ.head, ArOk a
  len : 1 ≤ ρ.head.length ∧ ρ.head.length ≤ 2
theorem Made.mark {H G : Hp} {φ : Hp → Prop} (m : Made H G φ) {p : Addr} (hp : G p = none) (o : HO) : Made (upd H p o) (upd G p o) φ := by
  obtain ⟨X, s, n, q⟩ := m
  have Xp : X p = none := by
    cases y : X p with
    | none => rfl
    | some u => rw [s _ _ y] at hp; cases hp
  refine ⟨X, fun a v e => ?_, fun a v e => ?_, q⟩
  · rw [upd_ne (ne_of_none e Xp)]
    exact s _ _ e
  · by_cases z : a = p
    · rw [z]; exact Xp
    · rw [upd_ne z] at e
      exact n _ _ e
theorem Made.unmark {H G : Hp} {φ : Hp → Prop} {p : Addr} {o u : HO} (hφ : Mono φ) (m : Made (upd H p o) G φ) (hp : H p = none) (e : G p = some u) : Made H G fun X => φ X ∧ X p = some u := by
  obtain ⟨X, s, n, q⟩ := m
  have Xp : X p = none := n p o upd_same
  refine ⟨upd X p u, fun a v z => ?_, fun a v z => ?_, hφ X _ (same_new Xp) q, upd_same⟩
  · by_cases w : a = p
    · rw [w, upd_same] at z
      rw [w, e, z]
    · rw [upd_ne w] at z
      exact s _ _ z
  · have ne := ne_of_none z hp
    rw [upd_ne ne]
    exact n _ _ (by rw [upd_ne ne]; exact z)
theorem Made.also {H G G' : Hp} {φ : Hp → Prop} (m : Made H G φ) (hφ : Mono φ) (l : Liv H G) (s : Same G G') {p : Addr} {o : HO} (hp : G p = none) (e : G' p = some o) : Made H G' fun X => φ X ∧ X p = some o := by
  obtain ⟨X, s1, n, q⟩ := m
  have Xp : X p = none := by
    cases y : X p with
    | none => rfl
    | some u => rw [s1 _ _ y] at hp; cases hp
  refine ⟨upd X p o, fun a v z => ?_, fun a v z => ?_, hφ X _ (same_new Xp) q, upd_same⟩
  · by_cases w : a = p
    · rw [w, upd_same] at z
      rw [w, e, z]
    · rw [upd_ne w] at z
      exact s _ _ (s1 _ _ z)
  · rw [upd_ne (ne_of_none z (l.free hp))]
    exact n _ _ z
theorem mono_and {φ ψ : Hp → Prop} (h1 : Mono φ) (h2 : Mono ψ) : Mono fun X => φ X ∧ ψ X := fun X Y s h => ⟨h1 X Y s h.1, h2 X Y s h.2⟩
theorem mono_obj (p : Addr) (o : HO) : Mono fun X => X p = some o := fun X Y s h => s _ _ h
theorem pick6 {v : Int} (h0 : 0 ≤ v) (h1 : v < 6) : ∃ m : Nat, atI [V.int 0, .int 1, .int 1, .int 2, .int 2, .int 3] v = some (.int m) ∧ m ≤ 3 := by
  have : v = 0 ∨ v = 1 ∨ v = 2 ∨ v = 3 ∨ v = 4 ∨ v = 5 := by omega
  rcases this with rfl | rfl | rfl | rfl | rfl | rfl
  · exact ⟨0, atI_nat (j := 0) rfl, by omega⟩
  · exact ⟨1, atI_nat (j := 1) rfl, by omega⟩
  · exact ⟨1, atI_nat (j := 2) rfl, by omega⟩
  · exact ⟨2, atI_nat (j := 3) rfl, by omega⟩
  · exact ⟨2, atI_nat (j := 4) rfl, by omega⟩
  · exact ⟨3, atI_nat (j := 5) rfl, by omega⟩
theorem pick4 {v : Int} (h0 : 0 ≤ v) (h1 : v < 4) : ∃ m : Nat, atI [V.int 0, .int 0, .int 1, .int 2] v = some (.int m) ∧ m ≤ 2 := by
  rcases four4 h0 h1 with rfl | rfl | rfl | rfl
  · exact ⟨0, atI_nat (j := 0) rfl, by omega⟩
  · exact ⟨0, atI_nat (j := 1) rfl, by omega⟩
  · exact ⟨1, atI_nat (j := 2) rfl, by omega⟩
  · exact ⟨2, atI_nat (j := 3) rfl, by omega⟩
theorem pick3 {v : Int} (h0 : 0 ≤ v) (h1 : v < 3) : ∃ m : Nat, atI [V.int 1, .int 2, .int 2] v = some (.int m) ∧ 1 ≤ m ∧ m ≤ 2 := by
  rcases three3 h0 h1 with rfl | rfl | rfl
  · exact ⟨1, atI_nat (j := 0) rfl, by omega, by omega⟩
  · exact ⟨2, atI_nat (j := 1) rfl, by omega, by omega⟩
  · exact ⟨2, atI_nat (j := 2) rfl, by omega, by omega⟩
def knownOf (ys : List Atm) : List Int := ys.flatMap fun a => varsOf a.args
theorem known_mem {ys : List Atm} {n : Int} : n ∈ knownOf ys ↔ ∃ b ∈ ys, Ar.v n ∈ b.args := by
  unfold knownOf
  rw [List.mem_flatMap]
  exact ⟨fun ⟨b, h1, h2⟩ => ⟨b, h1, vars_mem.mp h2⟩, fun ⟨b, h1, h2⟩ => ⟨b, h1, vars_mem.mpr h2⟩⟩
def inB (kn : List Int) (n : Int) : Bool := inV (.int n) (kn.map V.int)
theorem inB_iff {kn : List Int} {n : Int} : inB kn n = true ↔ n ∈ kn := by
  unfold inB inV
  rw [List.any_map, List.any_eq_true]
  constructor
  · rintro ⟨x, hx, e⟩
    have : x = n := by simpa [eqV] using e
    exact this ▸ hx
  · exact fun h => ⟨n, h, by simp [eqV]⟩
theorem flat_ints (kn : List Int) : (kn.map V.int).all flatV = true := by
  rw [List.all_map, List.all_eq_true]
  exact fun x _ => rfl
def fixA (kn : List Int) : Ar → Ar
  | .c k => .c k
  | .v n => if inB kn n = true then .v n else .c (.inl 0)
def okN (kn : List Int) (a : Atm) : Bool := (varsOf a.args).all fun n => inB kn n
theorem okN_iff {kn : List Int} {a : Atm} : okN kn a = true ↔ ∀ n, Ar.v n ∈ a.args → n ∈ kn := by
  unfold okN
  rw [List.all_eq_true]
  exact ⟨fun h n hn => inB_iff.mp (h n (vars_mem.mpr hn)), fun h n hn => inB_iff.mpr (h n (vars_mem.mp hn))⟩
theorem none_left {kn : List Int} {a : Atm} {acc : List V} (h : EachIs (fun v (n : Int) => v = V.int n) acc ((varsOf a.args).filter fun n => !inB kn n)) : decide (V.int (acc.length : Int) = V.int 0) = okN kn a := by
  rw [h.length]
  cases c : okN kn a with
  | true =>
    have : (varsOf a.args).filter (fun n => !inB kn n) = [] := by
      rw [List.filter_eq_nil_iff]
      intro n hn
      rw [inB_iff.mpr (okN_iff.mp c n (vars_mem.mp hn))]
      simp
    rw [this]
    rfl
  | false =>
    refine decide_eq_false fun z => ?_
    have z2 : (((varsOf a.args).filter fun n => !inB kn n).length : Int) = 0 := by injection z
    have z3 : (varsOf a.args).filter (fun n => !inB kn n) = [] := List.eq_nil_of_length_eq_zero (by omega)
    rw [List.filter_eq_nil_iff] at z3
    have : okN kn a = true := by
      unfold okN
      rw [List.all_eq_true]
      intro n hn
      have := z3 n hn
      cases e : inB kn n with
      | true => rfl
      | false => rw [e] at this; exact absurd rfl this
    rw [c] at this
    cases this
theorem fix_yes {kn : List Int} {n : Int} (c : inB kn n = true) : fixA kn (.v n) = .v n := if_pos c
theorem fix_no {kn : List Int} {n : Int} (c : ¬ inB kn n = true) : fixA kn (.v n) = .c (.inl 0) := if_neg c
theorem fix_ok {kn : List Int} {a : Ar} (h : ArOk a) : ArOk (fixA kn a) := by
  cases a with
  | c k => exact h
  | v n =>
    by_cases c : inB kn n = true
    · rw [fix_yes c]; exact h
    · rw [fix_no c]
      show (Sum.inl 0 : Key) ∈ ones
      simp [ones]
theorem fix_var {kn : List Int} {a : Ar} {n : Int} (h : fixA kn a = .v n) : n ∈ kn := by
  cases a with
  | c k => cases h
  | v m =>
    by_cases c : inB kn m = true
    · rw [fix_yes c] at h
      injection h with h
      rw [← h]
      exact inB_iff.mp c
    · rw [fix_no c] at h
      cases h
def FixInv (H : Hp) (st cl pf : Addr) (Φ : Hp → Prop) (l : List Ar) (G : Hp) : Prop := ∃ fts : List Addr, Drawn st cl H G ∧ G pf = some (.lst (fts.map V.ref)) ∧ fts.length = l.length ∧ Made (upd H pf (.lst [])) G Φ ∧ Made (upd H pf (.lst [])) G (fun X => EachIs (ArgAt X) fts l) ∧ Liv (upd H pf (.lst [])) G
theorem FixInv.more {H G G2 : Hp} {st cl pf z : Addr} {Φ : Hp → Prop} {l : List Ar} {a : Ar} (h : FixInv H st cl pf Φ l G) (hp : H pf = none) (n1 : pf ≠ st) (n2 : pf ≠ cl) (s2 : Same G G2) (mz : Made (upd H pf (.lst [])) G2 (fun X => ArgAt X z a)) :
    ∃ xs, G2 pf = some (.lst xs) ∧ xs.length = l.length ∧ FixInv H st cl pf Φ (l ++ [a]) (upd G2 pf (.lst (xs ++ [V.ref z]))) := by
  obtain ⟨fts, d, e, lf, m1, m2, lv⟩ := h
  have d2 := d.trans (Drawn.of_same s2 d.ok)
  refine ⟨_, s2 _ _ e, by rw [List.length_map, lf], fts ++ [z], ⟨fun b o h1 h2 q => ?_, ?_, fun q => ?_⟩, by rw [upd_same, List.map_append]; rfl, by rw [List.length_append, List.length_append, lf]; rfl, (m1.same s2).write upd_same, ?_, (lv.trans (Liv.of s2)).upd⟩
  · rw [upd_ne (ne_of_none q hp)]
    exact d2.but b o h1 h2 q
  · obtain ⟨c, y, S⟩ := d2.ok
    exact ⟨c, y, by rw [upd_ne n1.symm]; exact S.hs, by rw [upd_ne n2.symm]; exact S.hc, S.lo, S.hi, S.len, S.nn⟩
  · rw [upd_ne n2.symm]
    exact d2.nil q
  · have m3 := (m2.same s2).and (mono_each mono_arg fts l) (mono_arg z a) mz
    exact (m3.write upd_same).map fun X ⟨h1, h2⟩ => each_snoc1 (R := ArgAt X) h2 h1
section
variable {P : Program} {w : World} {K : PySem.W.Frag} {mg : Str → Option Value} {base : Heap} {f : Addr} {fd : FuncData}
def spRule : Sp := fun vs H Q _ => ∃ (st cl : Addr), vs = [.ref st] ∧ StOk H st cl ∧ ∀ t ρ H', Drawn st cl H H' → Made H H' (fun X => RulAt X t ρ) → RulL ρ → Q (.ref t) H'
abbrev NR : List Str := ["state", "body", "k", "known", "sign", "name", "arguments", "rest", "head", "fixed", "argument", "atom", "v"]
theorem ok_rule (F : FnP K "_law_rule" s__law_rule f fd) (gL : mg "len" = none) (gR : mg "range" = none) (C : DrawC P w K mg base) (CA : Cal P w K mg base "_law_argument" 3 ["state"] spArgument) (CT : Cal P w K mg base "_law_atom" 4 ["state", "sign", "names"] spAtom) (CV : Cal P w K mg base "_law_variables" 1 ["arguments"] spVars) :
    FnOk P w K mg base CX0 5 f fd ["state"] spRule := by
  refine F.ok sc__law_rule (fun vs H Q E h => ?_) (fun cdv A outer s H vs Q E hr h => ?_)
  · obtain ⟨st, cl, rfl, _⟩ := h
    rfl
  · obtain ⟨st, cl, rfl, hS, q⟩ := h
    have nd := sc__law_rule.nd
    refine ⟨_, PSs.nox (pss_cons (ps_setLc (i := 1) (own := [("k", 2)]) (g := gName 2) (tt := tYes) (te := tCall spAtom [] E0 (tCons (tVar 0) (tCons (tC (.str "yes")) (tCons (tLst (tCons (tC (.str "u")) (tCons (tC (.str "w")) (tCons (tC (.str "w")) (tCons (tC (.str "own")) tNil))))) tNil)))) (by rfl) nd rfl rfl (sw_true rfl rfl rfl (by decide +kernel))
        (pi_range1 rfl gR (pa_cons (pe_ix ix_list (pe_lst (pa_cons pe_int (pa_cons pe_int (pa_cons pe_int (pa_cons pe_int (pa_cons pe_int (pa_cons pe_int pa_nil))))))) (pe_cal C hr.lt (pa_cons (pv 0) (pa_cons pe_int pa_nil))) (fun _ _ => rfl)) pa_nil))
        (blkOk_by (own := [("k", 2)]) (N := NR) (sc := defScope s__law_rule) (by decide +kernel)) (fun _ _ _ _ _ => pg_name (i := 2) nd rfl (Or.inl rfl)) (fun _ _ _ _ _ => pts_nil) (fun _ _ _ _ _ => pe_cal CT hr.lt (pa_cons (pv 0) (pa_cons pe_str (pa_cons (pe_lst (pa_cons pe_str (pa_cons pe_str (pa_cons pe_str (pa_cons pe_str pa_nil))))) pa_nil)))))
      (pss_cons (ps_set (i := 3) nd rfl (Or.inr rfl) (pe_lst pa_nil))
      (pss_cons (ps_for PassesOwn.never rfl (pi_list (pv 1)) (pg_tup rfl (pgs_cons (pg_name (i := 4) nd rfl (Or.inl rfl)) (pgs_cons (pg_name (i := 5) nd rfl (Or.inl rfl)) (pgs_cons (pg_name (i := 6) nd rfl (Or.inl rfl)) pgs_nil)))) (pss_one (ps_set (i := 3) nd rfl (Or.inr rfl) (pe_op op_cat (pv 3) (pe_cal CV hr.lt (pa_cons (pv 6) pa_nil))))))
      (pss_cons (ps_setLc (i := 7) (own := [("k", 2)]) (g := gName 2) (tt := tYes) (te := tCall spAtom [] E0 (tCons (tVar 0) (tCons (tC (.str "no")) (tCons (tLst (tCons (tC (.str "u")) (tCons (tC (.str "w")) tNil))) tNil)))) (by rfl) nd rfl rfl (sw_true rfl rfl rfl (by decide +kernel))
        (pi_range1 rfl gR (pa_cons (pe_ix ix_list (pe_lst (pa_cons pe_int (pa_cons pe_int (pa_cons pe_int (pa_cons pe_int pa_nil))))) (pe_cal C hr.lt (pa_cons (pv 0) (pa_cons pe_int pa_nil))) (fun _ _ => rfl)) pa_nil))
        (blkOk_by (own := [("k", 2)]) (N := NR) (sc := defScope s__law_rule) (by decide +kernel)) (fun _ _ _ _ _ => pg_name (i := 2) nd rfl (Or.inl rfl)) (fun _ _ _ _ _ => pts_nil) (fun _ _ _ _ _ => pe_cal CT hr.lt (pa_cons (pv 0) (pa_cons pe_str (pa_cons (pe_lst (pa_cons pe_str (pa_cons pe_str pa_nil))) pa_nil)))))
      (pss_cons (ps_setLc (i := 8) (own := [("k", 2)]) (g := gName 2) (tt := tYes) (te := tCall spArgument [] E0 (tCons (tVar 0) tNil)) (by rfl) nd rfl rfl (sw_true rfl rfl rfl (by decide +kernel))
        (pi_range1 rfl gR (pa_cons (pe_ix ix_list (pe_lst (pa_cons pe_int (pa_cons pe_int (pa_cons pe_int pa_nil)))) (pe_cal C hr.lt (pa_cons (pv 0) (pa_cons pe_int pa_nil))) (fun _ _ => rfl)) pa_nil))
        (blkOk_by (own := [("k", 2)]) (N := NR) (sc := defScope s__law_rule) (by decide +kernel)) (fun _ _ _ _ _ => pg_name (i := 2) nd rfl (Or.inl rfl)) (fun _ _ _ _ _ => pts_nil) (fun _ _ _ _ _ => pe_cal CA hr.lt (pa_cons (pv 0) pa_nil)))
      (pss_cons (ps_set (i := 9) nd rfl (Or.inl rfl) (pe_lst pa_nil))
      (pss_cons (ps_for PassesOwn.never rfl (pi_list (pv 8)) (pg_name (i := 10) nd rfl (Or.inl rfl)) (pss_one (ps_expr (pe_bm PySem.F.plainAttrs_list PySem.F.slot_list_append PySem.F.type_list_append mt_append (pv 9) (pa_cons (pe_ifExp (PW.pt (pw_or (pt_cmpR op_eq (pe_ix ix_tup (pv 10) pe_int (fun _ _ => rfl)) pe_str (nomark _)) (pw_or1 (pt_cmpR op_in_seq (pe_ix ix_tup (pv 10) pe_int (fun _ _ => rfl)) (pv 3) (by with_unfolding_all rfl))))) (pv 10) (pe_tup (pa_cons pe_str (pa_cons pe_int pa_nil)))) pa_nil)))))
      (pss_cons (ps_setLc (i := 7) (own := [("atom", 11)]) (g := gName 11) (tt := tTest (tOp rEq (tCB (fun xs H Q => ∃ p ys, xs = [.ref p] ∧ (SqL K H p ys ∨ SqT K H p ys) ∧ Q (.int ys.length) H) (tCons (tLc (iList K (tCall spVars [] E0 (tCons (tOp (rIxT K) (tVar 11) (tC (.int 2))) tNil))) (gName 12) (tTest (tOp (rIn K true) (tVar 12) (tVar 3))) (tVar 12) [12]) tNil)) (tC (.int 0)))) (te := tVar 11) (by rfl) nd rfl rfl (sw_true rfl rfl rfl (by decide +kernel)) (pi_list (pv 7))
        (blkOk_by (own := [("atom", 11)]) (N := NR) (sc := defScope s__law_rule) (by decide +kernel)) (fun _ _ _ _ _ => pg_name (i := 11) nd rfl (Or.inl rfl))
        (fun _ _ _ _ _ => pts_one (pt_cmpR op_eq (pe_callB call_len_seq (by rfl) gL PySem.boot_len (pa_cons (pe_lc (own := [("v", 12)]) (g := gName 12) (tt := tTest (tOp (rIn K true) (tVar 12) (tVar 3))) (te := tVar 12) (by rfl) nd (pi_list (pe_cal CV hr.lt (pa_cons (pe_ix ix_tup (pv 11) pe_int (fun _ _ => rfl)) pa_nil)))
          (by have h : BlkOk NR { kind := ScopeKind.function, names := [(".0", NameKind.local), ("atom", NameKind.local), ("len", NameKind.globalImplicit), ("_law_variables", NameKind.globalImplicit), ("known", NameKind.cell)], isGenerator := false, isCoroutine := false } { kind := ScopeKind.function, names := [(".0", NameKind.local), ("v", NameKind.local), ("known", NameKind.free)], isGenerator := false, isCoroutine := false } [("v", 12)] := blkOk_by (by decide +kernel); exact h) (fun _ _ _ _ _ => pg_name (i := 12) nd rfl (Or.inl rfl)) (fun _ _ _ _ _ => pts_one (pt_cmpR op_notIn_seq (pv 12) (pv 3) (by with_unfolding_all rfl))) (fun _ _ _ _ _ => pv 12)) pa_nil)) pe_int (nomark _))) (fun _ _ _ _ _ => pv 11))
      (pss_cons (ps_if (pt_cmpR op_eq (pe_cal C hr.lt (pa_cons (pv 0) (pa_cons pe_int pa_nil))) pe_int (nomark _)) (pss_one (ps_ret (pe_tup (pa_cons (pv 9) (pa_cons (pe_op op_cat (pv 7) (pv 1)) pa_nil))))) pss_nil)
      (pss_one (ps_ret (pe_tup (pa_cons (pv 9) (pa_cons (pe_op op_cat (pv 1) (pv 7)) pa_nil)))))))))))))), ?_⟩
    have big : (2000 : Nat) ≤ sizeLine := by decide
    refine ⟨(by show 6 ≤ sizeLine; decide), fun p0 hp0 => ⟨_, rfl, st, cl, 6, rfl, hS.lay hp0, by decide, by decide, fun v H1 d1 v0 v1 => ?_⟩⟩
    obtain ⟨m1, e1, l1⟩ := pick6 v0 v1
    refine ⟨p0, _, v, _, rfl, rfl, sq_l (d1.newly hS hp0), e1, _, rfl, by omega, by omega, fun D1 hD1 => ?_⟩
    have D01 := (Drawn.of_same (same_new (o := .lst [V.int 0, .int 1, .int 1, .int 2, .int 2, .int 3]) hp0) hS).trans d1
    refine range_draw (st := st) (cl := cl) (R := AtmAt) (Ok := AtmOk true namesY) mono_atm d1.ok hD1 (by omega) walk_range (fun _ _ _ _ y => y.1) ?_ ?_
    · rintro i x H3 hi ok3 ⟨_, rfl⟩ Q' Qn k1
      refine ⟨rfl, yes_in ⟨_, rfl, (by show 4 ≤ sizeLine; decide), fun pn hpn => ?_⟩⟩
      have s3 : Same H3 (upd H3 pn (.lst [.str "u", .str "w", .str "w", .str "own"])) := same_new hpn
      obtain ⟨n1, n2⟩ : pn ≠ st ∧ pn ≠ cl := by
        obtain ⟨c, z, S⟩ := ok3
        exact S.off hpn
      exact ⟨st, cl, pn, true, namesY, rfl, ok3.same s3, ⟨upd_same, n1, n2⟩, by decide, by decide, (by
        intro n hn
        simp only [namesY, List.mem_cons, List.not_mem_nil, or_false] at hn
        rcases hn with rfl | rfl | rfl | rfl <;> simp), fun t a H4 d4 m4 oa => k1 t a H4 ((Drawn.of_same s3 ok3).trans d4) (m4.from_ (Liv.of s3)) oa⟩
    · intro H2 ts ys d2 m2 oky ly
      have d02 := D01.trans d2
      have tl : ts.length = ys.length := by
        obtain ⟨X, _, _, _, e⟩ := m2
        exact e.length
      have ly3 : ys.length ≤ 3 := by omega
      have mφ : Mono fun X => X D1 = some (.lst (ts.map V.ref)) ∧ EachIs (AtmAt X) ts ys := mono_and (mono_obj _ _) (mono_each mono_atm ts ys)
      have m2 := m2.from_ D01.liv
      have alen : ∀ a ∈ ys, a.args.length ≤ 2 := fun a ha => by
        rw [(oky a ha).len]
        unfold szOf
        split <;> omega
      have klen : ∀ i, (knownOf (ys.take i)).length ≤ 6 := fun i => by
        refine Nat.le_trans (flat_len (b := 2) fun a ha => Nat.le_trans (vars_len _) (alen a (List.mem_of_mem_take ha))) ?_
        have : (ys.take i).length ≤ 3 := Nat.le_trans (List.length_take_le' _ _) ly3
        omega
      refine ⟨Nat.zero_le _, fun pk0 hpk0 => ?_⟩
      have b1 : ∀ {G : Hp}, Made H G (fun X => (X D1 = some (.lst (ts.map V.ref)) ∧ EachIs (AtmAt X) ts ys)) → G D1 = some (.lst (ts.map V.ref)) ∧ EachIs (AtmAt G) ts ys := fun m => m.at_ mφ
      refine ⟨_, rfl, D1, rfl, ⟨_, sq_l (by rw [upd_ne (ne_of_none (b1 m2).1 hpk0)]; exact (b1 m2).1)⟩, ?_⟩
      refine for_it (walk_list (xs := ts.map V.ref)) (fun i σ G => ∃ pk x4 x5 x6, σ = [some (.ref st), some (.ref D1), none, some (.ref pk), x4, x5, x6, none, none, none, none, none, none] ∧ Drawn st cl H G ∧ Made H G (fun X => (X D1 = some (.lst (ts.map V.ref)) ∧ EachIs (AtmAt X) ts ys) ∧ X pk = some (.lst ((knownOf (ys.take i)).map V.int))))
        ⟨pk0, none, none, none, rfl, d02.put hpk0, m2.new mφ d02.liv hpk0 _⟩ (fun i σ G _ z => by
          obtain ⟨pk, x4, x5, x6, _, _, z⟩ := z
          exact sq_l ((z.map fun X q => q.1).at_ mφ).1) ?_ ?_
      · rintro i x σ _ G hi ⟨pk, x4, x5, x6, rfl, dG, mG⟩ ⟨rfl, hx⟩
        obtain ⟨t, ht, rfl⟩ := ref_at hx
        have mG1 := mG.map fun X q => q.1
        obtain ⟨a, ha, pa, h1, h2⟩ := each_at (b1 mG1).2 ht
        have am := List.mem_of_getElem? ha
        have hpk : G pk = some (.lst ((knownOf (ys.take i)).map V.int)) := (mG.map fun X q => q.2).at_ (mono_obj _ _)
        have kl := klen i
        have al := alen a am
        have vl := vars_len a.args
        refine ⟨t, _, rfl, sq_t h1, rfl, _, _, rfl, _, _, rfl, _, _, rfl, rfl, _, rfl, _, rfl, pa, a.args, rfl, h2, by omega, fun G2 q2 s2 _ hq2 => ?_⟩
        refine ⟨pk, q2, _, _, rfl, rfl, s2 _ _ hpk, hq2, by rw [List.length_map, List.length_map]; omega, fun p3 hp3 => ?_⟩
        have dG2 := dG.trans (Drawn.of_same s2 dG.ok)
        refine ⟨p3, _, _, _, rfl, dG2.put hp3, ?_⟩
        have m3 := (mG1.same s2).new mφ dG2.liv hp3 (.lst ((knownOf (ys.take i)).map V.int ++ (varsOf a.args).map V.int))
        refine m3.map fun X q => ⟨q.1, ?_⟩
        rw [q.2, List.take_add_one, ha, ← List.map_append]
        unfold knownOf
        rw [List.flatMap_append]
        simp
      · rintro σ G ⟨pk, x4, x5, x6, rfl, dG, mG⟩
        rw [List.length_map, tl, List.take_length] at mG
        have kl := klen ys.length
        rw [List.take_length] at kl
        have mφ1 : Mono fun X => (X D1 = some (.lst (ts.map V.ref)) ∧ EachIs (AtmAt X) ts ys) ∧ X pk = some (.lst ((knownOf ys).map V.int)) := mono_and mφ (mono_obj _ _)
        refine ⟨(by show 4 ≤ sizeLine; decide), fun p4 hp4 => ⟨_, rfl, st, cl, 4, rfl, dG.ok.lay hp4, by decide, by decide, fun v4 H4 d4 v40 v41 => ?_⟩⟩
        obtain ⟨m4, e4, l4⟩ := pick4 v40 v41
        refine ⟨p4, _, v4, _, rfl, rfl, sq_l (d4.newly dG.ok hp4), e4, _, rfl, by omega, by omega, fun D7 hD7 => ?_⟩
        have dG4 := (dG.put (o := .lst [V.int 0, .int 0, .int 1, .int 2]) hp4).trans d4
        have mG4 := (mG.same (same_new (o := .lst [V.int 0, .int 0, .int 1, .int 2]) hp4)).drawn hS d4
        refine range_draw (st := st) (cl := cl) (R := AtmAt) (Ok := AtmOk false namesN) mono_atm d4.ok hD7 (by omega) walk_range (fun _ _ _ _ y => y.1) ?_ ?_
        · rintro i x H3 hi ok3 ⟨_, rfl⟩ Q' Qn k1
          refine ⟨rfl, yes_in ⟨_, rfl, (by show 2 ≤ sizeLine; decide), fun pn hpn => ?_⟩⟩
          have s3 : Same H3 (upd H3 pn (.lst [.str "u", .str "w"])) := same_new hpn
          obtain ⟨n1, n2⟩ : pn ≠ st ∧ pn ≠ cl := by
            obtain ⟨c, z, S⟩ := ok3
            exact S.off hpn
          exact ⟨st, cl, pn, false, namesN, rfl, ok3.same s3, ⟨upd_same, n1, n2⟩, by decide, by decide, (by
            intro n hn
            simp only [namesN, List.mem_cons, List.not_mem_nil, or_false] at hn
            rcases hn with rfl | rfl <;> simp), fun t a H4 d4 m4 oa => k1 t a H4 ((Drawn.of_same s3 ok3).trans d4) (m4.from_ (Liv.of s3)) oa⟩
        · intro H5 ts7 ns d5 m5 okn ln
          have mφ7 : Mono fun X => X D7 = some (.lst (ts7.map V.ref)) ∧ EachIs (AtmAt X) ts7 ns := mono_and (mono_obj _ _) (mono_each mono_atm ts7 ns)
          have dG5 := dG4.trans d5
          have mG5 := (mG4.drawn hS d5).and mφ1 mφ7 (m5.from_ dG4.liv)
          have mφ17 := mono_and mφ1 mφ7
          refine ⟨(by show 3 ≤ sizeLine; decide), fun p6 hp6 => ⟨_, rfl, st, cl, 3, rfl, dG5.ok.lay hp6, by decide, by decide, fun v6 H6 d6 v60 v61 => ?_⟩⟩
          obtain ⟨m6, e6, l6, l62⟩ := pick3 v60 v61
          refine ⟨p6, _, v6, _, rfl, rfl, sq_l (d6.newly dG5.ok hp6), e6, _, rfl, by omega, by omega, fun D8 hD8 => ?_⟩
          have dG6 := (dG5.put (o := .lst [V.int 1, .int 2, .int 2]) hp6).trans d6
          have mG6 := (mG5.same (same_new (o := .lst [V.int 1, .int 2, .int 2]) hp6)).drawn hS d6
          refine range_draw (st := st) (cl := cl) (R := ArgAt) (Ok := ArOk) mono_arg d6.ok hD8 (by omega) walk_range (fun _ _ _ _ y => y.1) ?_ ?_
          · rintro i x H3 hi ok3 ⟨_, rfl⟩ Q' Qn k1
            exact ⟨rfl, yes_in ⟨_, rfl, st, cl, rfl, ok3, fun t a H4 d4 m4 oa => k1 t a H4 d4 m4 oa⟩⟩
          · intro H8 ts8 hd d8 m8 okh lh
            have mφ8 : Mono fun X => X D8 = some (.lst (ts8.map V.ref)) ∧ EachIs (ArgAt X) ts8 hd := mono_and (mono_obj _ _) (mono_each mono_arg ts8 hd)
            have dG8 := dG6.trans d8
            have mG8 := (mG6.drawn hS d8).and mφ17 mφ8 (m8.from_ dG6.liv)
            have mφ178 := mono_and mφ17 mφ8
            have lh2 : 1 ≤ hd.length ∧ hd.length ≤ 2 := by omega
            refine ⟨Nat.zero_le _, fun pf hpf => ?_⟩
            have hpfH := dG8.liv.free hpf
            have mB := mG8.mark hpf (.lst [])
            have tl8 : ts8.length = hd.length := by
              obtain ⟨X, _, _, _, e⟩ := m8
              exact e.length
            obtain ⟨pfs, pfc⟩ : pf ≠ st ∧ pf ≠ cl := by
              obtain ⟨c, z, S⟩ := dG8.ok
              exact S.off hpf
            refine ⟨_, rfl, D8, rfl, ⟨_, sq_l (by rw [upd_ne (ne_of_none (mG8.at_ mφ178).2.1 hpf)]; exact (mG8.at_ mφ178).2.1)⟩, ?_⟩
            obtain ⟨Φ, eΦ⟩ : ∃ Φ : Hp → Prop, Φ = fun X => (((X D1 = some (.lst (ts.map V.ref)) ∧ EachIs (AtmAt X) ts ys) ∧ X pk = some (.lst ((knownOf ys).map V.int))) ∧ X D7 = some (.lst (ts7.map V.ref)) ∧ EachIs (AtmAt X) ts7 ns) ∧ X D8 = some (.lst (ts8.map V.ref)) ∧ EachIs (ArgAt X) ts8 hd := ⟨_, rfl⟩
            have mΦ : Mono Φ := by rw [eΦ]; exact mφ178
            have mB2 : Made (upd H pf (.lst [])) (upd H8 pf (.lst [])) Φ := by rw [eΦ]; exact mB
            have lv8 : Liv (upd H pf (.lst [])) (upd H8 pf (.lst [])) := fun a o e => by
              by_cases z : a = pf
              · exact ⟨_, by rw [z]; exact upd_same⟩
              · rw [upd_ne z] at e
                obtain ⟨o2, e2⟩ := dG8.liv a o e
                exact ⟨o2, by rw [upd_ne z]; exact e2⟩
            refine for_it (walk_list (xs := ts8.map V.ref)) (fun i σ G => ∃ x10, σ = [some (.ref st), some (.ref D1), none, some (.ref pk), x4, x5, x6, some (.ref D7), some (.ref D8), some (.ref pf), x10, none, none] ∧ FixInv H st cl pf Φ ((hd.take i).map (fixA (knownOf ys))) G)
              ⟨none, rfl, [], dG8.put hpf, upd_same, rfl, mB2, (Made.triv _ _).map fun X _ => .nil, lv8⟩ (fun i σ G _ z => by
                obtain ⟨x10, _, fts, _, _, _, z, _⟩ := z
                have := z.at_ mΦ
                rw [eΦ] at this
                exact sq_l this.2.1) ?_ ?_
            · rintro i x σ _ G hi ⟨x10, rfl, hF⟩ ⟨rfl, hx⟩
              obtain ⟨t, ht, rfl⟩ := ref_at hx
              obtain ⟨fts, dG9, hfts, lf, mA, mF, lv⟩ := id hF
              have at9 := mA.at_ mΦ
              rw [eΦ] at at9
              obtain ⟨a, ha, hta⟩ := each_at at9.2.2 ht
              have lfi : ((hd.take i).map (fixA (knownOf ys))).length < sizeLine := by
                rw [List.length_map]
                have := List.length_take_le' i hd
                omega
              have tk : (hd.take (i + 1)).map (fixA (knownOf ys)) = (hd.take i).map (fixA (knownOf ys)) ++ [fixA (knownOf ys) a] := by
                rw [List.take_add_one, ha, List.map_append]
                rfl
              have kept : Made (upd H pf (.lst [])) G (fun X => ArgAt X t a) := mA.map fun X h => by
                rw [eΦ] at h
                exact each_get h.2.2 ht ha
              have hk : G pk = some (.lst ((knownOf ys).map V.int)) := at9.1.1.2
              refine ⟨_, rfl, .inl ⟨rfl, _, .inl (.inl hfts)⟩, ?_⟩
              have fin : ∀ (G2 : Hp) (z : Addr), Same G G2 → Made (upd H pf (.lst [])) G2 (fun X => ArgAt X z (fixA (knownOf ys) a)) → ∃ xs, G2 pf = some (.lst xs) ∧ xs.length < sizeLine ∧ FixInv H st cl pf Φ ((hd.take (i + 1)).map (fixA (knownOf ys))) (upd G2 pf (.lst (xs ++ [V.ref z]))) := fun G2 z s2 mz => by
                obtain ⟨xs, e, le, inv⟩ := hF.more hpfH pfs pfc s2 mz
                rw [← tk] at inv
                exact ⟨xs, e, by rw [le]; exact lfi, inv⟩
              refine ⟨_, rfl, t, _, 0, _, rfl, rfl, sq_t hta.tup, atI_nat (j := 0) rfl, rfl, _, rfl, ?_⟩
              have vc : ¬ (("var" : Str) = "const") := by decide +kernel
              cases a with
              | c k =>
                rw [show decide (V.str (Ar.c k).sign = V.str "const") = true from decide_eq_true rfl]
                obtain ⟨xs, e, le, inv⟩ := fin G t (Same.refl _) kept
                exact iteT (iteT ⟨_, rfl, pf, xs, _, rfl, rfl, e, le, _, rfl, inv⟩)
              | v n =>
                rw [show decide (V.str (Ar.v n).sign = V.str "const") = false from decide_eq_false fun z => vc (by injection z)]
                refine iteF ⟨_, rfl, t, _, 1, _, rfl, rfl, sq_t hta.tup, atI_nat (j := 1) rfl, _, rfl, pk, _, rfl, .inl (sq_l hk), rfl, flat_ints _, _, rfl, ?_⟩
                by_cases c : inB (knownOf ys) n = true
                · have ef : fixA (knownOf ys) (.v n) = .v n := by unfold fixA; exact if_pos c
                  rw [ef] at fin
                  obtain ⟨xs, e, le, inv⟩ := fin G t (Same.refl _) kept
                  have c' : (if false = true then !inV (V.int n) ((knownOf ys).map V.int) else inV (V.int n) ((knownOf ys).map V.int)) = true := by rw [if_neg Bool.false_ne_true]; exact c
                  show if (if false = true then !inV (V.int n) ((knownOf ys).map V.int) else inV (V.int n) ((knownOf ys).map V.int)) = true then _ else _
                  rw [if_pos c']
                  exact ⟨_, rfl, pf, xs, _, rfl, rfl, e, le, _, rfl, inv⟩
                · have ef : fixA (knownOf ys) (.v n) = .c (.inl 0) := by unfold fixA; exact if_neg c
                  rw [ef] at fin
                  have c' : ¬ (if false = true then !inV (V.int n) ((knownOf ys).map V.int) else inV (V.int n) ((knownOf ys).map V.int)) = true := by rw [if_neg Bool.false_ne_true]; exact c
                  show if (if false = true then !inV (V.int n) ((knownOf ys).map V.int) else inV (V.int n) ((knownOf ys).map V.int)) = true then _ else _
                  rw [if_neg c']
                  refine ⟨(by show 2 ≤ sizeLine; decide), fun z hz => ?_⟩
                  obtain ⟨xs, e, le, inv⟩ := fin _ z (same_new hz) ((Made.one lv hz _).map fun _ h => h)
                  exact ⟨pf, xs, _, rfl, rfl, e, le, _, rfl, inv⟩
            · rintro σ G ⟨x10, rfl, hF⟩
              rw [List.length_map, tl8, List.take_length] at hF
              obtain ⟨fts, dG9, hfts, lf, mA, mF, lv⟩ := hF
              have at9 := mA.at_ mΦ
              rw [eΦ] at at9
              have tl7 : ts7.length = ns.length := at9.1.2.2.length
              have hk : G pk = some (.lst ((knownOf ys).map V.int)) := at9.1.1.2
              have ln2 : ns.length ≤ 2 := by omega
              refine ⟨_, rfl, D7, rfl, ⟨_, sq_l at9.1.2.1⟩, fun D9 hD9 => ?_⟩
              refine lc_same (walk_list (xs := ts7.map V.ref)) (ts7.zip ns) (by rw [List.length_map, List.length_zip, tl7, Nat.min_self]) (fun p => okN (knownOf ys) p.2) (fun _ v p => v = .ref p.1) (fun _ _ _ _ _ z => z) hD9 (fun G' s' => sq_l (s' _ _ at9.1.2.1)) (by rw [List.length_map]; omega) ?_ ?_
              · rintro i x ⟨u', a⟩ _ G1 hi hb s1 ⟨rfl, hx⟩ Q' Qn k1 k2
                obtain ⟨u, hu, rfl⟩ := ref_at hx
                obtain ⟨hb1, hb2⟩ := List.getElem?_zip_eq_some.mp hb
                obtain rfl : u = u' := Option.some.inj (hu.symm.trans hb1)
                obtain ⟨pa, h1, h2⟩ := each_get at9.1.2.2 hu hb2
                have al : a.args.length ≤ 2 := by
                  rw [(okn a (List.mem_of_getElem? hb2)).len]
                  unfold szOf
                  split <;> omega
                have vl := vars_len a.args
                refine ⟨rfl, if_inS (c := okN (knownOf ys) a) (fun Q2 z => ?_) (fun hc H6 s6 => ⟨_, rfl, k1 hc _ _ s6 rfl⟩) fun hc H6 s6 => k2 hc _ s6⟩
                refine ⟨_, rfl, u, _, 2, _, rfl, rfl, sq_t (s1 _ _ h1), atI_nat (j := 2) rfl, pa, a.args, rfl, h2.keep (KeepS.of s1), by omega, fun G2 q2 s2 _ hq2 => ⟨q2, rfl, ⟨_, sq_l hq2⟩, fun D12 hD12 => ?_⟩⟩
                refine lc_same (walk_list (xs := (varsOf a.args).map V.int)) (varsOf a.args) (by rw [List.length_map]) (fun n => !inB (knownOf ys) n) (fun _ v n => v = .int n) (fun _ _ _ _ _ z => z) hD12 (fun G' s' => sq_l (s' _ _ hq2)) (by rw [List.length_map]; omega) ?_ ?_
                · rintro j y n _ G3 hj hb3 s3 ⟨rfl, hy⟩ Q3 Qn3 k3 k4
                  have ey : y = .int n := by
                    rw [List.getElem?_map, hb3] at hy
                    exact (Option.some.inj hy).symm
                  subst ey
                  refine ⟨rfl, if_in (c := !inB (knownOf ys) n) (fun Q4 z4 => ⟨_, rfl, _, rfl, pk, _, rfl, .inl (sq_l (s3 _ _ (s2 _ _ (s1 _ _ hk)))), rfl, flat_ints _, _, rfl, ?_⟩) (fun hc => ⟨_, rfl, k3 hc _ _ (Same.refl _) rfl⟩) fun hc => k4 hc _ (Same.refl _)⟩
                  show Q4 (if true = true then !inV (V.int n) ((knownOf ys).map V.int) else inV (V.int n) ((knownOf ys).map V.int)) G3
                  rw [if_pos rfl]
                  exact z4
                · intro G4 acc s4 ha4 he4
                  refine ⟨D12, acc, rfl, .inl (sq_l ha4), rfl, _, rfl, ?_⟩
                  rw [none_left he4]
                  exact z G4 (s2.trans s4)
              · intro G3 acc s3 ha3 he3
                have e3 : acc = (((ts7.zip ns).filter fun p => okN (knownOf ys) p.2).map (·.1)).map V.ref := by
                  clear ha3
                  generalize (ts7.zip ns).filter (fun p => okN (knownOf ys) p.2) = zl at he3
                  induction he3 with
                  | nil => rfl
                  | cons h t ih => rw [h, ih]; rfl
                obtain ⟨us, eus⟩ : ∃ us, us = ((ts7.zip ns).filter fun p => okN (knownOf ys) p.2).map (·.1) := ⟨_, rfl⟩
                obtain ⟨ns2, ens⟩ : ∃ ns2, ns2 = ns.filter fun a => okN (knownOf ys) a := ⟨_, rfl⟩
                rw [e3, ← eus] at ha3
                have okB : StOk (upd H pf (.lst [])) st cl := hS.lay hpfH
                -- all that stands
                have mAll := (((mA.and mΦ (mono_each mono_arg fts _) mF).also (mono_and mΦ (mono_each mono_arg fts _)) lv s3 hD9 ha3))
                have mAllM := mono_and (mono_and mΦ (mono_each mono_arg fts ((hd.map (fixA (knownOf ys)))))) (mono_obj D9 (.lst (us.map V.ref)))
                have ok3 := dG9.ok.same s3
                refine ⟨_, rfl, st, cl, 2, rfl, ok3, by decide, by decide, fun v9 H9 d9 v90 v91 => ⟨rfl, _, rfl, ?_⟩⟩
                have m9 := Made.unmark mAllM (mAll.drawn okB d9) hpfH (d9.but pf _ pfs pfc (s3 _ _ hfts))
                have dH9 : Drawn st cl H H9 := (dG9.trans (Drawn.of_same s3 dG9.ok)).trans d9
                have mm := mono_and mAllM (mono_obj pf (.lst (fts.map V.ref)))
                have at10 := m9.at_ mm
                have at11 := at10.1.1.1
                rw [eΦ] at at11
                have hD1 : H9 D1 = some (.lst (ts.map V.ref)) := at11.1.1.1.1
                have hD9 : H9 D9 = some (.lst (us.map V.ref)) := at10.1.2
                have lus : us.length ≤ 2 := by
                  rw [eus, List.length_map]
                  refine Nat.le_trans (List.length_filter_le _ _) ?_
                  rw [List.length_zip]
                  omega
                have ln3 : ns2.length ≤ 2 := by
                  rw [ens]
                  exact Nat.le_trans (List.length_filter_le _ _) ln2
                have fact : ∀ (bd : List Atm) (l : List Addr), (bd = ns2 ++ ys ∨ bd = ys ++ ns2) → (∀ X : Hp, EachIs (AtmAt X) ts ys → EachIs (AtmAt X) us ns2 → EachIs (AtmAt X) l bd) → ∀ pc, H9 pc = none → ∀ pt, (upd H9 pc (.lst (l.map V.ref))) pt = none → Q (.ref pt) (upd (upd H9 pc (.lst (l.map V.ref))) pt (.tup [.ref pf, .ref pc])) := fun bd l hb hl pc hpc pt hpt => by
                  have m10 := (m9.new mm dH9.liv hpc (.lst (l.map V.ref)))
                  have m11 := m10.new (mono_and mm (mono_obj _ _)) dH9.liv.upd hpt (.tup [.ref pf, .ref pc])
                  refine q pt ⟨hd.map (fixA (knownOf ys)), bd⟩ _ ((dH9.put hpc).put hpt) (m11.map fun X h => ?_) ⟨⟨ys, ns2, hb, ly3, ln3, oky, fun a ha => ?_, fun n hn => ?_⟩, fun a ha => ?_, ?_⟩
                  · obtain ⟨⟨⟨⟨⟨h1, h2⟩, h3⟩, h4⟩, h5⟩, h6⟩ := h
                    rw [eΦ] at h1
                    refine ⟨pf, pc, h6, ⟨fts, h4, h2⟩, l, h5, hl X h1.1.1.1.2 ?_⟩
                    rw [eus, ens]
                    exact each_zip (R := AtmAt X) (q := fun a => okN (knownOf ys) a) (fun a b => rfl) h1.1.2.2
                  · rw [ens] at ha
                    obtain ⟨z1, z2⟩ := List.mem_filter.mp ha
                    exact ⟨okn a z1, fun n hn => known_mem.mp (okN_iff.mp z2 n hn)⟩
                  · obtain ⟨a, ha, e⟩ := List.mem_map.mp hn
                    exact known_mem.mp (fix_var e)
                  · obtain ⟨b, hb2, rfl⟩ := List.mem_map.mp ha
                    exact fix_ok (okh b hb2)
                  · show 1 ≤ (hd.map (fixA (knownOf ys))).length ∧ (hd.map (fixA (knownOf ys))).length ≤ 2
                    rw [List.length_map]
                    exact lh2
                refine ite2 (fun _ => ?_) fun _ => ?_
                · refine ⟨_, rfl, _, rfl, _, rfl, D9, D1, _, _, rfl, rfl, hD9, hD1, by rw [List.length_map, List.length_map]; omega, fun pc hpc => ⟨(by show 2 ≤ sizeLine; decide), fun pt hpt => ?_⟩⟩
                  rw [← List.map_append] at hpt ⊢
                  exact fact (ns2 ++ ys) (us ++ ts) (.inl rfl) (fun X h1 h2 => each_cat h1 h2) pc hpc pt hpt
                · refine ⟨_, rfl, _, rfl, _, rfl, D1, D9, _, _, rfl, rfl, hD1, hD9, by rw [List.length_map, List.length_map]; omega, fun pc hpc => ⟨(by show 2 ≤ sizeLine; decide), fun pt hpt => ?_⟩⟩
                  rw [← List.map_append] at hpt ⊢
                  exact fact (ys ++ ns2) (ts ++ us) (.inr rfl) (fun X h1 h2 => each_cat h2 h1) pc hpc pt hpt
end
end KA
set_option Elab.async false
set_option linter.all false
set_option maxRecDepth 100000
set_option maxHeartbeats 8000000
/-! the law's sets -/
namespace KA
open PySem PySem.Spec PyProof.Rows L2
open PySem.W (EachIs)
theorem mono_row (t : Addr) (r : Row) : Mono fun X => RowAt X t r := fun X Y s h => s _ _ h
theorem mono_rows (p : Addr) (l : List Row) : Mono fun X => RowsAt X p l := fun X Y s ⟨ts, h1, h2⟩ => ⟨ts, s _ _ h1, h2.mono fun _ _ z => s _ _ z⟩
/-- a row of the law: of a length, of its values -/
structure RowL (n : Nat) (r : Row) : Prop where
  len : r.length = n
  ones : ∀ x ∈ r, x ∈ ones
/-- a list that grows by what is made at the run -/
def GrowInv (B : Hp) (H : Hp) (st cl p : Addr) (n : Nat) (i : Nat) (G : Hp) : Prop := ∃ (ts : List Addr) (rs : List Row), Drawn st cl H G ∧ G p = some (.lst (ts.map V.ref)) ∧ rs.length ≤ i ∧ (∀ r ∈ rs, RowL n r) ∧ Made B G (fun X => EachIs (RowAt X) ts rs) ∧ Liv B G
theorem GrowInv.more {B H G G2 : Hp} {st cl p t : Addr} {n i : Nat} {r : Row} (h : GrowInv B H st cl p n i G) (okB : StOk B st cl) (hp : H p = none) {o : HO} (bp : B p = some o) (n1 : p ≠ st) (n2 : p ≠ cl) (d2 : Drawn st cl G G2) (hr : RowL n r) (mt : Made B G2 (fun X => RowAt X t r)) (hi : i < 1000) :
    ∃ xs, G2 p = some (.lst xs) ∧ xs.length < sizeLine ∧ GrowInv B H st cl p n (i + 1) (upd G2 p (.lst (xs ++ [V.ref t]))) := by
  obtain ⟨ts, rs, d, e, l, ok, m, lv⟩ := h
  have big : (2000 : Nat) ≤ sizeLine := by decide
  have lts : ts.length = rs.length := by
    obtain ⟨X, _, _, z⟩ := m
    exact z.length
  have d3 := d.trans d2
  refine ⟨_, d2.but p _ n1 n2 e, by rw [List.length_map]; omega, ts ++ [t], rs ++ [r], ⟨fun b o h1 h2 q => ?_, ?_, fun q => ?_⟩, by rw [upd_same, List.map_append]; rfl, by rw [List.length_append]; simp; omega, fun x hx => ?_, ?_, (lv.trans d2.liv).upd⟩
  · rw [upd_ne (ne_of_none q hp)]
    exact d3.but b o h1 h2 q
  · obtain ⟨c, y, S⟩ := d3.ok
    exact ⟨c, y, by rw [upd_ne n1.symm]; exact S.hs, by rw [upd_ne n2.symm]; exact S.hc, S.lo, S.hi, S.len, S.nn⟩
  · rw [upd_ne n2.symm]
    exact d3.nil q
  · rcases List.mem_append.mp hx with z | z
    · exact ok x z
    · rw [List.mem_singleton.mp z]; exact hr
  · have m3 := (m.drawn okB d2).and (mono_each mono_row ts rs) (mono_row t r) mt
    exact (m3.write bp).map fun X ⟨h1, h2⟩ => each_snoc1 (R := RowAt X) h2 h1
/-- the lists under u and w -/
def SetL (X : Hp) (d : Addr) (ru rw : List Row) : Prop := ∃ pu pw, X d = some (.dK [((.inr ("u" : Str) : Key), V.ref pu), (.inr ("w" : Str), V.ref pw)]) ∧ RowsAt X pu ru ∧ RowsAt X pw rw
theorem mono_setL (d : Addr) (ru rw : List Row) : Mono fun X => SetL X d ru rw := fun X Y s ⟨pu, pw, h1, h2, h3⟩ => ⟨pu, pw, s _ _ h1, mono_rows pu ru X Y s h2, mono_rows pw rw X Y s h3⟩
/-- the base's own three objects are new, too -/
theorem Made.three {B H G : Hp} {φ : Hp → Prop} (hφ : Mono φ) (m : Made B G φ) (sB : Same H B) {a b c : Addr} {oa ob oc ua ub uc : HO} (ha : H a = none) (hb : H b = none) (hc : H c = none) (ba : B a = some oa) (bb : B b = some ob) (bc : B c = some oc) (ga : G a = some ua) (gb : G b = some ub) (gc : G c = some uc) :
    Made H G fun X => φ X ∧ X a = some ua ∧ X b = some ub ∧ X c = some uc := by
  obtain ⟨X, s, n, q⟩ := m
  have Xa : X a = none := n _ _ ba
  have Xb : X b = none := n _ _ bb
  have Xc : X c = none := n _ _ bc
  refine ⟨fun z => if z = a ∨ z = b ∨ z = c then G z else X z, fun z v e => ?_, fun z v e => ?_, hφ X _ (fun z v e => ?_) q, ?_, ?_, ?_⟩
  · by_cases h : z = a ∨ z = b ∨ z = c
    · have e' : (if z = a ∨ z = b ∨ z = c then G z else X z) = some v := e
      rw [if_pos h] at e'
      exact e'
    · have e' : (if z = a ∨ z = b ∨ z = c then G z else X z) = some v := e
      rw [if_neg h] at e'
      exact s _ _ e'
  · have h : ¬ (z = a ∨ z = b ∨ z = c) := by
      rintro (rfl | rfl | rfl)
      · rw [ha] at e; cases e
      · rw [hb] at e; cases e
      · rw [hc] at e; cases e
    show (if z = a ∨ z = b ∨ z = c then G z else X z) = none
    rw [if_neg h]
    exact n _ _ (sB _ _ e)
  · have h : ¬ (z = a ∨ z = b ∨ z = c) := by
      rintro (rfl | rfl | rfl)
      · rw [Xa] at e; cases e
      · rw [Xb] at e; cases e
      · rw [Xc] at e; cases e
    show (if z = a ∨ z = b ∨ z = c then G z else X z) = some v
    rw [if_neg h]
    exact e
  · show (if a = a ∨ a = b ∨ a = c then G a else X a) = some ua
    rw [if_pos (.inl rfl)]; exact ga
  · show (if b = a ∨ b = b ∨ b = c then G b else X b) = some ub
    rw [if_pos (.inr (.inl rfl))]; exact gb
  · show (if c = a ∨ c = b ∨ c = c then G c else X c) = some uc
    rw [if_pos (.inr (.inr rfl))]; exact gc
structure RowsL (n m : Nat) (rs : List Row) : Prop where
  len : rs.length ≤ m
  each : ∀ r ∈ rs, RowL n r
section
variable {P : Program} {w : World} {K : PySem.W.Frag} {mg : Str → Option Value} {base : Heap} {f : Addr} {fd : FuncData}
def spSet : Sp := fun vs H Q _ => ∃ (st cl : Addr), vs = [.ref st] ∧ StOk H st cl ∧ ∀ d ru rw H', Drawn st cl H H' → Made H H' (fun X => SetL X d ru rw) → RowsL 1 6 ru → RowsL 2 6 rw → Q (.ref d) H'
theorem ok_set (F : FnP K "_law_set" s__law_set f fd) (gR : mg "range" = none) (C : DrawC P w K mg base) (CO : Cal P w K mg base "_law_one" 2 ["state"] spOne) : FnOk P w K mg base CX0 3 f fd ["state"] spSet := by
  refine F.ok sc__law_set (fun vs H Q E h => ?_) (fun cdv A outer s H vs Q E hr h => ?_)
  · obtain ⟨st, cl, rfl, _⟩ := h
    rfl
  · obtain ⟨st, cl, rfl, hS, q⟩ := h
    have nd := sc__law_set.nd
    refine ⟨_, PSs.nox (pss_cons (ps_set (i := 1) nd rfl (Or.inl rfl) (pe_disp (pps_cons pe_str (pe_lst pa_nil) (pps_cons pe_str (pe_lst pa_nil) pps_nil)) rfl rfl (by simp) (by decide)))
      (pss_cons (ps_for PassesOwn.never rfl (pi_range1 rfl gR (pa_cons (pe_cal C hr.lt (pa_cons (pv 0) (pa_cons pe_int pa_nil))) pa_nil)) (pg_name (i := 2) nd rfl (Or.inl rfl)) (pss_one (ps_expr (pe_bm PySem.F.plainAttrs_list PySem.F.slot_list_append PySem.F.type_list_append mt_append (pe_dget hr.u1 (pv 1) pe_str (fun _ _ => rfl)) (pa_cons (pe_tup (pa_cons (pe_cal CO hr.lt (pa_cons (pv 0) pa_nil)) pa_nil)) pa_nil)))))
      (pss_cons (ps_for PassesOwn.never rfl (pi_range1 rfl gR (pa_cons (pe_cal C hr.lt (pa_cons (pv 0) (pa_cons pe_int pa_nil))) pa_nil)) (pg_name (i := 2) nd rfl (Or.inl rfl)) (pss_one (ps_expr (pe_bm PySem.F.plainAttrs_list PySem.F.slot_list_append PySem.F.type_list_append mt_append (pe_dget hr.u1 (pv 1) pe_str (fun _ _ => rfl)) (pa_cons (pe_tup (pa_cons (pe_cal CO hr.lt (pa_cons (pv 0) pa_nil)) (pa_cons (pe_cal CO hr.lt (pa_cons (pv 0) pa_nil)) pa_nil))) pa_nil)))))
      (pss_one (ps_ret (pv 1)))))), ?_⟩
    have uw : ¬ (Sum.inr ("u" : Str) : Key) = Sum.inr ("w" : Str) := by decide +kernel
    have em : ∀ pu pw : Addr, mergeK [] [((.inr ("u" : Str) : Key), V.ref pu), (.inr ("w" : Str), V.ref pw)] = [((.inr ("u" : Str) : Key), V.ref pu), (.inr ("w" : Str), V.ref pw)] := fun pu pw => by
      show putK [((.inr ("u" : Str) : Key), V.ref pu)] (.inr ("w" : Str)) (.ref pw) = _
      rw [putK_new _ ((valV_neg (p := ((Sum.inr ("u" : Str) : Key), V.ref pu)) uw).trans rfl)]
      rfl
    refine fun d hd => ⟨Nat.zero_le _, fun pu hpu => ⟨Nat.zero_le _, fun pw hpw => ?_⟩⟩
    have n1 : d ≠ pu := fun z => by rw [← z, upd_same] at hpu; cases hpu
    have n2 : pu ≠ pw := fun z => by rw [← z, upd_same] at hpw; cases hpw
    have n3 : d ≠ pw := fun z => by rw [← z, upd_ne n1, upd_same] at hpw; cases hpw
    have hpuH : H pu = none := by rwa [upd_ne n1.symm] at hpu
    have hpwH : H pw = none := by rwa [upd_ne n2.symm, upd_ne n3.symm] at hpw
    refine ⟨by rw [upd_ne n3, upd_ne n1, upd_same], [(.inr ("u" : Str), .ref pu), (.inr ("w" : Str), .ref pw)], rfl, by show 2 ≤ 15; decide, ?_⟩
    rw [em]
    obtain ⟨B, eB⟩ : ∃ B, B = upd (upd (upd (upd H d (.dK [])) pu (.lst [])) pw (.lst [])) d (.dK [((.inr ("u" : Str) : Key), V.ref pu), (.inr ("w" : Str), V.ref pw)]) := ⟨_, rfl⟩
    have sB : Same H B := fun a o e => by
      rw [eB, upd_ne (ne_of_none e hd), upd_ne (ne_of_none e hpwH), upd_ne (ne_of_none e hpuH), upd_ne (ne_of_none e hd)]
      exact e
    have bd : B d = some (.dK [((.inr ("u" : Str) : Key), V.ref pu), (.inr ("w" : Str), V.ref pw)]) := by rw [eB, upd_same]
    have bu : B pu = some (.lst []) := by rw [eB, upd_ne n1.symm, upd_ne n2, upd_same]
    have bw : B pw = some (.lst []) := by rw [eB, upd_ne n3.symm, upd_same]
    rw [← eB]
    have okB := hS.same sB
    obtain ⟨⟨ds, dc⟩, ⟨us, uc⟩, ⟨ws, wc⟩⟩ : (d ≠ st ∧ d ≠ cl) ∧ (pu ≠ st ∧ pu ≠ cl) ∧ (pw ≠ st ∧ pw ≠ cl) := by
      obtain ⟨c, z, S⟩ := hS
      exact ⟨S.off hd, S.off hpuH, S.off hpwH⟩
    have vu : valV [((.inr ("u" : Str) : Key), V.ref pu), (.inr ("w" : Str), V.ref pw)] (.inr ("u" : Str)) = some (.ref pu) := valV_pos (p := ((Sum.inr ("u" : Str) : Key), V.ref pu)) rfl
    have vw : valV [((.inr ("u" : Str) : Key), V.ref pu), (.inr ("w" : Str), V.ref pw)] (.inr ("w" : Str)) = some (.ref pw) := (valV_neg (p := ((Sum.inr ("u" : Str) : Key), V.ref pu)) uw).trans (valV_pos (p := ((Sum.inr ("w" : Str) : Key), V.ref pw)) rfl)
    refine ⟨_, rfl, st, cl, 7, rfl, okB, by decide, by decide, fun v1 H1 d1 v10 v11 => ⟨v1, rfl, by omega, by omega, ?_⟩⟩
    have dB1 := (Drawn.of_same sB hS).trans d1
    refine for_it walk_range (fun i σ G => ∃ x2, σ = [some (.ref st), some (.ref d), x2] ∧ GrowInv B H st cl pu 1 i G ∧ G d = some (.dK [((.inr ("u" : Str) : Key), V.ref pu), (.inr ("w" : Str), V.ref pw)]) ∧ G pw = some (.lst []))
      ⟨none, rfl, ⟨[], [], dB1, d1.but _ _ us uc bu, Nat.zero_le _, (fun r hr => by cases hr), (Made.triv _ _).map fun X _ => .nil, d1.liv⟩, d1.but _ _ ds dc bd, d1.but _ _ ws wc bw⟩ (fun _ _ _ _ _ => trivial) ?_ ?_
    · rintro i x σ _ G hi ⟨x2, rfl, hG, gd, gw⟩ ⟨rfl, rfl⟩
      obtain ⟨ts, rs, dG, e, l, ok, m, lv⟩ := id hG
      refine ⟨_, rfl, d, _, rfl, .inl ⟨_, .inr ("u" : Str), .inl gd, rfl, vu.symm⟩, .inl ⟨rfl, _, .inl (.inl e)⟩, ?_⟩
      refine ⟨_, rfl, st, cl, rfl, dG.ok, fun x H2 d2 hx => ⟨(by show 1 ≤ sizeLine; decide), fun z hz => ?_⟩⟩
      have dz := d2.put (o := .tup [kV x]) hz
      obtain ⟨xs, e2, l2, inv⟩ := hG.more (r := [x]) okB hpuH bu us uc dz ⟨rfl, fun y hy => by rw [List.mem_singleton.mp hy]; exact hx⟩ ((Made.one (lv.trans d2.liv) hz (.tup [kV x])).map fun X h => h) (by omega)
      refine ⟨pu, xs, _, rfl, rfl, e2, l2, _, rfl, inv, ?_, ?_⟩
      · rw [upd_ne n1]; exact dz.but _ _ ds dc gd
      · rw [upd_ne n2.symm]; exact dz.but _ _ ws wc gw
    · rintro σ G ⟨x2, rfl, hG, gd, gw⟩
      obtain ⟨ts1, ru, dG, e1, l1, ok1, m1, lv1⟩ := hG
      refine ⟨_, rfl, st, cl, 7, rfl, dG.ok, by decide, by decide, fun v2 H3 d3 v20 v21 => ⟨v2, rfl, by omega, by omega, ?_⟩⟩
      have dG3 := dG.trans d3
      refine for_it walk_range (fun i σ G => ∃ x2, σ = [some (.ref st), some (.ref d), x2] ∧ GrowInv B H st cl pw 2 i G ∧ G d = some (.dK [((.inr ("u" : Str) : Key), V.ref pu), (.inr ("w" : Str), V.ref pw)]) ∧ G pu = some (.lst (ts1.map V.ref)) ∧ Made B G (fun X => EachIs (RowAt X) ts1 ru))
        ⟨_, rfl, ⟨[], [], dG3, d3.but _ _ ws wc gw, Nat.zero_le _, (fun r hr => by cases hr), (Made.triv _ _).map fun X _ => .nil, lv1.trans d3.liv⟩, d3.but _ _ ds dc gd, d3.but _ _ us uc e1, m1.drawn okB d3⟩ (fun _ _ _ _ _ => trivial) ?_ ?_
      · rintro i x σ _ G hi ⟨x2, rfl, hG, gd, gu, mu⟩ ⟨rfl, rfl⟩
        obtain ⟨ts, rs, dG, e, l, ok, m, lv⟩ := id hG
        refine ⟨_, rfl, d, _, rfl, .inl ⟨_, .inr ("w" : Str), .inl gd, rfl, vw.symm⟩, .inl ⟨rfl, _, .inl (.inl e)⟩, ?_⟩
        refine ⟨_, rfl, st, cl, rfl, dG.ok, fun x H2 d2 hx => ⟨_, rfl, st, cl, rfl, d2.ok, fun y H4 d4 hy => ⟨(by show 2 ≤ sizeLine; decide), fun z hz => ?_⟩⟩⟩
        have d24 := d2.trans d4
        have dz := d24.put (o := .tup [kV x, kV y]) hz
        obtain ⟨xs, e2, l2, inv⟩ := hG.more (r := [x, y]) okB hpwH bw ws wc dz ⟨rfl, fun u hu => by
          rcases List.mem_cons.mp hu with rfl | h
          · exact hx
          · rw [List.mem_singleton.mp h]; exact hy⟩ ((Made.one (lv.trans d24.liv) hz (.tup [kV x, kV y])).map fun X h => h) (by omega)
        refine ⟨pw, xs, _, rfl, rfl, e2, l2, _, rfl, inv, ?_, ?_, (mu.drawn okB dz).write bw⟩
        · rw [upd_ne n3]; exact dz.but _ _ ds dc gd
        · rw [upd_ne n2]; exact dz.but _ _ us uc gu
      · rintro σ G ⟨x2, rfl, hG, gd, gu, mu⟩
        obtain ⟨ts2, rw_, dG, e2, l2, ok2, m2, lv2⟩ := hG
        have mm := (mu.and (mono_each mono_row ts1 ru) (mono_each mono_row ts2 rw_) m2)
        have m3 := Made.three (mono_and (mono_each mono_row ts1 ru) (mono_each mono_row ts2 rw_)) mm sB hd hpuH hpwH bd bu bw gd gu e2
        exact ⟨_, rfl, q d ru rw_ G dG (m3.map fun X ⟨⟨h1, h2⟩, h3, h4, h5⟩ => ⟨pu, pw, h3, ⟨ts1, h4, h1⟩, ⟨ts2, h5, h2⟩⟩) ⟨by omega, ok1⟩ ⟨by omega, ok2⟩⟩
end
end KA
set_option Elab.async false
set_option linter.all false
set_option maxRecDepth 100000
set_option maxHeartbeats 8000000
/-! the law's changed sets -/
namespace KA
open PySem PySem.Spec PyProof.Rows L2
open PySem.W (EachIs)
/-- some of the rows, in their order, and at most one more -/
def TurnL (n : Nat) (rs ss : List Row) : Prop := ∃ sub more, ss = sub ++ more ∧ sub.Sublist rs ∧ RowsL n 1 more
section
variable {P : Program} {w : World} {K : PySem.W.Frag} {mg : Str → Option Value} {base : Heap} {f : Addr} {fd : FuncData}
def spTurned : Sp := fun vs H Q _ => ∃ (st cl d : Addr) (ru rw : List Row), vs = [.ref st, .ref d] ∧ StOk H st cl ∧ (∃ X, Same X H ∧ X st = none ∧ X cl = none ∧ SetL X d ru rw) ∧ ru.length ≤ 6 ∧ rw.length ≤ 6 ∧
  ∀ d2 su sw H', Drawn st cl H H' → SetL H' d2 su sw → TurnL 1 ru su → TurnL 2 rw sw → Q (.ref d2) H'
abbrev NT : List Str := ["state", "rows", "found", "name", "row", "size", "k"]
theorem ok_turned (F : FnP K "_law_turned" s__law_turned f fd) (gR : mg "range" = none) (gI : mg "int" = none) (gT : mg "tuple" = none) (C : DrawC P w K mg base) (CO : Cal P w K mg base "_law_one" 2 ["state"] spOne) : FnOk P w K mg base CX0 3 f fd ["state", "rows"] spTurned := by
  refine F.ok sc__law_turned (fun vs H Q E h => ?_) (fun cdv A outer s H vs Q E hr h => ?_)
  · obtain ⟨st, cl, d, ru, rw, rfl, _⟩ := h
    rfl
  · obtain ⟨st, cl, d, ru, rw_, rfl, hS, ⟨X0, sX, xs, xc, hX⟩, lu, lw, q⟩ := h
    have nd := sc__law_turned.nd
    refine ⟨_, PSs.nox (pss_cons (ps_set (i := 2) nd rfl (Or.inl rfl) pe_dnewK)
      (pss_cons (ps_for PassesOwn.never rfl (pi_tup (pe_tup (pa_cons pe_str (pa_cons pe_str pa_nil)))) (pg_name (i := 3) nd rfl (Or.inl rfl))
        (pss_cons (ps_dput hr.u1 (pv 2) (pv 3) (pe_lc (own := [("row", 4)]) (g := gName 4) (tt := tTest (tOp (rI0 fun i j => .bl (decide (j < i))) (tCall spDraw [] E0 (tCons (tVar 0) (tCons (tC (.int 4)) tNil))) (tC (.int 0)))) (te := tVar 4) (by rfl) nd (pi_list (pe_dget hr.u1 (pv 1) (pv 3) (fun _ _ => rfl)))
          (blkOk_by (own := [("row", 4)]) (N := NT) (sc := defScope s__law_turned) (by decide +kernel)) (fun _ _ _ _ _ => pg_name (i := 4) nd rfl (Or.inl rfl)) (fun _ _ _ _ _ => pts_one (pt_cmpR op_gt (pe_cal C hr.lt (pa_cons (pv 0) (pa_cons pe_int pa_nil))) pe_int (nomark _))) (fun _ _ _ _ _ => pv 4)) rfl)
        (pss_one (ps_if (pt_cmpR op_eq (pe_cal C hr.lt (pa_cons (pv 0) (pa_cons pe_int pa_nil))) pe_int (nomark _))
          (pss_cons (ps_set (i := 5) nd rfl (Or.inl rfl) (pe_op op_add pe_int (pe_callTy call_int1 (by rfl) gI (by decide +kernel) (pa_cons (pe_cmpR op_eq (pv 3) pe_str (nomark _)) pa_nil))))
          (pss_one (ps_dput hr.u1 (pv 2) (pv 3) (pe_op op_cat (pe_dget hr.u1 (pv 2) (pv 3) (fun _ _ => rfl)) (pe_lst (pa_cons (pe_callTy call_tuple_of (by rfl) gT (by decide +kernel) (pa_cons (pe_lc (own := [("k", 6)]) (g := gName 6) (tt := tYes) (te := tCall spOne [] E0 (tCons (tVar 0) tNil)) (by rfl) nd (pi_range1 rfl gR (pa_cons (pv 5) pa_nil))
            (blkOk_by (own := [("k", 6)]) (N := NT) (sc := defScope s__law_turned) (by decide +kernel)) (fun _ _ _ _ _ => pg_name (i := 6) nd rfl (Or.inl rfl)) (fun _ _ _ _ _ => pts_nil) (fun _ _ _ _ _ => pe_cal CO hr.lt (pa_cons (pv 0) pa_nil))) pa_nil)) pa_nil))) rfl))) pss_nil))))
      (pss_one (ps_ret (pv 2))))), ?_⟩
    have big : (2000 : Nat) ≤ sizeLine := by decide
    have hSet : ∀ G, Drawn st cl H G → SetL G d ru rw_ := fun G dG => mono_setL d ru rw_ X0 G (fun a o e => dG.but a o (fun z => by rw [z, xs] at e; cases e) (fun z => by rw [z, xc] at e; cases e) (sX _ _ e)) hX
    have uw : ¬ (Sum.inr ("u" : Str) : Key) = Sum.inr ("w" : Str) := by decide +kernel
    -- some of the rows
    have comp : ∀ (rs : List Row) (p0 : Addr) (H1 : Hp) (D : Addr) (σ : L2.St) (Qd : Hp → Prop), Drawn st cl H H1 → RowsAt H1 p0 rs → rs.length ≤ 6 → H1 D = none → (∀ x, wipe (σ.set 4 (some x)) [4] = σ) → (∀ x, (σ.set 4 (some x))[0]? = some (some (.ref st))) → (∀ x, (σ.set 4 (some x))[4]? = some (some x)) →
        (∀ G us sub, Drawn st cl H1 G → G D = some (.lst (us.map V.ref)) → EachIs (RowAt G) us sub → sub.Sublist rs → Qd G) →
        ∃ W : Nat → Nat → Hp → Prop, (∃ m, W 0 m (upd H1 D (.lst []))) ∧ ∀ i m H, W i m H → ((Itl K p0).stop i H ∧ Qd H) ∨ ((Itl K p0).go i H ∧ ∃ Nx : Hp → Prop, (∀ H', Nx H' → ∃ m', m' < m ∧ W (i + 1) m' H') ∧ ∀ x H', (Itl K p0).yld i H x H' → gName 4 x σ H' fun σ2 H2 => wipe σ2 [4] = σ ∧
          tTest (tOp (rI0 fun i j => .bl (decide (j < i))) (tCall spDraw [] E0 (tCons (tVar 0) (tCons (tC (.int 4)) tNil))) (tC (.int 0))) σ2 H2 fun b H3 => if b = true then tVar 4 σ2 H3 fun y H4 => ∃ acc, H4 D = some (.lst acc) ∧ acc.length < sizeLine ∧ Nx (upd H4 D (.lst (acc ++ [y]))) else Nx H3) := by
      rintro rs p0 H1 D σ Qd dH ⟨ts, hp0, hts⟩ lrs hD hw v0 v4 done
      have tl := hts.length
      obtain ⟨Dst, Dcl⟩ : D ≠ st ∧ D ≠ cl := by
        obtain ⟨c, z, S⟩ := dH.ok
        exact S.off hD
      have Dp : D ≠ p0 := fun z => by rw [z, hp0] at hD; cases hD
      refine out_it (walk_list (xs := ts.map V.ref)) (fun i G => ∃ us sub, Drawn st cl H1 G ∧ G D = some (.lst (us.map V.ref)) ∧ EachIs (RowAt G) us sub ∧ sub.Sublist (rs.take i)) ⟨[], [], Drawn.of_same (same_new hD) dH.ok, upd_same, .nil, List.nil_sublist _⟩ (fun i G _ z => by obtain ⟨us, sub, z, _⟩ := z; exact sq_l (z.refs dH.ok hp0)) ?_ ?_
      · rintro i x _ G hi ⟨us, sub, dG, gD, hus, hsub⟩ ⟨rfl, hx⟩
        obtain ⟨t, ht, rfl⟩ := ref_at hx
        obtain ⟨r, hr, htr⟩ := each_at hts ht
        have et : rs.take (i + 1) = rs.take i ++ [r] := by rw [List.take_add_one, hr]; rfl
        refine ⟨hw _, _, v0 _, st, cl, 4, rfl, dG.ok, by decide, by decide, fun v G2 d2 w0 w1 => ⟨_, _, rfl, rfl, _, rfl, ?_⟩⟩
        have dG2 := dG.trans d2
        have gD2 : G2 D = some (.lst (us.map V.ref)) := d2.but _ _ Dst Dcl gD
        have hus2 : EachIs (RowAt G2) us sub := hus.mono fun _ _ z => (d2.keepR dG.ok).tup _ _ z
        have htr2 : RowAt G2 t r := (dG2.keepR dH.ok).tup _ _ htr
        refine ite2 (fun _ => ?_) fun _ => ?_
        · have lus := hus.length
          have ls := hsub.length_le
          rw [List.length_take] at ls
          refine ⟨_, v4 _, us.map V.ref, gD2, by rw [List.length_map]; omega, us ++ [t], sub ++ [r], ?_, ?_, ?_, ?_⟩
          · refine ⟨fun b o h1 h2 e => ?_, ?_, fun e => ?_⟩
            · rw [upd_ne (ne_of_none e hD)]
              exact dG2.but b o h1 h2 e
            · obtain ⟨c, y, S⟩ := dG2.ok
              exact ⟨c, y, by rw [upd_ne Dst.symm]; exact S.hs, by rw [upd_ne Dcl.symm]; exact S.hc, S.lo, S.hi, S.len, S.nn⟩
            · rw [upd_ne Dcl.symm]
              exact dG2.nil e
          · rw [upd_same, List.map_append]
            rfl
          · have kd : ∀ (a : Addr) (l : Row), RowAt G2 a l → RowAt (upd G2 D (.lst (us.map V.ref ++ [V.ref t]))) a l := fun a l z => by
              have z' : G2 a = some (.tup (l.map kV)) := z
              show upd G2 D _ a = _
              rw [upd_ne (fun e => by rw [e, gD2] at z'; cases z')]
              exact z'
            exact each_snoc1 (R := RowAt (upd G2 D (.lst (us.map V.ref ++ [V.ref t])))) (kd _ _ htr2) (hus2.mono fun a l z => kd a l z)
          · rw [et]
            exact List.Sublist.append hsub (List.Sublist.refl _)
        · exact ⟨us, sub, dG2, gD2, hus2, hsub.trans (by rw [et]; exact List.sublist_append_left _ _)⟩
      · rintro G ⟨us, sub, dG, gD, hus, hsub⟩
        rw [List.length_map, tl, List.take_length] at hsub
        exact done G us sub dG gD hus hsub
    refine fun df hdf => ?_
    have s1 : Same H (upd H df (.dK [])) := same_new hdf
    have d1 : Drawn st cl H (upd H df (.dK [])) := Drawn.of_same s1 hS
    refine ⟨(by show 2 ≤ sizeLine; decide), fun tp htp => ⟨tp, rfl, ⟨_, sq_t upd_same⟩, ?_⟩⟩
    have tpdf : tp ≠ df := fun z => by rw [z, upd_same] at htp; cases htp
    obtain ⟨⟨dfs, dfc⟩, ⟨tps, tpc⟩⟩ : (df ≠ st ∧ df ≠ cl) ∧ (tp ≠ st ∧ tp ≠ cl) := by
      obtain ⟨c, z, S⟩ := hS
      refine ⟨S.off hdf, S.off ?_⟩
      rwa [upd_ne tpdf] at htp
    refine for_it (walk_tup (xs := [V.str "u", .str "w"])) (fun i σ G => ∃ x3 x5, σ = [some (.ref st), some (.ref d), some (.ref df), x3, none, x5, none] ∧ Drawn st cl H G ∧ G tp = some (.tup [.str "u", .str "w"]) ∧
        ((i = 0 ∧ G df = some (.dK [])) ∨ (i = 1 ∧ ∃ p su, G df = some (.dK [((.inr ("u" : Str) : Key), V.ref p)]) ∧ RowsAt G p su ∧ TurnL 1 ru su) ∨ (i = 2 ∧ ∃ p su p2 sw, G df = some (.dK [((.inr ("u" : Str) : Key), V.ref p), (.inr ("w" : Str), V.ref p2)]) ∧ RowsAt G p su ∧ RowsAt G p2 sw ∧ TurnL 1 ru su ∧ TurnL 2 rw_ sw)))
      ⟨none, none, rfl, d1.put htp, upd_same, .inl ⟨rfl, by rw [upd_ne tpdf.symm, upd_same]⟩⟩ (fun i σ G _ z => by obtain ⟨_, _, _, _, z, _⟩ := z; exact sq_t z) ?_ ?_
    · rintro i x σ _ G hi ⟨x3, x5, rfl, dG, gt, stage⟩ ⟨rfl, hx⟩
      obtain ⟨pu, pw, r1, r2, r3⟩ := hSet G dG
      -- the name, its rows
      obtain ⟨nm, rs, sz, kvs, p0, rfl, hv, hrs, lrs, esz, gd, e1, e2, e3, fin⟩ : ∃ (nm : Str) (rs : List Row) (sz : Nat) (kvs : List (Key × V)) (p0 : Addr), x = .str nm ∧ valV [((.inr ("u" : Str) : Key), V.ref pu), (.inr ("w" : Str), V.ref pw)] (.inr nm) = some (.ref p0) ∧ RowsAt G p0 rs ∧ rs.length ≤ 6 ∧ (1 + (if decide (V.str nm = V.str "w") = true then (1 : Int) else 0) = ((sz : Nat) : Int)) ∧ G df = some (.dK kvs) ∧
          (∀ v, putK kvs (.inr nm) v = kvs ++ [(.inr nm, v)]) ∧ (∀ v, valV (kvs ++ [(.inr nm, v)]) (.inr nm) = some v) ∧ (∀ v v', putK (kvs ++ [(.inr nm, v)]) (.inr nm) v' = kvs ++ [(.inr nm, v')]) ∧
          ∀ G' p ss, (∀ p' l, RowsAt G p' l → RowsAt G' p' l) → G' df = some (.dK (kvs ++ [(.inr nm, .ref p)])) → RowsAt G' p ss → TurnL sz rs ss →
            ((i + 1 = 0 ∧ G' df = some (.dK [])) ∨ (i + 1 = 1 ∧ ∃ p su, G' df = some (.dK [((.inr ("u" : Str) : Key), V.ref p)]) ∧ RowsAt G' p su ∧ TurnL 1 ru su) ∨ (i + 1 = 2 ∧ ∃ p su p2 sw, G' df = some (.dK [((.inr ("u" : Str) : Key), V.ref p), (.inr ("w" : Str), V.ref p2)]) ∧ RowsAt G' p su ∧ RowsAt G' p2 sw ∧ TurnL 1 ru su ∧ TurnL 2 rw_ sw)) := by
        rcases stage with ⟨rfl, gd⟩ | ⟨rfl, p, su, gd, q1, q2⟩ | ⟨rfl, _⟩
        · have ex : x = .str "u" := (Option.some.inj hx).symm
          refine ⟨"u", ru, 1, [], pu, ex, valV_pos (p := ((Sum.inr ("u" : Str) : Key), V.ref pu)) rfl, r2, lu, by decide +kernel, gd, fun v => rfl, fun v => valV_pos (p := ((Sum.inr ("u" : Str) : Key), v)) rfl, fun v v' => ?_, fun G' p ss kp g1 g2 g3 => .inr (.inl ⟨rfl, p, ss, g1, g2, g3⟩)⟩
          unfold putK
          simp
        · have ex : x = .str "w" := (Option.some.inj hx).symm
          refine ⟨"w", rw_, 2, [((.inr ("u" : Str) : Key), V.ref p)], pw, ex, (valV_neg (p := ((Sum.inr ("u" : Str) : Key), V.ref pu)) uw).trans (valV_pos (p := ((Sum.inr ("w" : Str) : Key), V.ref pw)) rfl), r3, lw, by decide +kernel, gd, fun v => putK_new _ ((valV_neg (p := ((Sum.inr ("u" : Str) : Key), V.ref p)) uw).trans rfl), fun v => (valV_neg (p := ((Sum.inr ("u" : Str) : Key), V.ref p)) uw).trans (valV_pos (p := ((Sum.inr ("w" : Str) : Key), v)) rfl), fun v v' => ?_, fun G' p' ss kp g1 g2 g3 => .inr (.inr ⟨rfl, p, su, p', ss, g1, kp _ _ q1, g2, q2, g3⟩)⟩
          unfold putK
          simp [uw]
        · exact absurd hi (by simp)
      obtain ⟨ts0, hp0, hts0⟩ := id hrs
      refine ⟨_, rfl, _, rfl, d, _, rfl, .inl ⟨_, .inr nm, .inl r1, rfl, hv.symm⟩, p0, rfl, ⟨_, sq_l hp0⟩, fun D hD => ?_⟩
      refine comp rs p0 G D _ _ dG hrs lrs hD (fun _ => rfl) (fun _ => rfl) (fun _ => rfl) fun G2 us sub d2 gD hus hsub => ?_
      have gd2 : G2 df = some (.dK kvs) := d2.but _ _ dfs dfc gd
      have lk : kvs.length < 10 := by
        rcases stage with ⟨_, z⟩ | ⟨_, p, su, z, _⟩ | ⟨z, _⟩
        · rw [gd] at z
          have e : kvs = [] := by injection (Option.some.inj z)
          rw [e]; decide
        · rw [gd] at z
          have e : kvs = [((.inr ("u" : Str) : Key), V.ref p)] := by injection (Option.some.inj z)
          rw [e]
          show 1 < 10
          decide
        · exact absurd hi (by rw [z]; simp)
      refine ⟨_, rfl, _, rfl, _, _, rfl, .inl ⟨kvs, .inr nm, gd2, rfl, by omega, rfl⟩, ?_⟩
      have dG2 := dG.trans d2
      have Ddf : D ≠ df := fun z => by rw [z, gd] at hD; cases hD
      have dG3 : Drawn st cl H (upd G2 df (.dK (putK kvs (.inr nm) (.ref D)))) := by
        refine ⟨fun b o h1 h2 e => ?_, ?_, fun e => ?_⟩
        · rw [upd_ne (ne_of_none e hdf)]
          exact dG2.but b o h1 h2 e
        · obtain ⟨c, y, S⟩ := dG2.ok
          exact ⟨c, y, by rw [upd_ne dfs.symm]; exact S.hs, by rw [upd_ne dfc.symm]; exact S.hc, S.lo, S.hi, S.len, S.nn⟩
        · rw [upd_ne dfc.symm]
          exact dG2.nil e
      obtain ⟨G3, eG3⟩ : ∃ G3, G3 = upd G2 df (.dK (putK kvs (.inr nm) (.ref D))) := ⟨_, rfl⟩
      have g3df : G3 df = some (.dK (kvs ++ [(.inr nm, .ref D)])) := by rw [eG3, upd_same, e1]
      have off3 : ∀ a o, a ≠ df → G2 a = some o → G3 a = some o := fun a o n e => by rw [eG3, upd_ne n]; exact e
      rw [← eG3] at dG3 ⊢
      -- rows stay
      have kp3 : ∀ p' l, RowsAt G p' l → RowsAt G3 p' l := fun p' l h => by
        obtain ⟨ts, h1, h2⟩ := h.keepR (d2.keepR dG.ok)
        exact ⟨ts, off3 _ _ (fun z => by rw [z, gd2] at h1; cases h1) h1, h2.mono fun a r z => off3 _ _ (fun z2 => by
          have z' : G2 a = some (.tup (r.map kV)) := z
          rw [z2, gd2] at z'
          cases z') z⟩
      have hD3 : RowsAt G3 D sub := ⟨us, off3 _ _ Ddf gD, hus.mono fun a r z => off3 _ _ (fun z2 => by
          have z' : G2 a = some (.tup (r.map kV)) := z
          rw [z2, gd2] at z'
          cases z') z⟩
      have gt3 : G3 tp = some (.tup [.str "u", .str "w"]) := off3 _ _ tpdf (d2.but _ _ tps tpc gt)
      refine ⟨_, rfl, st, cl, 2, rfl, dG3.ok, by decide, by decide, fun v G4 d4 w0 w1 => ⟨rfl, _, rfl, ?_⟩⟩
      have dG4 := dG3.trans d4
      have g4df : G4 df = some (.dK (kvs ++ [(.inr nm, .ref D)])) := d4.but _ _ dfs dfc g3df
      have kp4 : ∀ p' l, RowsAt G3 p' l → RowsAt G4 p' l := fun p' l h => h.keepR (d4.keepR dG3.ok)
      have gt4 : G4 tp = some (.tup [.str "u", .str "w"]) := d4.but _ _ tps tpc gt3
      refine ite2 (fun _ => ?_) fun _ => ?_
      · refine ⟨_, rfl, rfl, .inr ⟨_, rfl, _, _, rfl, rfl, ?_⟩⟩
        dsimp only
        rw [esz]
        have sz2 : sz ≤ 2 := by split at esz <;> omega
        refine ⟨_, rfl, _, rfl, df, _, rfl, .inl ⟨_, .inr nm, .inl g4df, rfl, (e2 _).symm⟩, ?_⟩
        refine ⟨_, rfl, _, rfl, by omega, by omega, fun D6 hD6 => ?_⟩
        obtain ⟨D6s, D6c⟩ : D6 ≠ st ∧ D6 ≠ cl := by
          obtain ⟨c, z, S⟩ := dG4.ok
          exact S.off hD6
        have l6 : ((sz : Nat) : Int).toNat = sz := Int.toNat_natCast _
        refine lc_go walk_range (List.range ((sz : Nat) : Int).toNat) (by rw [List.length_range]) (fun _ => true) (fun _ v _ => ∃ x, v = kV x ∧ x ∈ ones) (fun _ _ _ _ _ z => z) (fun H' => Drawn st cl G4 H') (Drawn.of_same (same_new hD6) dG4.ok) (fun _ _ => trivial) ?_ (by omega) ?_ ?_
        · intro H' acc dd
          refine ⟨fun b o h1 h2 h3 => ?_, ?_, fun z => ?_⟩
          · rw [upd_ne (ne_of_none h3 hD6)]
            exact dd.but b o h1 h2 h3
          · obtain ⟨c, z, S⟩ := dd.ok
            exact ⟨c, z, by rw [upd_ne D6s.symm]; exact S.hs, by rw [upd_ne D6c.symm]; exact S.hc, S.lo, S.hi, S.len, S.nn⟩
          · rw [upd_ne D6c.symm]
            exact dd.nil z
        · rintro j y b H2 _ hj hb dd ⟨acc, ha⟩ ⟨rfl, rfl⟩ Q' Qn k1 _
          refine ⟨rfl, yes_in ⟨_, rfl, st, cl, rfl, dd.ok, fun x H3 d3 hx => k1 rfl _ _ (dd.trans d3) ?_ (d3.tk dd.ok) ⟨x, rfl, hx⟩⟩⟩
          rw [ha]
          exact d3.but D6 _ D6s D6c ha
        · intro G5 acc d5 ha he
          rw [filter_true] at he
          obtain ⟨r, rfl, hr1, hr2⟩ : ∃ r : Row, acc = r.map kV ∧ (∀ x ∈ r, x ∈ ones) ∧ r.length = sz := by
            have hl := he.length
            rw [List.length_range, l6] at hl
            clear ha
            have : ∀ {vs : List V} {ns : List Nat}, EachIs (fun v (_ : Nat) => ∃ x, v = kV x ∧ x ∈ ones) vs ns → ∃ r : Row, vs = r.map kV ∧ (∀ x ∈ r, x ∈ ones) ∧ r.length = vs.length := by
              intro vs ns h
              induction h with
              | nil => exact ⟨[], rfl, fun x hx => (List.not_mem_nil hx).elim, rfl⟩
              | cons h t ih =>
                obtain ⟨x, rfl, hx⟩ := h
                obtain ⟨r, rfl, h1, h2⟩ := ih
                exact ⟨x :: r, rfl, fun y hy => (List.mem_cons.mp hy).elim (fun e => by rw [e]; exact hx) (h1 y), by simp⟩
            obtain ⟨r, e, h1, h2⟩ := this he
            exact ⟨r, e, h1, h2.trans hl⟩
          have dG5 := dG4.trans d5
          have hD5 : RowsAt G5 D sub := (kp4 _ _ hD3).keepR (d5.keepR dG4.ok)
          have g5df : G5 df = some (.dK (kvs ++ [(.inr nm, .ref D)])) := d5.but _ _ dfs dfc g4df
          refine ⟨D6, _, rfl, .inl ⟨sq_l ha, fun pt hpt => ⟨(by show 1 ≤ sizeLine; decide), fun pl hpl => ?_⟩⟩⟩
          have s6 : Same G5 (upd G5 pt (.tup (r.map kV))) := same_new hpt
          have s7 : Same (upd G5 pt (.tup (r.map kV))) (upd (upd G5 pt (.tup (r.map kV))) pl (.lst [.ref pt])) := same_new hpl
          obtain ⟨us2, u1, u2⟩ := hD5
          have lus : us2.length ≤ 6 := by
            rw [u2.length]
            have := hsub.length_le
            omega
          refine ⟨D, pl, _, _, rfl, rfl, s7 _ _ (s6 _ _ u1), upd_same, by rw [List.length_map]; simp; omega, fun pc hpc => ?_⟩
          have s8 : Same (upd (upd G5 pt (.tup (r.map kV))) pl (.lst [.ref pt])) (upd (upd (upd G5 pt (.tup (r.map kV))) pl (.lst [.ref pt])) pc (.lst (us2.map V.ref ++ [.ref pt]))) := same_new hpc
          have s58 := (s6.trans s7).trans s8
          obtain ⟨G8, eG8⟩ : ∃ G8, G8 = upd (upd (upd G5 pt (.tup (r.map kV))) pl (.lst [.ref pt])) pc (.lst (us2.map V.ref ++ [.ref pt])) := ⟨_, rfl⟩
          have hpc8 : G8 pc = some (.lst ((us2 ++ [pt]).map V.ref)) := by rw [eG8, upd_same, List.map_append]; rfl
          have hpt8 : RowAt G8 pt r := by rw [eG8]; exact s8 _ _ (s7 _ _ upd_same)
          rw [← eG8] at s58 ⊢
          have g8df := s58 _ _ g5df
          have dG8 := dG5.trans (Drawn.of_same s58 dG5.ok)
          refine ⟨_, rfl, _, rfl, _, _, rfl, .inl ⟨_, .inr nm, g8df, rfl, by rw [List.length_append]; simp; omega, rfl⟩, ?_⟩
          rw [e3]
          have pcdf : pc ≠ df := fun z => by rw [z, g8df] at hpc8; cases hpc8
          have up : ∀ a l, RowsAt G8 a l → RowsAt (upd G8 df (.dK (kvs ++ [(.inr nm, .ref pc)]))) a l := fun a l ⟨ts, h1, h2⟩ => ⟨ts, by rw [upd_ne (fun z => by rw [z, g8df] at h1; cases h1)]; exact h1, h2.mono fun b q z => by
            have z' : G8 b = some (.tup (q.map kV)) := z
            show upd G8 df _ b = _
            rw [upd_ne (fun z2 => by rw [z2, g8df] at z'; cases z')]
            exact z'⟩
          refine ⟨_, _, rfl, ⟨fun b o h1 h2 e => ?_, ?_, fun e => ?_⟩, ?_, fin _ pc (sub ++ [r]) (fun p' l h => up _ _ ?_) upd_same (up _ _ ⟨us2 ++ [pt], hpc8, each_snoc1 (R := RowAt G8) hpt8 (u2.mono fun _ _ z => s58 _ _ z)⟩) ⟨sub, [r], rfl, hsub, by simp, fun x hx => by rw [List.mem_singleton.mp hx]; exact ⟨hr2, hr1⟩⟩⟩
          · rw [upd_ne (ne_of_none e hdf)]
            exact dG8.but b o h1 h2 e
          · obtain ⟨c, y, S⟩ := dG8.ok
            exact ⟨c, y, by rw [upd_ne dfs.symm]; exact S.hs, by rw [upd_ne dfc.symm]; exact S.hc, S.lo, S.hi, S.len, S.nn⟩
          · rw [upd_ne dfc.symm]
            exact dG8.nil e
          · rw [upd_ne tpdf]
            exact s58 _ _ (d5.but _ _ tps tpc gt4)
          · exact ((kp4 _ _ (kp3 _ _ h)).keepR (d5.keepR dG4.ok)).keepR (KeepR.of s58)
      · exact ⟨_, _, rfl, dG4, gt4, fin G4 D sub (fun p' l h => kp4 _ _ (kp3 _ _ h)) g4df (kp4 _ _ hD3) ⟨sub, [], (List.append_nil _).symm, hsub, Nat.zero_le _, fun r hr => by cases hr⟩⟩
    · rintro σ G ⟨x3, x5, rfl, dG, gt, stage⟩
      rcases stage with ⟨z, _⟩ | ⟨z, _⟩ | ⟨_, p, su, p2, sw, g1, g2, g3, g4, g5⟩
      · simp at z
      · simp at z
      · exact ⟨_, rfl, q df su sw G dG ⟨p, p2, g1, g2, g3⟩ g4 g5⟩
end
end KA
set_option Elab.async false
set_option linter.all false
set_option maxRecDepth 100000
set_option maxHeartbeats 8000000
/-! the law's instances, substitutions -/
namespace KA
open PySem PySem.Spec PyProof.Rows L2
open PySem.W (EachIs)
def growS (l : List Sb) (v : Int) : List Sb := l.flatMap fun s => ones.map fun k => s ++ [(v, k)]
def subs64 : List Sb := growS (growS (growS [[]] 0) 1) 5
theorem grow_len (l : List Sb) (v : Int) : (growS l v).length = l.length * 4 := by
  unfold growS
  induction l with
  | nil => rfl
  | cons s l ih =>
    rw [List.flatMap_cons, List.length_append, ih, List.length_map, List.length_cons]
    show 4 + _ = _
    omega
theorem grow_mem {l : List Sb} {v : Int} {t : Sb} : t ∈ growS l v ↔ ∃ s ∈ l, ∃ k ∈ ones, t = s ++ [(v, k)] := by
  unfold growS
  rw [List.mem_flatMap]
  constructor
  · rintro ⟨s, hs, h⟩
    obtain ⟨k, hk, e⟩ := List.mem_map.mp h
    exact ⟨s, hs, k, hk, e.symm⟩
  · rintro ⟨s, hs, k, hk, rfl⟩
    exact ⟨s, hs, List.mem_map.mpr ⟨k, hk, rfl⟩⟩
section
variable {P : Program} {w : World} {K : PySem.W.Frag} {mg : Str → Option Value} {base : Heap} {f : Addr} {fd : FuncData}
theorem ok_instance (F : FnP K "_law_instance" s__law_instance f fd) (gT : mg "tuple" = none) : FnOk P w K mg base CX0 1 f fd ["arguments", "names"] spFilled := by
  refine F.ok sc__law_instance (fun vs H Q E h => ?_) (fun cdv A outer s H vs Q E hr h => ?_)
  · obtain ⟨p, pk, as, sb, rfl, _⟩ := h
    rfl
  · obtain ⟨p, pk, as, sb, rfl, ⟨ts, hp, hts⟩, hk, vars, la, kk⟩ := h
    refine ⟨_, PSs.nox (pss_one (ps_ret (pe_callTy call_tuple_of (by rfl) gT (by decide +kernel) (pa_cons (pe_lc (own := [("a", 2)]) (g := gName 2) (tt := tYes) (te := tIf (tTest (tOp rEq (tOp (rIxT K) (tVar 2) (tC (.int 0))) (tC (.str "var")))) (tDGet (tVar 1) (tOp (rIxT K) (tVar 2) (tC (.int 1)))) (tOp (rIxT K) (tVar 2) (tC (.int 1)))) (by rfl) sc__law_instance.nd (pi_list (pv 0))
      (blkOk_by (own := [("a", 2)]) (N := ["arguments", "names", "a"]) (sc := defScope s__law_instance) (by decide +kernel)) (fun _ _ _ _ _ => pg_name (i := 2) sc__law_instance.nd rfl (Or.inl rfl)) (fun _ _ _ _ _ => pts_nil)
      (fun _ _ _ _ _ => pe_ifExp (pt_cmpR op_eq (pe_ix ix_tup (pv 2) pe_int (fun _ _ => rfl)) pe_str (nomark _)) (pe_dget hr.u1 (pv 1) (pe_ix ix_tup (pv 2) pe_int (fun _ _ => rfl)) (fun _ _ => rfl)) (pe_ix ix_tup (pv 2) pe_int (fun _ _ => rfl)))) pa_nil)))), ?_⟩
    have tl := hts.length
    refine ⟨_, rfl, p, rfl, ⟨_, sq_l hp⟩, fun D hD => ?_⟩
    refine lc_same (walk_list (xs := ts.map V.ref)) as (by rw [List.length_map, tl]) (fun _ => true) (fun _ v a => v = kV (fillA sb a)) (fun _ _ _ _ _ z => z) hD (fun G sG => sq_l (sG _ _ hp)) (by rw [List.length_map]; omega) ?_ ?_
    · rintro i x a _ G hi hb sG ⟨rfl, hx⟩ Q' Qn k1 _
      obtain ⟨t, ht, rfl⟩ := ref_at hx
      have hat := each_get hts ht hb
      have hg := sG _ _ hat.tup
      refine ⟨rfl, yes_in ⟨_, rfl, t, _, 0, _, rfl, rfl, sq_t hg, atI_nat (j := 0) rfl, rfl, _, rfl, ?_⟩⟩
      have cv : ¬ (("const" : Str) = "var") := by decide +kernel
      cases a with
      | c k =>
        rw [show decide (V.str (Ar.c k).sign = V.str "var") = false from decide_eq_false fun z => cv (by injection z)]
        exact iteF ⟨_, rfl, t, _, 1, _, rfl, rfl, sq_t hg, atI_nat (j := 1) rfl, k1 rfl _ _ (Same.refl _) rfl⟩
      | v n =>
        rw [show decide (V.str (Ar.v n).sign = V.str "var") = true from decide_eq_true rfl]
        obtain ⟨k, hkn⟩ := Option.isSome_iff_exists.mp (vars n (List.mem_of_getElem? hb))
        refine iteT ⟨_, rfl, _, rfl, t, _, 1, _, rfl, rfl, sq_t hg, atI_nat (j := 1) rfl, pk, kV k, rfl, .inl ⟨sbK sb, .inl n, .inl (sG _ _ hk), rfl, ?_⟩, k1 rfl _ _ (Same.refl _) ?_⟩
        · rw [sb_val, hkn]
          rfl
        · show kV k = kV ((getS sb n).getD (.inl 0))
          rw [hkn]
          rfl
    · intro G acc sG ha he
      rw [filter_true] at he
      have eacc : acc = (fill sb as).map kV := by
        clear ha
        have : ∀ {vs : List V} {l : List Ar}, EachIs (fun v a => v = kV (fillA sb a)) vs l → vs = (fill sb l).map kV := by
          intro vs l h
          induction h with
          | nil => rfl
          | cons h t ih => rw [h, ih]; rfl
        exact this he
      refine ⟨D, _, rfl, .inl ⟨sq_l ha, fun t ht => kk _ t (sG.trans (same_new ht)) ?_ ?_⟩⟩
      · cases y : H t with
        | none => rfl
        | some o => rw [sG _ _ y] at ht; cases ht
      · show upd G t _ t = _
        rw [upd_same, eacc]
def spSubst : Sp := fun vs H Q _ => vs = [] ∧ ∀ H' q, Same H H' → H q = none → SbsAt H' q subs64 → Q (.ref q) H'
theorem ok_substitutions (F : FnP K "_law_substitutions" s__law_substitutions f fd) (gD : mg "dict" = none) : FnOk P w K mg base CX0 1 f fd [] spSubst := by
  refine F.ok sc__law_substitutions (fun vs H Q E h => ?_) (fun cdv A outer s H vs Q E hr h => ?_)
  · obtain ⟨rfl, _⟩ := h
    rfl
  · obtain ⟨rfl, kk⟩ := h
    have nd := sc__law_substitutions.nd
    refine ⟨_, PSs.nox (pss_cons (ps_set (i := 0) nd rfl (Or.inl rfl) (pe_lst (pa_cons pe_dnewK pa_nil)))
      (pss_cons (ps_for PassesOwn.never rfl (pi_list (pe_lst (pa_cons pe_int (pa_cons pe_int (pa_cons pe_int pa_nil))))) (pg_name (i := 1) nd rfl (Or.inl rfl))
        (pss_cons (ps_set (i := 2) nd rfl (Or.inl rfl) (pe_lst pa_nil))
        (pss_cons (ps_for PassesOwn.never rfl (pi_list (pv 0)) (pg_name (i := 3) nd rfl (Or.inl rfl))
          (pss_one (ps_for PassesOwn.never rfl (pi_list (pe_lst (pa_cons pe_int (pa_cons pe_int (pa_cons pe_int (pa_cons pe_str pa_nil)))))) (pg_name (i := 4) nd rfl (Or.inl rfl))
            (pss_cons (ps_set (i := 5) nd rfl (Or.inl rfl) (pe_callTy call_dictD (by rfl) gD (by decide +kernel) (pa_cons (pv 3) pa_nil)))
            (pss_cons (ps_dput hr.u1 (pv 5) (pv 1) (pv 4) rfl)
            (pss_one (ps_expr (pe_bm PySem.F.plainAttrs_list PySem.F.slot_list_append PySem.F.type_list_append mt_append (pv 2) (pa_cons (pv 5) pa_nil)))))))))
        (pss_one (ps_set (i := 0) nd rfl (Or.inl rfl) (pv 2))))))
      (pss_one (ps_ret (pv 0))))), ?_⟩
    have big : (2000 : Nat) ≤ sizeLine := by decide
    refine fun e0 he0 => ⟨(by show 1 ≤ sizeLine; decide), fun q0 hq0 => ?_⟩
    have a1 : Same H (upd H e0 (.dK [])) := same_new he0
    have a2 : Same (upd H e0 (.dK [])) (upd (upd H e0 (.dK [])) q0 (.lst [.ref e0])) := same_new hq0
    have hq0H : H q0 = none := by
      cases y : H q0 with
      | none => rfl
      | some o => rw [a1 _ _ y] at hq0; cases hq0
    refine ⟨(by show 3 ≤ sizeLine; decide), fun tl htl => ⟨tl, rfl, ⟨_, sq_l upd_same⟩, ?_⟩⟩
    have a3 : Same (upd (upd H e0 (.dK [])) q0 (.lst [.ref e0])) (upd (upd (upd H e0 (.dK [])) q0 (.lst [.ref e0])) tl (.lst [.int 0, .int 1, .int 5])) := same_new htl
    have l0 : ∀ l : List Sb, (∀ s ∈ l, getS s 0 = none ∧ getS s 1 = none ∧ getS s 5 = none) → ∀ s ∈ growS l 0, getS s 1 = none ∧ getS s 5 = none := fun l hl s hs => by
      obtain ⟨s0, h0, k, _, rfl⟩ := grow_mem.mp hs
      obtain ⟨z0, z1, z5⟩ := hl s0 h0
      rw [getS_snoc _ z0, getS_snoc _ z0, if_neg (by decide), if_neg (by decide)]
      exact ⟨z1, z5⟩
    have l1 : ∀ l : List Sb, (∀ s ∈ l, getS s 1 = none ∧ getS s 5 = none) → ∀ s ∈ growS l 1, getS s 5 = none := fun l hl s hs => by
      obtain ⟨s0, h0, k, _, rfl⟩ := grow_mem.mp hs
      obtain ⟨z1, z5⟩ := hl s0 h0
      rw [getS_snoc _ z1, if_neg (by decide)]
      exact z5
    refine for_it (walk_list (xs := [V.int 0, .int 1, .int 5])) (fun i σ G => ∃ q l x1 x2 x3 x4 x5, σ = [some (.ref q), x1, x2, x3, x4, x5] ∧ Same H G ∧ H q = none ∧ G tl = some (.lst [.int 0, .int 1, .int 5]) ∧ SbsAt G q l ∧ l.length ≤ 64 ∧
        ((i = 0 ∧ l = [[]]) ∨ (i = 1 ∧ l = growS [[]] 0) ∨ (i = 2 ∧ l = growS (growS [[]] 0) 1) ∨ (i = 3 ∧ l = subs64)))
      ⟨q0, [[]], none, none, none, none, none, rfl, (a1.trans a2).trans a3, hq0H, upd_same, ⟨[e0], a3 _ _ upd_same, .cons (a3 _ _ (a2 _ _ upd_same)) .nil⟩, by decide, .inl ⟨rfl, rfl⟩⟩ (fun i σ G _ z => by obtain ⟨q, l, _, _, _, _, _, _, _, _, z, _⟩ := z; exact sq_l z) ?_ ?_
    · rintro i x σ _ G hi ⟨q, l, x1, x2, x3, x4, x5, rfl, sG, hq, gtl, ⟨ts, gq, hts⟩, ll, stage⟩ ⟨rfl, hx⟩
      -- the variable
      obtain ⟨v, rfl, fr, l16, next⟩ : ∃ v : Int, x = .int v ∧ (∀ s ∈ l, getS s v = none) ∧ l.length ≤ 16 ∧ ((i + 1 = 0 ∧ growS l v = [[]]) ∨ (i + 1 = 1 ∧ growS l v = growS [[]] 0) ∨ (i + 1 = 2 ∧ growS l v = growS (growS [[]] 0) 1) ∨ (i + 1 = 3 ∧ growS l v = subs64)) := by
        have e0 : ∀ s ∈ ([[]] : List Sb), getS s 0 = none ∧ getS s 1 = none ∧ getS s 5 = none := fun s hs => by
          rw [List.mem_singleton.mp hs]
          exact ⟨rfl, rfl, rfl⟩
        rcases stage with ⟨rfl, rfl⟩ | ⟨rfl, rfl⟩ | ⟨rfl, rfl⟩ | ⟨rfl, _⟩
        · exact ⟨0, (Option.some.inj hx).symm, fun s hs => (e0 s hs).1, by decide, .inr (.inl ⟨rfl, rfl⟩)⟩
        · exact ⟨1, (Option.some.inj hx).symm, fun s hs => (l0 _ e0 s hs).1, by rw [grow_len]; decide, .inr (.inr (.inl ⟨rfl, rfl⟩))⟩
        · exact ⟨5, (Option.some.inj hx).symm, fun s hs => l1 _ (l0 _ e0) s hs, by rw [grow_len, grow_len]; decide, .inr (.inr (.inr ⟨rfl, rfl⟩))⟩
        · exact absurd hi (by simp)
      have tll := hts.length
      refine ⟨Nat.zero_le _, fun D hD => ?_⟩
      have sD : Same G (upd G D (.lst [])) := same_new hD
      have hDH : H D = none := by
        cases y : H D with
        | none => rfl
        | some o => rw [sG _ _ y] at hD; cases hD
      have qD : q ≠ D := fun z => by rw [z, hD] at gq; cases gq
      have tD : tl ≠ D := fun z => by rw [z, hD] at gtl; cases gtl
      refine ⟨_, rfl, q, rfl, ⟨_, sq_l (sD _ _ gq)⟩, ?_⟩
      refine for_it (walk_list (xs := ts.map V.ref)) (fun j σ G2 => ∃ x3 x4 x5 us, σ = [some (.ref q), some (.int v), some (.ref D), x3, x4, x5] ∧ Off D G G2 ∧ G2 D = some (.lst (us.map V.ref)) ∧ EachIs (SbAt G2) us (growS (l.take j) v))
        ⟨x3, x4, x5, [], rfl, fun a o n e => by rw [upd_ne n]; exact e, upd_same, .nil⟩ (fun j σ G2 _ z => by obtain ⟨_, _, _, _, _, z, _⟩ := z; exact sq_l (z _ _ qD gq)) ?_ ?_
      · rintro j y σ _ G2 hj ⟨x3, x4, x5, us, rfl, o2, d2, hus⟩ ⟨rfl, hy⟩
        obtain ⟨t, ht, rfl⟩ := ref_at hy
        obtain ⟨s, hs, hts2⟩ := each_at hts ht
        have frs := fr s (List.mem_of_getElem? hs)
        have g2 : SbAt G2 t s := o2 _ _ (fun z => by
          have z' : G t = some (.dK (sbK s)) := hts2
          rw [z, hD] at z'; cases z') hts2
        have tk : growS (l.take (j + 1)) v = growS (l.take j) v ++ ones.map fun k => s ++ [(v, k)] := by
          unfold growS
          rw [List.take_add_one, hs, List.flatMap_append]
          simp
        have lus : us.length ≤ 64 := by
          rw [hus.length, grow_len]
          have := List.length_take_le' j l
          omega
        refine ⟨(by show 4 ≤ sizeLine; decide), fun ol hol => ⟨ol, rfl, ⟨_, sq_l upd_same⟩, ?_⟩⟩
        have s3 : Same G2 (upd G2 ol (.lst [.int 0, .int 9, .int 10, .str "a"])) := same_new hol
        have olD : ol ≠ D := fun z => by rw [z, d2] at hol; cases hol
        have qold : ∀ {a : Addr} {o : HO}, a ≠ D → G a = some o → upd G2 ol (.lst [.int 0, .int 9, .int 10, .str "a"]) a = some o := fun {a o} n e => s3 _ _ (o2 _ _ n e)
        refine for_it (walk_list (xs := [V.int 0, .int 9, .int 10, .str "a"])) (fun k σ G3 => ∃ x4 x5 us2, σ = [some (.ref q), some (.int v), some (.ref D), some (.ref t), x4, x5] ∧ Off D G G3 ∧ G3 D = some (.lst (us2.map V.ref)) ∧ EachIs (SbAt G3) us2 (growS (l.take j) v ++ (ones.take k).map fun c => s ++ [(v, c)]) ∧ G3 ol = some (.lst [.int 0, .int 9, .int 10, .str "a"]) ∧ SbAt G3 t s)
          ⟨x4, x5, us, rfl, fun a o n e => qold n e, s3 _ _ d2, by rw [List.take_zero, List.map_nil, List.append_nil]; exact hus.mono fun _ _ z => s3 _ _ z, upd_same, s3 _ _ g2⟩ (fun k σ G3 _ z => by obtain ⟨_, _, _, _, _, _, _, z, _⟩ := z; exact sq_l z) ?_ ?_
        · rintro k x σ _ G3 hk ⟨x4, x5, us2, rfl, o3, d3, hus3, hol3, g3⟩ ⟨rfl, hxk⟩
          obtain ⟨c, hc, rfl⟩ : ∃ c, ones[k]? = some c ∧ x = kV c := by
            have eo : [V.int 0, .int 9, .int 10, .str "a"] = ones.map kV := rfl
            rw [eo, List.getElem?_map] at hxk
            obtain ⟨c, h1, h2⟩ := Option.map_eq_some_iff.mp hxk
            exact ⟨c, h1, h2.symm⟩
          have lus3 : us2.length ≤ 70 := by
            rw [hus3.length, List.length_append, grow_len, List.length_map]
            have h1 := List.length_take_le' j l
            have h2 := List.length_take_le' k ones
            have h3 : ones.length = 4 := rfl
            omega
          have lsb : (sbK s).length ≤ 64 := by
            have : s.length ≤ 64 := by
              have hm := List.mem_of_getElem? hs
              rcases stage with ⟨_, e⟩ | ⟨_, e⟩ | ⟨_, e⟩ | ⟨_, e⟩
              · rw [e] at hm; rw [List.mem_singleton.mp hm]; exact Nat.zero_le _
              · rw [e] at hm
                obtain ⟨s0, h0, _, _, rfl⟩ := grow_mem.mp hm
                rw [List.mem_singleton.mp h0]; simp
              · rw [e] at hm
                obtain ⟨s1, h1, _, _, rfl⟩ := grow_mem.mp hm
                obtain ⟨s0, h0, _, _, rfl⟩ := grow_mem.mp h1
                rw [List.mem_singleton.mp h0]; simp
              · rw [e] at hm
                obtain ⟨s2, h2, _, _, rfl⟩ := grow_mem.mp hm
                obtain ⟨s1, h1, _, _, rfl⟩ := grow_mem.mp h2
                obtain ⟨s0, h0, _, _, rfl⟩ := grow_mem.mp h1
                rw [List.mem_singleton.mp h0]; simp
            unfold sbK
            rw [List.length_map]
            exact this
          refine ⟨_, rfl, t, _, rfl, .inl g3, fun mo hmo => ?_⟩
          have s4 : Same G3 (upd G3 mo (.dK (sbK s))) := same_new hmo
          refine ⟨_, rfl, _, rfl, _, rfl, mo, _, rfl, .inl ⟨sbK s, .inl v, upd_same, rfl, by omega, rfl⟩, ?_⟩
          rw [sb_put c frs]
          have moD : mo ≠ D := fun z => by rw [z, d3] at hmo; cases hmo
          obtain ⟨G5, eG5⟩ : ∃ G5, G5 = upd (upd G3 mo (.dK (sbK s))) mo (.dK (sbK (s ++ [(v, c)]))) := ⟨_, rfl⟩
          have f5 : SbAt G5 mo (s ++ [(v, c)]) := by rw [eG5]; exact upd_same
          have s5 : Same G3 G5 := fun a o e => by rw [eG5, upd_ne (ne_of_none e hmo), upd_ne (ne_of_none e hmo)]; exact e
          rw [← eG5]
          have d5 := s5 _ _ d3
          refine ⟨_, rfl, .inl ⟨rfl, _, .inl (.inl d5)⟩, _, rfl, D, _, _, rfl, rfl, d5, by rw [List.length_map]; omega, _, _, us2 ++ [mo], rfl, fun a o n e => ?_, ?_, ?_, ?_, ?_⟩
          · rw [upd_ne n]
            exact s5 _ _ (o3 a o n e)
          · rw [upd_same, List.map_append]
            rfl
          · have kd : ∀ (a : Addr) (u : Sb), SbAt G5 a u → SbAt (upd G5 D (.lst (us2.map V.ref ++ [V.ref mo]))) a u := fun a u z => by
              have z' : G5 a = some (.dK (sbK u)) := z
              show upd G5 D _ a = _
              rw [upd_ne (fun e => by rw [e, d5] at z'; cases z')]
              exact z'
            have tk2 : (ones.take (k + 1)).map (fun c => s ++ [(v, c)]) = (ones.take k).map (fun c => s ++ [(v, c)]) ++ [s ++ [(v, c)]] := by
              rw [List.take_add_one, hc, List.map_append]
              rfl
            rw [tk2, ← List.append_assoc]
            exact each_snoc1 (R := SbAt (upd G5 D (.lst (us2.map V.ref ++ [V.ref mo])))) (kd _ _ f5) (hus3.mono fun a u z => kd a u (s5 _ _ z))
          · rw [upd_ne olD]
            exact s5 _ _ hol3
          · have z' : G5 t = some (.dK (sbK s)) := s5 _ _ g3
            show upd G5 D _ t = _
            rw [upd_ne (fun e => by rw [e, d5] at z'; cases z')]
            exact z'
        · rintro σ G3 ⟨x4, x5, us2, rfl, o3, d3, hus3, hol3, g3⟩
          have eo : ones.take [V.int 0, .int 9, .int 10, .str "a"].length = ones := rfl
          rw [eo, ← tk] at hus3
          exact ⟨_, _, _, us2, rfl, o3, d3, hus3⟩
      · rintro σ G2 ⟨x3, x4, x5, us, rfl, o2, d2, hus⟩
        rw [List.length_map, tll, List.take_length] at hus
        refine ⟨_, rfl, D, growS l v, _, _, _, _, _, rfl, fun a o e => o2 _ _ (ne_of_none e hDH) (sG _ _ e), hDH, o2 _ _ tD gtl, ⟨us, d2, hus⟩, by rw [grow_len]; omega, next⟩
    · rintro σ G ⟨q, l, x1, x2, x3, x4, x5, rfl, sG, hq, gtl, hl, ll, stage⟩
      rcases stage with ⟨z, _⟩ | ⟨z, _⟩ | ⟨z, _⟩ | ⟨_, rfl⟩
      · simp at z
      · simp at z
      · simp at z
      · exact ⟨_, rfl, kk G q sG hq hl⟩
end
end KA
set_option Elab.async false
set_option linter.all false
set_option maxRecDepth 100000
set_option maxHeartbeats 8000000
/-! whether a body holds, by the law -/
namespace KA
open PySem PySem.Spec PyProof.Rows L2
open PySem.W (EachIs)
/-- the rows under a name -/
def tabL (ru rw own : List Row) : Str → List Row := fun n => if n = "own" then own else if n = "u" then ru else rw
def holdsB (T : Str → List Row) (s : Sb) (body : List Atm) : Bool := body.all fun a => memB (T a.name) (fill s a.args) == a.yes
theorem asg_if {c : TT} {ta tb : TE} {rest : TS} {D : Ends} {σ : L2.St} {H : Hp} {i : Nat} (Φ : V → Hp → Prop) (br : ∀ K' : VK, (∀ v H', Φ v H' → K' v H') → tIf c ta tb σ H K') (main : ∀ v H', Φ v H' → rest D (σ.set i (some v)) H') : tSeq (tAsg (tIf c ta tb) (gName i)) rest D σ H := br _ main
def OnesR (r : Row) : Prop := ∀ x ∈ r, x ∈ ones
theorem lay_key {x : Key} (h : x ∈ ones) : (keyD x).canLay0 = true := by
  simp only [ones, List.mem_cons, List.not_mem_nil, or_false] at h
  rcases h with rfl | rfl | rfl | rfl <;> decide +kernel
theorem lay_keys : ∀ {r : Row}, OnesR r → PyData.canLayAll0 (r.map keyD) = true
  | [], _ => rfl
  | x :: r, h => by
    show ((keyD x).canLay0 && PyData.canLayAll0 (r.map keyD)) = true
    rw [lay_key (h x List.mem_cons_self), lay_keys (r := r) fun y hy => h y (List.mem_cons_of_mem _ hy)]
    rfl
theorem lay_row {r : Row} (h : OnesR r) : (rowD r).canLay0 = true := lay_keys h
theorem lay_rows : ∀ {l : List Row}, (∀ r ∈ l, OnesR r) → PyData.canLayAll0 (l.map rowD) = true
  | [], _ => rfl
  | x :: r, h => by
    show ((rowD x).canLay0 && PyData.canLayAll0 (r.map rowD)) = true
    rw [lay_row (h x List.mem_cons_self), lay_rows (l := r) fun y hy => h y (List.mem_cons_of_mem _ hy)]
    rfl
theorem shaped_row {r : Row} (h : OnesR r) : SeqAt.shaped (rowD r) = true := by
  unfold SeqAt.shaped
  rw [lay_row h, decide_eq_true (Nat.le_trans (row_depth r) (by decide))]
  rfl
theorem depth_rows (l : List Row) : (PyData.list (l.map rowD)).depth ≤ 5 := by
  have key : ∀ b : List Row, PyData.depthAll (b.map rowD) ≤ 4 := fun b => by
    induction b with
    | nil => simp [PyData.depthAll]
    | cons e t ih =>
      have h := row_depth e
      simp only [List.map_cons, PyData.depthAll]
      omega
  have := key l
  simp only [PyData.depth]
  omega
theorem shaped_rows {l : List Row} (h : ∀ r ∈ l, OnesR r) : SeqAt.shaped (.list (l.map rowD)) = true := by
  unfold SeqAt.shaped
  have : (PyData.list (l.map rowD)).canLay0 = true := lay_rows h
  rw [this, decide_eq_true (Nat.le_trans (depth_rows l) (by decide))]
  rfl
theorem any_rows (l : List Row) (r : Row) : ((l.map rowD).any fun z => PyData.eqv z (rowD r)) = memB l r := by
  unfold memB
  rw [List.any_map]
  congr 1
  funext x
  exact eqv_row x r
section
variable {P : Program} {w : World} {K : PySem.W.Frag} {mg : Str → Option Value} {base : Heap} {f : Addr} {fd : FuncData}
def spHolds : Sp := fun vs H Q _ => ∃ (pb pn ps po : Addr) (body : List Atm) (s : Sb) (ru rw own : List Row), vs = [.ref pb, .ref pn, .ref ps, .ref po] ∧ AtmsAt H pb body ∧ SbAt H pn s ∧ SetL H ps ru rw ∧ RowsAt H po own ∧ (∀ a ∈ body, a.name = "u" ∨ a.name = "w" ∨ a.name = "own") ∧ (∀ a ∈ body, a.args.length ≤ 10 ∧ ∀ n, Ar.v n ∈ a.args → Has s n) ∧ ((∀ r ∈ ru, OnesR r) ∧ (∀ r ∈ rw, OnesR r) ∧ ∀ r ∈ own, OnesR r) ∧ (∀ a ∈ body, OnesR (fill s a.args)) ∧
  ∀ H', Same H H' → Q (.bl (holdsB (tabL ru rw own) s body)) H'
theorem ok_holds (F : FnP K "_law_holds" s__law_holds f fd) (CI : Cal P w K mg base "_law_instance" 1 ["arguments", "names"] spFilled) : FnOk P w K mg base CX0 2 f fd ["body", "names", "sets", "own"] spHolds := by
  refine F.ok sc__law_holds (fun vs H Q E h => ?_) (fun cdv A outer s H vs Q E hr h => ?_)
  · obtain ⟨pb, pn, ps, po, body, sb, ru, rw, own, rfl, _⟩ := h
    rfl
  · obtain ⟨pb, pn, ps, po, body, sb, ru, rw_, own, rfl, ⟨ts, hb, hts⟩, hs, ⟨pu, pw, h1, h2, h3⟩, ho, hnm, hv, ⟨o1, o2, o3⟩, hof, kk⟩ := h
    have nd := sc__law_holds.nd
    have u65 : (A.deeper (envOfC "_law_holds" (defScope s__law_holds) s.heap.objs.size f cdv)).units + 65 < cLine := by
      have := hr.un
      omega
    refine ⟨_, PSs.nox (pss_cons (ps_for PassesOwn.never rfl (pi_list (pv 0)) (pg_tup rfl (pgs_cons (pg_name (i := 4) nd rfl (Or.inl rfl)) (pgs_cons (pg_name (i := 5) nd rfl (Or.inl rfl)) (pgs_cons (pg_name (i := 6) nd rfl (Or.inl rfl)) pgs_nil))))
        (pss_cons (ps_set (i := 7) nd rfl (Or.inl rfl) (pe_ifExp (pt_cmpR op_eq (pv 5) pe_str (nomark _)) (pv 3) (pe_dget hr.u1 (pv 2) (pv 5) (fun _ _ => rfl))))
        (pss_one (ps_if (pt_cmpR op_ne (pe_cmpR (op_inD u65) (pe_cal CI hr.lt (pa_cons (pv 6) (pa_cons (pv 1) pa_nil))) (pv 7) (by with_unfolding_all rfl)) (pe_cmpR op_eq (pv 4) pe_str (nomark _)) (nomark _)) (pss_one (ps_ret pe_bl)) pss_nil))))
      (pss_one (ps_ret pe_bl))), ?_⟩
    refine ⟨_, rfl, pb, rfl, ⟨_, sq_l hb⟩, ?_⟩
    have tl := hts.length
    refine for_it (walk_list (xs := ts.map V.ref)) (fun i σ G => ∃ x4 x5 x6 x7, σ = [some (.ref pb), some (.ref pn), some (.ref ps), some (.ref po), x4, x5, x6, x7] ∧ Same H G ∧ holdsB (tabL ru rw_ own) sb (body.take i) = true) ⟨none, none, none, none, rfl, Same.refl _, rfl⟩ (fun i σ G _ z => by obtain ⟨_, _, _, _, _, z, _⟩ := z; exact sq_l (z _ _ hb)) ?_ ?_
    · rintro i x σ _ G hi ⟨x4, x5, x6, x7, rfl, sG, ih⟩ ⟨rfl, hx⟩
      obtain ⟨t, ht, rfl⟩ := ref_at hx
      obtain ⟨a, ha, pa, g1, g2⟩ := each_at hts ht
      have am := List.mem_of_getElem? ha
      obtain ⟨la, hva⟩ := hv a am
      refine ⟨t, _, rfl, sq_t (sG _ _ g1), rfl, _, _, rfl, _, _, rfl, _, _, rfl, rfl, ?_⟩
      -- the rows
      have uw : ¬ (Sum.inr ("u" : Str) : Key) = Sum.inr ("w" : Str) := by decide +kernel
      refine asg_if (fun v G' => G' = G ∧ ∃ pr, v = .ref pr ∧ RowsAt G pr (tabL ru rw_ own a.name)) (fun K' hK => ?_) ?_
      · refine ⟨_, rfl, rfl, _, rfl, ?_⟩
        have rs : ∀ p l, RowsAt H p l → RowsAt G p l := fun p l h => h.keepR (KeepR.of sG)
        by_cases eo : a.name = "own"
        · rw [decide_eq_true (by rw [eo])]
          refine iteT ⟨_, rfl, hK _ _ ⟨rfl, po, rfl, ?_⟩⟩
          have : tabL ru rw_ own a.name = own := by unfold tabL; rw [if_pos eo]
          rw [this]
          exact rs _ _ ho
        · rw [decide_eq_false (fun z => eo (by injection z))]
          have vd : ∃ pr, valV [((.inr ("u" : Str) : Key), V.ref pu), (.inr ("w" : Str), V.ref pw)] (.inr a.name) = some (.ref pr) ∧ RowsAt H pr (tabL ru rw_ own a.name) := by
            rcases hnm a am with e | e | e
            · refine ⟨pu, ?_, ?_⟩
              · rw [e]; exact valV_pos (p := ((Sum.inr ("u" : Str) : Key), V.ref pu)) rfl
              · have : tabL ru rw_ own a.name = ru := by unfold tabL; rw [if_neg eo, if_pos e]
                rw [this]; exact h2
            · refine ⟨pw, ?_, ?_⟩
              · rw [e]; exact (valV_neg (p := ((Sum.inr ("u" : Str) : Key), V.ref pu)) uw).trans (valV_pos (p := ((Sum.inr ("w" : Str) : Key), V.ref pw)) rfl)
              · have nu : ¬ a.name = "u" := fun z => uw (by rw [← z, ← e])
                have : tabL ru rw_ own a.name = rw_ := by unfold tabL; rw [if_neg eo, if_neg nu]
                rw [this]; exact h3
            · exact absurd e eo
          obtain ⟨pr, v1, v2⟩ := vd
          exact iteF ⟨_, rfl, _, rfl, ps, _, rfl, .inl ⟨_, .inr a.name, .inl (sG _ _ h1), rfl, v1.symm⟩, hK _ _ ⟨rfl, pr, rfl, rs _ _ v2⟩⟩
      · rintro _ _ ⟨rfl, pr, rfl, hpr⟩
        refine ⟨_, rfl, _, rfl, pa, pn, a.args, sb, rfl, g2.keep (KeepS.of sG), sG _ _ hs, hva, by omega, fun G2 z s2 _ hz => ?_⟩
        refine ⟨_, rfl, _, _, dp_row hz, dp_rows (hpr.keepR (KeepR.of s2)), shaped_row (hof a am), shaped_rows ?_, ?_⟩
        · intro r hr
          unfold tabL at hr
          split at hr
          · exact o3 r hr
          · split at hr
            · exact o1 r hr
            · exact o2 r hr
        rw [any_rows]
        have sG2 := sG.trans s2
        have signY : decide (V.str a.sign = V.str "yes") = a.yes := by
          unfold Atm.sign
          have ny : ¬ (("no" : Str) = "yes") := by decide +kernel
          cases a.yes with
          | true => exact decide_eq_true rfl
          | false => exact decide_eq_false fun z => ny (by injection z)
        refine ⟨_, rfl, rfl, rfl, _, rfl, ?_⟩
        rw [signY]
        have tk : holdsB (tabL ru rw_ own) sb (body.take (i + 1)) = (memB (tabL ru rw_ own a.name) (fill sb a.args) == a.yes) := by
          unfold holdsB at ih ⊢
          rw [List.take_add_one, ha, List.all_append, ih]
          simp
        by_cases c : memB (tabL ru rw_ own a.name) (fill sb a.args) = a.yes
        · rw [show (!decide (V.bl (memB (tabL ru rw_ own a.name) (fill sb a.args)) = V.bl a.yes)) = false by rw [decide_eq_true (by rw [c])]; rfl]
          refine iteF ⟨_, _, _, _, rfl, sG2, ?_⟩
          rw [tk, c]
          simp
        · rw [show (!decide (V.bl (memB (tabL ru rw_ own a.name) (fill sb a.args)) = V.bl a.yes)) = true by rw [decide_eq_false (fun z => c (by injection z))]; rfl]
          refine iteT ?_
          have no : holdsB (tabL ru rw_ own) sb body = false := by
            cases e : holdsB (tabL ru rw_ own) sb body with
            | false => rfl
            | true =>
              unfold holdsB at e
              have := List.all_eq_true.mp e a am
              exact absurd (by simpa using this) c
          have := kk G2 sG2
          rw [no] at this
          exact this
    · rintro σ G ⟨x4, x5, x6, x7, rfl, sG, ih⟩
      rw [List.length_map, tl, List.take_length] at ih
      have := kk G sG
      rw [ih] at this
      exact this
end
end KA
set_option Elab.async false
set_option linter.all false
set_option maxRecDepth 100000
set_option maxHeartbeats 4000000
/-! the law's own way to the smallest set -/
namespace KA
open PySem PySem.Spec PyProof.Rows L2
def stepL (S : Str → List Row) (O : List Row) (p : Sb × Rul) : List Row := if !memB O (fill p.1 p.2.head) && holdsB (withO "own" S O) p.1 p.2.body then O ++ [fill p.1 p.2.head] else O
theorem stepL_pre (S : Str → List Row) (O : List Row) (p : Sb × Rul) : ∃ e, stepL S O p = O ++ e := by
  unfold stepL
  split
  · exact ⟨_, rfl⟩
  · exact ⟨[], (List.append_nil O).symm⟩
theorem fold_pre (S : Str → List Row) : ∀ (ps : List (Sb × Rul)) (O : List Row), ∃ e, ps.foldl (stepL S) O = O ++ e
  | [], O => ⟨[], (List.append_nil O).symm⟩
  | p :: ps, O => by
    obtain ⟨e1, h1⟩ := stepL_pre S O p
    obtain ⟨e2, h2⟩ := fold_pre S ps (stepL S O p)
    exact ⟨e1 ++ e2, by rw [List.foldl_cons, h2, h1, List.append_assoc]⟩
/-- a turn that adds nothing found nothing -/
theorem fold_fix (S : Str → List Row) : ∀ (ps : List (Sb × Rul)) (O : List Row), (ps.foldl (stepL S) O).length = O.length → ∀ p ∈ ps, fill p.1 p.2.head ∈ O ∨ holdsB (withO "own" S O) p.1 p.2.body = false
  | [], O, _, p, hp => by cases hp
  | q :: ps, O, h, p, hp => by
    rw [List.foldl_cons] at h
    obtain ⟨e1, h1⟩ := stepL_pre S O q
    obtain ⟨e2, h2⟩ := fold_pre S ps (stepL S O q)
    rw [h2, h1, List.length_append, List.length_append] at h
    have e10 : e1 = [] := List.eq_nil_of_length_eq_zero (by omega)
    rw [e10, List.append_nil] at h1
    rcases List.mem_cons.mp hp with rfl | hp
    · unfold stepL at h1
      by_cases c : (!memB O (fill p.1 p.2.head) && holdsB (withO "own" S O) p.1 p.2.body) = true
      · rw [if_pos c] at h1
        have := congrArg List.length h1
        rw [List.length_append] at this
        simp at this
      · by_cases m : memB O (fill p.1 p.2.head) = true
        · exact .inl (memB_iff.mp m)
        · refine .inr ?_
          cases e : holdsB (withO "own" S O) p.1 p.2.body with
          | false => rfl
          | true =>
            have m' : memB O (fill p.1 p.2.head) = false := by simpa using m
            rw [m', e] at c
            exact absurd rfl c
    · rw [h1] at h2
      exact fold_fix S ps O (by rw [h2, List.length_append]; omega) p hp
/-- what each row of the law's set is -/
structure OwnL (rules : List Rul) (S : Str → List Row) (O : List Row) : Prop where
  nd : O.Nodup
  sub : ∀ r ∈ O, Lst rules "own" (InT S) r
theorem holds_sat {T : Str → List Row} {s : Sb} {σ : Int → Key} {body : List Atm} (ag : Agr s σ) (hv : ∀ a ∈ body, ∀ n, Ar.v n ∈ a.args → Has s n) : holdsB T s body = true ↔ SatB T σ body := by
  unfold holdsB SatB
  rw [List.all_eq_true]
  refine ⟨fun h a ha => ?_, fun h a ha => ?_⟩
  · have := h a ha
    rw [fill_inst (hv a ha) ag] at this
    unfold HoldsA
    have e : memB (T a.name) (inst σ a.args) = a.yes := by simpa using this
    by_cases y : a.yes = true
    · rw [if_pos y]
      rw [y] at e
      exact memB_iff.mp e
    · rw [if_neg y]
      have y2 : a.yes = false := by simpa using y
      rw [y2] at e
      exact memB_no.mp e
  · have := h a ha
    unfold HoldsA at this
    rw [fill_inst (hv a ha) ag]
    by_cases y : a.yes = true
    · rw [if_pos y] at this
      rw [y, memB_iff.mpr this]
      rfl
    · rw [if_neg y] at this
      have y2 : a.yes = false := by simpa using y
      rw [y2, memB_no.mpr this]
      rfl
theorem OwnL.step {rules : List Rul} {S : Str → List Row} {O : List Row} (wf : ∀ ρ ∈ rules, WfR "own" ρ) (h : OwnL rules S O) {p : Sb × Rul} (hp : p.2 ∈ rules) (hv : (∀ a ∈ p.2.body, ∀ n, Ar.v n ∈ a.args → Has p.1 n) ∧ ∀ n, Ar.v n ∈ p.2.head → Has p.1 n) : OwnL rules S (stepL S O p) := by
  unfold stepL
  split
  · rename_i c
    rw [Bool.and_eq_true, Bool.not_eq_true'] at c
    refine ⟨List.nodup_append.mpr ⟨h.nd, by simp, fun a ha b hb e => ?_⟩, fun r hr => ?_⟩
    · rw [List.mem_singleton.mp hb] at e
      exact memB_no.mp c.1 (e ▸ ha)
    · rcases List.mem_append.mp hr with z | z
      · exact h.sub r z
      · rw [List.mem_singleton.mp z]
        obtain ⟨σ, ag⟩ := agr_ex p.1
        rw [fill_inst hv.2 ag]
        exact lst_of wf h.sub hp ((holds_sat ag hv.1).mp c.2)
  · exact h
end KA
set_option Elab.async false
set_option linter.all false
set_option maxRecDepth 100000
set_option maxHeartbeats 4000000
/-! the law's substitutions are enough -/
namespace KA
open PySem PySem.Spec PyProof.Rows L2
theorem RulL.wf {ρ : Rul} (h : RulL ρ) : WfR "own" ρ := by
  obtain ⟨ys, ns, hb, _, _, hy, hn, hh⟩ := h.ex
  have mem : ∀ a, a ∈ ρ.body ↔ a ∈ ys ∨ a ∈ ns := fun a => by
    rcases hb with e | e <;> (rw [e, List.mem_append]; try exact or_comm; try exact Iff.rfl)
  have yb : ∀ b ∈ ys, b ∈ ρ.body ∧ b.yes = true := fun b hb2 => ⟨(mem b).mpr (.inl hb2), (hy b hb2).sign⟩
  refine ⟨fun a ha e => ?_, fun n hv => ?_, fun a ha y n hv => ?_⟩
  · rcases (mem a).mp ha with z | z
    · exact (hy a z).sign
    · have := (hn a z).1.name
      rw [e] at this
      simp only [namesN, List.mem_cons, List.not_mem_nil, or_false] at this
      rcases this with q | q
      · exact absurd q (by decide +kernel)
      · exact absurd q (by decide +kernel)
  · obtain ⟨b, hb2, hv2⟩ := hh n hv
    exact ⟨b, (yb b hb2).1, (yb b hb2).2, hv2⟩
  · rcases (mem a).mp ha with z | z
    · exact absurd (hy a z).sign y
    · obtain ⟨b, hb2, hv2⟩ := (hn a z).2 n hv
      exact ⟨b, (yb b hb2).1, (yb b hb2).2, hv2⟩
theorem RulL.atoms {ρ : Rul} (h : RulL ρ) : ∀ a ∈ ρ.body, (a.name = "u" ∨ a.name = "w" ∨ a.name = "own") ∧ a.args.length ≤ 2 ∧ ∀ x ∈ a.args, ArOk x := by
  obtain ⟨ys, ns, hb, _, _, hy, hn, hh⟩ := h.ex
  intro a ha
  have two : ∀ n : Str, szOf n ≤ 2 := fun n => by unfold szOf; split <;> omega
  have : a ∈ ys ∨ a ∈ ns := by
    rcases hb with e | e <;> (rw [e] at ha; rcases List.mem_append.mp ha with z | z) <;> first | exact .inl z | exact .inr z
  rcases this with z | z
  · have k := hy a z
    refine ⟨?_, by rw [k.len]; exact two _, k.args⟩
    have := k.name
    simp only [namesY, List.mem_cons, List.not_mem_nil, or_false] at this
    rcases this with q | q | q | q <;> simp [q]
  · have k := (hn a z).1
    refine ⟨?_, by rw [k.len]; exact two _, k.args⟩
    have := k.name
    simp only [namesN, List.mem_cons, List.not_mem_nil, or_false] at this
    rcases this with q | q <;> simp [q]
theorem subs_has {s : Sb} (h : s ∈ subs64) : ∃ a b c, a ∈ ones ∧ b ∈ ones ∧ c ∈ ones ∧ s = [(0, a), (1, b), (5, c)] := by
  obtain ⟨s2, h2, c, hc, rfl⟩ := grow_mem.mp h
  obtain ⟨s1, h1, b, hb, rfl⟩ := grow_mem.mp h2
  obtain ⟨s0, h0, a, ha, rfl⟩ := grow_mem.mp h1
  rw [List.mem_singleton.mp h0]
  exact ⟨a, b, c, ha, hb, hc, rfl⟩
theorem subs_of {a b c : Key} (ha : a ∈ ones) (hb : b ∈ ones) (hc : c ∈ ones) : [(0, a), (1, b), (5, c)] ∈ subs64 :=
  grow_mem.mpr ⟨[(0, a), (1, b)], grow_mem.mpr ⟨[(0, a)], grow_mem.mpr ⟨[], List.mem_singleton.mpr rfl, a, ha, rfl⟩, b, hb, rfl⟩, c, hc, rfl⟩
theorem sub_get (a b c : Key) : getS [(0, a), (1, b), (5, c)] 0 = some a ∧ getS [(0, a), (1, b), (5, c)] 1 = some b ∧ getS [(0, a), (1, b), (5, c)] 5 = some c := ⟨rfl, rfl, rfl⟩
theorem subs_var {s : Sb} (h : s ∈ subs64) {n : Int} (hn : n ∈ vars) : ∃ k, getS s n = some k ∧ k ∈ ones := by
  obtain ⟨a, b, c, ha, hb, hc, rfl⟩ := subs_has h
  simp only [vars, List.mem_cons, List.not_mem_nil, or_false] at hn
  obtain ⟨g0, g1, g5⟩ := sub_get a b c
  rcases hn with rfl | rfl | rfl
  · exact ⟨a, g0, ha⟩
  · exact ⟨b, g1, hb⟩
  · exact ⟨c, g5, hc⟩
theorem subs_fill {s : Sb} (h : s ∈ subs64) {as : List Ar} (ha : ∀ x ∈ as, ArOk x) : OnesR (fill s as) ∧ ∀ n, Ar.v n ∈ as → Has s n := by
  refine ⟨fun x hx => ?_, fun n hn => ?_⟩
  · unfold fill at hx
    obtain ⟨a, hm, rfl⟩ := List.mem_map.mp hx
    cases a with
    | c k => exact ha _ hm
    | v n =>
      obtain ⟨k, e, hk⟩ := subs_var h (ha _ hm)
      show (getS s n).getD (.inl 0) ∈ ones
      rw [e]
      exact hk
  · obtain ⟨k, e, _⟩ := subs_var h (ha _ hn)
    unfold Has
    rw [e]
    rfl
/-- closed under the law's substitutions: closed under all -/
theorem law_closed {rules : List Rul} {S : Str → List Row} {O : List Row} (hr : ∀ ρ ∈ rules, RulL ρ) (hS : ∀ n : Str, ¬ n = "own" → ∀ r ∈ S n, OnesR r) (hO : ∀ r ∈ O, OnesR r) (cl : ∀ s ∈ subs64, ∀ ρ ∈ rules, fill s ρ.head ∈ O ∨ holdsB (withO "own" S O) s ρ.body = false) :
    ∀ r, Lst rules "own" (InT S) r → r ∈ O := by
  refine lst_in (fun ρ hρ => (hr ρ hρ).wf) fun ρ hρ σ q => ?_
  have h := hr ρ hρ
  have wf := h.wf
  have zero : (Sum.inl 0 : Key) ∈ ones := by simp [ones]
  -- the values of the variables of the yes atoms
  have val : ∀ n, (∃ b ∈ ρ.body, b.yes = true ∧ Ar.v n ∈ b.args) → σ n ∈ ones := fun n ⟨b, hb, y, hv⟩ => by
    have := q b hb
    unfold HoldsA at this
    rw [if_pos y] at this
    have m : inst σ b.args ∈ withO "own" S O b.name := this
    have on : OnesR (inst σ b.args) := by
      by_cases e : b.name = "own"
      · rw [e, withO_own] at m
        exact hO _ m
      · rw [withO_ne e] at m
        exact hS _ e _ m
    exact on _ (List.mem_map.mpr ⟨.v n, hv, rfl⟩)
  obtain ⟨τ, tone, tsame⟩ : ∃ τ : Int → Key, (∀ n, τ n ∈ ones) ∧ ∀ n, σ n ∈ ones → τ n = σ n := by
    refine ⟨fun n => @ite _ (σ n ∈ ones) (Classical.propDecidable _) (σ n) (.inl 0), fun n => ?_, fun n hn => if_pos hn⟩
    by_cases c : σ n ∈ ones
    · show @ite _ (σ n ∈ ones) (Classical.propDecidable _) (σ n) (.inl 0) ∈ ones
      rw [if_pos c]
      exact c
    · show @ite _ (σ n ∈ ones) (Classical.propDecidable _) (σ n) (.inl 0) ∈ ones
      rw [if_neg c]
      exact zero
  have same : ∀ n, (∃ b ∈ ρ.body, b.yes = true ∧ Ar.v n ∈ b.args) → τ n = σ n := fun n hn => tsame n (val n hn)
  have instE : ∀ as : List Ar, (∀ n, Ar.v n ∈ as → ∃ b ∈ ρ.body, b.yes = true ∧ Ar.v n ∈ b.args) → inst τ as = inst σ as := fun as hv => by
    unfold inst
    refine List.map_congr_left fun a ha => ?_
    cases a with
    | c k => rfl
    | v n => exact same n (hv n ha)
  have av : ∀ a ∈ ρ.body, ∀ n, Ar.v n ∈ a.args → ∃ b ∈ ρ.body, b.yes = true ∧ Ar.v n ∈ b.args := fun a ha n hv => by
    by_cases y : a.yes = true
    · exact ⟨a, ha, y, hv⟩
    · exact wf.no a ha y n hv
  have qt : SatB (withO "own" S O) τ ρ.body := fun a ha => by
    have := q a ha
    unfold HoldsA at this ⊢
    rw [instE a.args (av a ha)]
    exact this
  have hs := subs_of (tone 0) (tone 1) (tone 5)
  obtain ⟨g0, g1, g5⟩ := sub_get (τ 0) (τ 1) (τ 5)
  have ag : Agr [(0, τ 0), (1, τ 1), (5, τ 5)] τ := fun n k e => by
    unfold getS at e
    rw [List.find?_cons, List.find?_cons, List.find?_cons, List.find?_nil] at e
    by_cases z0 : (0 : Int) = n
    · rw [decide_eq_true z0] at e
      rw [← z0]
      exact Option.some.inj e
    · rw [decide_eq_false z0] at e
      by_cases z1 : (1 : Int) = n
      · rw [decide_eq_true z1] at e
        rw [← z1]
        exact Option.some.inj e
      · rw [decide_eq_false z1] at e
        by_cases z5 : (5 : Int) = n
        · rw [decide_eq_true z5] at e
          rw [← z5]
          exact Option.some.inj e
        · rw [decide_eq_false z5] at e
          cases e
  have hasA : ∀ a ∈ ρ.body, ∀ n, Ar.v n ∈ a.args → Has [(0, τ 0), (1, τ 1), (5, τ 5)] n := fun a ha => (subs_fill hs (h.atoms a ha).2.2).2
  have hasH := (subs_fill hs h.head).2
  have hold := (holds_sat (T := withO "own" S O) ag hasA).mpr qt
  have fe : fill [(0, τ 0), (1, τ 1), (5, τ 5)] ρ.head = inst σ ρ.head := by
    rw [fill_inst hasH ag]
    exact instE ρ.head wf.head
  rcases cl _ hs ρ hρ with z | z
  · rw [← fe]
    exact z
  · rw [hold] at z
    cases z
end KA
set_option Elab.async false
set_option linter.all false
set_option maxRecDepth 100000
set_option maxHeartbeats 8000000
/-! the law's dicts of rows -/
namespace KA
open PySem PySem.Spec PyProof.Rows L2
open PySem.W (EachIs)
theorem kvD_set {R : Addr → Str → Prop} {n : Str} {p : Addr} (hp : R p n) : ∀ {ns : List Str} {as : List Addr}, ns.Nodup → EachIs R as ns → ∃ as', putK (kvD ns as) (.inr n) (.ref p) = kvD (addS ns n) as' ∧ EachIs R as' (addS ns n) := by
  intro ns as nd he
  by_cases hm : n ∈ ns
  · have e : addS ns n = ns := by unfold addS; rw [if_pos (memS_iff.mpr hm)]
    rw [e]
    have : ∀ {ns : List Str} {as : List Addr}, ns.Nodup → EachIs R as ns → n ∈ ns → ∃ as', (kvD ns as).map (fun kv => if kv.1 = (.inr n : Key) then (kv.1, V.ref p) else kv) = kvD ns as' ∧ EachIs R as' ns := by
      intro ns as nd he hm
      induction he with
      | nil => cases hm
      | @cons a m as ns h t ih =>
        rw [List.nodup_cons] at nd
        by_cases c : m = n
        · subst c
          have rest : ∀ {ns : List Str} {as : List Addr}, m ∉ ns → EachIs R as ns → (kvD ns as).map (fun kv => if kv.1 = (.inr m : Key) then (kv.1, V.ref p) else kv) = kvD ns as := by
            intro ns as hn he
            induction he with
            | nil => rfl
            | @cons a2 m2 as ns h2 t2 ih2 =>
              rw [List.mem_cons, not_or] at hn
              show (if (.inr m2 : Key) = .inr m then ((.inr m2 : Key), V.ref p) else ((.inr m2 : Key), V.ref a2)) :: _ = ((.inr m2 : Key), V.ref a2) :: kvD ns as
              rw [if_neg (fun z => hn.1 (by injection z with z; exact z.symm))]
              exact congrArg _ (ih2 hn.2)
          refine ⟨p :: as, ?_, .cons hp t⟩
          show (if (.inr m : Key) = .inr m then ((.inr m : Key), V.ref p) else ((.inr m : Key), V.ref a)) :: _ = ((.inr m : Key), V.ref p) :: kvD ns as
          rw [if_pos rfl]
          exact congrArg _ (rest nd.1 t)
        · rcases List.mem_cons.mp hm with z | z
          · exact absurd z.symm c
          · obtain ⟨as', e1, e2⟩ := ih nd.2 z
            refine ⟨a :: as', ?_, .cons h e2⟩
            show (if (.inr m : Key) = .inr n then ((.inr m : Key), V.ref p) else ((.inr m : Key), V.ref a)) :: _ = ((.inr m : Key), V.ref a) :: kvD ns as'
            rw [if_neg (fun z => c (by injection z))]
            exact congrArg _ e1
    obtain ⟨as', e1, e2⟩ := this nd he hm
    refine ⟨as', ?_, e2⟩
    have any : ((kvD ns as).any fun kv => decide (kv.1 = (.inr n : Key))) = true := by
      clear e1 e2 this e
      induction he with
      | nil => cases hm
      | @cons a m as ns h t ih =>
        rw [List.nodup_cons] at nd
        show (decide ((.inr m : Key) = .inr n) || _) = true
        rcases List.mem_cons.mp hm with z | z
        · rw [z]; simp
        · rw [ih nd.2 z]; simp
    unfold putK
    rw [if_pos any, ← e1]
  · have e : addS ns n = ns ++ [n] := by unfold addS; rw [if_neg (fun z => hm (memS_iff.mp z))]
    rw [e]
    exact ⟨as ++ [p], kvD_put hm he.length, each_snoc1 hp he⟩
theorem valV_puts {n : Str} {p : V} (kvs : List (Key × V)) : valV (putK kvs (.inr n) p) (.inr n) = some p := by rw [valV_put, if_pos rfl]
theorem putK_len (kvs : List (Key × V)) (k : Key) (v : V) : (putK kvs k v).length ≤ kvs.length + 1 := by
  unfold putK
  split
  · rw [List.length_map]; omega
  · rw [List.length_append]; simp
/-- the names in bodies but own, so far -/
def namesU (as : List Atm) : List Str := uniS ((as.map (·.name)).filter fun x => !decide (x = "own"))
theorem namesU_nd (as : List Atm) : (namesU as).Nodup := uniS_nd _ _ List.nodup_nil
theorem namesU_snoc (as : List Atm) (a : Atm) : namesU (as ++ [a]) = if a.name = "own" then namesU as else addS (namesU as) a.name := by
  unfold namesU
  rw [List.map_append, List.filter_append]
  by_cases e : a.name = "own"
  · rw [if_pos e]
    have : ([a].map (·.name)).filter (fun x : Str => !decide (x = "own")) = [] := by simp [e]
    rw [this, List.append_nil]
  · rw [if_neg e]
    have : ([a].map (·.name)).filter (fun x : Str => !decide (x = "own")) = [a.name] := by simp [e]
    rw [this, uniS_snoc]
theorem namesU_all (rules : List Rul) : namesU (rules.flatMap (·.body)) = namesB rules "own" := by
  unfold namesU namesB bodyNames
  rw [List.map_flatMap]
section
variable {P : Program} {w : World} {K : PySem.W.Frag} {mg : Str → Option Value} {base : Heap} {f : Addr} {fd : FuncData}
/-- the dict of dicts -/
def DictsAt (H : Hp) (d : Addr) (names : List Str) (T : Str → List Row) : Prop := ∃ as, H d = some (.dK (kvD names as)) ∧ EachIs (fun a n => SetAt H a (uniR (T n))) as names
def spDicts : Sp := fun vs H Q _ => ∃ (pr ps : Addr) (rules : List Rul) (ru rw : List Row), vs = [.ref pr, .ref ps] ∧ RulesAt H pr rules ∧ SetL H ps ru rw ∧ (∀ ρ ∈ rules, ∀ a ∈ ρ.body, a.name = "u" ∨ a.name = "w" ∨ a.name = "own") ∧ (rules.flatMap (·.body)).length ≤ 1000 ∧ ru.length ≤ 100 ∧ rw.length ≤ 100 ∧
  ∀ H' d, Same H H' → H d = none → DictsAt H' d (namesB rules "own") (tabL ru rw []) → Q (.ref d) H'
theorem ok_dicts (F : FnP K "_law_dicts" s__law_dicts f fd) : FnOk P w K mg base CX0 1 f fd ["rules", "sets"] spDicts := by
  refine F.ok sc__law_dicts (fun vs H Q E h => ?_) (fun cdv A outer s H vs Q E hr h => ?_)
  · obtain ⟨pr, ps, rules, ru, rw, rfl, _⟩ := h
    rfl
  · obtain ⟨pr, ps, rules, ru, rw_, rfl, ⟨ts, hp, hts⟩, ⟨pu, pw, h1, h2, h3⟩, hnm, lb, lu, lw, kk⟩ := h
    have nd := sc__law_dicts.nd
    refine ⟨_, PSs.nox (pss_cons (ps_set (i := 2) nd rfl (Or.inl rfl) pe_dnewK)
      (pss_cons (ps_for PassesOwn.never rfl (pi_list (pv 0)) (pg_tup rfl (pgs_cons (pg_name (i := 3) nd rfl (Or.inl rfl)) (pgs_cons (pg_name (i := 4) nd rfl (Or.inl rfl)) pgs_nil)))
        (pss_one (ps_for PassesOwn.never rfl (pi_list (pv 4)) (pg_tup rfl (pgs_cons (pg_name (i := 5) nd rfl (Or.inl rfl)) (pgs_cons (pg_name (i := 6) nd rfl (Or.inl rfl)) (pgs_cons (pg_name (i := 7) nd rfl (Or.inl rfl)) pgs_nil))))
          (pss_one (ps_if (pt_cmpR op_ne (pv 6) pe_str (nomark _))
            (pss_cons (ps_dput hr.u1 (pv 2) (pv 6) pe_dnewT rfl)
            (pss_one (ps_for PassesOwn.never rfl (pi_list (pe_dget hr.u1 (pv 1) (pv 6) (fun _ _ => rfl))) (pg_name (i := 8) nd rfl (Or.inl rfl)) (pss_one (ps_dput hr.u1 (pe_dget hr.u1 (pv 2) (pv 6) (fun _ _ => rfl)) (pv 8) pe_bl rfl))))) pss_nil)))))
      (pss_one (ps_ret (pv 2))))), ?_⟩
    have big : (2000 : Nat) ≤ sizeLine := by decide
    have uw : ¬ (Sum.inr ("u" : Str) : Key) = Sum.inr ("w" : Str) := by decide +kernel
    refine fun df hdf => ⟨_, rfl, pr, rfl, ⟨_, sq_l (same_new hdf _ _ hp)⟩, ?_⟩
    have keepH : ∀ {G : Hp}, Off df (upd H df (.dK [])) G → Same H G := fun {G} o a u e => o a u (ne_of_none e hdf) (same_new hdf _ _ e)
    refine for_it (walk_list (xs := ts.map V.ref)) (fun i σ G => ∃ x3 x4 x5 x6 x7 x8, σ = [some (.ref pr), some (.ref ps), some (.ref df), x3, x4, x5, x6, x7, x8] ∧ Off df (upd H df (.dK [])) G ∧ DictsAt G df (namesU ((rules.take i).flatMap (·.body))) (tabL ru rw_ []))
      ⟨none, none, none, none, none, none, rfl, fun a o n e => e, [], upd_same, .nil⟩ (fun i σ G _ z => by obtain ⟨_, _, _, _, _, _, _, z, _⟩ := z; exact sq_l (keepH z _ _ hp)) ?_ ?_
    · rintro i x σ _ G hi ⟨x3, x4, x5, x6, x7, x8, rfl, oG, dG⟩ ⟨rfl, hx⟩
      obtain ⟨t, ht, rfl⟩ := ref_at hx
      obtain ⟨ρ, hρ, ph, pb, g1, g2, bs, g3, g4⟩ := each_at hts ht
      have hρm := List.mem_of_getElem? hρ
      have tk : (rules.take (i + 1)).flatMap (·.body) = (rules.take i).flatMap (·.body) ++ ρ.body := by
        rw [List.take_add_one, hρ, List.flatMap_append]
        simp
      have sG := keepH oG
      refine ⟨t, _, rfl, sq_t (sG _ _ g1), rfl, _, _, rfl, _, _, rfl, rfl, _, rfl, pb, rfl, ⟨_, sq_l (sG _ _ g3)⟩, ?_⟩
      obtain ⟨pre, epre⟩ : ∃ pre, pre = (rules.take i).flatMap (·.body) := ⟨_, rfl⟩
      rw [← epre] at dG tk
      have lpre : (pre ++ ρ.body).length ≤ 1000 := by
        rw [← tk]
        have e : rules.flatMap (·.body) = (rules.take (i + 1)).flatMap (·.body) ++ (rules.drop (i + 1)).flatMap (·.body) := by rw [← List.flatMap_append, List.take_append_drop]
        rw [e, List.length_append] at lb
        omega
      refine for_it (walk_list (xs := bs.map V.ref)) (fun j σ G2 => ∃ x5 x6 x7 x8, σ = [some (.ref pr), some (.ref ps), some (.ref df), some (.ref ph), some (.ref pb), x5, x6, x7, x8] ∧ Off df (upd H df (.dK [])) G2 ∧ DictsAt G2 df (namesU (pre ++ ρ.body.take j)) (tabL ru rw_ []))
        ⟨x5, x6, x7, x8, rfl, oG, by rw [List.take_zero, List.append_nil]; exact dG⟩ (fun j σ G2 _ z => by obtain ⟨_, _, _, _, _, z, _⟩ := z; exact sq_l (keepH z _ _ g3)) ?_ ?_
      · clear oG dG sG
        rintro j x σ _ G hj ⟨x5, x6, x7, x8, rfl, oG, as, gd, has⟩ ⟨rfl, hx⟩
        obtain ⟨at_, hat, rfl⟩ := ref_at hx
        obtain ⟨a, ha, pa, q1, q2⟩ := each_at g4 hat
        have sG := keepH oG
        have am := List.mem_of_getElem? ha
        have et : pre ++ ρ.body.take (j + 1) = (pre ++ ρ.body.take j) ++ [a] := by rw [List.take_add_one, ha, List.append_assoc]; rfl
        refine ⟨at_, _, rfl, sq_t (sG _ _ q1), rfl, _, _, rfl, _, _, rfl, _, _, rfl, rfl, _, rfl, rfl, _, rfl, ?_⟩
        by_cases eo : a.name = "own"
        · rw [show (!decide (V.str a.name = V.str "own")) = false by rw [eo]; rfl]
          refine iteF ⟨_, _, _, _, rfl, oG, as, ?_⟩
          rw [et, namesU_snoc, if_pos eo]
          exact ⟨gd, has⟩
        · rw [show (!decide (V.str a.name = V.str "own")) = true by rw [decide_eq_false (fun z => eo (by injection z))]; rfl]
          refine iteT ?_
          have lk : (kvD (namesU (pre ++ ρ.body.take j)) as).length ≤ 1001 := by
            refine Nat.le_trans (kvD_len _ _) ?_
            unfold namesU uniS
            have z1 := uniS_len (((pre ++ ρ.body.take j).map (·.name)).filter fun x : Str => !decide (x = "own")) []
            have z2 := List.length_filter_le (fun x : Str => !decide (x = "own")) ((pre ++ ρ.body.take j).map (·.name))
            rw [List.length_map, List.length_append] at z2
            rw [List.length_append] at lpre
            have z3 := List.length_take_le' j ρ.body
            simp only [List.length_nil] at z1
            omega
          refine fun p hp => ⟨_, rfl, _, rfl, _, _, rfl, .inl ⟨_, .inr a.name, same_new hp _ _ gd, rfl, by omega, rfl⟩, ?_⟩
          have pdf : p ≠ df := fun z => by rw [z, gd] at hp; cases hp
          obtain ⟨G2, eG2⟩ : ∃ G2, G2 = upd (upd G p (.dT [])) df (.dK (putK (kvD (namesU (pre ++ ρ.body.take j)) as) (.inr a.name) (.ref p))) := ⟨_, rfl⟩
          have g2df : G2 df = some (.dK (putK (kvD (namesU (pre ++ ρ.body.take j)) as) (.inr a.name) (.ref p))) := by rw [eG2, upd_same]
          have g2p : G2 p = some (.dT []) := by rw [eG2, upd_ne pdf, upd_same]
          have off2 : ∀ b o, b ≠ df → G b = some o → G2 b = some o := fun b o n e => by rw [eG2, upd_ne n, upd_ne (ne_of_none e hp)]; exact e
          rw [← eG2]
          -- the rows under the name
          obtain ⟨pl, vl, hpl, ll⟩ : ∃ pl, valV [((.inr ("u" : Str) : Key), V.ref pu), (.inr ("w" : Str), V.ref pw)] (.inr a.name) = some (.ref pl) ∧ RowsAt H pl (tabL ru rw_ [] a.name) ∧ (tabL ru rw_ [] a.name).length ≤ 100 := by
            rcases hnm ρ hρm a am with e | e | e
            · have z : tabL ru rw_ [] a.name = ru := by unfold tabL; rw [if_neg eo, if_pos e]
              rw [z]
              refine ⟨pu, ?_, h2, lu⟩
              rw [e]; exact valV_pos (p := ((Sum.inr ("u" : Str) : Key), V.ref pu)) rfl
            · have nu : ¬ a.name = "u" := fun z => uw (by rw [← z, ← e])
              have z : tabL ru rw_ [] a.name = rw_ := by unfold tabL; rw [if_neg eo, if_neg nu]
              rw [z]
              refine ⟨pw, ?_, h3, lw⟩
              rw [e]; exact (valV_neg (p := ((Sum.inr ("u" : Str) : Key), V.ref pu)) uw).trans (valV_pos (p := ((Sum.inr ("w" : Str) : Key), V.ref pw)) rfl)
            · exact absurd e eo
          have hG2 : ∀ b o, H b = some o → G2 b = some o := fun b o e => off2 b o (ne_of_none e hdf) (sG _ _ e)
          obtain ⟨us, hu1, hu2⟩ := hpl
          refine ⟨_, rfl, _, rfl, ps, _, rfl, .inl ⟨_, .inr a.name, .inl (hG2 _ _ h1), rfl, vl.symm⟩, pl, rfl, ⟨_, sq_l (hG2 _ _ hu1)⟩, ?_⟩
          have pH : H p = none := by
            cases y : H p with
            | none => rfl
            | some o => rw [sG _ _ y] at hp; cases hp
          have plp : pl ≠ p := fun z => by rw [z, pH] at hu1; cases hu1
          refine for_it (walk_list (xs := us.map V.ref)) (fun k σ G3 => ∃ x8, σ = [some (.ref pr), some (.ref ps), some (.ref df), some (.ref ph), some (.ref pb), some (.str a.sign), some (.str a.name), some (.ref pa), x8] ∧ Off p G2 G3 ∧ SetAt G3 p (uniR ((tabL ru rw_ [] a.name).take k)))
            ⟨x8, rfl, fun b o n e => e, g2p⟩ (fun k σ G3 _ z => by obtain ⟨_, _, z, _⟩ := z; exact sq_l (z _ _ plp (hG2 _ _ hu1))) ?_ ?_
          · rintro k x σ _ G3 hk ⟨x8, rfl, o3, s3⟩ ⟨rfl, hx⟩
            obtain ⟨u, hu, rfl⟩ := ref_at hx
            obtain ⟨r, hr2, hur⟩ := each_at hu2 hu
            have up : u ≠ p := fun z => by
              have z' : H u = some (.tup (r.map kV)) := hur
              rw [z, pH] at z'; cases z'
            have hur3 : RowAt G3 u r := o3 _ _ up (hG2 _ _ hur)
            refine ⟨_, rfl, _, rfl, df, _, rfl, .inl ⟨_, .inr a.name, .inl (o3 _ _ pdf.symm g2df), rfl, (valV_puts _).symm⟩, _, rfl, _, _, rfl, DPut.t s3 hur3 ?_, _, rfl, (fun b o n e => by rw [upd_ne n]; exact o3 b o n e), ?_⟩
            · have z1 := uni_len ((tabL ru rw_ [] a.name).take k)
              have z2 := List.length_take_le' k (tabL ru rw_ [] a.name)
              unfold sd
              rw [List.length_map]
              omega
            · show upd G3 p _ p = _
              rw [upd_same, sd_put, ← uni_snoc, List.take_add_one, hr2]
              rfl
          · rintro σ G3 ⟨x8, rfl, o3, s3⟩
            rw [List.length_map, hu2.length, List.take_length] at s3
            obtain ⟨as', k1, k2⟩ := kvD_set (R := fun b n => SetAt G3 b (uniR (tabL ru rw_ [] n))) (n := a.name) (p := p) s3 (namesU_nd (pre ++ ρ.body.take j)) (has.mono fun b n z => by
              have z' : G b = some (.dT (sd (uniR (tabL ru rw_ [] n)))) := z
              exact o3 _ _ (fun e => by rw [e, hp] at z'; cases z') (off2 _ _ (fun e => by rw [e, gd] at z'; cases z') z'))
            refine ⟨_, _, _, _, rfl, fun b o n e => ?_, as', ?_, ?_⟩
            · refine o3 b o (fun z => ?_) (off2 b o n (oG b o n e))
              rw [z, upd_ne pdf, pH] at e
              cases e
            · rw [et, namesU_snoc, if_neg eo, ← k1]
              exact o3 _ _ pdf.symm g2df
            · rw [et, namesU_snoc, if_neg eo]
              exact k2
      · rintro σ G2 ⟨x5, x6, x7, x8, rfl, oG2, dG2⟩
        rw [List.length_map, g4.length, List.take_length, ← tk] at dG2
        exact ⟨_, _, _, _, _, _, rfl, oG2, dG2⟩
    · rintro σ G ⟨x3, x4, x5, x6, x7, x8, rfl, oG, dG⟩
      rw [List.length_map, hts.length, List.take_length, namesU_all] at dG
      exact ⟨_, rfl, kk G df (keepH oG) hdf dG⟩
end
end KA
set_option Elab.async false
set_option linter.all false
set_option maxRecDepth 100000
set_option maxHeartbeats 8000000
/-! sorted(items, key=f) of any items, f any callable whose answers are keys of rows -/
namespace KA
open PySem PySem.Spec PyProof.Rows L2
open PySem.W (EachIs SortsAt KeepsBut sorted_of_sort copyHeap copyHeap_at copyHeap_old keyH_end sortVals)
open PySem.Calls
section
variable {X : Cx}
/-- what a call f(item) does, from the heap H0 on -/
def KeyAt (X : Cx) (IR : Hp → V → Row → Prop) (E : Row → PyData) (f : Addr) (H0 : Hp) (pins : List (Addr × Obj)) : Prop :=
  ∀ (s : Shared) (σ : L2.St) (H : Hp) (x : V) (u : Value) (r : Row), Inv X pins σ H s → Same H0 H → RelV x u → IR H x r → r.length ≤ 1000 →
    wpAny (model X.prog X.w) X.A.in1.in1 (call (.ref f) [u]) (fun u s' => ∃ v H', Inv X pins σ H' s' ∧ Same H H' ∧ RelV v u ∧ Dp X.K H' v (E r)) (fun _ _ => False) s
def rSortG (X : Cx) (IR : Hp → V → Row → Prop) (E : Row → PyData) : List V → List V → Hp → VK → Prop := fun vs zs H Q => ∃ (l f : Addr) (xs : List V) (rows : List Row), vs = [.ref l] ∧ zs = [.ref f] ∧ SqL X.K H l xs ∧ EachIs (IR H) xs rows ∧
  (∀ r ∈ rows, r.length ≤ 1000) ∧ (∀ pins, KeyAt X IR E f H pins) ∧ (∀ p, H p = none → X.H_0 p = none) ∧ ∀ (p : Addr) (H' : Hp) (ys : List V), Same H H' → H p = none → H' p = some (.lst ys) → EachIs (IR H') ys (sortRows rows) → Q (.ref p) H'
theorem vals_get {xs : List V} {us : List Value} : ∀ {i : Nat} {u : Value}, Vals xs us → us[i]? = some u → ∃ x, xs[i]? = some x ∧ RelV x u := by
  intro i u h
  induction h generalizing i with
  | nil => intro q; simp at q
  | @cons x w xs us r t ih =>
    intro q
    cases i with
    | zero =>
      simp at q
      subst q
      exact ⟨x, rfl, r⟩
    | succ i =>
      obtain ⟨y, h1, h2⟩ := ih (i := i) (by simpa using q)
      exact ⟨y, by simpa using h1, h2⟩
theorem each_rel {IR : V → Row → Prop} : ∀ {xs : List V} {us : List Value} {rows : List Row}, Vals xs us → EachIs IR xs rows → EachIs (fun u r => ∃ x, RelV x u ∧ IR x r) us rows
  | _, _, _, .nil, h => by cases h; exact .nil
  | _, _, _, .cons r t, h => by
    cases h with
    | cons h1 h2 => exact .cons ⟨_, r, h1⟩ (each_rel t h2)
theorem each_unrel {IR : V → Row → Prop} : ∀ {us : List Value} {rows : List Row}, EachIs (fun u r => ∃ x, RelV x u ∧ IR x r) us rows → ∃ xs, Vals xs us ∧ EachIs IR xs rows
  | _, _, .nil => ⟨[], .nil, .nil⟩
  | _, _, .cons ⟨x, r, h⟩ t => by
    obtain ⟨xs, h1, h2⟩ := each_unrel t
    exact ⟨x :: xs, .cons r h1, .cons h h2⟩
theorem sort_run {E : Row → PyData} {IR : Hp → V → Row → Prop} (hIR : ∀ H H' x r, Same H H' → IR H x r → IR H' x r) (T : Tells E)
    (hS : ∀ (prog : Program) (w : World) (A : Around) (s : Shared) (ks : List Value) (rows : List Row), EachIs (KeyIs1 s.heap E) ks rows → A.units + 12 < cLine → SortsAt prog w A s (rowKind s.heap E) ks)
    (hu : X.A.units + 64 < cLine) (hx : X.ex = []) {pins : List (Addr × Obj)} {s : Shared} {σ : L2.St} {H : Hp} {Q : VK} {l f : Addr} {xs : List V} {rows : List Row} (I : Inv X pins σ H s) (hs : SqL X.K H l xs) (hrow : EachIs (IR H) xs rows) (hrl : ∀ r ∈ rows, r.length ≤ 1000)
    (hc : KeyAt X IR E f H pins) (h0 : ∀ p, H p = none → X.H_0 p = none) (q : ∀ (p : Addr) (H' : Hp) (ys : List V), Same H H' → H p = none → H' p = some (.lst ys) → EachIs (IR H') ys (sortRows rows) → Q (.ref p) H') :
    wpAny (model X.prog X.w) X.A (call (.builtin "sorted") [.ref l] [(Str.ofString "key", .ref f)]) (EP X pins σ Q) X.xe s := by
  obtain ⟨its, rv, hl, hz⟩ := I.list hs
  have hxl : its.length = xs.length := rv.length.symm
  have hzi : its.length ≤ sizeLine := by
    have hz' := hz
    omega
  refine sorted_of_sort (vs := its) hl.isList hzi (ksk_s1 _ _) (fun x => ksk_l1 _ _) fun E' => ?_
  rw [ksk_t1]
  obtain ⟨a, ea⟩ : ∃ a, a = s.heap.objs.size + 1 := ⟨_, rfl⟩
  rw [← ea]
  have ho := copyHeap_at s.heap its
  rw [← ea] at ho
  have hHa : H a = none := I.hok.fresh (by rw [ea]; exact Nat.le_succ _)
  obtain ⟨e1, ho1⟩ : ∃ e1, ((copyHeap s.heap its).update a (Obj.mapSeq fun _ => (#[] : Array Value))).get? a = some (seqObj "list" #[] e1) := ⟨_, get?_update_seq ho fun _ => #[]⟩
  have s1 := Heap.SameBut.update (copyHeap s.heap its) a (Obj.mapSeq fun _ => (#[] : Array Value))
  have k1 : ∀ b u, s.heap.get? b = some u → ((copyHeap s.heap its).update a (Obj.mapSeq fun _ => (#[] : Array Value))).get? b = some u := fun b u z =>
    (s1.2 b (by rw [ea]; exact Nat.ne_of_lt (Nat.lt_succ_of_lt (Heap.lt_size z)))).trans (copyHeap_old z)
  unfold ksk_tree
  refine wpAny_bind (listItems_at ho rfl ?_)
  refine wpAny_bind (listUpdate_at ho rfl ?_ (by rw [List.size_toArray]; exact hzi) (Nat.zero_le _))
  refine wpAny_bind (seqEpoch_at ho1 rfl ?_)
  refine wpAny_bind (wpAny_newTuple ?_ (by show its.toArray.toList.length ≤ _; simpa using hzi))
  refine wpAny_bind (wpAny_newList ?_ (Nat.zero_le _))
  refine wpAny_holding ?_
  have I1 : Inv X pins σ (upd H a (nilO a e1)) { s with heap := (copyHeap s.heap its).update a (Obj.mapSeq fun _ => (#[] : Array Value)) } :=
    I.laid (t' := s.toks) k1 (by rw [ea]; exact Nat.le_succ _) (nilO_ok ho1)
  obtain ⟨hT, ehT⟩ : ∃ hT, hT = ((copyHeap s.heap its).update a (Obj.mapSeq fun _ => (#[] : Array Value))).push (seqObj "tuple" its.toArray 0) := ⟨_, rfl⟩
  have I2 : Inv X pins σ (upd H a (nilO a e1)) { s with heap := hT } := I1.kept (t' := s.toks) fun b u z => by rw [ehT]; exact Heap.get?_push_of_some _ z
  obtain ⟨kS, ekS⟩ : ∃ kS, kS = hT.objs.size := ⟨_, rfl⟩
  have hk0 : (upd H a (nilO a e1)) kS = none := I2.hok.fresh (by rw [ekS]; exact Nat.le_refl _)
  have hka : kS ≠ a := fun z => by
    rw [z, upd_same] at hk0
    cases hk0
  have hHk : H kS = none := by
    rw [upd_ne hka] at hk0
    exact hk0
  have nk0 : (hT.push (seqObj "list" #[] 0)).get? kS = some (seqObj "list" #[] 0) := by
    rw [ekS]
    exact Heap.get?_push_size _ rfl
  have I3 : Inv X pins σ (upd (upd H a (nilO a e1)) kS (keysO kS [])) { s with heap := hT.push (seqObj "list" #[] 0) } :=
    I2.laid (t' := s.toks) (fun b u z => Heap.get?_push_of_some _ z) (by rw [ekS]; exact Nat.le_refl _) (keysO_ok (arr := #[]) .nil nk0)
  rw [← ehT]
  show wpAny _ X.A.in1.in1 (ksk_rest a (.ref f) false its.toArray e1 (.ref hT.objs.size)) _ _ { s with heap := hT.push (seqObj "list" #[] 0) }
  rw [← ekS]
  unfold ksk_rest
  refine wpAny_bind (wpAny_rule ?_)
  rw [List.forIn_toArray]
  refine wpAny_bind (ksk_fold (fun i s' => ∃ H' kvs, Inv X pins σ H' s' ∧ Same H H' ∧ H' a = some (nilO a e1) ∧ H' kS = some (keysO kS kvs) ∧ EachIs (fun v r => Dp X.K H' v (E r)) kvs (rows.take i)) its 0 _
    ⟨_, [], I3, same_mut (same_mut (Same.refl H) hHa) hHk, by rw [upd_ne hka.symm, upd_same], upd_same, by rw [List.take_zero]; exact .nil⟩ ?step ?done)
  case step =>
    rintro j x s' hxj ⟨H', kvs, I', sm, na, nk, hd⟩
    simp only [Nat.zero_add] at hd ⊢
    · obtain ⟨xv, haj, rxv⟩ := vals_get rv hxj
      obtain ⟨r, hrj, hrp⟩ := each_at hrow haj
      have hj : j < rows.length := (List.getElem?_eq_some_iff.mp hrj).1
      refine wpAny_bind (wpAny_attempt (wpAny_mono (hc s' σ H' xv x r I' sm rxv (hIR _ _ _ _ sm hrp) (hrl r (List.mem_of_getElem? hrj))) (fun v s'' he => ?_) fun _ _ hF => hF.elim))
      obtain ⟨kv, H2, I4, sm2, rkv, hdp⟩ := he
      try dsimp only
      obtain ⟨⟨arr, e, va, gk⟩, _, _⟩ := I4.hok kS _ (sm2 _ _ nk)
      have la : arr.size ≤ its.length := by
        have q1 := va.length
        have q2 := hd.length
        rw [List.length_take] at q2
        have q3 := hrow.length
        have q4 : arr.toList.length = arr.size := Array.length_toList
        omega
      obtain ⟨c2, hc2⟩ : ∃ c2, (s''.heap.update kS (Obj.mapSeq (·.push v))).get? kS = some (seqObj "list" (arr.push v) c2) := ⟨_, get?_update_seq gk (·.push v)⟩
      have s3 := Heap.SameBut.update s''.heap kS (Obj.mapSeq (·.push v))
      refine wpAny_bind (listUpdate_at gk rfl ?_ (Nat.le_trans la hzi) (Nat.le_trans (Nat.le_of_eq (Array.size_push ..)) (Nat.succ_le_succ (Nat.le_trans la hzi))))
      have nk2 : H2 kS = some (keysO kS kvs) := sm2 _ _ nk
      have I5 : Inv X pins σ (upd H2 kS (keysO kS (kvs ++ [kv]))) { s'' with heap := s''.heap.update kS (Obj.mapSeq (·.push v)) } :=
        I4.write (t' := s''.toks) (by rw [nk2]; trivial) (.inl rfl) (fun b u hb z => (s3.2 b hb).trans z) ⟨_, hc2⟩ (keysO_ok (arr := arr.push v) (by rw [Array.toList_push]; exact vals_snoc rkv va) hc2)
      have sd : SameD H2 (upd H2 kS (keysO kS (kvs ++ [kv]))) := upd_ext nk2
      refine wpAny_pure ⟨rfl, _, kvs ++ [kv], I5, same_mut (sm.trans sm2) hHk, by rw [upd_ne hka.symm]; exact sm2 _ _ na, upd_same, ?_⟩
      rw [List.take_add_one, hrj]
      exact each_snoc1 (R := fun v r => Dp X.K (upd H2 kS (keysO kS (kvs ++ [kv]))) v (E r)) (Dp.monoD sd _ _ hdp) (hd.mono fun v r z => Dp.monoD sd _ _ (Dp.mono sm2 z))
  case done =>
    rintro s' ⟨H', kvs, I', sm, na, nk, hd⟩
    have et : rows.take (0 + its.length) = rows := List.take_of_length_le (by have := hrow.length; omega)
    rw [et] at hd
    obtain ⟨⟨arr, e, va, gk⟩, _, _⟩ := I'.hok kS _ nk
    have ga : s'.heap.get? a = some (seqObj "list" #[] e1) := (I'.hok a _ na).1
    try dsimp only
    refine wpAny_bind (listItems_at gk rfl ?_)
    have hks : EachIs (KeyIs1 s'.heap E) arr.toList rows := dps_reads I' hd va
    have hsz : arr.size = its.length := by
      have q1 := hks.length
      rw [Array.length_toList] at q1
      have := hrow.length
      omega
    obtain ⟨G, gs, gn, J⟩ := I'.untrack nk (fr0_none (h0 kS hHk)) hx
    refine keyH_end (κ := rowKind s'.heap E) (h₁ := G) (fun b o _ z => gs b o z) gn gk ga hka (hS _ _ _ _ _ _ hks (by show X.A.units + 1 + 1 + 12 < _; omega)) hsz hzi fun h3 tk c k3 n3 => ⟨rfl, ?_⟩
    have hout : EachIs (fun u r => ∃ x, RelV x u ∧ IR H x r) (sortVals (rowKind s'.heap E) false arr.toList its) (sortRows rows) :=
      PySem.W.sortVals_each (κ := rowKind s'.heap E) (rev := false) (fun r => r) (each_rel rv hrow) (hks.mono fun v r z => rowKind_some T z)
    obtain ⟨ys, hy1, hy2⟩ := each_unrel hout
    have nka : (delH H' kS) a = some (nilO a e1) := by
      rw [delH_ne hka.symm]
      exact na
    have yl : ys.length ≤ sizeLine := by
      have h1 := hy2.length
      rw [(sortRows_perm rows).length_eq, ← hrow.length] at h1
      omega
    have J2 : Inv X pins σ (upd (delH H' kS) a (.lst ys)) { s' with heap := h3, toks := tk } :=
      J.write (t' := tk) (by rw [nka]; trivial) (.inl rfl) (fun b u hbn z => k3 b u hbn z) ⟨_, n3⟩ ⟨yl, _, c, hy1, by simpa using n3⟩
    have sf : Same H (upd (delH H' kS) a (.lst ys)) := by
      refine same_mut (fun b o z => ?_) hHa
      rw [delH_ne (ne_of_none z hHk)]
      exact sm b o z
    exact ⟨.ref a, _, J2, rfl, q a _ ys sf hHa upd_same (hy2.mono fun x r z => hIR _ _ _ _ sf z)⟩
theorem cr_sortKeyG {E : Row → PyData} {IR : Hp → V → Row → Prop} (hIR : ∀ H H' x r, Same H H' → IR H x r → IR H' x r) (T : Tells E)
    (hS : ∀ (prog : Program) (w : World) (A : Around) (s : Shared) (ks : List Value) (rows : List Row), EachIs (KeyIs1 s.heap E) ks rows → A.units + 12 < cLine → SortsAt prog w A s (rowKind s.heap E) ks)
    (hu : X.A.units + 64 < cLine) (hx : X.ex = []) : CallRK X (.builtin "sorted") [Str.ofString "key"] (rSortG X IR E) := by
  intro pins s σ H vs zs us ws Q I r rz h
  obtain ⟨l, f, xs, rows, rfl, rfl, hs, hrow, hrl, hc, h0, q⟩ := h
  obtain rfl := Vals.ref1 r
  obtain ⟨w1, rfl, e1⟩ := vals1 rz
  obtain rfl : w1 = Value.ref f := e1
  exact sort_run hIR T hS hu hx I hs hrow hrl (hc pins) h0 q
end
end KA
set_option Elab.async false
set_option linter.all false
set_option maxRecDepth 100000
set_option maxHeartbeats 4000000
/-! a lambda of one parameter that captures nothing: its call -/
namespace KA
open PySem PySem.Spec PyProof.Rows L2 LamX
open PySem.W (EachIs SortsAt)
section
variable {P : Program} {w : World} {K : PySem.W.Frag} {mg : Str → Option Value} {base : Heap} {CX : CXT}
theorem lam_run {A : Around} {outer : List Env} {s : Shared} {H : Hp} {N : List Str} {x q : Str} {params : Arguments} {body : Expr} {scope : Scope} {pm ctv : Value} {f c' : Addr} {k : Nat} {u : Value} {v : V} {Q : VK} {E : XK} {t : TE}
    (S : FnScope N [x] scope) (hr : Room (k + 1) A) (e0 : Env0 P w K mg base A outer s H) (at_f : s.heap.get? f = some (PySem.W.kla_obj "<lambda>" q params body scope [] pm c' ctv)) (at_c : H c' = some (CodeO c' q))
    (bd : bindArgs (PySem.W.kla_fn "<lambda>" q params body scope [] pm (.ref c') ctv) ⟨[u], []⟩ = pure [(x, u)]) (rv : RelV v u) (hbody : PE (cxOf CX P w K mg base N q scope f (.ref c') A outer s H E) body t) (ht : t (start N [v]) H Q) :
    codeAny (model P w) A (.call (.ref f) ⟨[u], []⟩) (CR CX outer P w H s Q E) s := by
  have nolim : s.heap.NoLimit := e0.mod.nolimit.keeps fun b o z => (e0.bs b o z).1
  obtain ⟨⟨oc, vs, tq, g1, g2, g3⟩, _, _⟩ := e0.hok c' _ at_c
  refine PySem.W.kla_callFunE hr.depth at_f rfl S.co S.gen rfl ⟨c', oc, vs, tq, rfl, g1, g2, g3⟩ ?_
  rw [bd]
  refine wpAny_pure (wpAny_newFunctionEnv_cells S.kind (fun y hy => ?_) fun env henv s1 born => ?_)
  · obtain ⟨n, z⟩ := y
    have hm := (List.of_mem_zip (show (n, z) ∈ ([x] : List Str).zip [u] from hy)).1
    rcases S.par n hm with h | h
    · exact .inl h
    · exact .inr ⟨h, PySem.W.cellsFrom_some _ _ _ (.inl h)⟩
  · subst henv
    refine ⟨nolim.keeps born.toInCall.keep, ?_⟩
    have I := inv_start (CX := CX) (E := E) (qual := q) (f := f) (cd := .ref c') (vs := [v]) (us := [u]) S hr.hd e0 rfl (.cons rv .nil) born
    refine PySem.W.kla_codeExpr (wpAny_mono (hbody.run [] s1 _ H _ I ht) (fun z s' hq => ?_) fun e s' hq => hq)
    obtain ⟨y, H', J, r, qq⟩ := hq
    exact ⟨y, H', J.os, J.bare, J.base, J.hok, r, qq⟩
end
/-- sorted(xs, key=lambda x: ..) -/
def tSortLam (X : Cx) (T : List (Addr × Str)) (IR : Hp → V → Row → Prop) (t : TA) : TE := fun σ H Q => t σ H fun vs H1 => Tabs T H1 ∧ ∃ (l : Addr) (xs : List V) (rows : List Row), vs = [.ref l] ∧ SqL X.K H1 l xs ∧ EachIs (IR H1) xs rows ∧
  (∀ r ∈ rows, r.length ≤ 1000) ∧ (∀ p o, X.H_0 p = some o → (∀ ps, o ≠ .tbl ps) → ∃ o', H1 p = some o' ∧ ∀ ps, o' ≠ .tbl ps) ∧
  ∀ (p : Addr) (H' : Hp) (ys : List V), ExtN H1 H' → Tabs T H' → (∀ o, H1 p = some o → ∃ ps, o = .tbl ps) → H' p = some (.lst ys) → EachIs (IR H') ys (sortRows rows) → Q (.ref p) H'
section
variable {X : Cx} {E : Row → PyData} {IR : Hp → V → Row → Prop}
theorem pe_sortLam {T : List (Addr × Str)} {c P : Addr} {y z : Str} {p pos kpos lpos : Pos} {e : Expr} {t : TA} {N : List Str} {params : Arguments} {body : Expr} {scope : Scope} {k : Nat} {tb : TE}
    (hIR : ∀ H H' x r, ExtN H H' → IR H x r → IR H' x r) (TE1 : Tells E)
    (hS : ∀ (prog : Program) (w : World) (A : Around) (s : Shared) (ks : List Value) (rows : List Row), EachIs (KeyIs1 s.heap E) ks rows → A.units + 12 < cLine → SortsAt prog w A s (rowKind s.heap E) ks)
    (hr : Room (k + 3) X.A) (hx : X.ex = []) (hst : X.stack = X.env :: X.outer) (hg : Gl X "sorted") (hm : X.mg "sorted" = none) (ha : PA X [e] t) (TB : TabB X.base X.mg c P) (hcode : X.env.code = .ref c)
    (hmT : (P, X.env.qual ++ "<lambda>") ∈ T) (hu : ∀ p ∈ T, p.1 = P → p.2 = X.env.qual ++ "<lambda>") (hdef : defaultsOf params X.env = ([], [])) (hnf : ∀ y ∈ scope.names, y.2 ≠ .free)
    (S : FnScope N [z] scope) (hbind : ∀ (q : Str) (pm cv ctv u : Value), bindArgs (PySem.W.kla_fn "<lambda>" q params body scope [] pm cv ctv) ⟨[u], []⟩ = pure [(z, u)])
    (hbody : ∀ (A : Around) (outer : List Env) (s : Shared) (H : Hp) (E0 : XK) (f c' : Addr), Room k (A.deeper (envOfC (X.env.qual ++ "<lambda>") scope s.heap.objs.size f (.ref c'))) → PE (cxOf CX0 X.prog X.w X.K X.mg X.base N (X.env.qual ++ "<lambda>") scope f (.ref c') A outer s H E0) body tb)
    (sem : ∀ (H : Hp) (x : V) (r : Row) (Q : VK), IR H x r → r.length ≤ 1000 → (∀ v H', Same H H' → Dp X.K H' v (E r) → Q v H') → tb (start N [x]) H Q)
    (he : backTo pos (starEach [e] X.env) = (false, eval e X.env) :: backTo pos (starEach [] X.env) := by rfl) (hpl : (backTo pos (starEach [e] X.env)).any (·.1) = false := by rfl) :
    PE X (.Call (.Name "sorted" p) [e] [⟨some "key", .Lambda params body scope lpos, kpos⟩] pos) (tSortLam X T IR t) := by
  refine ⟨fun pins s σ H Q I h => ?_⟩
  refine wpAny_Call_Name_kw (ld_blt I hg hm (show bootBuiltins "sorted" = some (.builtin "sorted") by decide +kernel) ?_ (by decide) (by decide))
  refine PyProof.Rows.callWith_kw (thn (ha.run pos pins s σ H _ I h) fun us s1 ⟨vs, H1, I1, r1, hT, l, xs, rows, evs, hs, hrow, hrl, h0, q⟩ => ?_) he hpl (by rfl) (by rfl)
  subst evs
  obtain rfl := Vals.ref1 r1
  have clos : cloFrom X.env.cells scope.names [] = [] := by
    have key : ∀ (ns : List (Str × NameKind)) (cs : List (Str × Addr)), (∀ y ∈ ns, y.2 ≠ .free) → cloFrom X.env.cells ns cs = cs := by
      intro ns
      induction ns with
      | nil => exact fun cs _ => rfl
      | cons a ns ih =>
        intro cs hns
        obtain ⟨n, kd⟩ := a
        have h1 := hns (n, kd) List.mem_cons_self
        have h2 := ih cs fun y hy => hns y (List.mem_cons_of_mem _ hy)
        cases kd with
        | free => exact absurd rfl h1
        | _ => exact h2
    exact key _ _ hnf
  show wpAny _ _ (evalAll ((do let v ← eval (.Lambda params body scope lpos) X.env; standAt pos; pure v) :: [])) _ _ s1
  refine wpAny_evalAll_cons (wpAny_bind ?_)
  refine lam_make2 (T := T) I1 TB hcode hmT hu hT hdef (fun y hy hf => absurd hf (hnf y hy)) fun f c' pm ctv H2 s2 I2 hE hT2 at_f hfn hfr at_c => ?_
  refine wpAny_bind (wpAny_standAt (wpAny_pure (wpAny_evalAll_nil ?_)))
  rw [clos] at at_f
  -- the lambda's object is pinned
  have fL : f ≠ X.env.locals := fun h => by
    obtain ⟨m, ⟨o, es, ep, g1, g2, _⟩, _⟩ := I2.loc
    rw [← h, at_f] at g1
    cases g1
    cases g2
  have I3 : Inv X (pins ++ [(f, PySem.W.kla_obj "<lambda>" (X.env.qual ++ "<lambda>") params body scope [] pm c' ctv)]) σ H2 s2 := I2.pins_of fun g hg => by
    rcases List.mem_append.mp hg with h | h
    · exact I2.pin g (List.mem_append_right _ h)
    · rw [List.mem_singleton.mp h]
      exact ⟨at_f, hfn, fL, fun z => hfr (by
        rw [hst]
        obtain ⟨ev, e1, e2⟩ := List.mem_filterMap.mp z
        exact List.mem_filterMap.mpr ⟨ev, List.mem_cons_of_mem _ e1, e2⟩), fun v hv => by cases hv⟩
  have key : KeyAt X IR E f H2 (pins ++ [(f, PySem.W.kla_obj "<lambda>" (X.env.qual ++ "<lambda>") params body scope [] pm c' ctv)]) := by
    intro s4 σ4 H4 x4 u4 r4 I4 sm rx hx4 hl4
    have at4 : s4.heap.get? f = some (PySem.W.kla_obj "<lambda>" (X.env.qual ++ "<lambda>") params body scope [] pm c' ctv) := (I4.pin _ (List.mem_append_right _ (List.mem_append_right _ (List.mem_singleton.mpr rfl)))).1
    have e0 := (I4.env0.in1).in1
    have hr1 : Room (k + 1) X.A.in1.in1 := (hr.in1).in1
    refine wpAny_call (codeAny_mono (lam_run (CX := CX0) (E := E0) (Q := fun v H' => Same H4 H' ∧ Dp X.K H' v (E r4)) S hr1 e0 at4 (sm _ _ at_c) (hbind _ _ _ _ _) rx (hbody _ _ _ _ _ _ _ (hr1.deeper _)) (sem H4 x4 r4 _ hx4 hl4 fun v H' s' d => ⟨s', d⟩)) fun w' s' hz => ?_)
    cases w' with
    | error e => exact hz.elim
    | ok fl =>
      cases fl with
      | ret u =>
        obtain ⟨v, H', J, rv, sm2, d⟩ := I4.after hz
        exact ⟨v, H', J, sm2, rv, d⟩
      | next => exact hz.elim
      | brk => exact hz.elim
      | cont => exact hz.elim
  have hs2 : SqL X.K H2 l xs := by
    rcases hs with (h | ⟨o, h⟩) | h
    · exact .inl (.inl (hE _ _ h fun ps z => by cases z))
    · exact .inl (.inr ⟨o, hE _ _ h fun ps z => by cases z⟩)
    · exact .inr h
  refine wpAny_mono (sort_run (fun H H' x r s' => hIR H H' x r (ExtN.of s')) TE1 hS hr.u64 hx I3 hs2 (hrow.mono fun x r z => hIR _ _ _ _ hE z) hrl key (fun p hp => ?_) fun p H' ys s' hp hl hy => ?_) (fun u s' ⟨v, H', J, rv, qq⟩ => ⟨v, H', J.unpinned, rv, qq⟩) fun _ _ h => h
  · cases e1 : X.H_0 p with
    | none => rfl
    | some o =>
      exfalso
      by_cases ht : ∃ ps, o = .tbl ps
      · obtain ⟨ps, rfl⟩ := ht
        obtain ⟨more, e2⟩ := I2.base.tbls p ps e1
        rw [hp] at e2
        cases e2
      · obtain ⟨o', e2, e3⟩ := h0 p o e1 fun ps z => ht ⟨ps, z⟩
        rw [hE p o' e2 e3] at hp
        cases hp
  · refine q p H' ys (ExtN.trans hE (ExtN.of s')) (hT2.ext s') (fun o ho => ?_) hl hy
    apply Classical.byContradiction
    intro ht
    rw [hE p o ho fun ps z => ht ⟨ps, z⟩] at hp
    cases hp
end
end KA
set_option Elab.async false
set_option linter.all false
set_option maxRecDepth 100000
set_option maxHeartbeats 16000000
/-! the law's own smallest set -/
namespace KA
open PySem PySem.Spec PyProof.Rows L2 LamX
open PySem.W (EachIs)
abbrev scLam : Scope := { kind := ScopeKind.function, names := [("row", NameKind.local)], isGenerator := false, isCoroutine := false, more := [("fast", Const.str "row"), ("fast", Const.str "one")] }
theorem ndL : (["row", "one"] : List Str).Nodup := by decide +kernel
abbrev lamL : Str := ("_law_least" ++ ".<locals>." : Str) ++ "<lambda>"
def RefRow (H : Hp) (x : V) (r : Row) : Prop := ∃ q, x = .ref q ∧ RowAt H q r
/-- all rows of one or two of the values -/
def rowsAll : List Row := ones.map (fun a => [a]) ++ ones.flatMap fun a => ones.map fun b => [a, b]
theorem rowsAll_len : rowsAll.length = 20 := rfl
theorem rowsAll_mem {r : Row} (h1 : OnesR r) (h2 : 1 ≤ r.length ∧ r.length ≤ 2) : r ∈ rowsAll := by
  unfold rowsAll
  match r, h2 with
  | [a], _ => exact List.mem_append_left _ (List.mem_map.mpr ⟨a, h1 a (by simp), rfl⟩)
  | [a, b], _ => exact List.mem_append_right _ (List.mem_flatMap.mpr ⟨a, h1 a (by simp), List.mem_map.mpr ⟨b, h1 b (by simp), rfl⟩⟩)
  | [], h => exact absurd h.1 (by simp)
  | _ :: _ :: _ :: _, h => exact absurd h.2 (by simp)
theorem rowsAll_ones {r : Row} (h : r ∈ rowsAll) : OnesR r := by
  unfold rowsAll at h
  rcases List.mem_append.mp h with z | z
  · obtain ⟨a, ha, rfl⟩ := List.mem_map.mp z
    intro x hx
    rw [List.mem_singleton.mp hx]; exact ha
  · obtain ⟨a, ha, z⟩ := List.mem_flatMap.mp z
    obtain ⟨b, hb, rfl⟩ := List.mem_map.mp z
    intro x hx
    rcases List.mem_cons.mp hx with rfl | hx
    · exact ha
    · rw [List.mem_singleton.mp hx]; exact hb
theorem tab_with (ru rw O : List Row) : tabL ru rw O = withO "own" (tabL ru rw []) O := by
  funext n
  unfold tabL withO
  by_cases e : n = "own"
  · rw [if_pos e, if_pos e]
  · rw [if_neg e, if_neg e]
    show _ = if n = "own" then [] else if n = "u" then ru else rw
    rw [if_neg e]
def pairsL (rules : List Rul) (i : Nat) : List (Sb × Rul) := (subs64.take i).flatMap fun s => rules.map fun ρ => (s, ρ)
/-- the law's set at a step -/
structure OwnM (rules : List Rul) (S : Str → List Row) (O : List Row) : Prop where
  ow : OwnL rules S O
  all : ∀ r ∈ O, r ∈ rowsAll
theorem OwnM.len {rules : List Rul} {S : Str → List Row} {O : List Row} (h : OwnM rules S O) : O.length ≤ 20 := by
  have := nodup_le h.ow.nd h.all
  rwa [rowsAll_len] at this
theorem OwnM.step {rules : List Rul} {S : Str → List Row} {O : List Row} (hr : ∀ ρ ∈ rules, RulL ρ) (h : OwnM rules S O) {s : Sb} {ρ : Rul} (hs : s ∈ subs64) (hρ : ρ ∈ rules) : OwnM rules S (stepL S O (s, ρ)) := by
  refine ⟨h.ow.step (fun ρ hρ => (hr ρ hρ).wf) hρ ⟨fun a ha => (subs_fill hs ((hr ρ hρ).atoms a ha).2.2).2, (subs_fill hs (hr ρ hρ).head).2⟩, fun r hm => ?_⟩
  unfold stepL at hm
  split at hm
  · rcases List.mem_append.mp hm with z | z
    · exact h.all r z
    · rw [List.mem_singleton.mp z]
      refine rowsAll_mem (subs_fill hs (hr ρ hρ).head).1 ?_
      unfold fill
      rw [List.length_map]
      exact (hr ρ hρ).len
  · exact h.all r hm
section
variable {P : Program} {w : World} {K : PySem.W.Frag} {mg : Str → Option Value} {base : Heap} {f : Addr} {fd : FuncData}
theorem pe_cal0 {X : Cx} {x : Str} {k : Nat} {ps : List Str} {sp : Sp} {p pos : Pos} (c : Cal X.prog X.w X.K X.mg X.base x k ps sp) (hr : Room k X.A) (hg : Gl X x := by rfl) (hx : Passes CX0 X E0 := by exact pass0) (hdb : (x == ("__debug__" : Str)) = false := by decide) : PE X (.Call (.Name x p) [] [] pos) (tCall sp [] E0 tNil) := by
  obtain ⟨f, fd, g, kp, b, G⟩ := c
  exact pe_call0 G hr hg g kp b .nil hx hdb
theorem okCL {CX : CXT} {x qual : Str} {params : Arguments} {body : List Stmt} {scope : Scope} {dvs : List V} {kws : List (Str × V)} {N ps : List Str} {k : Nat} {sp : Sp} (F : FunD K x qual params body scope dvs kws f fd) (S : FnScope N ps scope) (len : ∀ vs H Q E, sp vs H Q E → vs.length = ps.length)
    (hb : ∀ (cdv : Value) (A : Around) (outer : List Env) (s : Shared) (H : Hp) (vs : List V) (Q : VK) (E : XK), fd.code = cdv → Room k (A.deeper (envOfC qual scope s.heap.objs.size f cdv)) → sp vs H Q E →
      ∃ t, PSs (cxOf CX P w K mg base N qual scope f cdv A outer s H E) body t ∧ t { nx := fun _ H' => Q .non H', rt := Q } (L2.start N vs) H) : FnOk P w K mg base CX (k + 1) f fd ps sp := by
  obtain ⟨_, _, _, _, _, _, _, cdv, _, _, rfl, lk, hcd, _, _⟩ := F.ex
  exact fn_of lk hcd S len fun A outer s H vs Q E hr hs => hb cdv A outer s H vs Q E rfl hr hs
def spLeastL (T : List (Addr × Str)) : Sp := fun vs H Q _ => ∃ (pr ps : Addr) (rules : List Rul) (ru rw : List Row), vs = [.ref pr, .ref ps] ∧ RulesAt H pr rules ∧ rules.length ≤ 10 ∧ (∀ ρ ∈ rules, RulL ρ) ∧ SetL H ps ru rw ∧ (∀ r ∈ ru, OnesR r) ∧ (∀ r ∈ rw, OnesR r) ∧ Tabs T H ∧
  ∀ H' q O, ExtN H H' → Tabs T H' → (∀ o, H q = some o → ∃ ps, o = .tbl ps) → O.Nodup → (∀ r, r ∈ O ↔ Lst rules "own" (InT (tabL ru rw [])) r) → RowsAt H' q (sortRows O) → Q (.ref q) H'
theorem ok_lleast {T : List (Addr × Str)} {c Pt : Addr} (F : FnP K "_law_least" s__law_least f fd) (hc : fd.code = .ref c) (TB : TabB base mg c Pt) (hmT : (Pt, lamL) ∈ T) (hu : ∀ p ∈ T, p.1 = Pt → p.2 = lamL)
    (gS : mg "sorted" = none) (gL : mg "len" = none) (gR : mg "range" = none) (gI : mg "isinstance" = none) (gN : mg "int" = none) (CI : Cal P w K mg base "_law_instance" 1 ["arguments", "names"] spFilled) (CSb : Cal P w K mg base "_law_substitutions" 1 [] spSubst) (CH : Cal P w K mg base "_law_holds" 2 ["body", "names", "sets", "own"] spHolds) :
    FnOk P w K mg base CX0 6 f fd ["rules", "sets"] (spLeastL T) := by
  refine okCL F sc__law_least (fun vs H Q E h => ?_) (fun cdv A outer s H vs Q E hcd hr h => ?_)
  · obtain ⟨pr, ps, rules, ru, rw, rfl, _⟩ := h
    rfl
  · obtain ⟨pr, ps, rules, ru, rw_, rfl, hrl, l1, hrL, hset, ou, ow_, hT, kk⟩ := h
    obtain rfl : cdv = .ref c := hcd.symm.trans hc
    have nd := sc__law_least.nd
    have u65 : (A.deeper (envOfC "_law_least" (defScope s__law_least) s.heap.objs.size f (.ref c))).units + 65 < cLine := by
      have := hr.un
      omega
    refine ⟨_, PSs.nox (pss_cons (ps_set (i := 2) nd rfl (Or.inl rfl) (pe_lst pa_nil))
      (pss_cons (ps_for PassesOwn.never rfl (pi_range1 rfl gR (pa_cons pe_int pa_nil)) (pg_name (i := 3) nd rfl (Or.inl rfl))
        (pss_cons (ps_set (i := 4) nd rfl (Or.inl rfl) (pe_callB call_len_seq (by rfl) gL PySem.boot_len (pa_cons (pv 2) pa_nil)))
        (pss_cons (ps_for PassesOwn.never rfl (pi_list (pe_cal0 CSb hr.lt)) (pg_name (i := 5) nd rfl (Or.inl rfl))
          (pss_one (ps_for PassesOwn.never rfl (pi_list (pv 0)) (pg_tup rfl (pgs_cons (pg_name (i := 6) nd rfl (Or.inl rfl)) (pgs_cons (pg_name (i := 7) nd rfl (Or.inl rfl)) pgs_nil)))
            (pss_cons (ps_set (i := 8) nd rfl (Or.inl rfl) (pe_cal CI hr.lt (pa_cons (pv 6) (pa_cons (pv 5) pa_nil))))
            (pss_one (ps_if (PW.pt (pw_and (pt_cmpR (op_notInD u65) (pv 8) (pv 2) (by with_unfolding_all rfl)) (pw_and1 (pt_val (pe_cal CH hr.lt (pa_cons (pv 7) (pa_cons (pv 5) (pa_cons (pv 1) (pa_cons (pv 2) pa_nil)))))))))
              (pss_one (ps_expr (pe_bm PySem.F.plainAttrs_list PySem.F.slot_list_append PySem.F.type_list_append mt_append (pv 2) (pa_cons (pv 8) pa_nil)))) pss_nil))))))
        (pss_one (ps_if (pt_cmpR op_eq (pe_callB call_len_seq (by rfl) gL PySem.boot_len (pa_cons (pv 2) pa_nil)) (pv 4) (nomark _)) (pss_one ps_break) pss_nil)))))
      (pss_one (ps_ret (pe_sortLam (y := "row") (E := lawRow) (IR := RefRow) (T := T) (c := c) (P := Pt) (N := ["row", "one"]) (z := "row") (k := 1) (tb := tLc (iTup K (tVar 0)) (gName 1) tYes (tIf (tB (tCB (rIsi K) (tCons (tVar 1) (tCons (tC (.ty "int")) tNil)))) (tTup (tCons (tC (.int 0)) (tCons (tVar 1) (tCons (tC (.str "")) tNil)))) (tTup (tCons (tC (.int 1)) (tCons (tC (.int 0)) (tCons (tVar 1) tNil))))) [1]) (fun H H' x r s ⟨q, e, h⟩ => ⟨q, e, h.extn s⟩) tells_law (fun _ _ _ _ _ _ e u => sorts_law e u) (hr.mono (by decide)) rfl rfl rfl gS (pa_cons (pv 2) pa_nil)
        TB rfl hmT hu rfl (by decide +kernel) ⟨rfl, rfl, rfl, by decide +kernel, rfl, by decide +kernel, by decide +kernel⟩ (fun _ _ _ _ _ => rfl)
        (fun _ _ _ _ _ _ _ hr' => pe_lc (own := [("one", 1)]) (g := gName 1) (tt := tYes) (te := tIf (tB (tCB (rIsi K) (tCons (tVar 1) (tCons (tC (.ty "int")) tNil)))) (tTup (tCons (tC (.int 0)) (tCons (tVar 1) (tCons (tC (.str "")) tNil)))) (tTup (tCons (tC (.int 1)) (tCons (tC (.int 0)) (tCons (tVar 1) tNil))))) (by rfl) ndL (pi_tup (pv 0))
        (blkOk_by (own := [("one", 1)]) (N := ["row", "one"]) (sc := scLam) (by decide +kernel)) (fun _ _ _ _ _ => pg_name (i := 1) ndL rfl (Or.inl rfl)) (fun _ _ _ _ _ => pts_nil)
        (fun _ _ _ _ _ => pe_ifExp (pt_val (pe_callB (id := "isinstance") (r := rIsi K) call_isi (by rfl) gI (by decide +kernel) (pa_cons (pv 1) (pa_cons (pe_bltn (v := .ty "int") (by rfl) gN (by decide +kernel) rfl) pa_nil))))
          (pe_tup (pa_cons pe_int (pa_cons (pv 1) (pa_cons pe_str pa_nil)))) (pe_tup (pa_cons pe_int (pa_cons pe_int (pa_cons (pv 1) pa_nil)))))) ?_))))), ?_⟩
    · -- the key of a row
      rintro H1 x r Q1 ⟨q, rfl, hq⟩ lr k1
      refine ⟨_, rfl, q, rfl, ⟨_, hq.sq⟩, fun D hD => ?_⟩
      refine lc_same (walk_tup (xs := r.map kV)) r (by rw [List.length_map]) (fun _ => true) (fun H v x => Tp K H v (lawD x)) (fun _ _ _ _ k z => Tp.tk k z) hD (fun H' s' => (hq.mono s').sq) (by rw [List.length_map]; omega) ?_ ?_
      · rintro i x b H1 _ hi hb s1 ⟨rfl, hx⟩ Q' Qn h1 _
        obtain ⟨b', hb', rfl⟩ := map_at hx
        obtain rfl : b = b' := Option.some.inj (hb.symm.trans hb')
        exact ⟨rfl, yes_in (law_item b rfl fun v H2 s2 d => h1 rfl v H2 s2 d)⟩
      · intro H2 acc s1 ha he
        rw [filter_true] at he
        exact k1 _ _ s1 (.lst (sq_l ha) (each_dps (he.mono fun v x z => z.dp)))
    · have big : (2000 : Nat) ≤ sizeLine := by decide
      obtain ⟨pu, pw, h1, h2, h3⟩ := hset
      obtain ⟨rts, hrl1, hrl2⟩ := hrl
      have S0 : ∀ n : Str, ¬ n = "own" → ∀ r ∈ tabL ru rw_ [] n, OnesR r := fun n hn r hr2 => by
        unfold tabL at hr2
        rw [if_neg hn] at hr2
        split at hr2
        · exact ou r hr2
        · exact ow_ r hr2
      refine ⟨Nat.zero_le _, fun D hD => ⟨21, rfl, by omega, by omega, ?_⟩⟩
      have sD : Same H (upd H D (.lst [])) := same_new hD
      have keepH : ∀ {G : Hp}, Off D (upd H D (.lst [])) G → Same H G := fun {G} o a u e => o a u (ne_of_none e hD) (sD _ _ e)
      have rowOff : ∀ {G G2 : Hp} {ws : List V} {a : Addr} {r : Row}, G D = some (.lst ws) → Off D G G2 → RowAt G a r → RowAt G2 a r := fun {G G2 ws a r} e k z => k _ _ (fun q => by
        have z' : G a = some (.tup (r.map kV)) := z
        rw [q, e] at z'; cases z') z
      -- the end
      have fin : ∀ (σ : L2.St) (G : Hp) (us : List Addr) (O : List Row), σ[2]? = some (some (.ref D)) → Off D (upd H D (.lst [])) G → G D = some (.lst (us.map V.ref)) → EachIs (RowAt G) us O → OwnM rules (tabL ru rw_ []) O → (∀ p ∈ pairsL rules 64, fill p.1 p.2.head ∈ O ∨ holdsB (withO "own" (tabL ru rw_ []) O) p.1 p.2.body = false) →
          tRet (tSortLam (cxOf CX0 P w K mg base ["rules", "sets", "own", "turn", "before", "names", "head", "body", "row", "one"] "_law_least" (defScope s__law_least) f (.ref c) A outer s H E).nox T RefRow (tCons (tVar 2) tNil)) { nx := fun _ H' => Q .non H', rt := Q } σ G := fun σ G us O hv oG gD hus hO cl => by
        have sG := keepH oG
        have h64 : subs64.length = 64 := by unfold subs64; rw [grow_len, grow_len, grow_len]; rfl
        refine ⟨_, hv, hT.ext sG, D, _, O, rfl, sq_l gD, ?_, fun r hr2 => by have := rowsAll_ones (hO.all r hr2); have l2 : r.length ≤ 2 := (lst_head (hO.ow.sub r hr2) fun ρ hρ => (hrL ρ hρ).len.2); omega, fun p o e nt => ⟨o, sG _ _ e, nt⟩, fun p H' ys s' t' np hys heach => ?_⟩
        · exact each_map_l (R := RefRow G) V.ref (hus.mono fun a r z => ⟨a, rfl, z⟩)
        · obtain ⟨qs, rfl, hqs⟩ := each_list (P := RowAt H') (fun v r z => z) heach
          refine kk H' p O ((ExtN.of sG).trans s') t' (fun o e => np o (sG _ _ e)) hO.ow.nd (fun r => ⟨hO.ow.sub r, law_closed hrL S0 (fun r hr2 => rowsAll_ones (hO.all r hr2)) (fun s hs ρ hρ => cl (s, ρ) ?_) r⟩) ⟨qs, hys, hqs⟩
          unfold pairsL
          rw [List.take_of_length_le (by omega)]
          exact List.mem_flatMap.mpr ⟨s, hs, List.mem_map.mpr ⟨ρ, hρ, rfl⟩⟩
      have h64 : subs64.length = 64 := by unfold subs64; rw [grow_len, grow_len, grow_len]; rfl
      refine for_it walk_range (fun t σ G => ∃ x3 x4 x5 x6 x7 x8 x9 us O, σ = [some (.ref pr), some (.ref ps), some (.ref D), x3, x4, x5, x6, x7, x8, x9] ∧ Off D (upd H D (.lst [])) G ∧ G D = some (.lst (us.map V.ref)) ∧ EachIs (RowAt G) us O ∧ OwnM rules (tabL ru rw_ []) O ∧ t ≤ O.length)
        ⟨none, none, none, none, none, none, none, [], [], rfl, fun a o n e => e, upd_same, .nil, ⟨⟨List.nodup_nil, fun r z => by cases z⟩, fun r z => by cases z⟩, Nat.le_refl _⟩ (fun _ _ _ _ _ => trivial) ?_ ?_
      · rintro t x σ _ G ht ⟨x3, x4, x5, x6, x7, x8, x9, us, O, rfl, oG, gD, hus, hO, lt⟩ ⟨rfl, rfl⟩
        have lus := hus.length
        refine ⟨_, rfl, D, _, rfl, .inl (sq_l gD), ?_⟩
        refine ⟨rfl, fun G1 q s1 nq hq => ?_⟩
        obtain ⟨qs, hq1, hq2⟩ := hq
        have gD1 := s1 _ _ gD
        have qD : q ≠ D := fun z => by rw [z, gD] at nq; cases nq
        have oG1 : Off D (upd H D (.lst [])) G1 := fun a o n e => s1 _ _ (oG a o n e)
        have hus1 : EachIs (RowAt G1) us O := hus.mono fun _ _ z => s1 _ _ z
        refine ⟨q, rfl, ⟨_, sq_l hq1⟩, ?_⟩
        refine for_it (walk_list (xs := qs.map V.ref)) (fun i σ G2 => ∃ x5 x6 x7 x8 us2, σ = [some (.ref pr), some (.ref ps), some (.ref D), some (.int (0 + (t : Nat))), some (.int (us.length : Nat)), x5, x6, x7, x8, x9] ∧ Off D G1 G2 ∧ G2 D = some (.lst (us2.map V.ref)) ∧ EachIs (RowAt G2) us2 ((pairsL rules i).foldl (stepL (tabL ru rw_ [])) O) ∧ OwnM rules (tabL ru rw_ []) ((pairsL rules i).foldl (stepL (tabL ru rw_ [])) O))
          ⟨x5, x6, x7, x8, us, by rw [List.length_map]; rfl, fun a o n e => e, gD1, hus1, hO⟩ (fun i σ G2 _ z => by obtain ⟨_, _, _, _, _, _, z, _⟩ := z; exact sq_l (z _ _ qD hq1)) ?_ ?_
        · rintro i x σ _ G2 hi ⟨x5, x6, x7, x8, us2, rfl, o2, d2, hus2, hO2⟩ ⟨rfl, hx⟩
          obtain ⟨sq, hsq, rfl⟩ := ref_at hx
          obtain ⟨sb, hsb, hsbG⟩ := each_at hq2 hsq
          have sbm := List.mem_of_getElem? hsb
          have sbG : ∀ {G3 : Hp}, Off D G1 G3 → SbAt G3 sq sb := fun {G3} o => o _ _ (fun z => by
            have z' : G1 sq = some (.dK (sbK sb)) := hsbG
            rw [z, gD1] at z'; cases z') hsbG
          have sG1 := keepH oG1
          have oAll : ∀ {G3 : Hp}, Off D G1 G3 → Off D (upd H D (.lst [])) G3 := fun {G3} o a u n e => o a u n (oG1 a u n e)
          have tk : pairsL rules (i + 1) = pairsL rules i ++ rules.map fun ρ => (sb, ρ) := by
            unfold pairsL
            rw [List.take_add_one, hsb, List.flatMap_append]
            simp
          refine ⟨_, rfl, pr, rfl, ⟨_, sq_l (keepH (oAll o2) _ _ hrl1)⟩, ?_⟩
          refine for_it (walk_list (xs := rts.map V.ref)) (fun j σ G3 => ∃ x6 x7 x8 us3, σ = [some (.ref pr), some (.ref ps), some (.ref D), some (.int (0 + (t : Nat))), some (.int (us.length : Nat)), some (.ref sq), x6, x7, x8, x9] ∧ Off D G1 G3 ∧ G3 D = some (.lst (us3.map V.ref)) ∧ EachIs (RowAt G3) us3 ((pairsL rules i ++ (rules.take j).map fun ρ => (sb, ρ)).foldl (stepL (tabL ru rw_ [])) O) ∧ OwnM rules (tabL ru rw_ []) ((pairsL rules i ++ (rules.take j).map fun ρ => (sb, ρ)).foldl (stepL (tabL ru rw_ [])) O))
            ⟨x6, x7, x8, us2, rfl, o2, d2, by rw [List.take_zero, List.map_nil, List.append_nil]; exact hus2, by rw [List.take_zero, List.map_nil, List.append_nil]; exact hO2⟩ (fun j σ G3 _ z => by obtain ⟨_, _, _, _, _, z, _⟩ := z; exact sq_l (keepH (oAll z) _ _ hrl1)) ?_ ?_
          · rintro j x σ _ G3 hj ⟨x6, x7, x8, us3, rfl, o3, d3, hus3, hO3⟩ ⟨rfl, hx⟩
            obtain ⟨rt, hrt, rfl⟩ := ref_at hx
            obtain ⟨ρ, hρ, ph, pb, g1, g2, g3⟩ := each_at hrl2 hrt
            have ρm := List.mem_of_getElem? hρ
            have rl := hrL ρ ρm
            have sG3 := keepH (oAll o3)
            obtain ⟨O3, eO3⟩ : ∃ O3, O3 = (pairsL rules i ++ (rules.take j).map fun ρ => (sb, ρ)).foldl (stepL (tabL ru rw_ [])) O := ⟨_, rfl⟩
            rw [← eO3] at hus3 hO3
            have tk2 : (pairsL rules i ++ (rules.take (j + 1)).map fun ρ => (sb, ρ)).foldl (stepL (tabL ru rw_ [])) O = stepL (tabL ru rw_ []) O3 (sb, ρ) := by
              rw [List.take_add_one, hρ, List.map_append, ← List.append_assoc, List.foldl_append, ← eO3]
              rfl
            have hstep := hO3.step hrL sbm ρm
            obtain ⟨fo, fh⟩ := subs_fill sbm rl.head
            have lh := rl.len
            refine ⟨rt, _, rfl, sq_t (sG3 _ _ g1), rfl, _, _, rfl, _, _, rfl, rfl, ?_⟩
            refine ⟨_, rfl, _, rfl, ph, sq, ρ.head, sb, rfl, g2.keep (KeepS.of sG3), sbG o3, fh, by omega, fun G4 z s4 _ hz => ?_⟩
            have d4 := s4 _ _ d3
            have hus4 : EachIs (RowAt G4) us3 O3 := hus3.mono fun _ _ z => s4 _ _ z
            have o4 : Off D G1 G4 := fun a u n e => s4 _ _ (o3 a u n e)
            have l3 := hO3.len
            have lus3 := hus3.length
            have sG4 := keepH (oAll o4)
            have eS : stepL (tabL ru rw_ []) O3 (sb, ρ) = if (!memB O3 (fill sb ρ.head) && holdsB (withO "own" (tabL ru rw_ []) O3) sb ρ.body) = true then O3 ++ [fill sb ρ.head] else O3 := rfl
            rw [eS] at tk2 hstep
            refine ⟨_, rfl, _, rfl, _, _, dp_row hz, dp_rows (rs := O3) ⟨us3, d4, hus4⟩, shaped_row fo, shaped_rows (fun r hr2 => rowsAll_ones (hO3.all r hr2)), _, rfl, ?_⟩
            rw [any_rows]
            cases m : memB O3 (fill sb ρ.head) with
            | true =>
              rw [m] at tk2 hstep
              refine iteF (iteF ⟨_, _, _, us3, rfl, o4, d4, ?_, ?_⟩)
              · rw [tk2]; exact hus4
              · rw [tk2]; exact hstep
            | false =>
              refine iteT ⟨_, rfl, _, rfl, _, rfl, _, rfl, pb, sq, ps, D, ρ.body, sb, ru, rw_, O3, rfl, g3.keep (KeepS.of sG4), sbG o4, ⟨pu, pw, sG4 _ _ h1, h2.keepR (KeepR.of sG4), h3.keepR (KeepR.of sG4)⟩, ⟨us3, d4, hus4⟩, fun a ha => (rl.atoms a ha).1, fun a ha => ⟨by have := (rl.atoms a ha).2.1; omega, (subs_fill sbm (rl.atoms a ha).2.2).2⟩, ⟨ou, ow_, fun r hr2 => rowsAll_ones (hO3.all r hr2)⟩, fun a ha => (subs_fill sbm (rl.atoms a ha).2.2).1, fun G5 s5 => ⟨_, rfl, ?_⟩⟩
              have o5 : Off D G1 G5 := fun a u n e => s5 _ _ (o4 a u n e)
              have d5 := s5 _ _ d4
              have hus5 : EachIs (RowAt G5) us3 O3 := hus4.mono fun _ _ z => s5 _ _ z
              have et : tabL ru rw_ O3 = withO "own" (tabL ru rw_ []) O3 := tab_with _ _ _
              rw [et]
              rw [m] at tk2 hstep
              cases hb : holdsB (withO "own" (tabL ru rw_ []) O3) sb ρ.body with
              | false =>
                rw [hb] at tk2 hstep
                refine iteF ⟨_, _, _, us3, rfl, o5, d5, ?_, ?_⟩
                · rw [tk2]; exact hus5
                · rw [tk2]; exact hstep
              | true =>
                rw [hb] at tk2 hstep
                refine iteT ⟨_, rfl, .inl ⟨rfl, _, .inl (.inl d5)⟩, _, rfl, D, _, _, rfl, rfl, d5, by rw [List.length_map]; omega, _, _, _, us3 ++ [z], rfl, fun a u n e => by rw [upd_ne n]; exact o5 a u n e, by rw [upd_same, List.map_append]; rfl, ?_, ?_⟩
                · rw [tk2]
                  have kd : ∀ (a : Addr) (l : Row), RowAt G5 a l → RowAt (upd G5 D (.lst (us3.map V.ref ++ [V.ref z]))) a l := fun a l y => rowOff d5 (fun b u n e => by rw [upd_ne n]; exact e) y
                  exact each_snoc1 (R := RowAt (upd G5 D (.lst (us3.map V.ref ++ [V.ref z])))) (kd _ _ (s5 _ _ hz)) (hus5.mono fun a l y => kd a l y)
                · rw [tk2]; exact hstep
          · rintro σ G3 ⟨x6, x7, x8, us3, rfl, o3, d3, hus3, hO3⟩
            rw [List.length_map, hrl2.length, List.take_length, ← tk] at hus3 hO3
            exact ⟨_, _, _, _, us3, rfl, o3, d3, hus3, hO3⟩
        · rintro σ G2 ⟨x5, x6, x7, x8, us2, rfl, o2, d2, hus2, hO2⟩
          rw [List.length_map, hq2.length, h64] at hus2 hO2
          have oG2 : Off D (upd H D (.lst [])) G2 := fun a o n e => o2 a o n (oG1 a o n e)
          have lus2 := hus2.length
          refine ⟨_, rfl, D, _, rfl, .inl (sq_l d2), _, rfl, rfl, _, rfl, ?_⟩
          rw [List.length_map]
          obtain ⟨e, he⟩ := fold_pre (tabL ru rw_ []) (pairsL rules 64) O
          by_cases c : us2.length = us.length
          · rw [decide_eq_true (by rw [c])]
            have le : ((pairsL rules 64).foldl (stepL (tabL ru rw_ [])) O).length = O.length := by rw [← lus2, ← lus]; exact c
            have eO : (pairsL rules 64).foldl (stepL (tabL ru rw_ [])) O = O := by
              rw [he, List.length_append] at le
              have : e = [] := List.eq_nil_of_length_eq_zero (by omega)
              rw [he, this, List.append_nil]
            have cl := fold_fix (tabL ru rw_ []) (pairsL rules 64) O le
            rw [eO] at hus2
            exact iteT (fin _ G2 us2 O rfl oG2 d2 hus2 hO cl)
          · rw [decide_eq_false (fun z => c (by injection z with z; omega))]
            refine iteF ⟨_, _, _, _, _, _, _, us2, _, rfl, oG2, d2, hus2, hO2, ?_⟩
            rw [← lus2]
            have : us2.length = O.length + e.length := by rw [lus2, he, List.length_append]
            omega
      · rintro σ G ⟨x3, x4, x5, x6, x7, x8, x9, us, O, rfl, oG, gD, hus, hO, lt⟩
        have := hO.len
        have l21 : (21 : Int).toNat = 21 := rfl
        omega
end
end KA
set_option Elab.async false
set_option linter.all false
set_option maxRecDepth 100000
set_option maxHeartbeats 4000000
/-! repr of data: how long its text is, the call -/
namespace KA
open PySem PySem.Spec PyProof.Rows L2
open PySem.W (EachIs)
theorem textFrom_le : ∀ (ts : List Str) (k : Nat) (acc : Str) (M : Nat), (∀ t ∈ ts, t.length ≤ M) → (textFrom k acc ts).length ≤ acc.length + ts.length * (M + 2)
  | [], k, acc, M, _ => by
    show acc.length ≤ _
    omega
  | t :: ts, k, acc, M, h => by
    have ih := textFrom_le ts (k + 1) (acc ++ (if k > 0 then ", " else "" : String) ++ t) M fun x hx => h x (List.mem_cons_of_mem _ hx)
    have ht := h t List.mem_cons_self
    have e : (acc ++ (if k > 0 then ", " else "" : String) ++ t).length ≤ acc.length + 2 + t.length := by
      rw [strLen_append, strLen_append]
      split
      · exact Nat.le_refl _
      · show acc.length + 0 + t.length ≤ _
        omega
    rw [List.length_cons, Nat.succ_mul]
    show (textFrom (k + 1) (acc ++ (if k > 0 then ", " else "" : String) ++ t) ts).length ≤ _
    omega
theorem listText_le {ts : List Str} {M : Nat} (h : ∀ t ∈ ts, t.length ≤ M) : (listText ts).length ≤ ts.length * (M + 2) + 2 := by
  unfold listText
  rw [strLen_append]
  have h1 := textFrom_le ts 0 "[" M h
  have e1 : (("[" : String) : Str).length = 1 := rfl
  have e2 : (("]" : String) : Str).length = 1 := rfl
  omega
theorem piled_le : ∀ {ts : List Str} {M : Nat}, (∀ t ∈ ts, t.length ≤ M) → piled ts ≤ ts.length * (M + 2)
  | [], M, _ => by simp [piled]
  | t :: ts, M, h => by
    have ih := piled_le (ts := ts) fun x hx => h x (List.mem_cons_of_mem _ hx)
    have ht := h t List.mem_cons_self
    rw [List.length_cons, Nat.succ_mul]
    simp only [piled] at ih ⊢
    simp only [List.map_cons, List.sum_cons] at ih ⊢
    omega
theorem tupleText_le {ts : List Str} {M : Nat} (h : ∀ t ∈ ts, t.length ≤ M) : (tupleText ts).length ≤ ts.length * (M + 2) + 3 := by
  unfold tupleText
  rw [strLen_append, strLen_append]
  have e1 : (("(" : String) : Str).length = 1 := rfl
  have e2 : ((if ts.length == 1 then ",)" else ")" : String) : Str).length ≤ 2 := by
    split
    · exact Nat.le_refl _
    · show 1 ≤ 2
      omega
  have h2 : (Str.join ", " ts).length ≤ ts.length * (M + 2) := by
    by_cases e : ts = []
    · subst e
      exact Nat.zero_le _
    · have h3 := join_length_add ts e
      have h4 := piled_le h
      omega
  have e3 : (("(" : Str)).length = 1 := rfl
  omega
theorem int_len {i : Int} (h : i.natAbs ≤ 2 ^ 40) : (PyData.int i).shown.length ≤ 50 := by
  show (Str.ofString (toString i)).length ≤ 50
  have hl : i.natAbs.log2 < 41 := by
    by_cases e : i.natAbs = 0
    · rw [e]; decide
    · exact (Nat.log2_lt e).mpr (Nat.lt_of_le_of_lt h (by decide))
  have e := int_text_length_le (k := 41) (by decide) hl
  rw [PySem.ofString_length]
  omega
theorem int_show {i : Int} (h : i.natAbs ≤ 2 ^ 40) : (PyData.int i).showable = true := by
  simp only [PyData.showable, decide_eq_true_eq]
  by_cases e : i.natAbs = 0
  · rw [e]; decide
  · exact Nat.lt_of_lt_of_le ((Nat.log2_lt e).mpr (Nat.lt_of_le_of_lt h (show 2 ^ 40 < 2 ^ 41 by decide))) (by decide)
/-- a text that is short enough -/
structure Pr (d : PyData) (n : Nat) : Prop where
  len : d.shown.length ≤ n
  sh : d.showable = true
theorem Pr.mono {d : PyData} {n m : Nat} (h : Pr d n) (k : n ≤ m) : Pr d m := ⟨Nat.le_trans h.len k, h.sh⟩
theorem sh_all : ∀ {ds : List PyData}, (∀ d ∈ ds, d.showable = true) → PyData.showableAll ds = true
  | [], _ => rfl
  | d :: ds, h => by simp [PyData.showableAll, h d List.mem_cons_self, sh_all fun x hx => h x (List.mem_cons_of_mem _ hx)]
theorem tup_pr {ds : List PyData} {n k : Nat} (h : ∀ d ∈ ds, Pr d n) (hk : ds.length ≤ k) : Pr (.tuple ds) (k * (n + 2) + 3) := by
  refine ⟨?_, sh_all fun d hd => (h d hd).sh⟩
  have h3 := tupleText_le (ts := PyData.shownAll ds) (M := n) fun t ht => by
    rw [shownAll_eq_map] at ht
    obtain ⟨x, hx, rfl⟩ := List.mem_map.mp ht
    exact (h x hx).len
  rw [shownAll_eq_map, List.length_map] at h3
  simp only [PyData.shown]
  rw [shownAll_eq_map]
  exact Nat.le_trans h3 (Nat.add_le_add_right (Nat.mul_le_mul_right _ hk) 3)
theorem lst_pr {ds : List PyData} {n k : Nat} (h : ∀ d ∈ ds, Pr d n) (hk : ds.length ≤ k) : Pr (.list ds) (k * (n + 2) + 2) := by
  refine ⟨?_, sh_all fun d hd => (h d hd).sh⟩
  have h3 := listText_le (ts := PyData.shownAll ds) (M := n) fun t ht => by
    rw [shownAll_eq_map] at ht
    obtain ⟨x, hx, rfl⟩ := List.mem_map.mp ht
    exact (h x hx).len
  rw [shownAll_eq_map, List.length_map] at h3
  simp only [PyData.shown]
  rw [shownAll_eq_map]
  exact Nat.le_trans h3 (Nat.add_le_add_right (Nat.mul_le_mul_right _ hk) 2)
theorem sh_kv : ∀ {ps : List (PyData × PyData)}, (∀ p ∈ ps, p.1.showable = true ∧ p.2.showable = true) → PyData.showableKv ps = true
  | [], _ => rfl
  | (k, v) :: ps, h => by
    have := h _ List.mem_cons_self
    simp [PyData.showableKv, this.1, this.2, sh_kv fun x hx => h x (List.mem_cons_of_mem _ hx)]
theorem kv_len {n : Nat} : ∀ {ps : List (PyData × PyData)}, (∀ p ∈ ps, p.1.shown.length ≤ 50 ∧ p.2.shown.length ≤ n) → ∀ t ∈ PyData.shownKv ps, t.length ≤ n + 52
  | [], _, t, ht => by cases ht
  | (k, v) :: ps, h, t, ht => by
    simp only [PyData.shownKv] at ht
    rcases List.mem_cons.mp ht with rfl | ht
    · have := h _ List.mem_cons_self
      rw [strLen_append, strLen_append]
      have e1 : ((": " : Str)).length = 2 := rfl
      have h1 := this.1
      have h2 := this.2
      simp only at h1 h2
      omega
    · exact kv_len (fun x hx => h x (List.mem_cons_of_mem _ hx)) t ht
theorem kv_size : ∀ ps : List (PyData × PyData), (PyData.shownKv ps).length = ps.length
  | [] => rfl
  | (k, v) :: ps => by simp [PyData.shownKv, kv_size ps]
theorem dict_pr {ps : List (PyData × PyData)} {n k : Nat} (h : ∀ p ∈ ps, Pr p.1 50 ∧ Pr p.2 n) (hk : ps.length ≤ k) : Pr (.dict ps) (k * (n + 54) + 2) := by
  refine ⟨?_, sh_kv fun p hp => ⟨(h p hp).1.sh, (h p hp).2.sh⟩⟩
  have h1 := kv_len (n := n) (ps := ps) fun p hp => ⟨(h p hp).1.len, (h p hp).2.len⟩
  have e : (PyData.dict ps).shown.length = 1 + (Str.join ", " (PyData.shownKv ps)).length + 1 := by
    simp only [PyData.shown]
    unfold dictText
    rw [strLen_append, strLen_append]
    rfl
  have h2 : (Str.join ", " (PyData.shownKv ps)).length ≤ (PyData.shownKv ps).length * (n + 54) := by
    by_cases e0 : PyData.shownKv ps = []
    · rw [e0]
      exact Nat.zero_le _
    · have h3 := join_length_add _ e0
      have h4 := piled_le h1
      have e5 : n + 52 + 2 = n + 54 := by omega
      rw [e5] at h4
      omega
  rw [kv_size] at h2
  rw [e]
  have h5 := Nat.mul_le_mul_right (n + 54) hk
  omega
theorem tag_pr (x : Str) (h : (reprText x).length ≤ 20) : Pr (.str x) 20 := ⟨h, rfl⟩
/-- a def's own heap: what was tracked then is a table or held -/
def HeldOnly (H : Hp) : Prop := ∀ b u, H b = some u → (∃ ps, u = .tbl ps) ∨ ∃ o x, u = .frz o x
/-- v reads as d; none of its lists and dicts is sys.modules -/
def Readable (X : Cx) (H : Hp) (v : V) (d : PyData) : Prop := ∀ (pins : List (Addr × Obj)) (σ : L2.St) (s : Shared) (u : Value), Inv X pins σ H s → RelV v u → ∃ as, Reads s.heap u d as ∧ sysModules ∉ as
theorem sys_not {X : Cx} {pins : List (Addr × Obj)} {σ : L2.St} {H : Hp} {s : Shared} (I : Inv X pins σ H s) (hex : X.ex = []) (h0 : HeldOnly X.H_0) {o0 : Obj} (hb : X.s_0.heap.get? sysModules = some o0) {a : Addr} {xs : List V} (ha : H a = some (.lst xs)) : a ≠ sysModules := fun e => by
  subst e
  cases q : X.H_0 sysModules with
  | some u =>
    rcases h0 _ _ q with ⟨ps, rfl⟩ | ⟨o, x, rfl⟩
    · obtain ⟨more, z⟩ := I.base.tbls _ _ q
      rw [ha] at z
      cases z
    · have z := I.base.frzs _ _ _ q
      rw [ha] at z
      cases z
  | none =>
    have z := I.base.free _ _ hb q (by rw [hex]; exact fun z => List.not_mem_nil z)
    rw [ha] at z
    cases z
section
variable {X : Cx} (hex : X.ex = []) (h0 : HeldOnly X.H_0) {o0 : Obj} (hb : X.s_0.heap.get? sysModules = some o0) {H : Hp}
include hex h0 hb
mutual
theorem rd_reads {pins : List (Addr × Obj)} {σ : L2.St} {s : Shared} (I : Inv X pins σ H s) : ∀ (d : PyData) (v : V) (u : Value), Dp [] (frm H) v d → RelV v u → ∃ as, Reads s.heap u d as ∧ sysModules ∉ as
  | .none, _, _, h, r => by
    cases h
    cases r
    exact ⟨_, Reads.none, fun z => by cases z⟩
  | .bool b, _, _, h, r => by
    cases h
    cases r
    exact ⟨_, Reads.bool b, fun z => by cases z⟩
  | .int i, _, _, h, r => by
    cases h
    obtain ⟨t, rfl⟩ := r
    exact ⟨_, Reads.int i t, fun z => by cases z⟩
  | .str x, _, _, h, r => by
    cases h
    obtain ⟨t, rfl⟩ := r
    exact ⟨_, Reads.str x t, fun z => by cases z⟩
  | .list ds, v, _, h, r => by
    obtain ⟨a, ts, rfl, hx, hl, ha⟩ := dx_lst (X := frm H) (H := H) (fun a o q => q) h
    cases r
    obtain ⟨its, rv, ⟨o, n, ho, hc, _, hd⟩, _⟩ := I.list (sq_l hl)
    obtain ⟨as, hr, hs⟩ := rd_all I ds _ its ha rv
    refine ⟨_, Reads.list ho hc hd hr, fun z => ?_⟩
    rcases List.mem_cons.mp z with e | z
    · exact sys_not I hex h0 hb hl e.symm
    · exact hs z
  | .tuple ds, v, _, h, r => by
    obtain ⟨a, vs, rfl, hx, hl, ha⟩ := dx_tup (X := frm H) (H := H) (fun a o q => q) h
    cases r
    obtain ⟨its, rv, ⟨o, ho, hc, n, hd⟩, _⟩ := I.tuple (sq_t hl)
    obtain ⟨as, hr, hs⟩ := rd_all I ds _ its ha rv
    exact ⟨_, Reads.tuple ho hc hd hr, hs⟩
  | .dict _, _, _, h, _ => by cases h
theorem rd_all {pins : List (Addr × Obj)} {σ : L2.St} {s : Shared} (I : Inv X pins σ H s) : ∀ (ds : List PyData) (vs : List V) (us : List Value), DpAll [] (frm H) vs ds → Vals vs us → ∃ as, ReadsAll s.heap us ds as ∧ sysModules ∉ as
  | [], _, _, h, r => by
    cases h
    cases r
    exact ⟨_, ReadsAll.nil, fun z => by cases z⟩
  | d :: ds, _, _, h, r => by
    cases h with
    | cons h1 h2 =>
      cases r with
      | cons r1 r2 =>
        obtain ⟨as, q1, s1⟩ := rd_reads I d _ _ h1 r1
        obtain ⟨bs, q2, s2⟩ := rd_all I ds _ _ h2 r2
        exact ⟨_, ReadsAll.cons q1 q2, fun z => (List.mem_append.mp z).elim s1 s2⟩
end
theorem rd_fd {v : V} {d : PyData} (h : Fd [] H v d) : Readable X H v d := fun _ _ _ _ I r => rd_reads hex h0 hb I d v _ h r
end
/-- many of them -/
def ReadAll (X : Cx) (H : Hp) (vs : List V) (ds : List PyData) : Prop := ∀ (pins : List (Addr × Obj)) (σ : L2.St) (s : Shared) (us : List Value), Inv X pins σ H s → Vals vs us → ∃ as, ReadsAll s.heap us ds as ∧ sysModules ∉ as
theorem ra_nil {X : Cx} {H : Hp} : ReadAll X H [] [] := fun _ _ _ _ _ r => by
  cases r
  exact ⟨_, ReadsAll.nil, fun z => by cases z⟩
theorem ra_cons {X : Cx} {H : Hp} {v : V} {vs : List V} {d : PyData} {ds : List PyData} (h : Readable X H v d) (t : ReadAll X H vs ds) : ReadAll X H (v :: vs) (d :: ds) := fun _ _ _ _ I r => by
  cases r with
  | cons r1 r2 =>
    obtain ⟨as, q1, s1⟩ := h _ _ _ _ I r1
    obtain ⟨bs, q2, s2⟩ := t _ _ _ _ I r2
    exact ⟨_, ReadsAll.cons q1 q2, fun z => (List.mem_append.mp z).elim s1 s2⟩
theorem rd_lst {X : Cx} (hex : X.ex = []) (h0 : HeldOnly X.H_0) {o0 : Obj} (hb : X.s_0.heap.get? sysModules = some o0) {H : Hp} {a : Addr} {vs : List V} {ds : List PyData} (ha : H a = some (.lst vs)) (h : ReadAll X H vs ds) : Readable X H (.ref a) (.list ds) := fun _ _ _ _ I r => by
  cases r
  obtain ⟨its, rv, ⟨o, n, ho, hc, _, hd⟩, _⟩ := I.list (sq_l ha)
  obtain ⟨as, hr, hs⟩ := h _ _ _ _ I rv
  refine ⟨_, Reads.list ho hc hd hr, fun z => ?_⟩
  rcases List.mem_cons.mp z with e | z
  · exact sys_not I hex h0 hb ha e.symm
  · exact hs z
/-- a dict from names -/
theorem rd_dict {X : Cx} {H : Hp} {a : Addr} {kvs : List (Key × V)} {ds : List PyData} (ha : H a = some (.dK kvs)) (h : ReadAll X H (kvs.map (·.2)) ds) (hl : ds.length = kvs.length) : Readable X H (.ref a) (.dict ((kvs.map fun kv => keyD kv.1).zip ds)) := fun _ _ _ _ I r => by
  cases r
  obtain ⟨_, hn, us, kv, dd⟩ := dk_of I.hok ha
  have vals : ∀ {kvs : List (Key × V)} {us : List (Key × Value)}, KV kvs us → Vals (kvs.map (·.2)) (us.map (·.2)) := by
    intro kvs us h
    induction h with
    | nil => exact .nil
    | cons h t ih => exact .cons h.2 ih
  obtain ⟨as, hr, hs⟩ := h _ _ _ _ I (vals kv)
  have pairs : ∀ {kvs : List (Key × V)} {us : List (Key × Value)} {ds : List PyData} {as : List Addr} {h : Heap}, KV kvs us → ReadsAll h (us.map (·.2)) ds as → PyProof.V.PairsRead h keyD us ((kvs.map fun kv => keyD kv.1).zip ds) as := by
    intro kvs us ds as h kv
    induction kv generalizing ds as with
    | nil =>
      intro r
      cases r
      exact .nil
    | @cons p q kvs us h1 t ih =>
      intro r
      cases r with
      | cons r1 r2 =>
        obtain ⟨k, v⟩ := p
        obtain ⟨k', u⟩ := q
        obtain rfl : k = k' := h1.1
        exact .cons r1 (ih r2)
  refine ⟨_, PyProof.V.reads_dictOf (fun k key hk => ?_) dd (pairs kv hr), fun z => ?_⟩
  · rcases keyIs_shape hk with ⟨i, t, rfl, rfl⟩ | ⟨x, t, rfl, rfl⟩
    · exact Reads.int i t
    · exact Reads.str x t
  · rcases List.mem_cons.mp z with e | z
    · rw [← e] at hn
      cases hn
    · exact hs z
/-- repr(x), x an object that reads as data, with dicts in it -/
def rReprX (X : Cx) : List V → Hp → VK → Prop := fun xs H Q => ∃ (a : Addr) (d : PyData), xs = [.ref a] ∧ Readable X H (.ref a) d ∧ d.showable = true ∧ d.shown.length ≤ sizeLine ∧ d.depth ≤ 50 ∧ Q (.str d.shown) H
theorem call_reprX {X : Cx} (hg : X.A.guards = some []) (hu : X.A.units + 64 < cLine) : CallR X (.builtin "repr") (rReprX X) := by
  intro pins s σ H xs us Q I r h
  obtain ⟨a, d, rfl, hd, sh, ln, dd, q⟩ := h
  obtain rfl := Vals.ref1 r
  obtain ⟨as, rd, hs⟩ := hd _ _ _ _ I rfl
  refine PySem.repr_of_reads' rd sh (fun _ => hs) hg (by omega) (fun _ _ z => z) (fun h' u tk hk => ?_) ln
  exact ⟨.str d.shown, H, I.kept (t' := tk) hk, ⟨u, rfl⟩, q⟩
/-- a dict from rows -/
def setD (rs : List Row) : PyData := .dict (rs.map fun r => (rowD r, .bool true))
theorem rd_set {X : Cx} {H : Hp} {a : Addr} {rs : List Row} (ha : SetAt H a rs) : Readable X H (.ref a) (setD rs) := fun _ _ s _ I r => by
  cases r
  obtain ⟨_, hn, xs, kt, o, es, ep, ho, hx, hd, hes, _, _⟩ := dt_of I.hok ha
  have row : ∀ {q : Addr} {k : Row}, H q = some (.tup (k.map kV)) → ∃ u, u = Value.ref q ∧ Reads s.heap u (rowD k) [] := fun {q k} h => by
    obtain ⟨its, rv, ⟨o, ho, hc, n, hd⟩, _⟩ := I.tuple (sq_t h)
    refine ⟨_, rfl, Reads.tuple ho hc hd ?_⟩
    have : ∀ {k : Row} {its : List Value}, Vals (k.map kV) its → ReadsAll s.heap its (k.map keyD) [] := by
      intro k
      induction k with
      | nil => intro its r; cases r; exact .nil
      | cons x k ih =>
        intro its r
        cases r with
        | cons r1 r2 =>
          refine ReadsAll.cons (as := []) (bs := []) ?_ (ih r2)
          cases x with
          | inl i => obtain ⟨t, rfl⟩ := r1; exact Reads.int i t
          | inr z => obtain ⟨t, rfl⟩ := r1; exact Reads.str z t
    exact this rv
  have both : ∀ {rs : List Row} {xs : List (List Key × Addr × Value)}, KT H (sd rs) xs → ReadsAll s.heap (xs.map fun x => Value.ref x.2.1) ((rs.map fun r => (rowD r, PyData.bool true)).map (·.1)) [] ∧ ReadsAll s.heap (xs.map fun x => x.2.2) ((rs.map fun r => (rowD r, PyData.bool true)).map (·.2)) [] := by
    intro rs
    induction rs with
    | nil => intro xs k; cases k; exact ⟨.nil, .nil⟩
    | cons r rs ih =>
      intro xs k
      unfold sd at k ih
      rw [List.map_cons] at k
      cases k with
      | @cons p q ps qs h t =>
        obtain ⟨i1, i2⟩ := ih t
        obtain ⟨_, rfl, r1⟩ := row h.2.1
        refine ⟨ReadsAll.cons (as := []) (bs := []) r1 i1, ReadsAll.cons (as := []) (bs := []) ?_ i2⟩
        have e : q.2.2 = Value.bool true := h.2.2
        show Reads s.heap q.2.2 (PyData.bool true) []
        rw [e]
        exact Reads.bool true
  obtain ⟨b1, b2⟩ := both kt
  refine ⟨_, Reads.dict ho hx.1 hd (by rw [hes, List.map_map]; exact b1) (by rw [hes, List.map_map]; exact b2), fun z => ?_⟩
  rcases List.mem_cons.mp z with e | z
  · rw [← e] at hn
    cases hn
  · cases z
end KA
set_option Elab.async false
set_option linter.all false
set_option maxRecDepth 100000
set_option maxHeartbeats 8000000
/-! what the law's body needs: equal sets, sizes, the texts of rules and dicts -/
namespace KA
open PySem PySem.Spec PyProof.Rows L2 LamX
open PySem.W (EachIs)
theorem kvD_get {R : Addr → Str → Prop} {n : Str} : ∀ {ns : List Str} {as : List Addr}, EachIs R as ns → n ∈ ns → ∃ a, valV (kvD ns as) (.inr n) = some (.ref a) ∧ R a n := by
  intro ns as he
  induction he with
  | nil => intro h; cases h
  | @cons a m as ns h t ih =>
    intro hm
    by_cases c : m = n
    · subst c
      exact ⟨a, valV_pos (p := ((Sum.inr m : Key), V.ref a)) rfl, h⟩
    · rcases List.mem_cons.mp hm with z | z
      · exact absurd z.symm c
      · obtain ⟨b, h1, h2⟩ := ih z
        exact ⟨b, (valV_neg (p := ((Sum.inr m : Key), V.ref a)) (fun z => c (by injection z))).trans h1, h2⟩
theorem sorted_eq {a b : List Row} (ha : a.Nodup) (hb : b.Nodup) (h : ∀ r, r ∈ a ↔ r ∈ b) : sortRows a = sortRows b :=
  List.Perm.eq_of_pairwise (le := fun x y => rowLt x y = true) (fun x y _ _ h1 h2 => by rw [rowLt_asym h1] at h2; cases h2) (sortRows_srt ha) (sortRows_srt hb)
    (((sortRows_perm a).trans ((List.perm_ext_iff_of_nodup ha hb).mpr h)).trans (sortRows_perm b).symm)
theorem uni_inT (T : Str → List Row) : InT (fun n => uniR (T n)) = InT T := by
  funext n r
  exact propext uni_mem
theorem lst_rows {rules : List Rul} (hr : ∀ ρ ∈ rules, RulL ρ) {S : Str → List Row} (hS : ∀ n : Str, ¬ n = "own" → ∀ r ∈ S n, OnesR r) : ∀ r, Lst rules "own" (InT S) r → r ∈ rowsAll :=
  law_closed hr hS (fun r h => rowsAll_ones h) fun s hs ρ hρ => .inl (rowsAll_mem (subs_fill hs (hr ρ hρ).head).1 (by
    unfold fill
    rw [List.length_map]
    exact (hr ρ hρ).len))
theorem yes_few {ρ : Rul} (h : RulL ρ) : (ρ.body.filter (·.yes)).length ≤ 3 ∧ ρ.body.length ≤ 5 := by
  obtain ⟨ys, ns, hb, ly, ln, hy, hn, _⟩ := h.ex
  have e : ns.filter (·.yes) = [] := by
    rw [List.filter_eq_nil_iff]
    intro a ha
    rw [(hn a ha).1.sign]
    decide
  have l := List.length_filter_le (fun a : Atm => a.yes) ys
  rcases hb with q | q
  · rw [q, List.filter_append, e, List.length_append]
    exact ⟨by simpa using Nat.le_trans l ly, by rw [List.length_append]; omega⟩
  · rw [q, List.filter_append, e, List.length_append]
    exact ⟨by simpa using Nat.le_trans l ly, by rw [List.length_append]; omega⟩
theorem pow_few {k : Nat} (h : k ≤ 3) : 20 ^ k ≤ 8000 := Nat.le_trans (Nat.pow_le_pow_right (by decide) h) (by decide)
theorem rulB_of {ρ : Rul} (h : RulL ρ) : RulB 2 20 "own" ρ :=
  ⟨h.wf, fun a ha => (h.atoms a ha).2.1, h.len.2, by have := (yes_few h).2; omega, Nat.le_trans (pow_few (yes_few h).1) (by decide)⟩
theorem names_len {rules : List Rul} (hl : rules.length ≤ 4) (hr : ∀ ρ ∈ rules, RulL ρ) : (bodyNames rules).length ≤ 1000 ∧ (rules.flatMap (·.body)).length ≤ 1000 := by
  have h1 := flat_len (f := fun ρ : Rul => ρ.body.map (·.name)) (b := 5) (l := rules) fun ρ hρ => by
    rw [List.length_map]
    exact (yes_few (hr ρ hρ)).2
  have h2 := flat_len (f := fun ρ : Rul => ρ.body) (b := 5) (l := rules) fun ρ hρ => (yes_few (hr ρ hρ)).2
  refine ⟨?_, by omega⟩
  unfold bodyNames
  omega
theorem rulsB_of {rules : List Rul} (hl : rules.length ≤ 4) (hr : ∀ ρ ∈ rules, RulL ρ) : RulsB 2 20 "own" rules := ⟨by omega, (names_len hl hr).1, fun ρ hρ => rulB_of (hr ρ hρ)⟩
theorem namesB_is {rules : List Rul} (hr : ∀ ρ ∈ rules, RulL ρ) {n : Str} (h : n ∈ namesB rules "own") : (n = "u" ∨ n = "w") ∧ ¬ n = "own" := by
  unfold namesB uniS at h
  rcases (uniS_mem _ _).mp h with z | z
  · cases z
  · rw [List.mem_filter] at z
    obtain ⟨z1, z2⟩ := z
    have no : ¬ n = "own" := by simpa using z2
    unfold bodyNames at z1
    obtain ⟨ρ, hρ, z3⟩ := List.mem_flatMap.mp z1
    obtain ⟨a, ha, rfl⟩ := List.mem_map.mp z3
    refine ⟨?_, no⟩
    rcases ((hr ρ hρ).atoms a ha).1 with e | e | e
    · exact .inl e
    · exact .inr e
    · exact absurd e no
theorem namesB_two {rules : List Rul} (hr : ∀ ρ ∈ rules, RulL ρ) : (namesB rules "own").length ≤ 2 := by
  have nd : (namesB rules "own").Nodup := uniS_nd _ _ List.nodup_nil
  have := nodup_le (U := (["u", "w"] : List Str)) nd fun n hn => by
    rcases (namesB_is hr hn).1 with e | e <;> simp [e]
  simpa using this
theorem turn_diff {n : Nat} {rs ss : List Row} (h : TurnL n rs ss) : (diffR (uniR ss) (uniR rs)).length ≤ 1 := by
  obtain ⟨sub, more, rfl, hs, hm⟩ := h
  have nd : (diffR (uniR (sub ++ more)) (uniR rs)).Nodup := List.Nodup.sublist List.filter_sublist (uni_nd _)
  refine Nat.le_trans (nodup_le nd fun r hr => ?_) hm.len
  obtain ⟨h1, h2⟩ := diff_mem.mp hr
  rw [uni_mem] at h1 h2
  rcases List.mem_append.mp h1 with z | z
  · exact absurd (hs.subset z) h2
  · exact z
theorem turn_len {n : Nat} {rs ss : List Row} (h : TurnL n rs ss) (l : rs.length ≤ 6) : ss.length ≤ 7 := by
  obtain ⟨sub, more, rfl, hs, hm⟩ := h
  have h1 := hs.length_le
  have h2 := hm.len
  rw [List.length_append]
  omega
theorem turn_row {n : Nat} {rs ss : List Row} (h : TurnL n rs ss) (l : ∀ r ∈ rs, RowL n r) : ∀ r ∈ ss, RowL n r := by
  obtain ⟨sub, more, rfl, hs, hm⟩ := h
  intro r hr
  rcases List.mem_append.mp hr with z | z
  · exact l r (hs.subset z)
  · exact hm.each r z
theorem rowL_ones {n : Nat} {r : Row} (h : RowL n r) : OnesR r := h.ones
/-- the sets of the law, as the program reads them -/
def setsU (ru rw : List Row) : Str → List Row := fun n => uniR (tabL ru rw [] n)
theorem tabL_mem {ru rw : List Row} {n : Str} (hn : ¬ n = "own") : tabL ru rw [] n = ru ∨ tabL ru rw [] n = rw := by
  unfold tabL
  rw [if_neg hn]
  split
  · exact .inl rfl
  · exact .inr rfl
theorem tabL_ones {ru rw : List Row} (hu : ∀ r ∈ ru, OnesR r) (hw : ∀ r ∈ rw, OnesR r) : ∀ n : Str, ¬ n = "own" → ∀ r ∈ tabL ru rw [] n, OnesR r := fun n hn r hr => by
  rcases tabL_mem (ru := ru) (rw := rw) hn with e | e <;> rw [e] at hr
  · exact hu r hr
  · exact hw r hr
theorem sets_of {H : Hp} {d : Addr} {names : List Str} {ru rw : List Row} (h : DictsAt H d names (tabL ru rw [])) (hn : ∀ n ∈ names, ¬ n = "own") (lu : ru.length ≤ 7) (lw : rw.length ≤ 7) (hu : ∀ r ∈ ru, r.length ≤ 2) (hw : ∀ r ∈ rw, r.length ≤ 2) :
    SetsAt H d names (setsU ru rw) ∧ ∀ n ∈ names, (setsU ru rw n).length ≤ 20 := by
  obtain ⟨as, h1, h2⟩ := h
  have len : ∀ n ∈ names, (setsU ru rw n).length ≤ 7 := fun n hm => by
    refine Nat.le_trans (uni_len _) ?_
    rcases tabL_mem (ru := ru) (rw := rw) (hn n hm) with e | e <;> (rw [e]; assumption)
  refine ⟨⟨_, h1, fun n hm => ?_⟩, fun n hm => by have := len n hm; omega⟩
  obtain ⟨a, e, k⟩ := kvD_get h2 hm
  refine ⟨a, e, k, uni_nd _, fun r hr => ?_, by have := len n hm; omega⟩
  have hr2 : r ∈ tabL ru rw [] n := uni_mem.mp hr
  have two : r.length ≤ 2 := by
    rcases tabL_mem (ru := ru) (rw := rw) (hn n hm) with e | e <;> rw [e] at hr2
    · exact hu r hr2
    · exact hw r hr2
  omega
theorem DictsAt.ext {H H' : Hp} {d : Addr} {names : List Str} {T : Str → List Row} (s : ExtN H H') (h : DictsAt H d names T) : DictsAt H' d names T := by
  obtain ⟨as, h1, h2⟩ := h
  exact ⟨as, s _ _ h1 fun ps z => (by cases z), h2.mono fun a n z => s _ _ z fun ps z => (by cases z)⟩
theorem SetL.ext {H H' : Hp} {d : Addr} {ru rw : List Row} (s : ExtN H H') (h : SetL H d ru rw) : SetL H' d ru rw := by
  obtain ⟨pu, pw, h1, ⟨t1, a1, b1⟩, t2, a2, b2⟩ := h
  exact ⟨pu, pw, s _ _ h1 fun ps z => (by cases z), ⟨t1, s _ _ a1 fun ps z => (by cases z), b1.mono fun a n z => z.extn s⟩, t2, s _ _ a2 fun ps z => (by cases z), b2.mono fun a n z => z.extn s⟩
theorem keepR_extn {H H' : Hp} (s : ExtN H H') : KeepR H H' := ⟨fun a xs e => s _ _ e fun ps z => (by cases z), fun a ts e => s _ _ e fun ps z => (by cases z)⟩
theorem RowsAt.ext {H H' : Hp} {d : Addr} {rs : List Row} (s : ExtN H H') (h : RowsAt H d rs) : RowsAt H' d rs := h.keepR (keepR_extn s)
/-! ### the data -/
def arD (a : Ar) : PyData := .tuple [.str a.sign, keyD a.key]
def argsD (as : List Ar) : PyData := .list (as.map arD)
def atmD (a : Atm) : PyData := .tuple [.str a.sign, .str a.name, argsD a.args]
def rulD (ρ : Rul) : PyData := .tuple [argsD ρ.head, .list (ρ.body.map atmD)]
def rulesD (rs : List Rul) : PyData := .list (rs.map rulD)
def dictsD (names : List Str) (T : Str → List Row) : PyData := .dict ((names.map PyData.str).zip (names.map fun n => setD (uniR (T n))))
def lawD3 (rules : List Rul) (T U : Str → List Row) : PyData := .list [rulesD rules, .list [dictsD (namesB rules "own") T, dictsD (namesB rules "own") U]]
theorem ar_fd {H : Hp} {t : Addr} {a : Ar} (h : ArgAt H t a) : Fd [] H (.ref t) (arD a) := .tup (sq_t (frm_tup h.tup)) (.cons (.str _) (.cons (dp_key _) .nil))
theorem args_fd {H : Hp} {t : Addr} {a : List Ar} (h : ArgsAt H t a) : Fd [] H (.ref t) (argsD a) := by
  obtain ⟨ts, h1, h2⟩ := h
  exact .lst (sq_l (frm_lst h1)) (dp_each (D := arD) (fun _ _ q => ar_fd q) h2)
theorem atm_fd {H : Hp} {t : Addr} {a : Atm} (h : AtmAt H t a) : Fd [] H (.ref t) (atmD a) := by
  obtain ⟨pa, h1, h2⟩ := h
  exact .tup (sq_t (frm_tup h1)) (.cons (.str _) (.cons (.str _) (.cons (args_fd h2) .nil)))
theorem rul_fd {H : Hp} {t : Addr} {a : Rul} (h : RulAt H t a) : Fd [] H (.ref t) (rulD a) := by
  obtain ⟨ph, pb, h1, h2, ts, h3, h4⟩ := h
  exact .tup (sq_t (frm_tup h1)) (.cons (args_fd h2) (.cons (.lst (sq_l (frm_lst h3)) (dp_each (D := atmD) (fun _ _ q => atm_fd q) h4)) .nil))
theorem rules_fd {H : Hp} {t : Addr} {a : List Rul} (h : RulesAt H t a) : Fd [] H (.ref t) (rulesD a) := by
  obtain ⟨ts, h1, h2⟩ := h
  exact .lst (sq_l (frm_lst h1)) (dp_each (D := rulD) (fun _ _ q => rul_fd q) h2)
theorem rd_dicts {X : Cx} {H : Hp} {d : Addr} {names : List Str} {T : Str → List Row} (h : DictsAt H d names T) : Readable X H (.ref d) (dictsD names T) := by
  obtain ⟨as, h1, h2⟩ := h
  have keys : ∀ {ns : List Str} {as : List Addr}, EachIs (fun a n => SetAt H a (uniR (T n))) as ns → (kvD ns as).map (fun kv => keyD kv.1) = ns.map PyData.str ∧ (kvD ns as).map (·.2) = as.map V.ref := by
    intro ns as he
    induction he with
    | nil => exact ⟨rfl, rfl⟩
    | cons h t ih => exact ⟨congrArg (PyData.str _ :: ·) ih.1, congrArg (V.ref _ :: ·) ih.2⟩
  have vals : ∀ {ns : List Str} {as : List Addr}, EachIs (fun a n => SetAt H a (uniR (T n))) as ns → ReadAll X H (as.map V.ref) (ns.map fun n => setD (uniR (T n))) := by
    intro ns as he
    induction he with
    | nil => exact ra_nil
    | cons h t ih => exact ra_cons (rd_set h) ih
  obtain ⟨k1, k2⟩ := keys h2
  have := rd_dict (X := X) (ds := names.map fun n => setD (uniR (T n))) h1 (by rw [k2]; exact vals h2) (by
    have e := congrArg List.length k2
    rw [List.length_map, List.length_map, h2.length] at e
    rw [List.length_map, e])
  rw [k1] at this
  exact this
/-- a text that is short, of data that are not deep -/
structure Prd (d : PyData) (n k : Nat) : Prop where
  pr : Pr d n
  dep : d.depth ≤ k
theorem all_dep {n : Nat} : ∀ {ds : List PyData}, (∀ d ∈ ds, d.depth ≤ n) → PyData.depthAll ds ≤ n
  | [], _ => Nat.zero_le _
  | d :: ds, h => by
    have h1 := h d List.mem_cons_self
    have h2 := all_dep (n := n) (ds := ds) fun x hx => h x (List.mem_cons_of_mem _ hx)
    simp only [PyData.depthAll]
    omega
theorem kv_dep {n : Nat} : ∀ {ds : List (PyData × PyData)}, (∀ d ∈ ds, d.1.depth ≤ n ∧ d.2.depth ≤ n) → PyData.depthKv ds ≤ n
  | [], _ => Nat.zero_le _
  | (a, b) :: ds, h => by
    have h1 := h (a, b) List.mem_cons_self
    have h2 := kv_dep (n := n) (ds := ds) fun x hx => h x (List.mem_cons_of_mem _ hx)
    simp only [PyData.depthKv]
    simp only at h1
    omega
theorem Prd.tup {ds : List PyData} {n k l : Nat} (h : ∀ d ∈ ds, Prd d n k) (hl : ds.length ≤ l) : Prd (.tuple ds) (l * (n + 2) + 3) (k + 1) :=
  ⟨tup_pr (fun d hd => (h d hd).pr) hl, by have := all_dep fun d hd => (h d hd).dep; simp only [PyData.depth]; omega⟩
theorem Prd.lst {ds : List PyData} {n k l : Nat} (h : ∀ d ∈ ds, Prd d n k) (hl : ds.length ≤ l) : Prd (.list ds) (l * (n + 2) + 2) (k + 1) :=
  ⟨lst_pr (fun d hd => (h d hd).pr) hl, by have := all_dep fun d hd => (h d hd).dep; simp only [PyData.depth]; omega⟩
theorem Prd.mono {d : PyData} {n k n' k' : Nat} (h : Prd d n k) (h1 : n ≤ n') (h2 : k ≤ k') : Prd d n' k' := ⟨h.pr.mono h1, Nat.le_trans h.dep h2⟩
theorem Prd.dict {ds : List (PyData × PyData)} {n k l : Nat} (h : ∀ d ∈ ds, Prd d.1 50 k ∧ Prd d.2 n k) (hl : ds.length ≤ l) : Prd (.dict ds) (l * (n + 54) + 2) (k + 1) :=
  ⟨dict_pr (fun d hd => ⟨(h d hd).1.pr, (h d hd).2.pr⟩) hl, by have := kv_dep fun d hd => ⟨(h d hd).1.dep, (h d hd).2.dep⟩; simp only [PyData.depth]; omega⟩
theorem Prd.txt (x : Str) (h : (reprText x).length ≤ 8) : Prd (.str x) 8 0 := ⟨⟨h, rfl⟩, by simp [PyData.depth]⟩
theorem ones_pr {x : Key} (h : x ∈ ones) : Prd (keyD x) 8 0 := by
  simp only [ones, List.mem_cons, List.not_mem_nil, or_false] at h
  rcases h with rfl | rfl | rfl | rfl
  · exact ⟨⟨by decide +kernel, by decide +kernel⟩, by simp [keyD, PyData.depth]⟩
  · exact ⟨⟨by decide +kernel, by decide +kernel⟩, by simp [keyD, PyData.depth]⟩
  · exact ⟨⟨by decide +kernel, by decide +kernel⟩, by simp [keyD, PyData.depth]⟩
  · exact Prd.txt "a" (by decide +kernel)
theorem vars_pr {n : Int} (h : n ∈ vars) : Prd (.int n) 8 0 := by
  simp only [vars, List.mem_cons, List.not_mem_nil, or_false] at h
  rcases h with rfl | rfl | rfl
  · exact ⟨⟨by decide +kernel, by decide +kernel⟩, by simp [PyData.depth]⟩
  · exact ⟨⟨by decide +kernel, by decide +kernel⟩, by simp [PyData.depth]⟩
  · exact ⟨⟨by decide +kernel, by decide +kernel⟩, by simp [PyData.depth]⟩
theorem ar_pr {a : Ar} (h : ArOk a) : Prd (arD a) 23 1 := by
  refine Prd.mono (Prd.tup (n := 8) (k := 0) (l := 2) (fun d hd => ?_) (Nat.le_refl 2)) (by decide) (by decide)
  simp only [List.mem_cons, List.not_mem_nil, or_false] at hd
  cases a with
  | c k =>
    rcases hd with rfl | rfl
    · exact Prd.txt "const" (by decide +kernel)
    · exact ones_pr h
  | v n =>
    rcases hd with rfl | rfl
    · exact Prd.txt "var" (by decide +kernel)
    · exact vars_pr h
theorem args_pr {as : List Ar} (hl : as.length ≤ 2) (h : ∀ a ∈ as, ArOk a) : Prd (argsD as) 52 2 := by
  refine Prd.mono (Prd.lst (n := 23) (k := 1) (l := 2) (fun d hd => ?_) (by rw [List.length_map]; exact hl)) (by decide) (by decide)
  obtain ⟨a, ha, rfl⟩ := List.mem_map.mp hd
  exact ar_pr (h a ha)
theorem name_pr {n : Str} (h : n = "u" ∨ n = "w" ∨ n = "own") : Prd (.str n) 8 0 := by
  rcases h with rfl | rfl | rfl <;> exact Prd.txt _ (by decide +kernel)
theorem atm_pr {a : Atm} (hn : a.name = "u" ∨ a.name = "w" ∨ a.name = "own") (hl : a.args.length ≤ 2) (h : ∀ x ∈ a.args, ArOk x) : Prd (atmD a) 165 3 := by
  refine Prd.mono (Prd.tup (n := 52) (k := 2) (l := 3) (fun d hd => ?_) (Nat.le_refl 3)) (by decide) (by decide)
  simp only [List.mem_cons, List.not_mem_nil, or_false] at hd
  rcases hd with rfl | rfl | rfl
  · have : Prd (.str a.sign) 8 0 := by
      unfold Atm.sign
      split <;> exact Prd.txt _ (by decide +kernel)
    exact this.mono (by decide) (by decide)
  · exact (name_pr hn).mono (by decide) (by decide)
  · exact args_pr hl h
theorem rul_pr {ρ : Rul} (h : RulL ρ) : Prd (rulD ρ) 2000 5 := by
  refine Prd.mono (Prd.tup (n := 837) (k := 4) (l := 2) (fun d hd => ?_) (Nat.le_refl 2)) (by decide) (by decide)
  simp only [List.mem_cons, List.not_mem_nil, or_false] at hd
  rcases hd with rfl | rfl
  · exact (args_pr h.len.2 h.head).mono (by decide) (by decide)
  · refine Prd.mono (Prd.lst (n := 165) (k := 3) (l := 5) (fun d hd => ?_) (by rw [List.length_map]; exact (yes_few h).2)) (by decide) (by decide)
    obtain ⟨a, ha, rfl⟩ := List.mem_map.mp hd
    have := h.atoms a ha
    exact atm_pr this.1 this.2.1 this.2.2
theorem row2_pr {r : Row} (hl : r.length ≤ 2) (h : OnesR r) : Prd (rowD r) 23 1 := by
  refine Prd.mono (Prd.tup (n := 8) (k := 0) (l := 2) (fun d hd => ?_) (by rw [List.length_map]; exact hl)) (by decide) (by decide)
  obtain ⟨x, hx, rfl⟩ := List.mem_map.mp hd
  exact ones_pr (h x hx)
theorem set_pr {rs : List Row} (hl : rs.length ≤ 20) (h : ∀ r ∈ rs, r.length ≤ 2 ∧ OnesR r) : Prd (setD rs) 2000 2 := by
  refine Prd.mono (Prd.dict (n := 8) (k := 1) (l := 20) (fun d hd => ?_) (by rw [List.length_map]; exact hl)) (by decide) (by decide)
  obtain ⟨r, hr, rfl⟩ := List.mem_map.mp hd
  exact ⟨(row2_pr (h r hr).1 (h r hr).2).mono (by decide) (by decide), ⟨⟨by show (PyData.bool true).shown.length ≤ 8; decide +kernel, rfl⟩, by simp [PyData.depth]⟩⟩
theorem dicts_pr {rules : List Rul} (hr : ∀ ρ ∈ rules, RulL ρ) {ru rw : List Row} (hu : ∀ r ∈ ru, r.length ≤ 2 ∧ OnesR r) (hw : ∀ r ∈ rw, r.length ≤ 2 ∧ OnesR r) (lu : ru.length ≤ 7) (lw : rw.length ≤ 7) : Prd (dictsD (namesB rules "own") (tabL ru rw [])) 5000 3 := by
  refine Prd.mono (Prd.dict (n := 2000) (k := 2) (l := 2) (fun d hd => ?_) (by rw [List.length_zip, List.length_map, List.length_map, Nat.min_self]; exact namesB_two hr)) (by decide) (by decide)
  obtain ⟨h1, h2⟩ := List.of_mem_zip (show (d.1, d.2) ∈ _ from hd)
  obtain ⟨n, hn, e1⟩ := List.mem_map.mp h1
  obtain ⟨m, hm, e2⟩ := List.mem_map.mp h2
  refine ⟨by rw [← e1]; exact (name_pr (by rcases (namesB_is hr hn).1 with z | z <;> simp [z])).mono (by decide) (by decide), ?_⟩
  rw [← e2]
  have mo := (namesB_is hr hm).2
  have key : ∀ rs : List Row, (∀ r ∈ rs, r.length ≤ 2 ∧ OnesR r) → rs.length ≤ 7 → Prd (setD (uniR rs)) 2000 2 := fun rs h l => set_pr (by have := uni_len rs; omega) fun r hr => h r (uni_mem.mp hr)
  rcases tabL_mem (ru := ru) (rw := rw) mo with e | e <;> rw [e]
  · exact key _ hu lu
  · exact key _ hw lw
theorem law_prd {rules : List Rul} (hl : rules.length ≤ 4) (hr : ∀ ρ ∈ rules, RulL ρ) {ru rw su sw : List Row} (hu : ∀ r ∈ ru, r.length ≤ 2 ∧ OnesR r) (hw : ∀ r ∈ rw, r.length ≤ 2 ∧ OnesR r) (lu : ru.length ≤ 7) (lw : rw.length ≤ 7)
    (ku : ∀ r ∈ su, r.length ≤ 2 ∧ OnesR r) (kw : ∀ r ∈ sw, r.length ≤ 2 ∧ OnesR r) (mu : su.length ≤ 7) (mw : sw.length ≤ 7) : (lawD3 rules (tabL ru rw []) (tabL su sw [])).showable = true ∧ (lawD3 rules (tabL ru rw []) (tabL su sw [])).shown.length ≤ sizeLine ∧ (lawD3 rules (tabL ru rw []) (tabL su sw [])).depth ≤ 50 := by
  have big : (50000 : Nat) ≤ sizeLine := by decide
  have h : Prd (lawD3 rules (tabL ru rw []) (tabL su sw [])) 50000 10 := by
    refine Prd.mono (Prd.lst (n := 12000) (k := 6) (l := 2) (fun d hd => ?_) (Nat.le_refl 2)) (by decide) (by decide)
    simp only [List.mem_cons, List.not_mem_nil, or_false] at hd
    rcases hd with rfl | rfl
    · refine Prd.mono (Prd.lst (n := 2000) (k := 5) (l := 4) (fun d hd => ?_) (by rw [List.length_map]; exact hl)) (by decide) (by decide)
      obtain ⟨ρ, hρ, rfl⟩ := List.mem_map.mp hd
      exact rul_pr (hr ρ hρ)
    · refine Prd.mono (Prd.lst (n := 5000) (k := 3) (l := 2) (fun d hd => ?_) (Nat.le_refl 2)) (by decide) (by decide)
      simp only [List.mem_cons, List.not_mem_nil, or_false] at hd
      rcases hd with rfl | rfl
      · exact dicts_pr hr hu hw lu lw
      · exact dicts_pr hr ku kw mu mw
  exact ⟨h.pr.sh, Nat.le_trans h.pr.len big, by have := h.dep; omega⟩
theorem all_plain3 : ∀ {ds : List PyData}, (∀ d ∈ ds, d.plain = true) → PyData.plainAll ds = true
  | [], _ => rfl
  | d :: ds, h => by simp [PyData.plainAll, h d List.mem_cons_self, all_plain3 fun x hx => h x (List.mem_cons_of_mem _ hx)]
theorem rows_plain3 (rs : List Row) : (PyData.list (rs.map rowD)).plain = true ∧ (PyData.list (rs.map rowD)).depth ≤ 60 := by
  refine ⟨all_plain3 fun d hd => ?_, ?_⟩
  · obtain ⟨r, _, rfl⟩ := List.mem_map.mp hd
    exact row_plain r
  · have := all_dep (n := 3) (ds := rs.map rowD) fun d hd => by
      obtain ⟨r, _, rfl⟩ := List.mem_map.mp hd
      exact row_depth r
    simp only [PyData.depth]
    omega
theorem ne_rows3 {K : PySem.W.Frag} {H : Hp} {p q : Addr} {a b : List Row} {Q : VK} (hp : RowsAt H p a) (hq : RowsAt H q b) (e : a = b) (h : Q (.bl false) H) : rNeP K (.ref p) (.ref q) H Q := by
  subst e
  refine ⟨_, _, dp_rows hp, dp_rows hq, (rows_plain3 a).1, (rows_plain3 a).1, (rows_plain3 a).2, ?_⟩
  rw [SeqAt.eqv_refl_plain _ (rows_plain3 a).1]
  exact h
theorem eq_rows3 {K : PySem.W.Frag} {H : Hp} {p q : Addr} {a b : List Row} {Q : VK} (hp : RowsAt H p a) (hq : RowsAt H q b) (e : a = b) (h : Q (.bl true) H) : rEqP K (.ref p) (.ref q) H Q := by
  subst e
  refine ⟨_, _, dp_rows hp, dp_rows hq, (rows_plain3 a).1, (rows_plain3 a).1, (rows_plain3 a).2, ?_⟩
  rw [SeqAt.eqv_refl_plain _ (rows_plain3 a).1]
  exact h
theorem tabs_drawn {st cl : Addr} {T : List (Addr × Str)} {H H' : Hp} (d : Drawn st cl H H') (h : StOk H st cl) (t : Tabs T H) : Tabs T H' := fun p hp => by
  obtain ⟨c, z, S⟩ := h
  obtain ⟨ps, h1, h2, h3⟩ := t p hp
  have nl : ∀ a o, H a = some o → (∀ xs, o ≠ .lst xs) → H' a = some o := fun a o q n => d.but a _ (fun e => by rw [e, S.hs] at q; exact n _ (Option.some.inj q).symm) (fun e => by rw [e, S.hc] at q; exact n _ (Option.some.inj q).symm) q
  refine ⟨ps, nl _ _ h1 (fun xs z => by cases z), h2, fun pos cv hcv => ?_⟩
  obtain ⟨c', e1, e2⟩ := h3 pos cv hcv
  exact ⟨c', e1, nl _ _ e2 fun xs z => by cases z⟩
end KA
set_option Elab.async false
set_option linter.all false
set_option maxRecDepth 100000
set_option maxHeartbeats 16000000
/-! the law's body -/
namespace KA
open PySem PySem.Spec PyProof.Rows L2 LamX
open PySem.W (EachIs)
section
variable {P : Program} {w : World} {K : PySem.W.Frag} {mg : Str → Option Value} {base : Heap} {f : Addr} {fd : FuncData}
/-- the defs that the law calls -/
structure Cals (P : Program) (w : World) (K : PySem.W.Frag) (mg : Str → Option Value) (base : Heap) (T : List (Addr × Str)) : Prop where
  CSt : Cal P w K mg base "_law_state" 1 ["script"] (spState K)
  C : DrawC P w K mg base
  CR : Cal P w K mg base "_law_rule" 5 ["state"] spRule
  CSe : Cal P w K mg base "_law_set" 3 ["state"] spSet
  CTu : Cal P w K mg base "_law_turned" 3 ["state", "rows"] spTurned
  CDi : Cal P w K mg base "_law_dicts" 1 ["rules", "sets"] spDicts
  CL : Cal P w K mg base "_law_least" 6 ["rules", "sets"] (spLeastL T)
  CLs : Cal P w K mg base "least_set" 7 ["rules", "own", "sets"] (spLeast 2 20)
  CUp : Cal P w K mg base "updated_set" 7 ["rules", "own", "olds", "news", "rows"] (spUpd 2 20)
abbrev NL : List Str := ["script", "state", "rules", "k", "olds", "news", "given", "kept", "rows", "held", "told"]
def spLaw (K : PySem.W.Frag) (T : List (Addr × Str)) : Sp := fun vs H Q _ => ∃ (a : Addr) (ns : List Int), vs = [.ref a] ∧ SqL K H a (ns.map V.int) ∧ ns.length ≤ 63 ∧ Tabs T H ∧ HeldOnly H ∧ ∀ H', Q (.bl true) H'
theorem law_body {T : List (Addr × Str)} {cdv : Value} {A : Around} {outer : List Env} {s : Shared} {H : Hp} {vs : List V} {Q : VK} {E : XK} (hG : A.guards = some []) {o0 : Obj} (hsys : s.heap.get? sysModules = some o0) (hr : Room 15 (A.deeper (envOfC "law" (defScope s_law) s.heap.objs.size f cdv)))
    (cs : Cals P w K mg base T) (gI : mg "isinstance" = none) (gR : mg "range" = none) (gP : mg "repr" = none) (gLi : mg "list" = none) (h : spLaw K T vs H Q E) :
    ∃ t, PSs (cxOf CX0 P w K mg base NL "law" (defScope s_law) f cdv A outer s H E) (defBody s_law) t ∧
      t { nx := fun _ H' => Q .non H', rt := Q } (start NL vs) H := by
    obtain ⟨CSt, C, CR, CSe, CTu, CDi, CL, CLs, CUp⟩ := cs
    obtain ⟨a, ns, rfl, hS, hl, hT, hH, q⟩ := h
    have nd := sc_law.nd
    refine ⟨_, PSs.nox (pss_cons (ps_set (i := 1) nd rfl (Or.inr rfl) (pe_cal CSt hr.lt (pa_cons (pv 0) pa_nil)))
      (pss_cons (ps_setLc (i := 2) (own := [("k", 3)]) (g := gName 3) (tt := tYes) (te := tCall spRule [] E0 (tCons (tVar 1) tNil)) (by rfl) nd rfl rfl (sw_true rfl rfl rfl (by decide +kernel))
        (pi_range1 rfl gR (pa_cons (pe_cal C hr.lt (pa_cons (pv 1) (pa_cons pe_int pa_nil))) pa_nil))
        (blkOk_by (own := [("k", 3)]) (N := NL) (sc := defScope s_law) (by decide +kernel)) (fun _ _ _ _ _ => pg_name (i := 3) nd rfl (Or.inl rfl)) (fun _ _ _ _ _ => pts_nil) (fun _ _ _ _ _ => pe_cal CR hr.lt (pa_cons (pv 1) pa_nil)))
      (pss_cons (ps_set (i := 4) nd rfl (Or.inl rfl) (pe_cal CSe hr.lt (pa_cons (pv 1) pa_nil)))
      (pss_cons (ps_set (i := 5) nd rfl (Or.inl rfl) (pe_cal CTu hr.lt (pa_cons (pv 1) (pa_cons (pv 4) pa_nil))))
      (pss_cons (ps_set (i := 6) nd rfl (Or.inl rfl) (pe_lst (pa_cons (pe_cal CDi hr.lt (pa_cons (pv 2) (pa_cons (pv 4) pa_nil))) (pa_cons (pe_cal CDi hr.lt (pa_cons (pv 2) (pa_cons (pv 5) pa_nil))) pa_nil))))
      (pss_cons (ps_set (i := 7) nd rfl (Or.inl rfl) (pe_callB (call_reprX hG hr.u64) (by rfl) gP (by decide +kernel) (pa_cons (pe_lst (pa_cons (pv 2) (pa_cons (pv 6) pa_nil))) pa_nil)))
      (pss_cons (ps_set (i := 8) nd rfl (Or.inl rfl) (pe_cal CL hr.lt (pa_cons (pv 2) (pa_cons (pv 4) pa_nil))))
      (pss_cons (ps_if (PW.pt (pw_or (pt_cmpR (op_neP hr.u64) (pe_cal CLs hr.lt (pa_cons (pv 2) (pa_cons pe_str (pa_cons (pe_ix ix_list (pv 6) pe_int (fun _ _ => rfl)) pa_nil)))) (pv 8) (nomark _))
          (pw_or1 (pt_cmpR (op_neP hr.u64) (pe_cal CLs hr.lt (pa_cons (pv 2) (pa_cons pe_str (pa_cons (pe_ix ix_list (pv 6) pe_int (fun _ _ => rfl)) pa_nil)))) (pe_cal CL hr.lt (pa_cons (pv 2) (pa_cons (pv 5) pa_nil))) (nomark _)))))
        (pss_one (ps_ret pe_bl)) pss_nil)
      (pss_cons (ps_set (i := 9) nd rfl (Or.inl rfl) (pe_callTy call_list_of (by rfl) gLi (by decide +kernel) (pa_cons (pv 8) pa_nil)))
      (pss_cons (ps_set (i := 10) nd rfl (Or.inl rfl) (pe_cal CUp hr.lt (pa_cons (pv 2) (pa_cons pe_str (pa_cons (pe_ix ix_list (pv 6) pe_int (fun _ _ => rfl)) (pa_cons (pe_ix ix_list (pv 6) pe_int (fun _ _ => rfl)) (pa_cons (pv 9) pa_nil)))))))
      (pss_cons (ps_if (PW.pt (pw_or (pt_not (pt_val (pe_callB (id := "isinstance") (r := rIsi K) call_isi (by rfl) gI (by decide +kernel) (pa_cons (pv 10) (pa_cons (pe_bltn (v := .ty "list") (by rfl) gLi (by decide +kernel) rfl) pa_nil)))))
          (pw_or (pt_cmpR (op_neP hr.u64) (pv 10) (pe_cal CL hr.lt (pa_cons (pv 2) (pa_cons (pv 5) pa_nil))) (nomark _))
          (pw_or1 (pt_cmpR op_ne (pe_callB (call_reprX hG hr.u64) (by rfl) gP (by decide +kernel) (pa_cons (pe_lst (pa_cons (pv 2) (pa_cons (pv 6) pa_nil))) pa_nil)) (pv 7) (nomark _))))))
        (pss_one (ps_ret pe_bl)) pss_nil)
      (pss_cons (ps_expr (pe_bm PySem.F.plainAttrs_list PySem.F.slot_list_append PySem.F.type_list_append mt_append (pv 10) (pa_cons (pe_tup (pa_cons pe_int pa_nil)) pa_nil)))
      (pss_one (ps_ret (pe_cmpR (op_eqP hr.u64) (pv 9) (pv 8) (nomark _)))))))))))))))), ?_⟩
    have big : (2000 : Nat) ≤ sizeLine := by decide
    refine ⟨_, rfl, a, ns, rfl, hS, hl, fun st cl H1 s1 ok1 => ?_⟩
    have t1 : Tabs T H1 := hT.ext s1
    -- rules
    refine ⟨_, rfl, st, cl, 5, rfl, ok1, by decide, by decide, fun v H2 d2 v0 v1 => ⟨_, rfl, by omega, by omega, fun pr hpr => ?_⟩⟩
    have t2 := tabs_drawn d2 ok1 t1
    refine range_draw (st := st) (cl := cl) (R := RulAt) (Ok := RulL) mono_rul d2.ok hpr (by omega) walk_range (fun _ _ _ _ y => y.1) ?_ ?_
    · rintro i x H3 hi ok3 ⟨_, rfl⟩ Q' Qn k1
      exact ⟨rfl, yes_in ⟨_, rfl, st, cl, rfl, ok3, fun t ρ H4 d4 m4 oa => k1 t ρ H4 d4 m4 oa⟩⟩
    · intro H3 ts rules d3 m3 okR lR
      have t3 := tabs_drawn d3 d2.ok t2
      have lr4 : rules.length ≤ 4 := by omega
      have ok3 := d3.ok
      have rules3 : RulesAt H3 pr rules := ⟨ts, m3.at_ (mono_and (mono_obj _ _) (mono_each mono_rul ts rules))⟩
      clear m3 d3 t2 hpr d2 t1 ok1 s1
      -- olds
      refine ⟨_, rfl, st, cl, rfl, ok3, fun po ru rw_ H4 d4 m4 lru lrw => ?_⟩
      have t4 := tabs_drawn d4 ok3 t3
      have rules4 := rules3.keepR (d4.keepR ok3)
      -- news
      obtain ⟨X4, sX4, nX4, hX4⟩ := id m4
      refine ⟨_, rfl, _, rfl, st, cl, po, ru, rw_, rfl, d4.ok, ⟨X4, sX4, ?_, ?_, hX4⟩, lru.len, lrw.len, fun pn su sw H5 d5 new5 tu tw => ?_⟩
      · obtain ⟨c, z, S⟩ := ok3
        exact nX4 _ _ S.hs
      · obtain ⟨c, z, S⟩ := ok3
        exact nX4 _ _ S.hc
      have t5 := tabs_drawn d5 d4.ok t4
      have rules5 := rules4.keepR (d5.keepR d4.ok)
      have old5 : SetL H5 po ru rw_ := (m4.drawn ok3 d5).at_ (mono_setL po ru rw_)
      have ku := turn_row tu lru.each
      have kw := turn_row tw lrw.each
      have mu := turn_len tu lru.len
      have mw := turn_len tw lrw.len
      have lu := lru.len
      have lw := lrw.len
      have ou : ∀ r ∈ ru, r.length ≤ 2 ∧ OnesR r := fun r hr => ⟨by rw [(lru.each r hr).len]; decide, (lru.each r hr).ones⟩
      have ow_ : ∀ r ∈ rw_, r.length ≤ 2 ∧ OnesR r := fun r hr => ⟨by rw [(lrw.each r hr).len]; decide, (lrw.each r hr).ones⟩
      have su2 : ∀ r ∈ su, r.length ≤ 2 ∧ OnesR r := fun r hr => ⟨by rw [(ku r hr).len]; decide, (ku r hr).ones⟩
      have sw2 : ∀ r ∈ sw, r.length ≤ 2 ∧ OnesR r := fun r hr => ⟨by rw [(kw r hr).len]; decide, (kw r hr).ones⟩
      clear sX4 nX4 hX4 m4 d4 d5 t4 t3 rules3 rules4 ok3
      -- given
      have nl := names_len lr4 okR
      have nmR : ∀ ρ ∈ rules, ∀ a ∈ ρ.body, a.name = "u" ∨ a.name = "w" ∨ a.name = "own" := fun ρ hρ a ha => ((okR ρ hρ).atoms a ha).1
      refine ⟨_, rfl, _, rfl, pr, po, rules, ru, rw_, rfl, rules5, old5, nmR, nl.2, by omega, by omega, fun H6 g0 s6 z6 gd0 => ?_⟩
      have rules6 := rules5.keepR (KeepR.of s6)
      have new6 := new5.ext (ExtN.of s6)
      have old6 := old5.ext (ExtN.of s6)
      have t6 := t5.ext s6
      refine ⟨_, rfl, _, rfl, pr, pn, rules, su, sw, rfl, rules6, new6, nmR, nl.2, by omega, by omega, fun H7 g1 s7 z7 gd1 => ⟨(by show 2 ≤ sizeLine; decide), fun pg hpg => ?_⟩⟩
      have s78 := same_new (o := .lst [V.ref g0, .ref g1]) hpg
      have s68 := s7.trans s78
      have rules8 := rules6.keepR (KeepR.of s68)
      have new8 := new6.ext (ExtN.of s68)
      have old8 := old6.ext (ExtN.of s68)
      have t8 := t6.ext s68
      have gd08 := gd0.ext (ExtN.of s68)
      have gd18 := gd1.ext (ExtN.of s78)
      have hg8 : upd H7 pg (.lst [V.ref g0, .ref g1]) pg = some (.lst [V.ref g0, .ref g1]) := upd_same
      generalize upd H7 pg (.lst [V.ref g0, .ref g1]) = H8 at s78 s68 rules8 new8 old8 t8 gd08 gd18 hg8 ⊢
      clear z6 z7 s78 s68 hpg s7 gd1 rules6 new6 old6 t6 gd0 s6 rules5 new5 old5 t5 H7 H6 H5 H4 H3
      have hex : (cxOf CX0 P w K mg base NL "law" (defScope s_law) f cdv A outer s H E).nox.ex = [] := rfl
      obtain ⟨shw, len, dep⟩ := law_prd lr4 okR ou ow_ (by omega) (by omega) su2 sw2 mu mw
      have rd : ∀ (H' : Hp) (L : Addr), RulesAt H' pr rules → DictsAt H' g0 (namesB rules "own") (tabL ru rw_ []) → DictsAt H' g1 (namesB rules "own") (tabL su sw []) → H' pg = some (.lst [V.ref g0, .ref g1]) → H' L = some (.lst [V.ref pr, .ref pg]) →
          Readable (cxOf CX0 P w K mg base NL "law" (defScope s_law) f cdv A outer s H E).nox H' (.ref L) (lawD3 rules (tabL ru rw_ []) (tabL su sw [])) := fun H' L h1 h2 h3 h4 h5 =>
        rd_lst hex hH hsys h5 (ra_cons (rd_fd hex hH hsys (rules_fd h1)) (ra_cons (rd_lst hex hH hsys h4 (ra_cons (rd_dicts h2) (ra_cons (rd_dicts h3) ra_nil))) ra_nil))
      -- kept
      refine ⟨_, rfl, _, rfl, (by show 2 ≤ sizeLine; decide), fun L hL => ?_⟩
      have e9 : ExtN H8 (upd H8 L (.lst [V.ref pr, .ref pg])) := extn_new hL
      have t9 : Tabs T (upd H8 L (.lst [V.ref pr, .ref pg])) := tabs_new hL t8
      have rules9 := rules8.keepR (keepR_extn e9)
      have new9 := new8.ext e9
      have old9 := old8.ext e9
      have gd09 := gd08.ext e9
      have gd19 := gd18.ext e9
      have hg9 := e9 _ _ hg8 fun ps z => (by cases z)
      refine ⟨L, lawD3 rules (tabL ru rw_ []) (tabL su sw []), rfl, rd _ _ rules9 gd09 gd19 hg9 upd_same, shw, len, dep, ?_⟩
      generalize upd H8 L (.lst [V.ref pr, .ref pg]) = H9 at e9 t9 rules9 new9 old9 gd09 gd19 hg9 ⊢
      clear e9 hL rules8 new8 old8 t8 gd08 gd18 hg8 H8
      have o1 := fun r hr => (ou r hr).2
      have o2 := fun r hr => (ow_ r hr).2
      have n1 := fun r hr => (su2 r hr).2
      have n2 := fun r hr => (sw2 r hr).2
      -- rows
      refine ⟨_, rfl, _, rfl, pr, po, rules, ru, rw_, rfl, rules9, by omega, okR, old9, o1, o2, t9, fun H10 qr O e10 t10 _ ndO mO hrows => ?_⟩
      have rules10 := rules9.keepR (keepR_extn e10)
      have new10 := new9.ext e10
      have gd010 := gd09.ext e10
      have gd110 := gd19.ext e10
      have hg10 := e10 _ _ hg9 fun ps z => (by cases z)
      have rb := rulsB_of lr4 okR
      have no : ∀ n ∈ namesB rules "own", ¬ n = "own" := fun n hn => (namesB_is okR hn).2
      have allO : ∀ r, Lst rules "own" (InT (setsU ru rw_)) r → r ∈ rowsAll := by
        unfold setsU
        rw [uni_inT]
        exact lst_rows okR (tabL_ones o1 o2)
      have allN : ∀ r, Lst rules "own" (InT (setsU su sw)) r → r ∈ rowsAll := by
        unfold setsU
        rw [uni_inT]
        exact lst_rows okR (tabL_ones n1 n2)
      have mO2 : ∀ r, r ∈ O ↔ Lst rules "own" (InT (setsU ru rw_)) r := by
        unfold setsU
        rw [uni_inT]
        exact mO
      have s2o := fun (G : Hp) (z : DictsAt G g0 (namesB rules "own") (tabL ru rw_ [])) => sets_of z no (by omega) (by omega) (fun r hr => (ou r hr).1) fun r hr => (ow_ r hr).1
      have s2n := fun (G : Hp) (z : DictsAt G g1 (namesB rules "own") (tabL su sw [])) => sets_of z no mu mw (fun r hr => (su2 r hr).1) fun r hr => (sw2 r hr).1
      clear e10 rules9 new9 old9 t9 gd09 gd19 hg9
      -- least_set(rules, "own", given[0]) != rows
      refine ⟨_, rfl, _, rfl, pg, _, 0, .ref g0, rfl, rfl, sq_l hg10, atI_nat (j := 0) rfl, pr, g0, "own", rules, setsU ru rw_, rowsAll, rfl, rules10, rb, (s2o _ gd010).1, (s2o _ gd010).2, allO, (by rw [rowsAll_len]; exact Nat.le_refl 20), fun H11 q1 O1 s11 _ nd1 m1 h1 => ?_⟩
      refine ⟨_, rfl, ne_rows3 h1 (hrows.ext (ExtN.of s11)) (sorted_eq nd1 ndO fun r => (m1 r).trans (mO2 r).symm) ⟨_, rfl, iteF ?_⟩⟩
      have e11 := ExtN.of s11
      have rules11 := rules10.keepR (KeepR.of s11)
      have new11 := new10.ext e11
      have gd011 := gd010.ext e11
      have gd111 := gd110.ext e11
      have hg11 := s11 _ _ hg10
      have hrows11 := hrows.ext e11
      have t11 := t10.ext s11
      clear e11 s11 rules10 new10 gd010 gd110 hg10 hrows t10 h1
      -- least_set(rules, "own", given[1]) != _law_least(rules, news)
      refine ⟨_, rfl, _, rfl, pg, _, 1, .ref g1, rfl, rfl, sq_l hg11, atI_nat (j := 1) rfl, pr, g1, "own", rules, setsU su sw, rowsAll, rfl, rules11, rb, (s2n _ gd111).1, (s2n _ gd111).2, allN, (by rw [rowsAll_len]; exact Nat.le_refl 20), fun H12 q2 O2 s12 _ nd2 m2 h2 => ?_⟩
      have e12 := ExtN.of s12
      have rules12 := rules11.keepR (KeepR.of s12)
      have new12 := new11.ext e12
      have gd012 := gd011.ext e12
      have gd112 := gd111.ext e12
      have hg12 := s12 _ _ hg11
      have hrows12 := hrows11.ext e12
      have t12 := t11.ext s12
      clear e12 s12 rules11 new11 gd011 gd111 hg11 hrows11 t11
      refine ⟨_, rfl, _, rfl, pr, pn, rules, su, sw, rfl, rules12, by omega, okR, new12, n1, n2, t12, fun H13 q3 O3 e13 t13 _ nd3 m3 h3 => ?_⟩
      have m32 : ∀ r, r ∈ O3 ↔ Lst rules "own" (InT (setsU su sw)) r := by
        unfold setsU
        rw [uni_inT]
        exact m3
      refine ne_rows3 (h2.ext e13) h3 (sorted_eq nd2 nd3 fun r => (m2 r).trans (m32 r).symm) ⟨_, rfl, iteF ?_⟩
      have rules13 := rules12.keepR (keepR_extn e13)
      have new13 := new12.ext e13
      have gd013 := gd012.ext e13
      have gd113 := gd112.ext e13
      have hg13 := e13 _ _ hg12 fun ps z => (by cases z)
      have hrows13 := hrows12.ext e13
      clear e13 rules12 new12 gd012 gd112 hg12 hrows12 t12 h2 h3 nd2 m2 nd3 m3 m32
      -- held
      obtain ⟨us, hr1, hr2⟩ := id hrows13
      refine ⟨_, rfl, qr, _, rfl, .inl (sq_l hr1), fun L2 hL2 => ?_⟩
      have s14 := same_new (o := .lst (us.map V.ref)) hL2
      have rules14 := rules13.keepR (KeepR.of s14)
      have new14 := new13.ext (ExtN.of s14)
      have gd014 := gd013.ext (ExtN.of s14)
      have gd114 := gd113.ext (ExtN.of s14)
      have hg14 := s14 _ _ hg13
      have hrows14 := hrows13.ext (ExtN.of s14)
      have t14 := t13.ext s14
      have held14 : RowsAt (upd H13 L2 (.lst (us.map V.ref))) L2 (sortRows O) := ⟨us, upd_same, hr2.mono fun _ _ z => s14 _ _ z⟩
      generalize upd H13 L2 (.lst (us.map V.ref)) = H14 at s14 rules14 new14 gd014 gd114 hg14 hrows14 t14 held14 ⊢
      clear s14 hL2 rules13 new13 gd013 gd113 hg13 hrows13 t13 hr1 hr2
      have ndS : (sortRows O).Nodup := (sortRows_perm O).nodup_iff.mpr ndO
      have mS : ∀ r, r ∈ sortRows O ↔ Lst rules "own" (InT (setsU ru rw_)) r := fun r => ((sortRows_perm O).mem_iff).trans (mO2 r)
      have lS : (sortRows O).length ≤ 20 := by
        have := nodup_le ndS fun r hr => allO r ((mS r).mp hr)
        rwa [rowsAll_len] at this
      -- told
      refine ⟨_, rfl, _, rfl, pg, _, 0, .ref g0, rfl, rfl, sq_l hg14, atI_nat (j := 0) rfl, _, rfl, pg, _, 1, .ref g1, rfl, rfl, sq_l hg14, atI_nat (j := 1) rfl, _, rfl, pr, g0, g1, L2, "own", rules, setsU ru rw_, setsU su sw, sortRows O, rowsAll, rfl, rules14, rb, (s2o _ gd014).1, (s2n _ gd114).1, (s2o _ gd014).2, (s2n _ gd114).2, fun ρ hρ n hn => ?_, held14, ndS, lS, mS, allN, (by rw [rowsAll_len]; exact Nat.le_refl 20), fun H15 q4 O4 s15 n15 nd4 m4 h4 => ?_⟩
      · have d1 : (diffR (setsU su sw n) (setsU ru rw_ n)).length ≤ 1 := by
          unfold setsU tabL
          rw [if_neg (no n hn), if_neg (no n hn)]
          split
          · exact turn_diff tu
          · exact turn_diff tw
        have := pow_few (yes_few (okR ρ hρ)).1
        exact Nat.le_trans (Nat.mul_le_mul d1 this) (by decide)
      have rules15 := rules14.keepR (KeepR.of s15)
      have new15 := new14.ext (ExtN.of s15)
      have gd015 := gd014.ext (ExtN.of s15)
      have gd115 := gd114.ext (ExtN.of s15)
      have hg15 := s15 _ _ hg14
      have hrows15 := hrows14.ext (ExtN.of s15)
      have held15 := held14.ext (ExtN.of s15)
      have t15 := t14.ext s15
      have ne1 : qr ≠ q4 := fun z => by
        obtain ⟨x, y, _⟩ := hrows14
        rw [z, n15] at y
        cases y
      have ne2 : L2 ≠ q4 := fun z => by
        obtain ⟨x, y, _⟩ := held14
        rw [z, n15] at y
        cases y
      clear s15 n15 rules14 new14 gd014 gd114 hg14 hrows14 t14 held14
      -- isinstance(told, list)
      obtain ⟨ws, hw1, hw2⟩ := id h4
      refine ⟨_, rfl, _, _, .type "list", .type "list", true, rfl, .ty "list", .base (.lst hw1), kit_ty (by decide +kernel), _, rfl, iteF ?_⟩
      -- told != _law_least(rules, news)
      refine ⟨_, rfl, _, rfl, _, rfl, pr, pn, rules, su, sw, rfl, rules15, by omega, okR, new15, n1, n2, t15, fun H16 q5 O5 e16 t16 _ nd5 m5 h5 => ?_⟩
      have m52 : ∀ r, r ∈ O5 ↔ Lst rules "own" (InT (setsU su sw)) r := by
        unfold setsU
        rw [uni_inT]
        exact m5
      refine ne_rows3 (h4.ext e16) h5 (sorted_eq nd4 nd5 fun r => (m4 r).trans (m52 r).symm) ⟨_, rfl, iteF ?_⟩
      have rules16 := rules15.keepR (keepR_extn e16)
      have gd016 := gd015.ext e16
      have gd116 := gd115.ext e16
      have hg16 := e16 _ _ hg15 fun ps z => (by cases z)
      have hrows16 := hrows15.ext e16
      have held16 := held15.ext e16
      have hw16 := e16 _ _ hw1 fun ps z => (by cases z)
      -- repr([rules, given]) != kept
      refine ⟨_, rfl, _, rfl, (by show 2 ≤ sizeLine; decide), fun L3 hL3 => ?_⟩
      have e17 : ExtN H16 (upd H16 L3 (.lst [V.ref pr, .ref pg])) := extn_new hL3
      refine ⟨L3, lawD3 rules (tabL ru rw_ []) (tabL su sw []), rfl, rd _ _ (rules16.keepR (keepR_extn e17)) (gd016.ext e17) (gd116.ext e17) (e17 _ _ hg16 fun ps z => (by cases z)) upd_same, shw, len, dep, ?_⟩
      have hrows17 := hrows16.ext e17
      have held17 := held16.ext e17
      have hw17 := e17 _ _ hw16 fun ps z => (by cases z)
      generalize upd H16 L3 (.lst [V.ref pr, .ref pg]) = H17 at e17 hrows17 held17 hw17 ⊢
      refine ⟨_, rfl, rfl, _, rfl, ?_⟩
      rw [decide_eq_true rfl]
      refine iteF ?_
      -- told.append((7,))
      refine ⟨_, rfl, .inl ⟨rfl, _, .inl (.inl hw17)⟩, (by show 1 ≤ sizeLine; decide), fun t7 ht7 => ?_⟩
      have s18 := same_new (o := .tup [V.int 7]) ht7
      have lws := hw2.length
      refine ⟨q4, _, _, rfl, rfl, s18 _ _ hw17, ?_, ?_⟩
      · rw [List.length_map, lws, (sortRows_perm O4).length_eq]
        have := nodup_le nd4 fun r hr => allN r ((m4 r).mp hr)
        rw [rowsAll_len] at this
        omega
      have k19 : KeepR (upd H17 t7 (.tup [V.int 7])) (upd (upd H17 t7 (.tup [V.int 7])) q4 (.lst (ws.map V.ref ++ [V.ref t7]))) → True := fun _ => trivial
      have at19 : ∀ {p : Addr} {l : List Row}, p ≠ q4 → RowsAt H17 p l → RowsAt (upd (upd H17 t7 (.tup [V.int 7])) q4 (.lst (ws.map V.ref ++ [V.ref t7]))) p l := fun {p l} n ⟨xs, x1, x2⟩ =>
        ⟨xs, by rw [upd_ne n]; exact s18 _ _ x1, x2.mono fun b r z => by
          have z' : H17 b = some (.tup (r.map kV)) := z
          have nb : b ≠ q4 := fun y => by rw [y, hw17] at z'; cases z'
          show upd _ _ _ b = _
          rw [upd_ne nb]
          exact s18 _ _ z'⟩
      exact ⟨_, rfl, _, rfl, eq_rows3 (at19 ne2 held17) (at19 ne1 hrows17) rfl (q _)⟩
end
end KA
set_option Elab.async false
set_option linter.all false
set_option maxRecDepth 100000
set_option maxHeartbeats 0
/-! the head's run -/
namespace KA
open PySem PySem.Spec PyProof.Rows L2
abbrev R : PySem.W.OpenRow := PySem.W.OpenLaw.row PySem.Challenge.rw_deltaloom_k03_least_sets_of_rules
def ts : List He.Tab := []
def tf : List He.Defn := [("_law_least", none)]
def cL (K : PySem.W.Frag) : Addr × Addr := He.cT K ("_law_least", none)
def ex (_ : PySem.W.Frag) : Bool := true
abbrev hk : PySem.W.Hook where
  α := He.AlX × Bool
  obs := fun s => (He.obsX 4 fa fn ts tf ex s.heap.get?, (s.heap.get? sysModules).isSome)
  val := fun w => (He.valX fn ts w, true)
  says := fun w h => (∃ K : PySem.W.Frag, K.In h ∧ He.SaysX fa fn ts tf ex w h K) ∧ ∃ o, h.get? sysModules = some o
  of := fun w s e => ⟨(He.hookX 4 fa fn ts tf ex).of w s (congrArg (fun z : He.AlX × Bool => z.1) e), Option.isSome_iff_exists.mp (congrArg (fun z : He.AlX × Bool => z.2) e)⟩
  keeps := fun w h h' ⟨y, o, e⟩ k => ⟨(He.hookX 4 fa fn ts tf ex).keeps w h h' y k, o, k _ _ e⟩
def ob (s : PySem.W.SharedT) : He.AlX × Bool := (He.obsX 4 fa fn ts tf ex (HandSHeadRun.getT s), (HandSHeadRun.getT s sysModules).isSome)
theorem ob_eq (s : PySem.W.SharedT) : ob s = hk.obs s.abs := by
  have e : HandSHeadRun.getT s = s.abs.heap.get? := funext (HandSHeadRun.getT_eq s)
  unfold ob
  rw [e]
def loose : List PySem.Str := (["Table", "enter", "rank", "row_rank", "least_set", "updated_set", "names_in_bodies", "completed", "doubtful", "tables_for", "without", "all_heads", "heads_through", "solutions", "extensions", "matched", "filled", "_law_state", "_law_draw", "_law_one", "_law_argument", "_law_atom", "_law_variables", "_law_rule", "_law_set"] : List PySem.Str) ++ (["_law_turned", "_law_instance", "_law_substitutions", "_law_holds", "_law_least", "_law_dicts"] : List PySem.Str)
theorem run (w : World) : HandSHeadRun.RunEq R (PySem.W.view R.prog [35]) hk ob 8000 loose w := by
  intro os
  kernel_rfl
end KA
set_option Elab.async false
set_option linter.all false
set_option maxRecDepth 100000
set_option maxHeartbeats 4000000
/-! the law called by the claim's caller, over a heap with tables of code objects -/
namespace KA
open PySem PySem.Spec PyProof.Rows L2 LamX
section
variable {P : Program} {w : World} {K : PySem.W.Frag} {mg : Str → Option Value} {base : Heap} {f : Addr} {fd : FuncData} {T : List (Addr × Str)}
abbrev lawN : List Str := NL
/-- the law's def, entered by callerA -/
theorem law_enter (F : FnP K "law" s_law f fd) (cs : Cals P w K mg base T) (gI : mg "isinstance" = none) (gR : mg "range" = none) (gP : mg "repr" = none) (gLi : mg "list" = none) {s : Shared} {H : Hp} {u : Value} {v : V} {Q : VK} {o0 : Obj} (sys : s.heap.get? sysModules = some o0)
    (e0 : Env0 P w K mg base callerA [] s H) (bd : BindsTo s fd ⟨[u], []⟩ [("script", u)]) (rv : RelV v u) (h : spLaw K T [v] H Q fun _ _ _ => False) :
    codeAny (model P w) callerA (.call (.ref f) ⟨[u], []⟩) (CR CX0 [] P w H s Q fun _ _ _ => False) s := by
  obtain ⟨oc, od, dV, kV, doc, pm, an, cdv, ct, osl, rfl, at_f, code_f, _, _⟩ := F.ex
  have room : Room 16 callerA := ⟨rfl, by decide, by decide⟩
  have inK : K.In s.heap := e0.mod.kin.keeps fun b o z => (e0.bs b o z).1
  have nolim : s.heap.NoLimit := e0.mod.nolimit.keeps fun b o z => (e0.bs b o z).1
  have vals1 : Vals [v] [u] := .cons rv .nil
  refine codeAny_call_function room.depth (inK _ _ at_f) rfl sc_law.co sc_law.gen rfl (PySem.W.codeRec_of inK code_f) (bd _ _ _ _ ?_)
  refine wpAny_newFunctionEnv_cells sc_law.kind (fun y hy => ?_) fun env henv s1 born => ?_
  · obtain ⟨n, z⟩ := y
    have hm := (List.of_mem_zip (show (n, z) ∈ (["script"] : List Str).zip [u] from hy)).1
    rcases sc_law.par n hm with q | q
    · exact .inl q
    · exact .inr ⟨q, PySem.W.cellsFrom_some _ _ _ (.inl q)⟩
  · subst henv
    refine ⟨nolim.keeps born.toInCall.keep, codeAny_func ?_⟩
    obtain ⟨t, ht, hq⟩ := law_body (f := f) (cdv := cdv) (A := callerA) (outer := []) (s := s) rfl sys (room.deeper _) cs gI gR gP gLi h
    have I := inv_start (CX := CX0) (E := fun _ _ _ => False) (us := [u]) sc_law room.hd e0 rfl vals1 born
    have out : ∀ {σ' : L2.St} {H' : Hp} {x : V} {z : Value} {s' : Shared}, Inv (cxOf CX0 P w K mg base lawN "law" (defScope s_law) f cdv callerA [] s H fun _ _ _ => False) [] σ' H' s' → RelV x z → Q x H' → CE [] P w H s Q z s' :=
      fun {σ' H' x z s'} J r q => ⟨x, H', J.os, J.bare, J.base, J.hok, r, q⟩
    refine wpAny_mono (ht.run [] s1 _ H _ I hq) (fun fl s' hs => ?_) fun e s' hs => hs
    match fl, hs with
    | .ret z, ⟨x, σ', H', J, r, q⟩ => exact out J r q
    | .next, ⟨σ', H', J, q⟩ => exact out (x := V.non) (z := Value.none) J rfl q
    | .brk, ⟨_, _, _, q⟩ => exact q.elim
    | .cont, ⟨_, _, _, q⟩ => exact q.elim
end
/-- the heap at the law's entry: the script, held, and the tables -/
def entryH (a : Addr) (ob : Obj) (xs : List V) (seen : Bool) (tb : List Addr) : Hp := fun b => if b ∈ tb then some (.tbl #[]) else if b = a ∧ seen = true then some (.frz ob (.lst xs)) else none
section
variable {P : Program} {w : World} {K : PySem.W.Frag} {mg mb : Str → Option Value} {f a : Addr} {fd : FuncData} {T : List (Addr × Str)}
/-- the law's answer over a heap with a script in it -/
theorem law_says {s₁ : Shared} {vs : List Value} {ns : List Int} {o0 : Obj} {tabs : List (Addr × Addr)} (inK : K.In s₁.heap) (gl : s₁.heap.Ns mainGlobals mg) (bl : s₁.heap.Ns builtinsNs mb) (bb : ∀ x : Str, x ≠ "__name__" → mb x = bootBuiltins x)
    (nolim : s₁.heap.NoLimit) (nogen : s₁.gens = #[]) (sys : s₁.heap.get? sysModules = some o0)
    (bmn : ∃ (bm : Addr) (ob : Obj), mg "__builtins__" = some (.ref bm) ∧ bm ≠ builtinsNs ∧ s₁.heap.get? bm = some ob ∧ ob.cls = .type "module" ∧ ob.dict = some builtinsNs ∧ ob.data = .plain)
    (tE : ∀ p ∈ tabs, s₁.heap.get? p.2 = some { cls := .none, data := .fields #[] }) (tN : ∀ p ∈ tabs, K.lookup p.2 = none) (tC : ∀ p ∈ tabs, PySem.W.codeHdIn K p.1 p.2 = true)
    (at_a : s₁.heap.get? a = some { cls := .type "list", data := .seq vs.toArray }) (isI : IntsAre vs ns) (few : ns.length ≤ 63)
    (F : FnP K "law" s_law f fd) (bd : ∀ (s : Shared) (u : Value), BindsTo s fd ⟨[u], []⟩ [("script", u)]) (cs : ∀ base : Heap, K.In base → base.Ns mainGlobals mg → (∀ p ∈ tabs, TabB base mg p.1 p.2) → Cals P w K mg base T)
    (hT : ∀ H : Hp, (∀ p ∈ tabs, H p.2 = some (.tbl #[])) → Tabs T H) (gI : mg "isinstance" = none) (gR : mg "range" = none) (gP : mg "repr" = none) (gLi : mg "list" = none) :
    codeAny (model P w) callerA (.call (.ref f) ⟨[.ref a], []⟩) (fun r s' => r = .ok (.ret (.bool true)) ∧ OldK s₁.heap s'.heap ∧ s'.os = s₁.os ∧ AllBare s'.gens) s₁ := by
  have rv := vals_ints isI
  have lenV := isI.length
  have few2 : ns.length ≤ sizeLine := Nat.le_trans few (by decide)
  -- what stands in a table
  have inT : ∀ {b : Addr}, b ∈ tabs.map (·.2) → ∃ p ∈ tabs, p.2 = b := fun h => List.mem_map.mp h
  have objT : ∀ {b : Addr}, b ∈ tabs.map (·.2) → s₁.heap.get? b = some { cls := .none, data := .fields #[] } := fun h => by
    obtain ⟨p, hp, rfl⟩ := inT h
    exact tE p hp
  have naT : a ∉ tabs.map (·.2) := fun h => by
    have e := (objT h).symm.trans at_a
    have e2 : Data.fields #[] = Data.seq vs.toArray _ := congrArg Obj.data (Option.some.inj e)
    cases e2
  -- for a choice whether the script is tracked
  have go : ∀ seen : Bool, SqL K (entryH a { cls := .type "list", data := .seq vs.toArray } (ns.map V.int) seen (tabs.map (·.2))) a (ns.map V.int) → (seen = true → K.lookup a = none) →
      codeAny (model P w) callerA (.call (.ref f) ⟨[.ref a], []⟩) (fun r s' => r = .ok (.ret (.bool true)) ∧ OldK s₁.heap s'.heap ∧ s'.os = s₁.os ∧ AllBare s'.gens) s₁ := by
    intro seen
    obtain ⟨H, eH⟩ : ∃ H, H = entryH a { cls := .type "list", data := .seq vs.toArray } (ns.map V.int) seen (tabs.map (·.2)) := ⟨_, rfl⟩
    rw [← eH]
    intro hS notK
    have atT : ∀ p ∈ tabs, H p.2 = some (.tbl #[]) := fun p hp => by
      rw [eH]
      exact if_pos (List.mem_map.mpr ⟨p, hp, rfl⟩)
    have cases3 : ∀ b, H b = none ∨ (b ∈ tabs.map (·.2) ∧ H b = some (.tbl #[])) ∨ (b = a ∧ seen = true ∧ H b = some (.frz { cls := .type "list", data := .seq vs.toArray } (.lst (ns.map V.int)))) := fun b => by
      rw [eH]
      unfold entryH
      by_cases h1 : b ∈ tabs.map (·.2)
      · exact .inr (.inl ⟨h1, if_pos h1⟩)
      · rw [if_neg h1]
        by_cases h2 : b = a ∧ seen = true
        · exact .inr (.inr ⟨h2.1, h2.2, if_pos h2⟩)
        · exact .inl (if_neg h2)
    have hok : HOk P w H s₁.heap := fun b u e => by
      rcases cases3 b with h | ⟨h, h'⟩ | ⟨h, _, h'⟩
      · rw [h] at e
        cases e
      · rw [h'] at e
        cases e
        exact objT h
      · rw [h'] at e
        cases e
        rw [h]
        exact ⟨at_a, by rw [List.length_map]; exact few2, vs, _, rv, at_a⟩
    have held : HeldOnly H := fun b u e => by
      rcases cases3 b with h | ⟨_, h'⟩ | ⟨_, _, h'⟩
      · rw [h] at e
        cases e
      · rw [h'] at e
        cases e
        exact .inl ⟨_, rfl⟩
      · rw [h'] at e
        cases e
        exact .inr ⟨_, _, rfl⟩
    -- what is neither a list nor a table is not tracked
    have away : ∀ {b : Addr} {o : Obj}, s₁.heap.get? b = some o → (∀ xs n, o.data ≠ .seq xs n) → (∀ xs, o.data ≠ .fields xs) → H b = none := fun {b o} e n1 n2 => by
      rcases cases3 b with h | ⟨h, _⟩ | ⟨h, _, _⟩
      · exact h
      · rw [objT h] at e
        cases e
        exact absurd rfl (n2 _)
      · rw [h, at_a] at e
        cases e
        exact absurd rfl (n1 _ _)
    have ns_of : ∀ {b : Addr} {m : Str → Option Value}, s₁.heap.Ns b m → (hidT s₁.heap H).Ns b m := fun {b m} ⟨o, es, ep, e, d, r⟩ => ⟨o, es, ep, hidT_get e (away e (fun xs n z => by rw [d] at z; cases z) fun xs z => by rw [d] at z; cases z), d, r⟩
    have K_of : K.In (hidT s₁.heap H) := fun b o e => hidT_get (inK b o e) (by
      rcases cases3 b with h | ⟨h, _⟩ | ⟨h, hs, _⟩
      · exact h
      · obtain ⟨p, hp, rfl⟩ := inT h
        rw [tN p hp] at e
        cases e
      · rw [h, notK hs] at e
        cases e)
    obtain ⟨mc, lim1, lim2⟩ := nolim
    have M1 : Mod K mg (hidT s₁.heap H) := ⟨K_of, ns_of gl, ⟨mb, ns_of bl, bb⟩, mc, ns_of lim1, lim2⟩
    have noEx : ∀ b : Addr, b ∉ ([] : List Addr) := fun b z => by cases z
    have TB : ∀ p ∈ tabs, TabB (hidT s₁.heap H) mg p.1 p.2 := fun p hp => by
      have glob : ∃ o, s₁.heap.get? mainGlobals = some o ∧ ∃ es ep, o.data = .dict es ep := let ⟨o, es, ep, e, d, _⟩ := gl; ⟨o, e, es, ep, d⟩
      obtain ⟨og, eg, es, ep, dg⟩ := glob
      obtain ⟨bm, ob, b1, b2, b3, b4, b5, b6⟩ := bmn
      refine ⟨PySem.W.codeHd_of_K K_of (tC p hp), ⟨bm, ob, b1, b2, fun z => ?_, fun z => ?_, hidT_get b3 (away b3 (fun xs n z => by rw [b6] at z; cases z) fun xs z => by rw [b6] at z; cases z), b4, b5, b6⟩, fun z => ?_⟩
      · rw [z, eg] at b3
        cases b3
        rw [dg] at b6
        cases b6
      · rw [z, tE p hp] at b3
        cases b3
        cases b6
      · rw [z, tE p hp] at eg
        cases eg
        cases dg
    have e0 : Env0 P w K mg (hidT s₁.heap H) callerA [] s₁ H := ⟨rfl, M1, fun b o e => of_hidT e, Nat.le_of_eq (hidT_size _ _), trivial, fun b z => absurd z (noEx b), hok, .of_eq nogen⟩
    refine codeAny_mono (law_enter (Q := fun v _ => v = .bl true) F (cs _ K_of (ns_of gl) TB) gI gR gP gLi sys e0 (bd s₁ (.ref a)) (v := .ref a) rfl ⟨a, ns, rfl, hS, few, hT H atT, held, fun _ => rfl⟩) fun r s' h => ?_
    match r, h with
    | .error e, h => exact (h : False).elim
    | .ok .next, h => exact (h : False).elim
    | .ok .brk, h => exact (h : False).elim
    | .ok .cont, h => exact (h : False).elim
    | .ok (.ret u), ⟨v, H', os, bare, un, hok', r', q⟩ =>
      subst q
      have eu : u = Value.bool true := r'
      subst eu
      have same : ∀ b o, b ∉ tabs.map (·.2) → s₁.heap.get? b = some o → s'.heap.get? b = some o := fun b o nt e => by
        rcases cases3 b with h | ⟨h, _⟩ | ⟨h, _, h'⟩
        · exact un.keep b o e h (noEx b) (by simp)
        · exact absurd h nt
        · obtain ⟨e1, _⟩ := hok b _ h'
          obtain ⟨e2, _⟩ := hok' b _ (un.frzs b _ _ h')
          rw [e] at e1
          cases e1
          exact e2
      have more : ∀ b, b ∈ tabs.map (·.2) → ∃ xs : Array Value, s'.heap.get? b = some { cls := .none, data := .fields xs } := fun b h => by
        obtain ⟨p, hp, rfl⟩ := inT h
        obtain ⟨xs, z⟩ := un.tbls _ _ (atT p hp)
        exact ⟨_, hok' _ _ z⟩
      refine ⟨rfl, ⟨fun b o e => ?_, fun b o e => ?_⟩, os, bare⟩
      · by_cases hb : b ∈ tabs.map (·.2)
        · obtain ⟨xs, z⟩ := more b hb
          obtain ⟨p, hp, rfl⟩ := inT hb
          rw [tE p hp] at e
          cases e
          exact .inr (.inl ⟨((PySem.W.codeHd_of_K inK (tC p hp)).tab (tE p hp)).isCodeTable, rfl, #[], xs, rfl, by rw [Array.empty_append]; exact z⟩)
        · exact .inl (same b o hb e)
      · by_cases hb : b ∈ tabs.map (·.2)
        · obtain ⟨xs, z⟩ := more b hb
          exact ⟨_, z⟩
        · exact ⟨o, same b o hb e⟩
  cases hk : K.lookup a with
  | some o =>
    have e := inK a o hk
    rw [at_a] at e
    cases e
    exact go false (.inr ⟨_, vs.toArray, _, hk, rfl, rfl, rfl, by rw [List.size_toArray, lenV]; exact few2, by simpa using rv⟩) fun z => by cases z
  | none =>
    refine go true (.inl (.inr ⟨{ cls := .type "list", data := .seq vs.toArray }, ?_⟩)) fun _ => hk
    show (if a ∈ tabs.map (·.2) then some (HO.tbl #[]) else if a = a ∧ true = true then some (HO.frz { cls := .type "list", data := .seq vs.toArray } (.lst (ns.map V.int))) else none) = _
    rw [if_neg naT, if_pos ⟨rfl, rfl⟩]
end
end KA
set_option Elab.async false
set_option linter.all false
set_option maxRecDepth 100000
set_option maxHeartbeats 4000000
/-! the facts of the top -/
namespace KA
open PySem PySem.Spec PyProof.Rows L2 LamX
section
variable {P : Program} {w : World} {K : PySem.W.Frag} {mg : Str → Option Value} {h : Heap}
/-- a def of the top, with its promise, by its name -/
theorem cal_of {x : Str} {st : Stmt} {f : Addr} {fd : FuncData} {base : Heap} {j k : Nat} {ps : List Str} {sp : Sp} (F : FnP K x st f fd) (g : mg x = some (.ref f)) (b : Binds K fd ps []) (G : FnOk P w K mg base CX0 j f fd ps sp) (h : j ≤ k := by decide) : Cal P w K mg base x k ps sp := ⟨f, fd, g, F.kp, b, G.mono h⟩
theorem code_ref {x : Str} {st : Stmt} {fd : FuncData} (F : FnP K x st (He.fAd K (x, none)) fd) : fd.code = .ref (He.codeOf K (x, none)) := by
  obtain ⟨oc, od, dV, kV, doc, pm, an, cdv, ct, osl, rfl, at_f, code_f, _, _⟩ := F.ex
  obtain ⟨c, rfl⟩ := He.codeIn_ref code_f
  rw [He.codeOf_eq at_f rfl]
theorem top_facts (X : K.In h) (G : h.Ns mainGlobals mg) {f : Addr} (gf : mg ("law" : Str) = some (.ref f)) (cx : He.SaysX fa fn ts tf ex w h K) :
    ∃ (fd : FuncData) (T : List (Addr × Str)) (tabs : List (Addr × Addr)), FnP K "law" s_law f fd ∧ (∀ (s : Shared) (u : Value), BindsTo s fd ⟨[u], []⟩ [("script", u)]) ∧
      (∀ p ∈ tabs, h.get? p.2 = some { cls := .none, data := .fields #[] }) ∧ (∀ p ∈ tabs, K.lookup p.2 = none) ∧ (∀ p ∈ tabs, PySem.W.codeHdIn K p.1 p.2 = true) ∧
      (∀ base : Heap, K.In base → base.Ns mainGlobals mg → (∀ p ∈ tabs, TabB base mg p.1 p.2) → Cals P w K mg base T) ∧ (∀ H : Hp, (∀ p ∈ tabs, H p.2 = some (.tbl #[])) → Tabs T H) ∧
      mg "isinstance" = none ∧ mg "range" = none ∧ mg "repr" = none ∧ mg "list" = none := by
  have c : He.SaysD fa fn K := cx.t.d
  obtain ⟨fd_enter, E_enter⟩ := c.def_ 0 (d := d_enter) rfl
  have F_enter : FnP K "enter" s_enter (He.ga K "enter") fd_enter := E_enter
  have g_enter := He.glo_ok X G (c.fact 0 (f := .glo "enter") rfl)
  have b_enter : Binds K fd_enter ["index", "size", "places", "row"] [] := FunD.bindsN (ps := ["index", "size", "places", "row"]) F_enter fun _ _ _ _ _ _ us hl => match us, hl with | [_, _, _, _], _ => rfl
  obtain ⟨fd_rank, E_rank⟩ := c.def_ 1 (d := d_rank) rfl
  have F_rank : FnP K "rank" s_rank (He.ga K "rank") fd_rank := E_rank
  have g_rank := He.glo_ok X G (c.fact 1 (f := .glo "rank") rfl)
  have b_rank : Binds K fd_rank ["value"] [] := FunD.bindsN (ps := ["value"]) F_rank fun _ _ _ _ _ _ us hl => match us, hl with | [_], _ => rfl
  obtain ⟨fd_row_rank, E_row_rank⟩ := c.def_ 2 (d := d_row_rank) rfl
  have F_row_rank : FnP K "row_rank" s_row_rank (He.ga K "row_rank") fd_row_rank := E_row_rank
  have g_row_rank := He.glo_ok X G (c.fact 2 (f := .glo "row_rank") rfl)
  have b_row_rank : Binds K fd_row_rank ["row"] [] := FunD.bindsN (ps := ["row"]) F_row_rank fun _ _ _ _ _ _ us hl => match us, hl with | [_], _ => rfl
  obtain ⟨fd_least_set, E_least_set⟩ := c.def_ 3 (d := d_least_set) rfl
  have F_least_set : FnP K "least_set" s_least_set (He.ga K "least_set") fd_least_set := E_least_set
  have g_least_set := He.glo_ok X G (c.fact 3 (f := .glo "least_set") rfl)
  have b_least_set : Binds K fd_least_set ["rules", "own", "sets"] [] := FunD.bindsN (ps := ["rules", "own", "sets"]) F_least_set fun _ _ _ _ _ _ us hl => match us, hl with | [_, _, _], _ => rfl
  obtain ⟨fd_updated_set, E_updated_set⟩ := c.def_ 4 (d := d_updated_set) rfl
  have F_updated_set : FnP K "updated_set" s_updated_set (He.ga K "updated_set") fd_updated_set := E_updated_set
  have g_updated_set := He.glo_ok X G (c.fact 4 (f := .glo "updated_set") rfl)
  have b_updated_set : Binds K fd_updated_set ["rules", "own", "olds", "news", "rows"] [] := FunD.bindsN (ps := ["rules", "own", "olds", "news", "rows"]) F_updated_set fun _ _ _ _ _ _ us hl => match us, hl with | [_, _, _, _, _], _ => rfl
  obtain ⟨fd_names_in_bodies, E_names_in_bodies⟩ := c.def_ 5 (d := d_names_in_bodies) rfl
  have F_names_in_bodies : FnP K "names_in_bodies" s_names_in_bodies (He.ga K "names_in_bodies") fd_names_in_bodies := E_names_in_bodies
  have g_names_in_bodies := He.glo_ok X G (c.fact 5 (f := .glo "names_in_bodies") rfl)
  have b_names_in_bodies : Binds K fd_names_in_bodies ["rules", "own"] [] := FunD.bindsN (ps := ["rules", "own"]) F_names_in_bodies fun _ _ _ _ _ _ us hl => match us, hl with | [_, _], _ => rfl
  obtain ⟨fd_completed, E_completed⟩ := c.def_ 6 (d := d_completed) rfl
  have F_completed : FnP K "completed" s_completed (He.ga K "completed") fd_completed := E_completed
  have g_completed := He.glo_ok X G (c.fact 6 (f := .glo "completed") rfl)
  have b_completed : Binds K fd_completed ["rules", "own", "sets", "rows"] [] := FunD.bindsN (ps := ["rules", "own", "sets", "rows"]) F_completed fun _ _ _ _ _ _ us hl => match us, hl with | [_, _, _, _], _ => rfl
  obtain ⟨fd_doubtful, E_doubtful⟩ := c.def_ 7 (d := d_doubtful) rfl
  have F_doubtful : FnP K "doubtful" s_doubtful (He.ga K "doubtful") fd_doubtful := E_doubtful
  have g_doubtful := He.glo_ok X G (c.fact 7 (f := .glo "doubtful") rfl)
  have b_doubtful : Binds K fd_doubtful ["rules", "own", "olds", "news", "rows"] [] := FunD.bindsN (ps := ["rules", "own", "olds", "news", "rows"]) F_doubtful fun _ _ _ _ _ _ us hl => match us, hl with | [_, _, _, _, _], _ => rfl
  obtain ⟨fd_tables_for, E_tables_for⟩ := c.def_ 8 (d := d_tables_for) rfl
  have F_tables_for : FnP K "tables_for" s_tables_for (He.ga K "tables_for") fd_tables_for := E_tables_for
  have g_tables_for := He.glo_ok X G (c.fact 8 (f := .glo "tables_for") rfl)
  have b_tables_for : Binds K fd_tables_for ["rules", "own", "sets", "rows"] [] := FunD.bindsN (ps := ["rules", "own", "sets", "rows"]) F_tables_for fun _ _ _ _ _ _ us hl => match us, hl with | [_, _, _, _], _ => rfl
  obtain ⟨fd_without, E_without⟩ := c.def_ 9 (d := d_without) rfl
  have F_without : FnP K "without" s_without (He.ga K "without") fd_without := E_without
  have g_without := He.glo_ok X G (c.fact 9 (f := .glo "without") rfl)
  have b_without : Binds K fd_without ["rows", "others"] [] := FunD.bindsN (ps := ["rows", "others"]) F_without fun _ _ _ _ _ _ us hl => match us, hl with | [_, _], _ => rfl
  obtain ⟨fd_all_heads, E_all_heads⟩ := c.def_ 10 (d := d_all_heads) rfl
  have F_all_heads : FnP K "all_heads" s_all_heads (He.ga K "all_heads") fd_all_heads := E_all_heads
  have g_all_heads := He.glo_ok X G (c.fact 10 (f := .glo "all_heads") rfl)
  have b_all_heads : Binds K fd_all_heads ["rules", "tables"] [] := FunD.bindsN (ps := ["rules", "tables"]) F_all_heads fun _ _ _ _ _ _ us hl => match us, hl with | [_, _], _ => rfl
  obtain ⟨fd_heads_through, E_heads_through⟩ := c.def_ 11 (d := d_heads_through) rfl
  have F_heads_through : FnP K "heads_through" s_heads_through (He.ga K "heads_through") fd_heads_through := E_heads_through
  have g_heads_through := He.glo_ok X G (c.fact 11 (f := .glo "heads_through") rfl)
  have b_heads_through : Binds K fd_heads_through ["rules", "changed", "tables"] [] := FunD.bindsN (ps := ["rules", "changed", "tables"]) F_heads_through fun _ _ _ _ _ _ us hl => match us, hl with | [_, _, _], _ => rfl
  obtain ⟨fd_solutions, E_solutions⟩ := c.def_ 12 (d := d_solutions) rfl
  have F_solutions : FnP K "solutions" s_solutions (He.ga K "solutions") fd_solutions := E_solutions
  have g_solutions := He.glo_ok X G (c.fact 12 (f := .glo "solutions") rfl)
  have b_solutions : Binds K fd_solutions ["starts", "atoms", "tables"] [] := FunD.bindsN (ps := ["starts", "atoms", "tables"]) F_solutions fun _ _ _ _ _ _ us hl => match us, hl with | [_, _, _], _ => rfl
  obtain ⟨fd_extensions, E_extensions⟩ := c.def_ 13 (d := d_extensions) rfl
  have F_extensions : FnP K "extensions" s_extensions (He.ga K "extensions") fd_extensions := E_extensions
  have g_extensions := He.glo_ok X G (c.fact 13 (f := .glo "extensions") rfl)
  have b_extensions : Binds K fd_extensions ["arguments", "known", "table"] [] := FunD.bindsN (ps := ["arguments", "known", "table"]) F_extensions fun _ _ _ _ _ _ us hl => match us, hl with | [_, _, _], _ => rfl
  obtain ⟨fd_matched, E_matched⟩ := c.def_ 14 (d := d_matched) rfl
  have F_matched : FnP K "matched" s_matched (He.ga K "matched") fd_matched := E_matched
  have g_matched := He.glo_ok X G (c.fact 14 (f := .glo "matched") rfl)
  have b_matched : Binds K fd_matched ["arguments", "row", "known"] [] := FunD.bindsN (ps := ["arguments", "row", "known"]) F_matched fun _ _ _ _ _ _ us hl => match us, hl with | [_, _, _], _ => rfl
  obtain ⟨fd_filled, E_filled⟩ := c.def_ 15 (d := d_filled) rfl
  have F_filled : FnP K "filled" s_filled (He.ga K "filled") fd_filled := E_filled
  have g_filled := He.glo_ok X G (c.fact 15 (f := .glo "filled") rfl)
  have b_filled : Binds K fd_filled ["arguments", "known"] [] := FunD.bindsN (ps := ["arguments", "known"]) F_filled fun _ _ _ _ _ _ us hl => match us, hl with | [_, _], _ => rfl
  obtain ⟨fd__law_state, E__law_state⟩ := c.def_ 16 (d := d__law_state) rfl
  have F__law_state : FnP K "_law_state" s__law_state (He.ga K "_law_state") fd__law_state := E__law_state
  have g__law_state := He.glo_ok X G (c.fact 16 (f := .glo "_law_state") rfl)
  have b__law_state : Binds K fd__law_state ["script"] [] := FunD.bindsN (ps := ["script"]) F__law_state fun _ _ _ _ _ _ us hl => match us, hl with | [_], _ => rfl
  obtain ⟨fd__law_draw, E__law_draw⟩ := c.def_ 17 (d := d__law_draw) rfl
  have F__law_draw : FnP K "_law_draw" s__law_draw (He.ga K "_law_draw") fd__law_draw := E__law_draw
  have g__law_draw := He.glo_ok X G (c.fact 17 (f := .glo "_law_draw") rfl)
  have b__law_draw : Binds K fd__law_draw ["state", "many"] [] := FunD.bindsN (ps := ["state", "many"]) F__law_draw fun _ _ _ _ _ _ us hl => match us, hl with | [_, _], _ => rfl
  obtain ⟨fd__law_one, E__law_one⟩ := c.def_ 18 (d := d__law_one) rfl
  have F__law_one : FnP K "_law_one" s__law_one (He.ga K "_law_one") fd__law_one := E__law_one
  have g__law_one := He.glo_ok X G (c.fact 18 (f := .glo "_law_one") rfl)
  have b__law_one : Binds K fd__law_one ["state"] [] := FunD.bindsN (ps := ["state"]) F__law_one fun _ _ _ _ _ _ us hl => match us, hl with | [_], _ => rfl
  obtain ⟨fd__law_argument, E__law_argument⟩ := c.def_ 19 (d := d__law_argument) rfl
  have F__law_argument : FnP K "_law_argument" s__law_argument (He.ga K "_law_argument") fd__law_argument := E__law_argument
  have g__law_argument := He.glo_ok X G (c.fact 19 (f := .glo "_law_argument") rfl)
  have b__law_argument : Binds K fd__law_argument ["state"] [] := FunD.bindsN (ps := ["state"]) F__law_argument fun _ _ _ _ _ _ us hl => match us, hl with | [_], _ => rfl
  obtain ⟨fd__law_atom, E__law_atom⟩ := c.def_ 20 (d := d__law_atom) rfl
  have F__law_atom : FnP K "_law_atom" s__law_atom (He.ga K "_law_atom") fd__law_atom := E__law_atom
  have g__law_atom := He.glo_ok X G (c.fact 20 (f := .glo "_law_atom") rfl)
  have b__law_atom : Binds K fd__law_atom ["state", "sign", "names"] [] := FunD.bindsN (ps := ["state", "sign", "names"]) F__law_atom fun _ _ _ _ _ _ us hl => match us, hl with | [_, _, _], _ => rfl
  obtain ⟨fd__law_variables, E__law_variables⟩ := c.def_ 21 (d := d__law_variables) rfl
  have F__law_variables : FnP K "_law_variables" s__law_variables (He.ga K "_law_variables") fd__law_variables := E__law_variables
  have g__law_variables := He.glo_ok X G (c.fact 21 (f := .glo "_law_variables") rfl)
  have b__law_variables : Binds K fd__law_variables ["arguments"] [] := FunD.bindsN (ps := ["arguments"]) F__law_variables fun _ _ _ _ _ _ us hl => match us, hl with | [_], _ => rfl
  obtain ⟨fd__law_rule, E__law_rule⟩ := c.def_ 22 (d := d__law_rule) rfl
  have F__law_rule : FnP K "_law_rule" s__law_rule (He.ga K "_law_rule") fd__law_rule := E__law_rule
  have g__law_rule := He.glo_ok X G (c.fact 22 (f := .glo "_law_rule") rfl)
  have b__law_rule : Binds K fd__law_rule ["state"] [] := FunD.bindsN (ps := ["state"]) F__law_rule fun _ _ _ _ _ _ us hl => match us, hl with | [_], _ => rfl
  obtain ⟨fd__law_set, E__law_set⟩ := c.def_ 23 (d := d__law_set) rfl
  have F__law_set : FnP K "_law_set" s__law_set (He.ga K "_law_set") fd__law_set := E__law_set
  have g__law_set := He.glo_ok X G (c.fact 23 (f := .glo "_law_set") rfl)
  have b__law_set : Binds K fd__law_set ["state"] [] := FunD.bindsN (ps := ["state"]) F__law_set fun _ _ _ _ _ _ us hl => match us, hl with | [_], _ => rfl
  obtain ⟨fd__law_turned, E__law_turned⟩ := c.def_ 24 (d := d__law_turned) rfl
  have F__law_turned : FnP K "_law_turned" s__law_turned (He.ga K "_law_turned") fd__law_turned := E__law_turned
  have g__law_turned := He.glo_ok X G (c.fact 24 (f := .glo "_law_turned") rfl)
  have b__law_turned : Binds K fd__law_turned ["state", "rows"] [] := FunD.bindsN (ps := ["state", "rows"]) F__law_turned fun _ _ _ _ _ _ us hl => match us, hl with | [_, _], _ => rfl
  obtain ⟨fd__law_instance, E__law_instance⟩ := c.def_ 25 (d := d__law_instance) rfl
  have F__law_instance : FnP K "_law_instance" s__law_instance (He.ga K "_law_instance") fd__law_instance := E__law_instance
  have g__law_instance := He.glo_ok X G (c.fact 25 (f := .glo "_law_instance") rfl)
  have b__law_instance : Binds K fd__law_instance ["arguments", "names"] [] := FunD.bindsN (ps := ["arguments", "names"]) F__law_instance fun _ _ _ _ _ _ us hl => match us, hl with | [_, _], _ => rfl
  obtain ⟨fd__law_substitutions, E__law_substitutions⟩ := c.def_ 26 (d := d__law_substitutions) rfl
  have F__law_substitutions : FnP K "_law_substitutions" s__law_substitutions (He.ga K "_law_substitutions") fd__law_substitutions := E__law_substitutions
  have g__law_substitutions := He.glo_ok X G (c.fact 26 (f := .glo "_law_substitutions") rfl)
  have b__law_substitutions : Binds K fd__law_substitutions [] [] := FunD.bindsN (ps := []) F__law_substitutions fun _ _ _ _ _ _ us hl => match us, hl with | [], _ => rfl
  obtain ⟨fd__law_holds, E__law_holds⟩ := c.def_ 27 (d := d__law_holds) rfl
  have F__law_holds : FnP K "_law_holds" s__law_holds (He.ga K "_law_holds") fd__law_holds := E__law_holds
  have g__law_holds := He.glo_ok X G (c.fact 27 (f := .glo "_law_holds") rfl)
  have b__law_holds : Binds K fd__law_holds ["body", "names", "sets", "own"] [] := FunD.bindsN (ps := ["body", "names", "sets", "own"]) F__law_holds fun _ _ _ _ _ _ us hl => match us, hl with | [_, _, _, _], _ => rfl
  obtain ⟨fd__law_least, E__law_least⟩ := c.def_ 28 (d := d__law_least) rfl
  have F__law_least : FnP K "_law_least" s__law_least (He.ga K "_law_least") fd__law_least := E__law_least
  have g__law_least := He.glo_ok X G (c.fact 28 (f := .glo "_law_least") rfl)
  have b__law_least : Binds K fd__law_least ["rules", "sets"] [] := FunD.bindsN (ps := ["rules", "sets"]) F__law_least fun _ _ _ _ _ _ us hl => match us, hl with | [_, _], _ => rfl
  obtain ⟨fd__law_dicts, E__law_dicts⟩ := c.def_ 29 (d := d__law_dicts) rfl
  have F__law_dicts : FnP K "_law_dicts" s__law_dicts (He.ga K "_law_dicts") fd__law_dicts := E__law_dicts
  have g__law_dicts := He.glo_ok X G (c.fact 29 (f := .glo "_law_dicts") rfl)
  have b__law_dicts : Binds K fd__law_dicts ["rules", "sets"] [] := FunD.bindsN (ps := ["rules", "sets"]) F__law_dicts fun _ _ _ _ _ _ us hl => match us, hl with | [_, _], _ => rfl
  obtain ⟨fd_law, E_law⟩ := c.def_ 30 (d := d_law) rfl
  have F_law : FnP K "law" s_law (He.ga K "law") fd_law := E_law
  have g_law := He.glo_ok X G (c.fact 30 (f := .glo "law") rfl)
  have n_len := He.free_ok X G (c.fact 31 (f := .free "len") rfl)
  have n_range := He.free_ok X G (c.fact 32 (f := .free "range") rfl)
  have n_int := He.free_ok X G (c.fact 33 (f := .free "int") rfl)
  have n_abs := He.free_ok X G (c.fact 34 (f := .free "abs") rfl)
  have n_isinstance := He.free_ok X G (c.fact 35 (f := .free "isinstance") rfl)
  have n_tuple := He.free_ok X G (c.fact 36 (f := .free "tuple") rfl)
  have n_sorted := He.free_ok X G (c.fact 37 (f := .free "sorted") rfl)
  have n_repr := He.free_ok X G (c.fact 38 (f := .free "repr") rfl)
  have n_list := He.free_ok X G (c.fact 39 (f := .free "list") rfl)
  have n_str := He.free_ok X G (c.fact 40 (f := .free "str") rfl)
  have n_dict := He.free_ok X G (c.fact 41 (f := .free "dict") rfl)
  have n_enumerate := He.free_ok X G (c.fact 42 (f := .free "enumerate") rfl)
  have n_zip := He.free_ok X G (c.fact 43 (f := .free "zip") rfl)
  obtain ⟨fd_init, E_init⟩ := c.def_ 31 (d := d_Table___init__) rfl
  have F_init : FnM K "__init__" "Table.__init__" s_Table___init__ (He.ma K (He.ga K "Table") "__init__") fd_init := E_init
  have b_init : Binds K fd_init ["self", "rows"] [] := FunD.bindsN (ps := ["self", "rows"]) F_init fun _ _ _ _ _ _ us hl => match us, hl with | [_, _], _ => rfl
  obtain ⟨fd_put, E_put⟩ := c.def_ 32 (d := d_Table_put) rfl
  have F_put : FnM K "put" "Table.put" s_Table_put (He.ma K (He.ga K "Table") "put") fd_put := E_put
  have b_put : Binds K fd_put ["self", "row"] [] := FunD.bindsN (ps := ["self", "row"]) F_put fun _ _ _ _ _ _ us hl => match us, hl with | [_, _], _ => rfl
  obtain ⟨fd_matching, E_matching⟩ := c.def_ 33 (d := d_Table_matching) rfl
  have F_matching : FnM K "matching" "Table.matching" s_Table_matching (He.ma K (He.ga K "Table") "matching") fd_matching := E_matching
  have b_matching : Binds K fd_matching ["self", "size", "places", "items"] [] := FunD.bindsN (ps := ["self", "size", "places", "items"]) F_matching fun _ _ _ _ _ _ us hl => match us, hl with | [_, _, _, _], _ => rfl
  have gT := He.glo_ok X G (c.fact 44 (f := .glo "Table") rfl)
  have TC : TabC K mg (He.ga K "Table") := ⟨He.cls_ok (c.fact 45 (f := .cls "Table") rfl), He.noat_ok (c.fact 46 (f := .noat "Table" "rows") rfl), He.noat_ok (c.fact 47 (f := .noat "Table" "indexes") rfl), gT⟩
  have mkT := He.mkr_ok (c.fact 48 (f := .mkr "Table") rfl)
  have mP := He.meth_ok (c.fact 49 (f := .meth "Table" "put") rfl)
  have mM := He.meth_ok (c.fact 50 (f := .meth "Table" "matching") rfl)
  have e := gf.symm.trans g_law
  cases e
  have bd := FunD.bindsA (ps := ["script"]) F_law fun _ _ _ _ _ _ us hl => match us, hl with | [_], _ => rfl
  refine ⟨fd_law, [((cL K).2, lamL)], [cL K], F_law, fun s u => bd s [u] rfl, fun p hp => ?_, fun p hp => ?_, fun p hp => ?_, fun base _ _ TB => ?_, fun H hH p hp => ?_, n_isinstance, n_range, n_repr, n_list⟩
  · rw [List.mem_singleton.mp hp]
    exact cx.empty ("_law_least", none) (by simp [tf])
  · rw [List.mem_singleton.mp hp]
    exact cx.out ("_law_least", none) (by simp [tf])
  · rw [List.mem_singleton.mp hp]
    exact cx.hd ("_law_least", none) (by simp [tf])
  · have TL : TabB base mg (cL K).1 (cL K).2 := TB _ List.mem_cons_self
    have eL : fd__law_least.code = .ref (cL K).1 := code_ref F__law_least
    have mL : ((cL K).2, lamL) ∈ [((cL K).2, lamL)] := List.mem_cons_self
    have uL : ∀ p ∈ [((cL K).2, lamL)], p.1 = (cL K).2 → p.2 = lamL := fun p hp e => by rw [List.mem_singleton.mp hp]
    generalize [((cL K).2, lamL)] = T at mL uL ⊢
    generalize eC : He.ga K "Table" = C at TC mkT mP mM F_init F_put F_matching
    have c_enter : Cal P w K mg base "enter" 1 ["index", "size", "places", "row"] spEnter := cal_of F_enter g_enter b_enter (ok_enter F_enter n_len n_tuple)
    have c_rank : Cal P w K mg base "rank" 1 ["value"] (spRank K) := cal_of F_rank g_rank b_rank (ok_rank F_rank n_isinstance n_str)
    have c_row_rank : Cal P w K mg base "row_rank" 2 ["row"] (spKey K rankRow) := cal_of F_row_rank g_row_rank b_row_rank (ok_row_rank F_row_rank n_tuple c_rank)
    have c_names : Cal P w K mg base "names_in_bodies" 1 ["rules", "own"] spNamesB := cal_of F_names_in_bodies g_names_in_bodies b_names_in_bodies (ok_names_in_bodies F_names_in_bodies n_list)
    have MI : MakeC P w K mg base C 1 ["self", "rows"] (spInit P w C) := ⟨_, fd_init, mkT, ok_init F_init TC, b_init⟩
    have MP : MethC P w K mg base C "put" 2 ["self", "row"] (spPut P w C (allIx 2)) := ⟨_, fd_put, mP, ok_put F_put TC n_list c_enter, b_put⟩
    have MM : MethC P w K mg base C "matching" 2 ["self", "size", "places", "items"] (spMatch P w C (allIx 2)) := ⟨_, fd_matching, mM, ok_matching (by decide +kernel) F_matching TC n_list c_enter, b_matching⟩
    have c_tabs : Cal P w K mg base "tables_for" 3 ["rules", "own", "sets", "rows"] (spTabs P w C 2) := cal_of F_tables_for g_tables_for b_tables_for (ok_tables_for F_tables_for TC c_names MI)
    have c_without : Cal P w K mg base "without" 1 ["rows", "others"] spWithout := cal_of F_without g_without b_without (ok_without F_without)
    have c_filled : Cal P w K mg base "filled" 1 ["arguments", "known"] spFilled := cal_of F_filled g_filled b_filled (ok_filled F_filled n_tuple)
    have c_matched : Cal P w K mg base "matched" 1 ["arguments", "row", "known"] spMatched := cal_of F_matched g_matched b_matched (ok_matched F_matched n_len n_dict n_zip)
    have c_exts : Cal P w K mg base "extensions" 3 ["arguments", "known", "table"] (spExts P w C 2) := cal_of F_extensions g_extensions b_extensions (ok_exts (by decide) F_extensions TC n_enumerate n_len n_tuple c_filled c_matched MM)
    have c_sols : Cal P w K mg base "solutions" 4 ["starts", "atoms", "tables"] (spSols P w C 2 20) := cal_of F_solutions g_solutions b_solutions (ok_sols (by decide) (by decide) (by decide) F_solutions TC c_filled c_exts)
    have c_allh : Cal P w K mg base "all_heads" 5 ["rules", "tables"] (spAllH P w C 2 20) := cal_of F_all_heads g_all_heads b_all_heads (ok_all_heads (by decide) (by decide) (by decide) F_all_heads c_filled c_sols)
    have c_thru : Cal P w K mg base "heads_through" 5 ["rules", "changed", "tables"] (spThru P w C 2 20) := cal_of F_heads_through g_heads_through b_heads_through (ok_heads_through (by decide) (by decide) (by decide) F_heads_through n_enumerate c_filled c_matched c_sols)
    have c_compl : Cal P w K mg base "completed" 6 ["rules", "own", "sets", "rows"] (spCompl P w 2 20) := cal_of F_completed g_completed b_completed (ok_completed (by decide) (by decide) (by decide) F_completed TC n_sorted c_tabs c_allh c_without MP c_thru c_row_rank)
    have c_doubt : Cal P w K mg base "doubtful" 6 ["rules", "own", "olds", "news", "rows"] (spDoubt P w 2 20) := cal_of F_doubtful g_doubtful b_doubtful (ok_doubtful (by decide) (by decide) (by decide) F_doubtful TC c_tabs c_names c_without c_thru)
    have c_least : Cal P w K mg base "least_set" 7 ["rules", "own", "sets"] (spLeast 2 20) := cal_of F_least_set g_least_set b_least_set (ok_least_set F_least_set c_compl)
    have c_upd : Cal P w K mg base "updated_set" 7 ["rules", "own", "olds", "news", "rows"] (spUpd 2 20) := cal_of F_updated_set g_updated_set b_updated_set (ok_updated_set (by decide) F_updated_set c_compl c_doubt)
    -- the law's
    have l_state : Cal P w K mg base "_law_state" 1 ["script"] (spState K) := cal_of F__law_state g__law_state b__law_state (ok_state F__law_state n_int n_abs)
    have l_draw : Cal P w K mg base "_law_draw" 1 ["state", "many"] spDraw := cal_of F__law_draw g__law_draw b__law_draw (ok_draw F__law_draw n_int n_len n_range)
    have l_one : Cal P w K mg base "_law_one" 2 ["state"] spOne := cal_of F__law_one g__law_one b__law_one (ok_one F__law_one l_draw)
    have l_arg : Cal P w K mg base "_law_argument" 3 ["state"] spArgument := cal_of F__law_argument g__law_argument b__law_argument (ok_argument F__law_argument l_draw l_one)
    have l_atom : Cal P w K mg base "_law_atom" 4 ["state", "sign", "names"] spAtom := cal_of F__law_atom g__law_atom b__law_atom (ok_atom F__law_atom n_len n_range l_draw l_arg)
    have l_vars : Cal P w K mg base "_law_variables" 1 ["arguments"] spVars := cal_of F__law_variables g__law_variables b__law_variables (ok_variables F__law_variables)
    have l_rule : Cal P w K mg base "_law_rule" 5 ["state"] spRule := cal_of F__law_rule g__law_rule b__law_rule (ok_rule F__law_rule n_len n_range l_draw l_arg l_atom l_vars)
    have l_set : Cal P w K mg base "_law_set" 3 ["state"] spSet := cal_of F__law_set g__law_set b__law_set (ok_set F__law_set n_range l_draw l_one)
    have l_turned : Cal P w K mg base "_law_turned" 3 ["state", "rows"] spTurned := cal_of F__law_turned g__law_turned b__law_turned (ok_turned F__law_turned n_range n_int n_tuple l_draw l_one)
    have l_inst : Cal P w K mg base "_law_instance" 1 ["arguments", "names"] spFilled := cal_of F__law_instance g__law_instance b__law_instance (ok_instance F__law_instance n_tuple)
    have l_subst : Cal P w K mg base "_law_substitutions" 1 [] spSubst := cal_of F__law_substitutions g__law_substitutions b__law_substitutions (ok_substitutions F__law_substitutions n_dict)
    have l_holds : Cal P w K mg base "_law_holds" 2 ["body", "names", "sets", "own"] spHolds := cal_of F__law_holds g__law_holds b__law_holds (ok_holds F__law_holds l_inst)
    have l_dicts : Cal P w K mg base "_law_dicts" 1 ["rules", "sets"] spDicts := cal_of F__law_dicts g__law_dicts b__law_dicts (ok_dicts F__law_dicts)
    have l_least : Cal P w K mg base "_law_least" 6 ["rules", "sets"] (spLeastL T) := cal_of F__law_least g__law_least b__law_least (ok_lleast F__law_least eL TL mL uL n_sorted n_len n_range n_isinstance n_int l_inst l_subst l_holds)
    exact ⟨l_state, l_draw, l_rule, l_set, l_turned, l_dicts, l_least, c_least, c_upd⟩
  · rw [List.mem_singleton.mp hp]
    exact ⟨#[], hH _ List.mem_cons_self, trivial, fun pos cv z => by cases z⟩
end
end KA
set_option Elab.async false
set_option linter.all false
set_option maxRecDepth 100000
set_option maxHeartbeats 0
/-! the end -/
open PySem PySem.W PySem.Calls PyProof.Rows
theorem PySem.Challenge.cw_deltaloom_k03_least_sets_of_rules_holds : PySem.Challenge.rw_deltaloom_k03_least_sets_of_rules.Holds := by
  w_on; o_law
  refine HandSHeadRun.head_any (r := OpenLaw.row PySem.Challenge.rw_deltaloom_k03_least_sets_of_rules) (q := view (OpenLaw.row PySem.Challenge.rw_deltaloom_k03_least_sets_of_rules).prog [35]) (H := KA.hk) (ob := KA.ob) (M := 8000) (loose := KA.loose) (d := HandSHeadRun.topDef (OpenLaw.row PySem.Challenge.rw_deltaloom_k03_least_sets_of_rules).prog 35) (kwd := []) KA.ob_eq
    (by kernel_rfl) (fun s => by kernel_rfl) KA.run (by kernel_rfl) (by kernel_rfl) (by kernel_rfl) (by rfl) (by first | assumption | decide +kernel) (by decide +kernel) ⟨rfl, rfl, rfl, rfl, rfl, by decide +kernel⟩ ?hw ?hc
  case hw => w_witness2
  case hc =>
    have nm : (HandSHeadRun.topDef (OpenLaw.row PySem.Challenge.rw_deltaloom_k03_least_sets_of_rules).prog 35).name = ("law" : PySem.Str) := by kernel_rfl
    have df : (HandSHeadRun.topDef (OpenLaw.row PySem.Challenge.rw_deltaloom_k03_least_sets_of_rules).prog 35).params.defaults = [] := by kernel_rfl
    refine Att.attach_call (l := PySem.Challenge.rw_deltaloom_k03_least_sets_of_rules) (n := 63) rfl df fun w s₀ s₁ mg mb fa o pm cd doc a vs ns G Y ho hd hcd hmg hobj hints hlen hg => ?_
    obtain ⟨⟨K, KX, c⟩, o0, sys⟩ := Y
    have hlaw : mg ("law" : PySem.Str) = some (.ref fa) := by
      rw [← nm]
      exact hmg
    obtain ⟨fd, T, tabs, F, bd, tE, tN, tC, cs, hT, gI, gR, gP, gLi⟩ := KA.top_facts (P := PySem.Challenge.rw_deltaloom_k03_least_sets_of_rules.prog) (w := w) KX G.T.g hlaw c
    exact KA.law_says KX G.T.g G.T.b G.T.builtins G.T.nolimit hg sys G.T.bmain tE tN tC hobj hints hlen F bd cs hT gI gR gP gLi
