import PyProof.Rows.All
import Wide.All
import OpenK.AllK
import Wide.FinOn
import HandS.Base
import HandS.Dict
import KE.SortData
import KE.LtData
import KE.SortCalls
import KE.DataEq
import KE.SortKeyHeap
import HandS.ForMost
import HandS.Defaults
import HandS.WordsExc
import HandS.SortKw
import HandS.ExcValue
import HandS.IsInst
import HandS.Wide
import HandS.Walk
import KE.KStateDown
import Lean
import HandS.More
import HandS.Head0
import HandS.Head1
import HandS.Head2
import HandS.HeadEnd
import HandS.HeadHook1
import HandS.HeadHook2
import PySem.Challenge.RW_deltaloom_k11_whole_disks_after_crashes
import HandS.ForExc
import HandS.ExcOwn
import HandS.RaiseMore
import HandS.FStr
import HandS.StrMore
import HandS.List
import HandS.Text
import HandS.Codes
import PyProof.StrWalks
import HandS.CallLocal
import HandS.JoinGen
import HandS.DictComp
import HandS.TryOnly
import KE.KRevSl
import HandS.ExcIs
import HandS.HeadHook4
set_option Elab.async false
set_option linter.all false
set_option maxRecDepth 100000
set_option maxHeartbeats 4000000
/-! bags as lists of rows and counts: sums by row, the sorted form, and that it is the only one -/
namespace KA
open PySem PySem.W L2
abbrev Row := List Key
abbrev Bag := List (Row × Int)
/-! ### the order of values and rows -/
def sLt (a b : Str) : Bool := decide (a.cps.toList < b.cps.toList)
def oneLt : Key → Key → Bool
  | .inl i, .inl j => decide (i < j)
  | .inl _, .inr _ => true
  | .inr _, .inl _ => false
  | .inr x, .inr y => sLt x y
def rowLt : Row → Row → Bool
  | [], [] => false
  | [], _ :: _ => true
  | _ :: _, [] => false
  | a :: r, b :: t => if a = b then rowLt r t else oneLt a b
theorem str_ext {a b : Str} (h : a.cps.toList = b.cps.toList) : a = b := by
  cases a; cases b
  simp only [Str.mk.injEq]
  exact Array.toList_inj.mp h
theorem oneLt_irrefl (a : Key) : oneLt a a = false := by
  cases a with
  | inl i => simp [oneLt]
  | inr x => simp [oneLt, sLt, List.lt_irrefl]
theorem oneLt_total {a b : Key} (h : a ≠ b) (h1 : oneLt a b = false) : oneLt b a = true := by
  cases a with
  | inl i =>
    cases b with
    | inl j =>
      simp only [oneLt, decide_eq_false_iff_not, decide_eq_true_eq] at h1 ⊢
      have : i ≠ j := fun e => h (by rw [e])
      omega
    | inr y => simp [oneLt] at h1
  | inr x =>
    cases b with
    | inl j => rfl
    | inr y =>
      simp only [oneLt, sLt, decide_eq_false_iff_not, decide_eq_true_eq] at h1 ⊢
      have hne : x.cps.toList ≠ y.cps.toList := fun e => h (by rw [str_ext e])
      have h2 : y.cps.toList ≤ x.cps.toList := List.not_lt.mp h1
      by_cases z : y.cps.toList < x.cps.toList
      · exact z
      · exact absurd (List.le_antisymm (List.not_lt.mp z) h2) hne
theorem oneLt_asym {a b : Key} (h : oneLt a b = true) : oneLt b a = false := by
  cases a with
  | inl i =>
    cases b with
    | inl j => simp only [oneLt, decide_eq_false_iff_not, decide_eq_true_eq] at h ⊢; omega
    | inr y => rfl
  | inr x =>
    cases b with
    | inl j => simp [oneLt] at h
    | inr y =>
      simp only [oneLt, sLt, decide_eq_false_iff_not, decide_eq_true_eq] at h ⊢
      exact fun e => List.lt_irrefl _ (List.lt_trans h e)
theorem oneLt_trans {a b c : Key} (h1 : oneLt a b = true) (h2 : oneLt b c = true) : oneLt a c = true := by
  cases a with
  | inl i =>
    cases b with
    | inl j =>
      cases c with
      | inl k => simp only [oneLt, decide_eq_true_eq] at h1 h2 ⊢; omega
      | inr z => rfl
    | inr y =>
      cases c with
      | inl k => simp [oneLt] at h2
      | inr z => rfl
  | inr x =>
    cases b with
    | inl j => simp [oneLt] at h1
    | inr y =>
      cases c with
      | inl k => simp [oneLt] at h2
      | inr z =>
        simp only [oneLt, sLt, decide_eq_true_eq] at h1 h2 ⊢
        exact List.lt_trans h1 h2
theorem rowLt_irrefl : ∀ r : Row, rowLt r r = false
  | [] => rfl
  | a :: r => by
    rw [rowLt, if_pos rfl]
    exact rowLt_irrefl r
theorem rowLt_total : ∀ {a b : Row}, a ≠ b → rowLt a b = false → rowLt b a = true
  | [], [], h, _ => absurd rfl h
  | [], _ :: _, _, h => by simp [rowLt] at h
  | _ :: _, [], _, _ => rfl
  | x :: a, y :: b, h, h1 => by
    rw [rowLt] at h1 ⊢
    by_cases e : x = y
    · subst e
      rw [if_pos rfl] at h1 ⊢
      exact rowLt_total (fun q => h (by rw [q])) h1
    · rw [if_neg e] at h1
      rw [if_neg (fun q => e q.symm)]
      exact oneLt_total e h1
theorem rowLt_asym : ∀ {a b : Row}, rowLt a b = true → rowLt b a = false
  | [], [], h => by simp [rowLt] at h
  | [], _ :: _, _ => rfl
  | _ :: _, [], h => by simp [rowLt] at h
  | x :: a, y :: b, h => by
    rw [rowLt] at h ⊢
    by_cases e : x = y
    · subst e
      rw [if_pos rfl] at h ⊢
      exact rowLt_asym h
    · rw [if_neg e] at h
      rw [if_neg (fun q => e q.symm)]
      exact oneLt_asym h
theorem rowLt_trans : ∀ {a b c : Row}, rowLt a b = true → rowLt b c = true → rowLt a c = true
  | [], [], _, h, _ => by simp [rowLt] at h
  | [], _ :: _, [], _, h => by simp [rowLt] at h
  | [], _ :: _, _ :: _, _, _ => rfl
  | _ :: _, [], _, h, _ => by simp [rowLt] at h
  | _ :: _, _ :: _, [], _, h => by simp [rowLt] at h
  | x :: a, y :: b, z :: c, h1, h2 => by
    rw [rowLt] at h1 h2 ⊢
    by_cases e : x = y
    · subst e
      rw [if_pos rfl] at h1
      by_cases e2 : x = z
      · subst e2
        rw [if_pos rfl] at h2 ⊢
        exact rowLt_trans h1 h2
      · rw [if_neg e2] at h2 ⊢
        exact h2
    · rw [if_neg e] at h1
      by_cases e2 : y = z
      · subst e2
        rw [if_neg e]
        exact h1
      · rw [if_neg e2] at h2
        have h3 := oneLt_trans h1 h2
        have e3 : x ≠ z := fun q => by
          subst q
          rw [oneLt_irrefl] at h3
          cases h3
        rw [if_neg e3]
        exact h3
def rowLe (a b : Row) : Bool := !rowLt b a
/-! ### counts by row -/
/-- the sum of the counts that the pairs give to a row -/
def tot (ps : Bag) (r : Row) : Int := ((ps.filter fun e => decide (e.1 = r)).map (·.2)).sum
theorem tot_nil (r : Row) : tot [] r = 0 := rfl
theorem tot_cons (e : Row × Int) (ps : Bag) (r : Row) : tot (e :: ps) r = (if e.1 = r then e.2 else 0) + tot ps r := by
  unfold tot
  by_cases h : e.1 = r
  · rw [List.filter_cons_of_pos (by simpa using h), if_pos h, List.map_cons, List.sum_cons]
  · rw [List.filter_cons_of_neg (by simpa using h), if_neg h]
    omega
theorem tot_app (ps qs : Bag) (r : Row) : tot (ps ++ qs) r = tot ps r + tot qs r := by
  induction ps with
  | nil => rw [List.nil_append, tot_nil]; omega
  | cons e t ih => rw [List.cons_append, tot_cons, tot_cons, ih]; omega
theorem tot_map (ps : Bag) (f : Int → Int) (h : ∀ x y, f (x + y) = f x + f y) (h0 : f 0 = 0) (r : Row) : tot (ps.map fun e => (e.1, f e.2)) r = f (tot ps r) := by
  induction ps with
  | nil => rw [List.map_nil, tot_nil, h0]
  | cons e t ih =>
    rw [List.map_cons, tot_cons, tot_cons, ih, h]
    by_cases q : e.1 = r
    · rw [if_pos q, if_pos q]
    · rw [if_neg q, if_neg q, h0]
theorem tot_out {ps : Bag} {r : Row} (h : ∀ e ∈ ps, e.1 ≠ r) : tot ps r = 0 := by
  induction ps with
  | nil => rfl
  | cons e t ih =>
    rw [tot_cons, if_neg (h e List.mem_cons_self), ih fun x hx => h x (List.mem_cons_of_mem _ hx)]
    omega
theorem tot_in {ps : Bag} (hn : (ps.map (·.1)).Nodup) {e : Row × Int} (he : e ∈ ps) : tot ps e.1 = e.2 := by
  induction ps with
  | nil => cases he
  | cons x t ih =>
    rw [List.map_cons, List.nodup_cons] at hn
    rw [tot_cons]
    rcases List.mem_cons.mp he with q | q
    · subst q
      rw [if_pos rfl, tot_out fun y hy z => hn.1 (List.mem_map.mpr ⟨y, hy, z⟩)]
      omega
    · have hne : x.1 ≠ e.1 := fun z => hn.1 (List.mem_map.mpr ⟨e, q, z.symm⟩)
      rw [if_neg hne, ih hn.2 q]
      omega
/-! ### the dict that is filled pair by pair -/
def putI (m : Bag) (r : Row) (c : Int) : Bag :=
  if (m.any fun e => decide (e.1 = r)) = true then m.map (fun e => if e.1 = r then (e.1, c) else e) else m ++ [(r, c)]
def valI (m : Bag) (r : Row) : Option Int := (m.find? fun e => decide (e.1 = r)).map (·.2)
def tally (ps : Bag) : Bag := ps.foldl (fun m e => putI m e.1 ((valI m e.1).getD 0 + e.2)) []
abbrev vk (m : Bag) : List (Row × V) := m.map fun e => (e.1, V.int e.2)
theorem vk_val (m : Bag) (r : Row) : valV (vk m) r = (valI m r).map V.int := by
  induction m with
  | nil => rfl
  | cons e t ih =>
    by_cases h : e.1 = r
    · rw [show vk (e :: t) = (e.1, V.int e.2) :: vk t from rfl, valV_pos h]
      simp [valI, List.find?_cons, h]
    · rw [show vk (e :: t) = (e.1, V.int e.2) :: vk t from rfl, valV_neg h, ih]
      simp [valI, List.find?_cons, h]
theorem vk_put (m : Bag) (r : Row) (c : Int) : putK (vk m) r (.int c) = vk (putI m r c) := by
  unfold putK putI
  have e : ((vk m).any fun kv => decide (kv.1 = r)) = (m.any fun e => decide (e.1 = r)) := by
    rw [List.any_map]
    rfl
  rw [e]
  split
  · show (m.map fun e => (e.1, V.int e.2)).map (fun kv => if kv.1 = r then (kv.1, V.int c) else kv) = (m.map (fun e => if e.1 = r then (e.1, c) else e)).map fun e => (e.1, V.int e.2)
    rw [List.map_map, List.map_map]
    refine List.map_congr_left fun x _ => ?_
    show (if x.1 = r then (x.1, V.int c) else (x.1, V.int x.2)) = ((if x.1 = r then (x.1, c) else x).1, V.int (if x.1 = r then (x.1, c) else x).2)
    split <;> rfl
  · show (m.map fun e => (e.1, V.int e.2)) ++ [(r, V.int c)] = (m ++ [(r, c)]).map fun e => (e.1, V.int e.2)
    rw [List.map_append]
    rfl
theorem valI_tot {m : Bag} (hn : (m.map (·.1)).Nodup) (r : Row) : (valI m r).getD 0 = tot m r := by
  induction m with
  | nil => rfl
  | cons e t ih =>
    rw [List.map_cons, List.nodup_cons] at hn
    rw [tot_cons]
    by_cases h : e.1 = r
    · rw [if_pos h, tot_out fun x hx q => hn.1 (List.mem_map.mpr ⟨x, hx, q.trans h.symm⟩)]
      simp [valI, List.find?_cons, h]
    · rw [if_neg h, ← ih hn.2]
      simp [valI, List.find?_cons, h]
theorem valI_some {m : Bag} {e : Row × Int} (he : e ∈ m) : (valI m e.1).isSome = true := by
  unfold valI
  rw [Option.isSome_map, List.find?_isSome]
  exact ⟨e, he, by simp⟩
theorem putI_keys (m : Bag) (r : Row) (c : Int) : (r ∈ m.map (·.1) ∧ (putI m r c).map (·.1) = m.map (·.1)) ∨ (r ∉ m.map (·.1) ∧ (putI m r c).map (·.1) = m.map (·.1) ++ [r]) := by
  unfold putI
  by_cases h : r ∈ m.map (·.1)
  · refine .inl ⟨h, ?_⟩
    obtain ⟨e, he, q⟩ := List.mem_map.mp h
    rw [if_pos (List.any_eq_true.mpr ⟨e, he, by simpa using q⟩), List.map_map]
    refine List.map_congr_left fun x _ => ?_
    show (if x.1 = r then (x.1, c) else x).1 = x.1
    split <;> rfl
  · refine .inr ⟨h, ?_⟩
    rw [if_neg (fun q => by
      obtain ⟨e, he, z⟩ := List.any_eq_true.mp q
      exact h (List.mem_map.mpr ⟨e, he, by simpa using z⟩)), List.map_append]
    rfl
theorem putI_nodup {m : Bag} (hn : (m.map (·.1)).Nodup) (r : Row) (c : Int) : ((putI m r c).map (·.1)).Nodup := by
  rcases putI_keys m r c with ⟨_, e⟩ | ⟨h, e⟩
  · rw [e]; exact hn
  · rw [e]
    exact List.nodup_append.mpr ⟨hn, List.pairwise_singleton _ _, fun a ha b hb q => by
      rw [List.mem_singleton.mp hb] at q
      exact h (q ▸ ha)⟩
theorem putI_tot {m : Bag} (hn : (m.map (·.1)).Nodup) (r q : Row) (c : Int) : tot (putI m r c) q = if r = q then c else tot m q := by
  rw [← valI_tot (putI_nodup hn r c), ← valI_tot hn]
  unfold putI
  by_cases h : (m.any fun e => decide (e.1 = r)) = true
  · rw [if_pos h]
    clear hn
    induction m with
    | nil => simp at h
    | cons e t ih =>
      by_cases h1 : e.1 = r
      · by_cases h2 : r = q
        · simp [valI, List.find?_cons, h1, h2]
        · rw [if_neg h2]
          have h3 : ¬ e.1 = q := fun z => h2 (h1.symm.trans z)
          by_cases h4 : (t.any fun e => decide (e.1 = r)) = true
          · have ih' := ih h4
            rw [if_neg h2] at ih'
            simp only [valI, List.map_cons, h1, if_true, List.find?_cons] at ih' ⊢
            simp only [h2, decide_false] at ih' ⊢
            exact ih'
          · have e2 : t.map (fun e => if e.1 = r then (e.1, c) else e) = t := by
              conv => rhs; rw [← List.map_id t]
              refine List.map_congr_left fun x hx => ?_
              rw [if_neg fun z => h4 (List.any_eq_true.mpr ⟨x, hx, by simpa using z⟩)]
              rfl
            simp only [valI, List.map_cons, h1, if_true, List.find?_cons, h2, decide_false, e2]
      · have h4 : (t.any fun e => decide (e.1 = r)) = true := by simpa [h1] using h
        have ih' := ih h4
        by_cases h2 : e.1 = q
        · have h3 : ¬ r = q := fun z => h1 (h2.trans z.symm)
          rw [if_neg h3, List.map_cons, if_neg h1]
          simp [valI, List.find?_cons, h2]
        · simp only [valI, List.map_cons, h1, if_false, List.find?_cons, h2, decide_false] at ih' ⊢
          exact ih'
  · rw [if_neg h]
    by_cases h2 : r = q
    · subst h2
      have e : (m.find? fun e => decide (e.1 = r)) = none := by
        rw [List.find?_eq_none]
        intro x hx z
        exact h (List.any_eq_true.mpr ⟨x, hx, z⟩)
      simp [valI, List.find?_append, e]
    · cases z : (m.find? fun e => decide (e.1 = q)) with
      | none => simp [valI, List.find?_append, z, h2]
      | some x => simp [valI, List.find?_append, z, h2]
theorem tally_go : ∀ (ps m : Bag), (m.map (·.1)).Nodup → ((ps.foldl (fun m e => putI m e.1 ((valI m e.1).getD 0 + e.2)) m).map (·.1)).Nodup ∧
    (∀ r, tot (ps.foldl (fun m e => putI m e.1 ((valI m e.1).getD 0 + e.2)) m) r = tot m r + tot ps r) ∧ (ps.foldl (fun m e => putI m e.1 ((valI m e.1).getD 0 + e.2)) m).length ≤ m.length + ps.length
  | [], m, h => ⟨h, fun r => by rw [List.foldl_nil, tot_nil]; omega, by simp⟩
  | e :: ps, m, h => by
    obtain ⟨a, b, c⟩ := tally_go ps (putI m e.1 ((valI m e.1).getD 0 + e.2)) (putI_nodup h _ _)
    rw [List.foldl_cons]
    refine ⟨a, fun r => ?_, ?_⟩
    · rw [b, putI_tot h, tot_cons, valI_tot h]
      by_cases q : e.1 = r
      · rw [if_pos q, if_pos q, q]; omega
      · rw [if_neg q, if_neg q]; omega
    · have l : (putI m e.1 ((valI m e.1).getD 0 + e.2)).length ≤ m.length + 1 := by
        unfold putI
        split
        · rw [List.length_map]; omega
        · rw [List.length_append]; simp
      rw [List.length_cons]
      omega
theorem tally_nodup (ps : Bag) : ((tally ps).map (·.1)).Nodup := (tally_go ps [] List.nodup_nil).1
theorem tally_tot (ps : Bag) (r : Row) : tot (tally ps) r = tot ps r := by
  have h := (tally_go ps [] List.nodup_nil).2.1 r
  rw [tot_nil] at h
  unfold tally
  omega
theorem tally_len (ps : Bag) : (tally ps).length ≤ ps.length := by
  have h := (tally_go ps [] List.nodup_nil).2.2
  simpa [tally] using h
theorem tally_val (ps : Bag) (r : Row) : (valI (tally ps) r).getD 0 = tot ps r := by rw [valI_tot (tally_nodup ps), tally_tot]
/-! ### the bag of some pairs -/
def nzRows (ps : Bag) : List Row := ((tally ps).map (·.1)).filter fun r => decide (tot ps r ≠ 0)
def sortRows (l : List Row) : List Row := l.mergeSort rowLe
def mk (ps : Bag) : Bag := (sortRows (nzRows ps)).map fun r => (r, tot ps r)
structure Canon (b : Bag) : Prop where
  srt : b.Pairwise fun x y => rowLt x.1 y.1 = true
  nz : ∀ e ∈ b, e.2 ≠ 0
theorem rowLe_trans (a b c : Row) (h1 : rowLe a b = true) (h2 : rowLe b c = true) : rowLe a c = true := by
  unfold rowLe at *
  simp only [Bool.not_eq_true'] at *
  by_cases e : a = b
  · rw [e]; exact h2
  · by_cases e2 : b = c
    · rw [← e2]; exact h1
    · exact rowLt_asym (rowLt_trans (rowLt_total (fun z => e z.symm) h1) (rowLt_total (fun z => e2 z.symm) h2))
theorem rowLe_total (a b : Row) : (rowLe a b || rowLe b a) = true := by
  unfold rowLe
  cases h : rowLt b a with
  | false => rfl
  | true => rw [rowLt_asym h]; rfl
theorem sortRows_perm (l : List Row) : (sortRows l).Perm l := List.mergeSort_perm l rowLe
theorem sortRows_srt {l : List Row} (hn : l.Nodup) : (sortRows l).Pairwise fun a b => rowLt a b = true := by
  have h1 : (sortRows l).Pairwise fun a b => rowLe a b = true := List.pairwise_mergeSort rowLe_trans rowLe_total l
  have h2 : (sortRows l).Nodup := (sortRows_perm l).nodup_iff.mpr hn
  have h3 : (sortRows l).Pairwise fun a b => rowLe a b = true ∧ a ≠ b := h1.and h2
  refine h3.imp fun {a b} q => ?_
  have q1 : rowLt b a = false := by simpa [rowLe] using q.1
  exact rowLt_total (fun z => q.2 z.symm) q1
theorem nzRows_nodup (ps : Bag) : (nzRows ps).Nodup := List.Nodup.sublist List.filter_sublist (tally_nodup ps)
theorem mem_keys_of_tot {ps : Bag} {r : Row} (h : tot ps r ≠ 0) : r ∈ ps.map (·.1) := by
  by_cases q : r ∈ ps.map (·.1)
  · exact q
  · exact absurd (tot_out fun e he z => q (List.mem_map.mpr ⟨e, he, z⟩)) h
theorem mem_nz {ps : Bag} {r : Row} : r ∈ nzRows ps ↔ tot ps r ≠ 0 := by
  unfold nzRows
  rw [List.mem_filter]
  refine ⟨fun h => by simpa using h.2, fun h => ⟨?_, by simpa using h⟩⟩
  exact mem_keys_of_tot (by rw [tally_tot]; exact h)
theorem mk_canon (ps : Bag) : Canon (mk ps) := by
  refine ⟨?_, fun e he => ?_⟩
  · unfold mk
    rw [List.pairwise_map]
    exact sortRows_srt (nzRows_nodup ps)
  · obtain ⟨r, hr, rfl⟩ := List.mem_map.mp he
    exact mem_nz.mp ((sortRows_perm _).mem_iff.mp hr)
theorem Canon.nodup {b : Bag} (h : Canon b) : (b.map (·.1)).Nodup := by
  unfold List.Nodup
  rw [List.pairwise_map]
  refine h.srt.imp fun {x y} q z => ?_
  rw [z, rowLt_irrefl] at q
  cases q
theorem mk_tot (ps : Bag) (r : Row) : tot (mk ps) r = tot ps r := by
  by_cases h : tot ps r = 0
  · rw [h]
    refine tot_out fun e he z => ?_
    obtain ⟨q, hq, rfl⟩ := List.mem_map.mp he
    have h2 := mem_nz.mp ((sortRows_perm _).mem_iff.mp hq)
    exact h2 (by rw [show q = r from z]; exact h)
  · have hm : (r, tot ps r) ∈ mk ps := List.mem_map.mpr ⟨r, (sortRows_perm _).mem_iff.mpr (mem_nz.mpr h), rfl⟩
    exact tot_in (mk_canon ps).nodup hm
/-- a sorted bag is told by its counts -/
theorem Canon.ext : ∀ {a b : Bag}, Canon a → Canon b → (∀ r, tot a r = tot b r) → a = b
  | [], [], _, _, _ => rfl
  | [], y :: b, _, hb, h => by
    have h1 := h y.1
    rw [tot_nil, tot_in hb.nodup List.mem_cons_self] at h1
    exact absurd h1.symm (hb.nz y List.mem_cons_self)
  | x :: a, [], ha, _, h => by
    have h1 := h x.1
    rw [tot_nil, tot_in ha.nodup List.mem_cons_self] at h1
    exact absurd h1 (ha.nz x List.mem_cons_self)
  | x :: a, y :: b, ha, hb, h => by
    have key : ∀ {u v : Row × Int} {s t : Bag}, Canon (u :: s) → Canon (v :: t) → (∀ r, tot (u :: s) r = tot (v :: t) r) → rowLt u.1 v.1 = false := by
      intro u v s t hu hv e
      cases q : rowLt u.1 v.1 with
      | false => rfl
      | true =>
        exfalso
        have e1 := e u.1
        rw [tot_in hu.nodup List.mem_cons_self] at e1
        refine hu.nz u List.mem_cons_self (e1.trans (tot_out fun z hz w => ?_))
        rcases List.mem_cons.mp hz with k | k
        · rw [← w, k, rowLt_irrefl] at q; cases q
        · have k2 := (List.pairwise_cons.mp hv.srt).1 z k
          rw [w] at k2
          rw [rowLt_asym k2] at q; cases q
    have e1 : x.1 = y.1 := by
      by_cases z : x.1 = y.1
      · exact z
      · have q1 := key ha hb h
        have q2 := key hb ha fun r => (h r).symm
        rw [rowLt_total z q1] at q2; cases q2
    have e2 : x.2 = y.2 := by
      have q := h x.1
      rw [tot_in ha.nodup List.mem_cons_self, e1, tot_in hb.nodup List.mem_cons_self] at q
      exact q
    have exy : x = y := Prod.ext e1 e2
    subst exy
    rw [Canon.ext (a := a) (b := b) ⟨(List.pairwise_cons.mp ha.srt).2, fun e he => ha.nz e (List.mem_cons_of_mem _ he)⟩ ⟨(List.pairwise_cons.mp hb.srt).2, fun e he => hb.nz e (List.mem_cons_of_mem _ he)⟩ fun r => by
      have q := h r
      rw [tot_cons, tot_cons] at q
      omega]
theorem mk_of_canon {b : Bag} (h : Canon b) : mk b = b := Canon.ext (mk_canon b) h (mk_tot b)
theorem mk_ext {ps qs : Bag} (h : ∀ r, tot ps r = tot qs r) : mk ps = mk qs := Canon.ext (mk_canon ps) (mk_canon qs) fun r => by rw [mk_tot, mk_tot, h]
theorem mk_len (ps : Bag) : (mk ps).length ≤ ps.length := by
  unfold mk
  rw [List.length_map, (sortRows_perm _).length_eq]
  unfold nzRows
  exact Nat.le_trans (List.length_filter_le ..) (by rw [List.length_map]; exact tally_len ps)
/-! ### the other operations -/
def scaleB (b : Bag) (f : Int) : Bag := if f = 0 then [] else b.map fun e => (e.1, e.2 * f)
def posRows (b : Bag) : List Row := (b.filter fun e => decide (e.2 > 0)).map (·.1)
def onesB (l : List Row) : Bag := l.map fun r => (r, 1)
def cntB (b : Bag) (r : Row) : Int := ((b.find? fun e => decide (e.1 = r)).map (·.2)).getD 0
theorem cntB_tot {b : Bag} (h : Canon b) (r : Row) : cntB b r = tot b r := valI_tot h.nodup r
theorem scale_tot (b : Bag) (f : Int) (r : Row) : tot (scaleB b f) r = tot b r * f := by
  unfold scaleB
  by_cases h : f = 0
  · rw [if_pos h, h, tot_nil]; omega
  · rw [if_neg h, tot_map b (fun x => x * f) (fun x y => Int.add_mul x y f) (Int.zero_mul f)]
theorem scale_canon {b : Bag} (h : Canon b) (f : Int) : Canon (scaleB b f) := by
  unfold scaleB
  by_cases q : f = 0
  · rw [if_pos q]; exact ⟨List.Pairwise.nil, fun e he => by cases he⟩
  · rw [if_neg q]
    refine ⟨?_, fun e he => ?_⟩
    · rw [List.pairwise_map]; exact h.srt
    · obtain ⟨x, hx, rfl⟩ := List.mem_map.mp he
      exact Int.mul_ne_zero (h.nz x hx) q
/-- what the law asks of the scaled bag -/
theorem scale_law {b : Bag} (h : Canon b) (f : Int) : scaleB b f = mk (b.map fun e => (e.1, f * e.2)) :=
  Canon.ext (scale_canon h f) (mk_canon _) fun r => by
    rw [scale_tot, mk_tot, tot_map b (fun x => f * x) (fun x y => Int.mul_add f x y) (Int.mul_zero f), Int.mul_comm]
theorem minus_law (a b : Bag) : mk (a ++ scaleB b (-1)) = mk (a ++ b.map fun e => (e.1, 0 - e.2)) := mk_ext fun r => by
  rw [tot_app, tot_app, scale_tot, tot_map b (fun x => 0 - x) (fun x y => by omega) rfl]
  omega
theorem group1 {a b : Bag} (h : Canon a) : mk (mk (a ++ b) ++ scaleB b (-1)) = a := Canon.ext (mk_canon _) h fun r => by
  rw [mk_tot, tot_app, mk_tot, tot_app, scale_tot]; omega
theorem group2 (a b : Bag) : mk (b ++ a) = mk (a ++ b) := mk_ext fun r => by rw [tot_app, tot_app]; omega
theorem group3 (a : Bag) : mk (a ++ scaleB a (-1)) = [] := Canon.ext (mk_canon _) ⟨List.Pairwise.nil, fun e he => by cases he⟩ fun r => by
  rw [mk_tot, tot_app, scale_tot, tot_nil]; omega
theorem group4 (a b : Bag) (f : Int) : scaleB (mk (a ++ b)) f = mk (scaleB a f ++ scaleB b f) := Canon.ext (scale_canon (mk_canon _) f) (mk_canon _) fun r => by
  rw [scale_tot, mk_tot, mk_tot, tot_app, tot_app, scale_tot, scale_tot, Int.add_mul]
def cntR (l : List Row) (r : Row) : Nat := (l.filter fun x => decide (x = r)).length
theorem cntR_pos {l : List Row} {r : Row} : 0 < cntR l r ↔ r ∈ l := by
  unfold cntR
  rw [List.length_pos_iff_exists_mem]
  constructor
  · rintro ⟨x, hx⟩
    obtain ⟨h1, h2⟩ := List.mem_filter.mp hx
    have e : x = r := by simpa using h2
    rw [← e]; exact h1
  · exact fun h => ⟨r, List.mem_filter.mpr ⟨h, by simp⟩⟩
theorem tot_ones (l : List Row) (r : Row) : tot (onesB l) r = (cntR l r : Nat) := by
  induction l with
  | nil => rfl
  | cons x t ih =>
    rw [show onesB (x :: t) = (x, 1) :: onesB t from rfl, tot_cons, ih]
    unfold cntR
    by_cases h : x = r
    · rw [if_pos (show (x, (1 : Int)).1 = r from h), List.filter_cons_of_pos (by simpa using h), List.length_cons]; omega
    · rw [if_neg (show ¬ (x, (1 : Int)).1 = r from h), List.filter_cons_of_neg (by simpa using h)]; omega
theorem cntR_nodup {l : List Row} (h : l.Nodup) (r : Row) : (r ∈ l → cntR l r = 1) ∧ (r ∉ l → cntR l r = 0) := by
  induction l with
  | nil => exact ⟨fun q => (List.not_mem_nil q).elim, fun _ => rfl⟩
  | cons x t ih =>
    obtain ⟨h1, h2⟩ := List.nodup_cons.mp h
    obtain ⟨a, b⟩ := ih h2
    unfold cntR at *
    by_cases q : x = r
    · subst q
      rw [List.filter_cons_of_pos (by simp), List.length_cons, b h1]
      refine ⟨fun _ => rfl, fun z => ?_⟩
      exact absurd List.mem_cons_self z
    · rw [List.filter_cons_of_neg (by simpa using q)]
      exact ⟨fun z => a ((List.mem_cons.mp z).resolve_left fun w => q w.symm), fun z => b fun w => z (List.mem_cons_of_mem _ w)⟩
theorem set_law {b : Bag} (h : Canon b) : onesB (posRows (mk (onesB (b.map (·.1) ++ posRows b)))) = b.map fun e => (e.1, 1) := by
  have hc := mk_canon (onesB (b.map (·.1) ++ posRows b))
  have hpos : ∀ e ∈ mk (onesB (b.map (·.1) ++ posRows b)), e.2 > 0 := fun e he => by
    have e1 := tot_in hc.nodup he
    rw [mk_tot, tot_ones] at e1
    have e2 := hc.nz e he
    omega
  have hall : posRows (mk (onesB (b.map (·.1) ++ posRows b))) = (mk (onesB (b.map (·.1) ++ posRows b))).map (·.1) := by
    unfold posRows
    rw [List.filter_eq_self.mpr fun e he => by simpa using hpos e he]
  have hs1 : (onesB ((mk (onesB (b.map (·.1) ++ posRows b))).map (·.1))).Pairwise fun x y => rowLt x.1 y.1 = true := by
    unfold onesB
    rw [List.map_map, List.pairwise_map]
    exact hc.srt
  have hs2 : (b.map fun e => ((e.1, 1) : Row × Int)).Pairwise fun x y => rowLt x.1 y.1 = true := by
    rw [List.pairwise_map]
    exact h.srt
  have hn : ∀ l : List Row, ∀ e ∈ onesB l, e.2 ≠ 0 := fun l e he => by
    obtain ⟨x, _, rfl⟩ := List.mem_map.mp he
    exact (by decide : (1 : Int) ≠ 0)
  have e0 : (b.map fun e => ((e.1, 1) : Row × Int)) = onesB (b.map (·.1)) := by
    unfold onesB
    rw [List.map_map]
    rfl
  rw [hall, e0]
  rw [e0] at hs2
  refine Canon.ext ⟨hs1, hn _⟩ ⟨hs2, hn _⟩ fun r => ?_
  rw [tot_ones, tot_ones]
  have n1 := hc.nodup
  have n2 := h.nodup
  have mem : r ∈ (mk (onesB (b.map (·.1) ++ posRows b))).map (·.1) ↔ r ∈ b.map (·.1) := by
    constructor
    · intro q
      obtain ⟨e, he, rfl⟩ := List.mem_map.mp q
      have e1 := tot_in hc.nodup he
      rw [mk_tot, tot_ones] at e1
      have e2 := hpos e he
      have e3 : 0 < cntR (b.map (·.1) ++ posRows b) e.1 := by omega
      rcases List.mem_append.mp (cntR_pos.mp e3) with z | z
      · exact z
      · obtain ⟨x, hx, y⟩ := List.mem_map.mp z
        exact List.mem_map.mpr ⟨x, (List.mem_filter.mp hx).1, y⟩
    · intro q
      have e3 : 0 < cntR (b.map (·.1) ++ posRows b) r := cntR_pos.mpr (List.mem_append_left _ q)
      have e4 : tot (onesB (b.map (·.1) ++ posRows b)) r ≠ 0 := by rw [tot_ones]; omega
      exact mem_keys_of_tot (by rw [mk_tot]; exact e4)
  by_cases q : r ∈ b.map (·.1)
  · rw [(cntR_nodup n1 r).1 (mem.mpr q), (cntR_nodup n2 r).1 q]
  · rw [(cntR_nodup n1 r).2 (fun z => q (mem.mp z)), (cntR_nodup n2 r).2 q]
end KA
set_option Elab.async false
set_option linter.all false
set_option maxRecDepth 100000
set_option maxHeartbeats 8000000
/-! a < b of two tuples where only the first place that differs need be comparable -/
namespace KA
open PySem PySem.W L2 PySem.SeqAt
open AutoSeq1 (wpAny_loadPart')
open MeetsSeq MeetsSeq2 MeetsSeq3 SeqRoads2
/-- all places ahead of j are equal -/
def Ahead (e : Nat → Bool) (j : Nat) : Prop := ∀ i, i < j → e i = true
section
variable (l b : Addr) (xs ys : Array Value) (n m : Nat) (dx dy : Option Addr) (sx sy : Array (Option Value)) (e r : Nat → Bool)
/-- what the two tuples are, and what is known of their places -/
structure Two (A : Around) (s : Shared) : Prop where
  hl : s.heap.get? l = some { cls := .type "tuple", dict := dx, data := .seq xs n, slots := sx }
  hb : s.heap.get? b = some { cls := .type "tuple", dict := dy, data := .seq ys m, slots := sy }
  he : ∀ j (h1 : j < xs.size) (h2 : j < ys.size), EqAt A.in1 s xs[j] ys[j] (e j)
  hr : ∀ j (h1 : j < xs.size) (h2 : j < ys.size), Ahead e j → e j = false → RcLt A.in1 s xs[j] ys[j] (r j)
def outLt : Bool := firstLt e r (decide (xs.size < ys.size)) (List.range (min xs.size ys.size))
theorem tup_first :
    Meets (Builtin.«tuple.__lt__» ⟨[.ref l, .ref b], []⟩) (fun A R s => Two l b xs ys n m dx dy sx sy e r A s ∧ R (.ok (.ret (.bool (outLt xs ys e r)))) s) :=
  .of_wp fun prog w A R s h => by
    obtain ⟨T, h⟩ := h
    obtain ⟨hl, hb, he, hr⟩ := T
    obtain ⟨hp, g, d, tk, os⟩ := s
    have sub := AutoSeq1.sub_tuple_tuple
    have zl : (xs.toList.zip ys.toList).length = min xs.size ys.size := by simp
    wp_walk using wpAny_loadPart' hl, wpAny_loadPart' hb, wpAny_forIn_list _ (fun rest v s' => v.1 = none ∧ s' = ⟨hp, g, d, tk, os⟩ ∧ ∃ i,
        rest = (xs.toList.zip ys.toList).drop i ∧ Ahead e (min i (min xs.size ys.size)) ∧
        R (.ok (.ret (.bool (firstLt e r (decide (xs.size < ys.size)) ((List.range (min xs.size ys.size)).drop i))))) ⟨hp, g, d, tk, os⟩) _
    case turn =>
      rintro ⟨y, x⟩ rest v s' ⟨hv, rfl, i, hz, ha, hR⟩
      have hlt : i < (xs.toList.zip ys.toList).length := by
        refine Nat.lt_of_not_le fun q => ?_
        rw [List.drop_of_length_le q] at hz
        cases hz
      have hm : i < min xs.size ys.size := by rw [← zl]; exact hlt
      have i1 : i < xs.size := by omega
      have i2 : i < ys.size := by omega
      rw [List.drop_eq_getElem_cons hlt] at hz
      injection hz with hyx hrest
      obtain rfl : y = xs[i] := by simpa using congrArg Prod.fst hyx
      obtain rfl : x = ys[i] := by simpa using congrArg Prod.snd hyx
      have hd : (List.range (min xs.size ys.size)).drop i = i :: (List.range (min xs.size ys.size)).drop (i + 1) := by simp [List.drop_eq_getElem_cons, hm]
      have ha' : Ahead e i := fun k hk => ha k (by omega)
      rw [hd] at hR
      refine wpAny_bind (he i i1 i2 prog w _ _ ?_)
      cases q : e i with
      | true =>
        rw [firstLt_yes q] at hR
        wp_walk
        refine ⟨rfl, rfl, i + 1, hrest, fun k hk => ?_, hR⟩
        by_cases z : k = i
        · rw [z]; exact q
        · exact ha' k (by omega)
      | false =>
        rw [firstLt_no q] at hR
        rw [if_pos (by rfl)]
        refine wpAny_bind (wpAny_rule (wpAny_bind (hr i i1 i2 ha' q prog w _ _ ?_)))
        wp_walk
        exact ⟨_, rfl, hR⟩
    case fin =>
      rintro ⟨b1, b2⟩ s' ⟨hb', rfl, i, hz, ha, hR⟩
      simp only at hb'
      subst hb'
      have hge : min xs.size ys.size ≤ i := by
        refine Nat.le_of_not_lt fun q => ?_
        rw [← zl] at q
        rw [List.drop_eq_getElem_cons q] at hz
        cases hz
      rw [List.drop_of_length_le (by simpa using hge)] at hR
      wp_walk
      exact ⟨_, rfl, by simpa [Builtin.Tuple.tupleCompareSizes, firstLt] using hR⟩
    case h =>
      exact ⟨rfl, rfl, 0, rfl, fun k hk => absurd hk (by omega), by simpa [outLt] using h⟩
end
section
variable {A : Around} {s : Shared} {l b : Addr} {xs ys : Array Value} {e r : Nat → Bool}
/-- t < u, decided at the first place that differs -/
theorem rcLt_first (hl : s.heap.IsTuple l xs) (hb : s.heap.IsTuple b ys) (hu : A.units < cLine) (he : ∀ j (h1 : j < xs.size) (h2 : j < ys.size), EqAt A.in1 s xs[j] ys[j] (e j))
    (hr : ∀ j (h1 : j < xs.size) (h2 : j < ys.size), Ahead e j → e j = false → RcLt A.in1 s xs[j] ys[j] (r j)) : RcLt A s (.ref l) (.ref b) (outLt xs ys e r) := by
  intro prog w E Q h
  obtain ⟨⟨c1, d1, t1, s1⟩, o1, q1, n1, e1⟩ := id hl
  obtain ⟨⟨c2, d2, t2, s2⟩, o2, q2, n2, e2⟩ := id hb
  simp only at q1 e1 q2 e2
  subst q1 e1 q2 e2
  exact richCompare_meets_room (op := .Lt) ⟨_, o1, rfl⟩ ⟨_, o2, rfl⟩ F.slot_tuple_lt F.entry_tuple_lt (F.args_tuple_lt_2 _ _) (tup_first l b xs ys n1 n2 d1 d2 s1 s2 e r)
    ⟨⟨o1, o2, he, hr⟩, show Value.bool (outLt xs ys e r) ≠ Value.notImplemented ∧ Q (.bool (outLt xs ys e r)) s from ⟨(fun z => nomatch z), h⟩⟩ hu
/-- tuple's own test, as sorting calls it -/
theorem call_tup_lt {prog : Program} {w : World} {E Q : Value → Shared → Prop} (hl : s.heap.IsTuple l xs) (hb : s.heap.IsTuple b ys) (he : ∀ j (h1 : j < xs.size) (h2 : j < ys.size), EqAt A.in1 s xs[j] ys[j] (e j))
    (hr : ∀ j (h1 : j < xs.size) (h2 : j < ys.size), Ahead e j → e j = false → RcLt A.in1 s xs[j] ys[j] (r j)) (h : Q (.bool (outLt xs ys e r)) s) :
    wpAny (model prog w) A (call (.builtin "tuple.__lt__") [.ref l, .ref b]) Q E s := by
  obtain ⟨⟨c1, d1, t1, s1⟩, o1, q1, n1, e1⟩ := id hl
  obtain ⟨⟨c2, d2, t2, s2⟩, o2, q2, n2, e2⟩ := id hb
  simp only at q1 e1 q2 e2
  subst q1 e1 q2 e2
  exact call_meets F.slot_tuple_lt ⟨_, o1, rfl⟩ F.entry_tuple_lt (F.args_tuple_lt_2 _ _) (tup_first l b xs ys n1 n2 d1 d2 s1 s2 e r) ⟨⟨o1, o2, he, hr⟩, h⟩
end
end KA
set_option Elab.async false
set_option linter.all false
set_option maxRecDepth 100000
set_option maxHeartbeats 8000000
/-! the keys by which the program and the law sort rows: how they compare -/
namespace KA
open PySem PySem.W L2 PySem.SeqAt
def keyD : Key → PyData
  | .inl i => .int i
  | .inr x => .str x
def rowD (r : Row) : PyData := .tuple (r.map keyD)
/-- what rank gives; the law's own key of a value -/
def rankD : Key → PyData
  | .inl i => .tuple [.int 0, .int i]
  | .inr x => .tuple [.int 1, .str x]
def lawD : Key → PyData
  | .inl i => .tuple [.int 0, .int i, .str ""]
  | .inr x => .tuple [.int 1, .int 0, .str x]
def rankRow (r : Row) : PyData := .tuple (r.map rankD)
def lawRow (r : Row) : PyData := .list (r.map lawD)
theorem sLt_irrefl (x : Str) : sLt x x = false := by simp [sLt, List.lt_irrefl]
theorem eqv_str (x y : Str) : PyData.eqv (.str x) (.str y) = decide (x = y) := by
  simp only [PyData.eqv]
  by_cases h : x = y
  · subst h; simp
  · rw [decide_eq_false h]
    exact beq_eq_false_iff_ne.mpr h
theorem eqv_int (i j : Int) : PyData.eqv (.int i) (.int j) = decide (i = j) := by
  simp only [PyData.eqv]
  by_cases h : i = j
  · subst h; simp
  · rw [decide_eq_false h]
    exact beq_eq_false_iff_ne.mpr h
theorem eqv_key (x y : Key) : PyData.eqv (keyD x) (keyD y) = decide (x = y) := by
  cases x with
  | inl i =>
    cases y with
    | inl j => rw [show keyD (.inl i) = .int i from rfl, show keyD (.inl j) = .int j from rfl, eqv_int]; simp
    | inr y => simp [keyD, PyData.eqv]
  | inr x =>
    cases y with
    | inl j => simp [keyD, PyData.eqv]
    | inr y => rw [show keyD (.inr x) = .str x from rfl, show keyD (.inr y) = .str y from rfl, eqv_str]; simp
theorem eqv_rank (x y : Key) : PyData.eqv (rankD x) (rankD y) = decide (x = y) := by
  cases x with
  | inl i =>
    cases y with
    | inl j =>
      simp only [rankD, PyData.eqv, PyData.eqvAll]
      rw [show ((i == j) : Bool) = decide (i = j) by by_cases h : i = j <;> simp [h]]
      simp
    | inr y => simp [rankD, PyData.eqv, PyData.eqvAll]
  | inr x =>
    cases y with
    | inl j => simp [rankD, PyData.eqv, PyData.eqvAll]
    | inr y =>
      have h := eqv_str x y
      simp only [rankD, PyData.eqv, PyData.eqvAll] at h ⊢
      rw [h]
      simp
theorem eqv_law (x y : Key) : PyData.eqv (lawD x) (lawD y) = decide (x = y) := by
  cases x with
  | inl i =>
    cases y with
    | inl j =>
      have h := eqv_int i j
      simp only [lawD, PyData.eqv, PyData.eqvAll] at h ⊢
      rw [h]
      simp
    | inr y => simp [lawD, PyData.eqv, PyData.eqvAll]
  | inr x =>
    cases y with
    | inl j => simp [lawD, PyData.eqv, PyData.eqvAll]
    | inr y =>
      have h := eqv_str x y
      simp only [lawD, PyData.eqv, PyData.eqvAll] at h ⊢
      rw [h]
      simp
section
variable {A : Around} {s : Shared}
theorem rc_int {i j : Int} {t u : Tok} : RcLt A s (.int i t) (.int j u) (decide (i < j)) := fun prog w E Q h => P.lt_int h
theorem rc_str {x y : Str} {t u : Tok} : RcLt A s (.str x t) (.str y u) (sLt x y) := fun prog w E Q h => P.lt_str h
/-- the items of a tuple that reads as data -/
theorem tup_items {h : Heap} {v : Value} {ds : List PyData} {as : List Addr} (r : Reads h v (.tuple ds) as) : ∃ (l : Addr) (xs : Array Value), v = .ref l ∧ h.IsTuple l xs ∧ ReadsAll h xs.toList ds as := by
  cases r with
  | @tuple a o xs n _ _ h1 h2 h3 h4 => exact ⟨a, xs, rfl, ⟨_, h1, h2, _, h3⟩, h4⟩
theorem lst_items {h : Heap} {v : Value} {ds : List PyData} {as : List Addr} (r : Reads h v (.list ds) as) : ∃ (l : Addr) (xs : Array Value) (bs : List Addr), v = .ref l ∧ h.IsList l xs ∧ ReadsAll h xs.toList ds bs := by
  cases r with
  | @list a o xs n _ _ h1 h2 h3 h4 => exact ⟨a, xs, _, rfl, ⟨_, h1, h2, _, h3⟩, h4⟩
theorem int_back {h : Heap} {v : Value} {i : Int} {as : List Addr} (r : Reads h v (.int i) as) : ∃ t, v = .int i t := by
  cases r with
  | int _ t => exact ⟨t, rfl⟩
theorem str_back {h : Heap} {v : Value} {x : Str} {as : List Addr} (r : Reads h v (.str x) as) : ∃ t, v = .str x t := by
  cases r with
  | str _ t => exact ⟨t, rfl⟩
theorem all1 {h : Heap} {xs : Array Value} {d : PyData} {ds : List PyData} {as : List Addr} {i : Nat} (r : ReadsAll h (xs.toList.drop i) (d :: ds) as) : ∃ (hi : i < xs.size) (bs cs : List Addr), Reads h xs[i] d bs ∧ ReadsAll h (xs.toList.drop (i + 1)) ds cs := by
  have hl := SeqAt.ReadsAll.length _ _ _ r
  rw [List.length_drop] at hl
  have hi : i < xs.toList.length := by
    simp only [List.length_cons] at hl
    omega
  rw [List.drop_eq_getElem_cons hi] at r
  cases r with
  | cons r1 r2 => exact ⟨by simpa using hi, _, _, by simpa using r1, r2⟩
theorem key_back {h : Heap} {v : Value} {x : Key} {as : List Addr} (r : Reads h v (keyD x) as) : (∃ i t, x = .inl i ∧ v = .int i t) ∨ ∃ z t, x = .inr z ∧ v = .str z t := by
  cases x with
  | inl i =>
    obtain ⟨t, rfl⟩ := int_back r
    exact .inl ⟨i, t, rfl, rfl⟩
  | inr z =>
    obtain ⟨t, rfl⟩ := str_back r
    exact .inr ⟨z, t, rfl, rfl⟩
def tag : Key → Int
  | .inl _ => 0
  | .inr _ => 1
/-- rank(one) < rank(other) -/
theorem rc_rank {x y : Key} {v u : Value} {as bs : List Addr} (rx : Reads s.heap v (rankD x) as) (ry : Reads s.heap u (rankD y) bs) (hu : A.units + 8 < cLine) : RcLt A s v u (oneLt x y) := by
  have cx : rankD x = .tuple [.int (tag x), keyD x] := by cases x <;> rfl
  have cy : rankD y = .tuple [.int (tag y), keyD y] := by cases y <;> rfl
  rw [cx] at rx
  rw [cy] at ry
  obtain ⟨l, xs, rfl, hl, ra⟩ := tup_items rx
  obtain ⟨b, ys, rfl, hb, rb⟩ := tup_items ry
  obtain ⟨x0, _, _, a0, ra1⟩ := all1 (i := 0) (by simpa using ra)
  obtain ⟨x1, _, _, a1, ra2⟩ := all1 (i := 1) ra1
  obtain ⟨y0, _, _, b0, rb1⟩ := all1 (i := 0) (by simpa using rb)
  obtain ⟨y1, _, _, b1, rb2⟩ := all1 (i := 1) rb1
  have nx : xs.size = 2 := by
    have q := SeqAt.ReadsAll.length _ _ _ ra
    simpa using q
  have ny : ys.size = 2 := by
    have q := SeqAt.ReadsAll.length _ _ _ rb
    simpa using q
  have can : ∀ z : Key, (keyD z).plain = true := fun z => by cases z <;> rfl
  have hdep : ∀ z : Key, (keyD z).depth = 0 := fun z => by cases z <;> simp [keyD, PyData.depth]
  have key := rcLt_first (A := A) (s := s) (e := pairEq [.int (tag x), keyD x] [.int (tag y), keyD y]) (r := fun j => if j = 0 then decide (tag x < tag y) else oneLt x y) hl hb (by omega)
    (fun j j1 j2 => by
      have q := eqAt_plainAll _ _ A.in1 s _ _ _ _ ra rb (by simp [PyData.plainAll, PyData.plain, can]) (by simp [PyData.plainAll, PyData.plain, can])
        (by show A.units + 1 + _ < _; simp [PyData.depthAll, PyData.depth, hdep]; omega) j (by simpa using j1) (by simpa using j2)
      simpa using q)
    (fun j j1 j2 ha hj => by
      match j, j1, j2, ha, hj with
      | 0, j1, j2, ha, hj =>
        obtain ⟨t, e1⟩ := int_back a0
        obtain ⟨t', e2⟩ := int_back b0
        rw [e1, e2]
        exact rc_int
      | 1, j1, j2, ha, hj =>
        have h0 : tag x = tag y := by
          have q := ha 0 (by omega)
          simpa [pairEq, PyData.eqv] using q
        show RcLt A.in1 s xs[1] ys[1] (oneLt x y)
        rcases key_back a1 with ⟨i, t, rfl, e1⟩ | ⟨z, t, rfl, e1⟩
        · rcases key_back b1 with ⟨j, t', rfl, e2⟩ | ⟨z', t', rfl, e2⟩
          · rw [e1, e2]; exact rc_int
          · exact absurd (show (0 : Int) = 1 from h0) (by decide)
        · rcases key_back b1 with ⟨j, t', rfl, e2⟩ | ⟨z', t', rfl, e2⟩
          · exact absurd (show (1 : Int) = 0 from h0) (by decide)
          · rw [e1, e2]; exact rc_str
      | j + 2, j1, _, _, _ => exact absurd j1 (by omega))
  have e : outLt xs ys (pairEq [.int (tag x), keyD x] [.int (tag y), keyD y]) (fun j => if j = 0 then decide (tag x < tag y) else oneLt x y) = oneLt x y := by
    unfold outLt
    rw [nx, ny, show List.range (min 2 2) = [0, 1] from rfl]
    have e0 : pairEq [.int (tag x), keyD x] [.int (tag y), keyD y] 0 = decide (tag x = tag y) := by
      show PyData.eqv (.int (tag x)) (.int (tag y)) = _
      exact eqv_int _ _
    have e1 : pairEq [.int (tag x), keyD x] [.int (tag y), keyD y] 1 = decide (x = y) := by
      show PyData.eqv (keyD x) (keyD y) = _
      exact eqv_key _ _
    simp only [firstLt, e0, e1]
    by_cases h : tag x = tag y
    · rw [if_pos (by simpa using h)]
      by_cases h2 : x = y
      · subst h2; simp [oneLt_irrefl]
      · rw [if_neg (by simpa using h2)]; simp
    · rw [if_neg (by simpa using h)]
      cases x <;> cases y <;> simp_all [tag, oneLt]
  rw [e] at key
  exact key
/-- the law's own key of one value -/
theorem rc_law {x y : Key} {v u : Value} {as bs : List Addr} (rx : Reads s.heap v (lawD x) as) (ry : Reads s.heap u (lawD y) bs) (hu : A.units + 8 < cLine) : RcLt A s v u (oneLt x y) := by
  have hal : alike (lawD x) (lawD y) = true := by cases x <;> cases y <;> simp [lawD, alike, alikeAll]
  have hdep : ∀ z : Key, (lawD z).depth ≤ 2 := fun z => by cases z <;> simp [lawD, PyData.depth, PyData.depthAll]
  have h := rcLt_alike (lawD x) (lawD y) A s v u as bs rx ry hal (by cases x <;> exact fun z => nomatch z) (by have := hdep x; omega)
  have e : dataLt (lawD x) (lawD y) = oneLt x y := by
    cases x with
    | inl i =>
      cases y with
      | inl j =>
        simp only [lawD]
        rw [dataLt_tuple, dataLt_all_yes (by simp [alike]) (by simp [PyData.eqv])]
        by_cases q : i = j
        · subst q
          simp [oneLt, PyProof.Rows.lex_irrefl]
        · rw [dataLt_all_no (by simp [alike]) (by rw [eqv_int]; simpa using q), dataLt_int]
          rfl
      | inr y =>
        simp only [lawD]
        rw [dataLt_tuple, dataLt_all_no (by simp [alike]) (by simp [PyData.eqv]), dataLt_int]
        rfl
    | inr x =>
      cases y with
      | inl j =>
        simp only [lawD]
        rw [dataLt_tuple, dataLt_all_no (by simp [alike]) (by simp [PyData.eqv]), dataLt_int]
        rfl
      | inr y =>
        simp only [lawD]
        rw [dataLt_tuple, dataLt_all_yes (by simp [alike]) (by simp [PyData.eqv]), dataLt_all_yes (by simp [alike]) (by simp [PyData.eqv])]
        by_cases q : x = y
        · subst q
          simp [oneLt, sLt_irrefl, PyProof.Rows.lex_irrefl]
        · rw [dataLt_all_no (by simp [alike]) (by rw [eqv_str]; simpa using q), dataLt_str]
          rfl
  rw [e] at h
  exact h
/-- the first place that differs, for items that compare as values do -/
theorem first_row (enc : Key → PyData) (hq : ∀ x y, PyData.eqv (enc x) (enc y) = decide (x = y)) : ∀ (a b : Row),
    firstLt (pairEq (a.map enc) (b.map enc)) (fun j => oneLt (a.getD j (.inl 0)) (b.getD j (.inl 0))) (decide (a.length < b.length)) (List.range (min a.length b.length)) = rowLt a b
  | [], [] => rfl
  | [], _ :: _ => by simp [firstLt, rowLt]
  | _ :: _, [] => by simp [firstLt, rowLt]
  | x :: a, y :: b => by
    have ih := first_row enc hq a b
    have em : min (x :: a).length (y :: b).length = min a.length b.length + 1 := by simp only [List.length_cons]; omega
    have ed : decide ((x :: a).length < (y :: b).length) = decide (a.length < b.length) := by
      simp only [List.length_cons]
      exact decide_eq_decide.mpr (by omega)
    rw [em, ed, List.range_succ_eq_map, rowLt]
    have e0 : pairEq ((x :: a).map enc) ((y :: b).map enc) 0 = decide (x = y) := hq x y
    by_cases h : x = y
    · rw [firstLt_yes (by rw [e0]; simpa using h), if_pos h, firstLt_map, ← ih]
      rfl
    · rw [firstLt_no (by rw [e0]; simpa using h), if_neg h]
      rfl
/-- a place of a row that is read item by item -/
theorem at_row {h : Heap} {enc : Key → PyData} : ∀ {r : Row} {vs : List Value} {as : List Addr}, ReadsAll h vs (r.map enc) as → ∀ j (hj : j < vs.length), ∃ bs, Reads h vs[j] (enc (r.getD j (.inl 0))) bs
  | [], vs, as, q, j, hj => by
    have e := SeqAt.ReadsAll.length _ _ _ q
    simp only [List.map_nil, List.length_nil] at e
    omega
  | x :: r, vs, as, q, j, hj => by
    have q' : ReadsAll h vs (enc x :: r.map enc) as := q
    cases q' with
    | cons q1 q2 =>
      cases j with
      | zero => exact ⟨_, q1⟩
      | succ j => exact at_row q2 j (by simpa using hj)
theorem plain_map {enc : Key → PyData} (hp : ∀ x, (enc x).plain = true) : ∀ r : Row, PyData.plainAll (r.map enc) = true
  | [] => rfl
  | x :: r => by simp [PyData.plainAll, hp x, plain_map hp r]
theorem depth_map {enc : Key → PyData} (hd : ∀ x, (enc x).depth ≤ 2) : ∀ r : Row, PyData.depthAll (r.map enc) ≤ 2
  | [] => by simp [PyData.depthAll]
  | x :: r => by
    have a := hd x
    have b := depth_map hd r
    simp only [List.map_cons, PyData.depthAll]
    omega
theorem rank_plain (x : Key) : (rankD x).plain = true := by cases x <;> rfl
theorem law_plain (x : Key) : (lawD x).plain = true := by cases x <;> rfl
theorem rank_depth (x : Key) : (rankD x).depth ≤ 2 := by cases x <;> simp [rankD, PyData.depth, PyData.depthAll]
theorem law_depth (x : Key) : (lawD x).depth ≤ 2 := by cases x <;> simp [lawD, PyData.depth, PyData.depthAll]
/-- what the two tests of places are, for two rows of keys -/
theorem row_parts {enc : Key → PyData} (hq : ∀ x y, PyData.eqv (enc x) (enc y) = decide (x = y)) (hp : ∀ x, (enc x).plain = true) (hd : ∀ x, (enc x).depth ≤ 2) {a b : Row} {xs ys : Array Value} {as bs : List Addr}
    (rc : ∀ (B : Around) (x y : Key) (v u : Value) (cs ds : List Addr), Reads s.heap v (enc x) cs → Reads s.heap u (enc y) ds → B.units + 8 < cLine → RcLt B s v u (oneLt x y))
    (ra : ReadsAll s.heap xs.toList (a.map enc) as) (rb : ReadsAll s.heap ys.toList (b.map enc) bs) (hu : A.units + 12 < cLine) :
    (∀ j (h1 : j < xs.size) (h2 : j < ys.size), EqAt A.in1 s xs[j] ys[j] (pairEq (a.map enc) (b.map enc) j)) ∧ (∀ j (h1 : j < xs.size) (h2 : j < ys.size), RcLt A.in1 s xs[j] ys[j] (oneLt (a.getD j (.inl 0)) (b.getD j (.inl 0)))) ∧
    outLt xs ys (pairEq (a.map enc) (b.map enc)) (fun j => oneLt (a.getD j (.inl 0)) (b.getD j (.inl 0))) = rowLt a b := by
  have na : xs.size = a.length := by
    have q := SeqAt.ReadsAll.length _ _ _ ra
    simpa using q
  have nb : ys.size = b.length := by
    have q := SeqAt.ReadsAll.length _ _ _ rb
    simpa using q
  refine ⟨fun j j1 j2 => ?_, fun j j1 j2 => ?_, ?_⟩
  · have q := eqAt_plainAll _ _ A.in1 s _ _ _ _ ra rb (plain_map hp a) (plain_map hp b) (by show A.units + 1 + _ < _; have := depth_map hd a; omega) j (by simpa using j1) (by simpa using j2)
    simpa using q
  · obtain ⟨cs, q1⟩ := at_row ra j (by simpa using j1)
    obtain ⟨ds, q2⟩ := at_row rb j (by simpa using j2)
    exact rc A.in1 _ _ _ _ cs ds (by simpa using q1) (by simpa using q2) (by show A.units + 1 + 8 < _; omega)
  · unfold outLt
    rw [na, nb]
    exact first_row enc hq a b
/-- row_rank(a) < row_rank(b) -/
theorem rc_rankRow {a b : Row} {v u : Value} {as bs : List Addr} (rx : Reads s.heap v (rankRow a) as) (ry : Reads s.heap u (rankRow b) bs) (hu : A.units + 12 < cLine) : RcLt A s v u (rowLt a b) := by
  obtain ⟨l, xs, rfl, hl, ra⟩ := tup_items rx
  obtain ⟨m, ys, rfl, hm, rb⟩ := tup_items ry
  obtain ⟨h1, h2, h3⟩ := row_parts (A := A) eqv_rank rank_plain rank_depth (fun B x y v u cs ds r1 r2 q => rc_rank r1 r2 q) ra rb hu
  have h := rcLt_first hl hm (by omega) h1 fun j j1 j2 _ _ => h2 j j1 j2
  rw [h3] at h
  exact h
/-- _law_key(a) < _law_key(b) -/
theorem rc_lawRow {a b : Row} {v u : Value} {as bs : List Addr} (rx : Reads s.heap v (lawRow a) as) (ry : Reads s.heap u (lawRow b) bs) (hu : A.units + 12 < cLine) : RcLt A s v u (rowLt a b) := by
  obtain ⟨l, xs, cs, rfl, hl, ra⟩ := lst_items rx
  obtain ⟨m, ys, ds, rfl, hm, rb⟩ := lst_items ry
  obtain ⟨h1, h2, h3⟩ := row_parts (A := A) eqv_law law_plain law_depth (fun B x y v u cs ds r1 r2 q => rc_law r1 r2 q) ra rb hu
  have h := RcLt.lists hl hm (by omega) h1 fun j j1 j2 _ => h2 j j1 j2
  rw [show firstLt (pairEq (a.map lawD) (b.map lawD)) (fun j => oneLt (a.getD j (.inl 0)) (b.getD j (.inl 0))) (decide (xs.size < ys.size)) (List.range (min xs.size ys.size)) = rowLt a b from h3] at h
  exact h
end
end KA
set_option Elab.async false
set_option linter.all false
set_option maxRecDepth 100000
set_option maxHeartbeats 8000000
/-! keys of rows can be sorted, whatever the kind that the list's sort picks -/
namespace KA
open PySem PySem.W PySem.Calls PyProof.Rows L2
open PySem.SeqAt (RcLt)
def KeyIs1 (h : Heap) (E : Row → PyData) (v : Value) (r : Row) : Prop := ∃ as, Reads h v (E r) as
/-- a key that says which row it is the key of -/
structure Tells (E : Row → PyData) : Prop where
  inj : ∀ a b, E a = E b → a = b
  plain : ∀ a, (E a).plain = true
/-- rows as a kind of keys -/
noncomputable def rowKind (h : Heap) (E : Row → PyData) : PyProof.Rows.KeyKind where
  α := Row
  blt := rowLt
  irrefl := rowLt_irrefl
  trans := fun _ _ _ => rowLt_trans
  negTrans := fun a b c h1 => by
    by_cases e : a = b
    · subst e; exact .inr h1
    · cases q : rowLt a b with
      | true => exact .inl rfl
      | false => exact .inr (rowLt_trans (rowLt_total e q) h1)
  total := fun a b h1 h2 => by
    by_cases e : a = b
    · exact e
    · rw [rowLt_total e h1] at h2; cases h2
  keyOf := fun v => open Classical in if q : ∃ r, KeyIs1 h E v r then some q.choose else none
  dflt := []
theorem rowKind_some {h : Heap} {E : Row → PyData} (T : Tells E) {v : Value} {r : Row} (k : KeyIs1 h E v r) : (rowKind h E).keyOf v = some r := by
  have q : ∃ r, KeyIs1 h E v r := ⟨r, k⟩
  have e : (rowKind h E).keyOf v = some q.choose := by
    show (open Classical in if q : ∃ r, KeyIs1 h E v r then some q.choose else none) = _
    rw [dif_pos q]
  obtain ⟨as, r1⟩ := q.choose_spec
  obtain ⟨bs, r2⟩ := k
  rw [e, T.inj _ _ (SeqAt.plain_unique _ _ _ _ _ (T.plain _) r1 r2)]
theorem rowKind_inv {h : Heap} {E : Row → PyData} {v : Value} {r : Row} (e : (rowKind h E).keyOf v = some r) : KeyIs1 h E v r := by
  by_cases q : ∃ r, KeyIs1 h E v r
  · have e' : (rowKind h E).keyOf v = some q.choose := by
      show (open Classical in if q : ∃ r, KeyIs1 h E v r then some q.choose else none) = _
      rw [dif_pos q]
    rw [e'] at e
    rw [← Option.some.inj e]
    exact q.choose_spec
  · have e' : (rowKind h E).keyOf v = none := by
      show (open Classical in if q : ∃ r, KeyIs1 h E v r then some q.choose else none) = _
      rw [dif_neg q]
      rfl
    rw [e'] at e
    cases e
theorem map_inj {enc : Key → PyData} (hi : ∀ x y, enc x = enc y → x = y) : ∀ {a b : Row}, a.map enc = b.map enc → a = b
  | [], [], _ => rfl
  | [], _ :: _, h => by simp at h
  | _ :: _, [], h => by simp at h
  | x :: a, y :: b, h => by
    have h' : enc x :: a.map enc = enc y :: b.map enc := h
    injection h' with h1 h2
    rw [hi _ _ h1, map_inj hi h2]
theorem rank_inj (x y : Key) (h : rankD x = rankD y) : x = y := by
  cases x <;> cases y <;> simp [rankD] at h <;> simp [h]
theorem law_inj (x y : Key) (h : lawD x = lawD y) : x = y := by
  cases x <;> cases y <;> simp [lawD] at h <;> simp [h]
theorem tells_rank : Tells rankRow := ⟨fun a b h => map_inj rank_inj (by injection h), fun a => by show PyData.plainAll (a.map rankD) = true; exact plain_map rank_plain a⟩
theorem tells_law : Tells lawRow := ⟨fun a b h => map_inj law_inj (by injection h), fun a => by show PyData.plainAll (a.map lawD) = true; exact plain_map law_plain a⟩
section
variable {prog : Program} {w : World} {A : Around} {E : Value → Shared → Prop} {s : Shared} {Q : Bool → Shared → Prop}
/-- the test where one type is known: the type's own -/
theorem one_lists {a b : Row} {v u : Value} {as bs : List Addr} (rx : Reads s.heap v (lawRow a) as) (ry : Reads s.heap u (lawRow b) bs) (hu : A.units + 12 < cLine) (hq : Q (rowLt a b) s) : wpAny (model prog w) A (oneLt' true v u) Q E s := by
  obtain ⟨l, xs, cs, rfl, hl, ra⟩ := lst_items rx
  obtain ⟨m, ys, ds, rfl, hm, rb⟩ := lst_items ry
  obtain ⟨h1, h2, h3⟩ := row_parts (A := A) eqv_law law_plain law_depth (fun B x y v u cs ds r1 r2 q => rc_law r1 r2 q) ra rb hu
  obtain ⟨o, o1, o2, _⟩ := id hl
  rw [oneLt'_eq]
  simp only [if_true]
  refine wpAny_bind (wpAny_cRoomFor (by omega) ?_)
  refine wpAny_bind (wpAny_callSpecialIfBound?_slot (T := "list") ⟨o, o1, o2⟩ F.slot_list_lt (SeqAt.call_list_lt (e := SeqAt.pairEq (a.map lawD) (b.map lawD)) (r := fun j => oneLt (a.getD j (.inl 0)) (b.getD j (.inl 0))) hl hm h1 (fun j j1 j2 _ => h2 j j1 j2) ?_))
  rw [show SeqAt.firstLt (SeqAt.pairEq (a.map lawD) (b.map lawD)) (fun j => oneLt (a.getD j (.inl 0)) (b.getD j (.inl 0))) (decide (xs.size < ys.size)) (List.range (min xs.size ys.size)) = rowLt a b from h3]
  exact wpAny_truthy_bool hq
theorem one_tups {a b : Row} {v u : Value} {as bs : List Addr} (rx : Reads s.heap v (rankRow a) as) (ry : Reads s.heap u (rankRow b) bs) (hu : A.units + 12 < cLine) (hq : Q (rowLt a b) s) : wpAny (model prog w) A (oneLt' true v u) Q E s := by
  obtain ⟨l, xs, rfl, hl, ra⟩ := tup_items rx
  obtain ⟨m, ys, rfl, hm, rb⟩ := tup_items ry
  obtain ⟨h1, h2, h3⟩ := row_parts (A := A) eqv_rank rank_plain rank_depth (fun B x y v u cs ds r1 r2 q => rc_rank r1 r2 q) ra rb hu
  obtain ⟨o, o1, o2, _⟩ := id hl
  rw [oneLt'_eq]
  simp only [if_true]
  refine wpAny_bind (wpAny_cRoomFor (by omega) ?_)
  refine wpAny_bind (wpAny_callSpecialIfBound?_slot (T := "tuple") ⟨o, o1, o2⟩ F.slot_tuple_lt (call_tup_lt hl hm h1 (fun j j1 j2 _ _ => h2 j j1 j2) ?_))
  rw [h3]
  exact wpAny_truthy_bool hq
/-- the test of no known type -/
theorem one_gen {k : Bool} {v u : Value} (h : RcLt A s v u k) (hq : Q k s) : wpAny (model prog w) A (oneLt' false v u) Q E s := by
  rw [oneLt'_eq]
  simp only [Bool.false_eq_true, if_false]
  exact wpAny_bind (h prog w E _ (wpAny_truthy_bool hq))
/-- the test place by place, as tuples that are not empty are compared -/
theorem kat_rows : ∀ (a b : Row) (i : Nat) (vs ws : List Value) (as bs : List Addr) (fin : Bool), ReadsAll s.heap vs (a.map rankD) as → ReadsAll s.heap ws (b.map rankD) bs → A.units + 12 < cLine → fin = decide (a.length < b.length) → Q (rowLt a b) s →
    KatLex prog w A false fin Q (vs.zip ws) i s
  | [], [], i, vs, ws, as, bs, fin, ra, rb, _, hf, hq => by
    cases ra; cases rb
    subst hf
    exact kat_nil (by simpa [rowLt] using hq)
  | [], y :: b, i, vs, ws, as, bs, fin, ra, rb, _, hf, hq => by
    cases ra
    subst hf
    rw [List.zip_nil_left]
    exact kat_nil (by simpa [rowLt] using hq)
  | x :: a, [], i, vs, ws, as, bs, fin, ra, rb, _, hf, hq => by
    cases rb
    subst hf
    rw [List.zip_nil_right]
    exact kat_nil (by simpa [rowLt] using hq)
  | x :: a, y :: b, i, vs, ws, as, bs, fin, ra, rb, hu, hf, hq => by
    have ra' : ReadsAll s.heap vs (rankD x :: a.map rankD) as := ra
    have rb' : ReadsAll s.heap ws (rankD y :: b.map rankD) bs := rb
    cases ra' with
    | cons r1 r2 =>
      cases rb' with
      | cons q1 q2 =>
        rw [List.zip_cons_cons]
        refine kat_cons (SeqAt.eqAt_plain (rankD x) (rankD y) A s _ _ _ _ r1 q1 (rank_plain x) (rank_plain y) (by have := rank_depth x; omega) prog w _ _ ?_)
        rw [eqv_rank]
        rw [rowLt] at hq
        by_cases h : x = y
        · rw [if_pos h] at hq
          rw [decide_eq_true h]
          exact kat_yes (kat_rows a b (i + 1) _ _ _ _ fin r2 q2 hu (by simpa using hf) hq)
        · rw [if_neg h] at hq
          rw [decide_eq_false h]
          exact kat_no (one_gen (rc_rank r1 q1 (by omega)) hq)
end
section
variable {M : Model} {A : Around} {E : Value → Shared → Prop} {s : Shared}
/-- the first items, where there are any -/
theorem firsts_rank : ∀ (vs : List Value) (rows : List Row), EachIs (KeyIs1 s.heap rankRow) vs rows → ∃ fs : List (Option Value), fs.map (·.isSome) = rows.map (fun r => !r.isEmpty) ∧
    (∀ v, some v ∈ fs → ∃ x as, Reads s.heap v (rankD x) as) ∧ ∀ Q : List (Option Value) → Shared → Prop, Q fs s → wpAny M A (vs.mapM firstOfTuple') Q E s
  | [], [], _ => by
    refine ⟨[], rfl, fun v hv => ?_, fun Q hq => ?_⟩
    · exact (List.not_mem_nil hv).elim
    · rw [List.mapM_nil]
      exact wpAny_pure hq
  | [], _ :: _, h => by cases h
  | _ :: _, [], h => by cases h
  | v :: vs, r :: rows, h => by
    cases h with
    | cons h1 h2 =>
      obtain ⟨fs, f1, f2, f3⟩ := firsts_rank vs rows h2
      obtain ⟨as, k⟩ := h1
      obtain ⟨l, xs, rfl, hl, ra⟩ := tup_items k
      obtain ⟨o, o1, o2, n, o3⟩ := id hl
      refine ⟨xs[0]? :: fs, ?_, fun u hu => ?_, fun Q hq => ?_⟩
      · rw [List.map_cons, List.map_cons, f1]
        congr 1
        have n1 := SeqAt.ReadsAll.length _ _ _ ra
        cases r with
        | nil =>
          have z : xs.size = 0 := by simpa using n1
          rw [Array.getElem?_eq_none (by omega)]
          rfl
        | cons x t =>
          have z : 0 < xs.size := by
            have : xs.size = t.length + 1 := by simpa using n1
            omega
          rw [Array.getElem?_eq_getElem z]
          rfl
      · rcases List.mem_cons.mp hu with q | q
        · cases r with
          | nil =>
            have n1 := SeqAt.ReadsAll.length _ _ _ ra
            have z : xs.size = 0 := by simpa using n1
            rw [Array.getElem?_eq_none (by omega)] at q
            cases q
          | cons x t =>
            obtain ⟨z, bs, cs, r1, _⟩ := all1 (i := 0) (show ReadsAll s.heap (xs.toList.drop 0) (rankD x :: t.map rankD) as from ra)
            rw [Array.getElem?_eq_getElem z] at q
            rw [Option.some.inj q]
            exact ⟨x, bs, r1⟩
        · exact f2 u q
      · rw [List.mapM_cons]
        refine wpAny_bind ?_
        rw [kas_first_eq]
        refine wpAny_bind (Looks.here (show Looks M s.heap (typeOf (.ref l)) o.cls from (Looks.ld o1).andThen .now) ?_)
        rw [o2, if_neg (by first | decide | simp)]
        refine wpAny_bind (listItems_at o1 o3 (wpAny_pure ?_))
        exact wpAny_bind (f3 (fun bs s' => wpAny M A (pure (xs[0]? :: bs)) Q E s') (wpAny_pure hq))
theorem one_type {vs : List Value} {T : Value} {Q : Option Value → Shared → Prop} (h1 : 0 < vs.length) (hT : ∀ v ∈ vs, Looks M s.heap (typeOf v) T) (hT2 : (T == T) = true) (hq : Q (some T) s) : wpAny M A (oneTypeOnly' vs.toArray) Q E s := by
  rw [oneTypeOnly'_eq, List.mapM_toArray, map_eq_pure_bind]
  refine wpAny_bind (wpAny_bind (kas_mapM (r := T) _ (fun v hv Q' q => (hT v hv).here q) (wpAny_pure ?_)))
  obtain ⟨v, vs', rfl⟩ : ∃ v vs', vs = v :: vs' := by
    match vs, h1 with
    | v :: vs', _ => exact ⟨v, vs', rfl⟩
  have hall : ((List.map (fun _ => T) (v :: vs')).toArray.all fun x => x == T) = true := by
    simp only [List.all_toArray, List.all_map, List.all_eq_true]
    intro _ _
    exact hT2
  rw [show (List.map (fun _ => T) (v :: vs')).toArray[0]? = some T by simp]
  simp only [hall, if_true]
  exact wpAny_pure hq
end
section
variable {prog : Program} {w : World} {A : Around} {s : Shared}
theorem looks_rank {v : Value} {r : Row} (k : KeyIs1 s.heap rankRow v r) {M : Model} : Looks M s.heap (typeOf v) (.type "tuple") := by
  obtain ⟨as, k⟩ := k
  exact looks_reads k
theorem each_left {α β : Type} {R : α → β → Prop} {as : List α} {bs : List β} (h : EachIs R as bs) {a : α} (ha : a ∈ as) : ∃ b, R a b := by
  obtain ⟨b, _, r⟩ := h.left a ha
  exact ⟨b, r⟩
theorem sorts_rank {ks : List Value} {rows : List Row} (e : EachIs (KeyIs1 s.heap rankRow) ks rows) (hu : A.units + 12 < cLine) : SortsAt prog w A s (rowKind s.heap rankRow) ks := by
  refine ⟨fun v hv => ?_, ?_⟩
  · obtain ⟨r, k⟩ := each_left e hv
    exact ⟨r, rowKind_some tells_rank k⟩
  · have gen : H.LtAt prog w A s (rowKind s.heap rankRow) general' := fun E x y (a b : Row) Q ha hb hq => by
      obtain ⟨as, ra⟩ := rowKind_inv ha
      obtain ⟨bs, rb⟩ := rowKind_inv hb
      exact one_gen (rc_rankRow ra rb hu) hq
    have one : H.LtAt prog w A s (rowKind s.heap rankRow) oneType' := fun E x y (a b : Row) Q ha hb hq => by
      obtain ⟨as, ra⟩ := rowKind_inv ha
      obtain ⟨bs, rb⟩ := rowKind_inv hb
      rw [keyLt'_oneType]
      exact one_tups ra rb hu hq
    have tup : H.LtAt prog w A s (rowKind s.heap rankRow) (tuples' false) := fun E x y (a b : Row) Q ha hb hq => by
      obtain ⟨as, ra⟩ := rowKind_inv ha
      obtain ⟨bs, rb⟩ := rowKind_inv hb
      obtain ⟨l, xs, rfl, ⟨o, o1, o2, n, o3⟩, r1⟩ := tup_items ra
      obtain ⟨m, ys, rfl, ⟨p, p1, p2, k, p3⟩, r2⟩ := tup_items rb
      have n1 := SeqAt.ReadsAll.length _ _ _ r1
      have n2 := SeqAt.ReadsAll.length _ _ _ r2
      refine kat_lt o1 o3 p1 p3 (kat_rows a b 0 _ _ _ _ _ r1 r2 hu ?_ hq)
      simp only [Array.length_toList, List.length_map] at n1 n2
      rw [n1, n2]
    obtain ⟨fs, f1, f2, f3⟩ := firsts_rank (M := model prog w) (A := A) (E := fun _ _ => True) ks rows e
    by_cases hall : (fs.toArray.all fun x => x.isSome) = true
    · refine ⟨tuples' false, tup, fun h2 E Q hq => ?_⟩
      obtain ⟨fs', g1, g2, g3⟩ := firsts_rank (M := model prog w) (A := A) (E := E) ks rows e
      have hl : fs'.map (·.isSome) = fs.map (·.isSome) := by rw [g1, f1]
      have hall' : (fs'.toArray.all fun x => x.isSome) = true := by
        have q : (fs.map (·.isSome)).all id = true := by rw [List.all_map]; simpa using hall
        rw [← hl, List.all_map] at q
        simpa using q
      rw [keyKind'_eq, List.mapM_toArray, map_eq_pure_bind]
      refine wpAny_bind (wpAny_bind (g3 _ (wpAny_pure ?_)))
      rw [if_pos hall']
      refine wpAny_bind (wpAny_rule ?_)
      have hlen : fs'.length = ks.length := by
        have q := congrArg List.length g1
        simp only [List.length_map] at q
        rw [q, e.length]
      obtain ⟨gs, hgs⟩ : ∃ gs : List Value, fs' = gs.map some := ⟨fs'.filterMap id, by
        have : ∀ l : List (Option Value), (∀ o ∈ l, o.isSome = true) → l = (l.filterMap id).map some := by
          intro l
          induction l with
          | nil => intro _; rfl
          | cons o t ih =>
            intro h
            cases o with
            | none => exact absurd (h none List.mem_cons_self) (by simp)
            | some v =>
              show some v :: t = some v :: (t.filterMap id).map some
              rw [← ih fun o ho => h o (List.mem_cons_of_mem _ ho)]
        refine this fs' fun o ho => ?_
        have q := hall'
        simp only [List.all_toArray, List.all_eq_true] at q
        exact q o ho⟩
      have hfm : fs'.toArray.filterMap id = gs.toArray := by rw [hgs]; simp
      rw [hfm]
      refine wpAny_bind (one_type (T := .type "tuple") (by rw [hgs, List.length_map] at hlen; omega) (fun v hv => ?_) (by simp) (wpAny_pure ?_))
      · obtain ⟨x, as, k⟩ := g2 v (by rw [hgs]; exact List.mem_map.mpr ⟨v, hv, rfl⟩)
        have q := looks_reads (M := model prog w) k
        cases x <;> exact q
      · simpa using hq
    · by_cases hfst : rows.head?.any (fun r => !r.isEmpty) = true
      · refine ⟨general', gen, fun h2 E Q hq => ?_⟩
        obtain ⟨fs', g1, g2, g3⟩ := firsts_rank (M := model prog w) (A := A) (E := E) ks rows e
        have hl : fs'.map (·.isSome) = fs.map (·.isSome) := by rw [g1, f1]
        have hall' : ¬ (fs'.toArray.all fun x => x.isSome) = true := fun z => hall (by
          have q : (fs'.map (·.isSome)).all id = true := by rw [List.all_map]; simpa using z
          rw [hl, List.all_map] at q
          simpa using q)
        have h0 : (fs'.toArray[0]?.bind id).isSome = true := by
          cases rows with
          | nil => simp at hfst
          | cons r rows =>
            cases fs' with
            | nil => simp at g1
            | cons o fs' =>
              have q : o.isSome = !r.isEmpty := by
                have z : o.isSome :: fs'.map (·.isSome) = (!r.isEmpty) :: rows.map (fun r => !r.isEmpty) := g1
                injection z
              have z : (!r.isEmpty) = true := by simpa using hfst
              rw [z] at q
              simpa using q
        rw [keyKind'_eq, List.mapM_toArray, map_eq_pure_bind]
        refine wpAny_bind (wpAny_bind (g3 _ (wpAny_pure ?_)))
        rw [if_neg hall', if_pos h0]
        exact wpAny_pure hq
      · refine ⟨oneType', one, fun h2 E Q hq => ?_⟩
        obtain ⟨fs', g1, g2, g3⟩ := firsts_rank (M := model prog w) (A := A) (E := E) ks rows e
        have hl : fs'.map (·.isSome) = fs.map (·.isSome) := by rw [g1, f1]
        have hall' : ¬ (fs'.toArray.all fun x => x.isSome) = true := fun z => hall (by
          have q : (fs'.map (·.isSome)).all id = true := by rw [List.all_map]; simpa using z
          rw [hl, List.all_map] at q
          simpa using q)
        have h0 : ¬ (fs'.toArray[0]?.bind id).isSome = true := by
          cases rows with
          | nil =>
            cases fs' with
            | nil => simp
            | cons o fs' => simp at g1
          | cons r rows =>
            cases fs' with
            | nil => simp at g1
            | cons o fs' =>
              have q : o.isSome = !r.isEmpty := by
                have z : o.isSome :: fs'.map (·.isSome) = (!r.isEmpty) :: rows.map (fun r => !r.isEmpty) := g1
                injection z
              have z : (!r.isEmpty) = false := by simpa using hfst
              rw [z] at q
              cases o with
              | none => simp
              | some v => simp at q
        rw [keyKind'_eq, List.mapM_toArray, map_eq_pure_bind]
        refine wpAny_bind (wpAny_bind (g3 _ (wpAny_pure ?_)))
        rw [if_neg hall', if_neg h0]
        refine wpAny_bind (one_type (T := .type "tuple") (by omega) (fun v hv => ?_) (by simp) (wpAny_pure ?_))
        · obtain ⟨r, k⟩ := each_left e hv
          exact looks_rank k
        · simpa using hq
theorem sorts_law {ks : List Value} {rows : List Row} (e : EachIs (KeyIs1 s.heap lawRow) ks rows) (hu : A.units + 12 < cLine) : SortsAt prog w A s (rowKind s.heap lawRow) ks := by
  refine ⟨fun v hv => ?_, oneType', fun E x y (a b : Row) Q ha hb hq => ?_, fun h2 E Q hq => ?_⟩
  · obtain ⟨r, k⟩ := each_left e hv
    exact ⟨r, rowKind_some tells_law k⟩
  · obtain ⟨as, ra⟩ := rowKind_inv ha
    obtain ⟨bs, rb⟩ := rowKind_inv hb
    rw [keyLt'_oneType]
    exact one_lists ra rb hu hq
  · refine kas_kind (T := .type "list") h2 (fun v hv => ?_) (by decide) (by simp) hq
    obtain ⟨r, as, k⟩ := each_left e hv
    exact looks_reads k
end
end KA
set_option Elab.async false
set_option linter.all false
set_option maxRecDepth 100000
set_option maxHeartbeats 4000000
/-! how rows, pairs and bags stand in the abstract heap; calls of defs by name -/
namespace KA
open PySem PySem.Spec PyProof.Rows L2
open PySem.W (EachIs)
def RowAt (H : Hp) (q : Addr) (r : Row) : Prop := H q = some (.tup (r.map kV))
def PairAt (H : Hp) (t : Addr) (e : Row × Int) : Prop := ∃ q, H t = some (.tup [.ref q, .int e.2]) ∧ RowAt H q e.1
def RowsAt (H : Hp) (p : Addr) (rs : List Row) : Prop := ∃ as : List Addr, H p = some (.lst (as.map V.ref)) ∧ EachIs (RowAt H) as rs
def BagAt (H : Hp) (p : Addr) (b : Bag) : Prop := ∃ ts : List Addr, H p = some (.lst (ts.map V.ref)) ∧ EachIs (PairAt H) ts b
theorem same_new {H : Hp} {p : Addr} {o : HO} (h : H p = none) : Same H (upd H p o) := fun b x e => by
  rw [upd_ne (ne_of_none e h)]
  exact e
/-- an object that was not there at the start may change -/
theorem same_mut {H H' : Hp} {p : Addr} {o : HO} (e : Same H H') (h : H p = none) : Same H (upd H' p o) := fun b x q => by
  rw [upd_ne (ne_of_none q h)]
  exact e b x q
theorem RowAt.mono {H H' : Hp} (s : Same H H') {q : Addr} {r : Row} (h : RowAt H q r) : RowAt H' q r := s _ _ h
theorem PairAt.mono {H H' : Hp} (s : Same H H') {t : Addr} {e : Row × Int} (h : PairAt H t e) : PairAt H' t e := by
  obtain ⟨q, h1, h2⟩ := h
  exact ⟨q, s _ _ h1, h2.mono s⟩
theorem RowsAt.mono {H H' : Hp} (s : Same H H') {p : Addr} {rs : List Row} (h : RowsAt H p rs) : RowsAt H' p rs := by
  obtain ⟨as, h1, h2⟩ := h
  exact ⟨as, s _ _ h1, h2.mono fun _ _ q => q.mono s⟩
theorem BagAt.mono {H H' : Hp} (s : Same H H') {p : Addr} {b : Bag} (h : BagAt H p b) : BagAt H' p b := by
  obtain ⟨ts, h1, h2⟩ := h
  exact ⟨ts, s _ _ h1, h2.mono fun _ _ q => q.mono s⟩
theorem sq_l {K : PySem.W.Frag} {H : Hp} {a : Addr} {xs : List V} (h : H a = some (.lst xs)) : SqL K H a xs := .inl (.inl h)
theorem sq_t {K : PySem.W.Frag} {H : Hp} {a : Addr} {xs : List V} (h : H a = some (.tup xs)) : SqT K H a xs := .inl (.inl h)
theorem RowAt.sq {K : PySem.W.Frag} {H : Hp} {q : Addr} {r : Row} (h : RowAt H q r) : SqT K H q (r.map kV) := sq_t h
/-! ### data -/
theorem dp_key {K : PySem.W.Frag} {H : Hp} (x : Key) : Dp K H (kV x) (keyD x) := by
  cases x with
  | inl i => exact .int i
  | inr x => exact .str x
theorem dp_keys {K : PySem.W.Frag} {H : Hp} : ∀ r : Row, DpAll K H (r.map kV) (r.map keyD)
  | [] => .nil
  | x :: r => .cons (dp_key x) (dp_keys r)
theorem dp_row {K : PySem.W.Frag} {H : Hp} {q : Addr} {r : Row} (h : RowAt H q r) : Dp K H (.ref q) (rowD r) := .tup h.sq (dp_keys r)
def pairD (e : Row × Int) : PyData := .tuple [rowD e.1, .int e.2]
def bagD (b : Bag) : PyData := .list (b.map pairD)
theorem dp_pair {K : PySem.W.Frag} {H : Hp} {t : Addr} {e : Row × Int} (h : PairAt H t e) : Dp K H (.ref t) (pairD e) := by
  obtain ⟨q, h1, h2⟩ := h
  exact .tup (sq_t h1) (.cons (dp_row h2) (.cons (.int _) .nil))
theorem dp_each {K : PySem.W.Frag} {H : Hp} {α : Type} {R : Addr → α → Prop} {D : α → PyData} (f : ∀ a x, R a x → Dp K H (.ref a) (D x)) : ∀ {as : List Addr} {xs : List α}, EachIs R as xs → DpAll K H (as.map V.ref) (xs.map D)
  | _, _, .nil => .nil
  | _, _, .cons h t => .cons (f _ _ h) (dp_each f t)
theorem dp_bag {K : PySem.W.Frag} {H : Hp} {p : Addr} {b : Bag} (h : BagAt H p b) : Dp K H (.ref p) (bagD b) := by
  obtain ⟨ts, h1, h2⟩ := h
  exact .lst (sq_l h1) (dp_each (D := pairD) (fun _ _ q => dp_pair q) h2)
theorem dp_rows {K : PySem.W.Frag} {H : Hp} {p : Addr} {rs : List Row} (h : RowsAt H p rs) : Dp K H (.ref p) (.list (rs.map rowD)) := by
  obtain ⟨ts, h1, h2⟩ := h
  exact .lst (sq_l h1) (dp_each (D := rowD) (fun _ _ q => dp_row q) h2)
/-- all but what stands as something else than data is kept -/
def SameD (H H' : Hp) : Prop := ∀ b o, H b = some o → (∀ φ, o ≠ .ext φ) → H' b = some o
theorem Same.d {H H' : Hp} (s : Same H H') : SameD H H' := fun b o h _ => s b o h
theorem SameD.rd {H H' : Hp} (s : SameD H H') {a : Addr} {u : HO} (hu : ∀ φ, u ≠ .ext φ) (h : Rd H a u) : Rd H' a u := by
  rcases h with h | ⟨o, h⟩
  · exact .inl (s _ _ h hu)
  · exact .inr ⟨o, s _ _ h fun φ z => nomatch z⟩
mutual
theorem Dp.monoD {K : PySem.W.Frag} {H H' : Hp} (s : SameD H H') : ∀ (d : PyData) (v : V), Dp K H v d → Dp K H' v d
  | .none, _, h => by cases h; exact .non
  | .bool b, _, h => by cases h; exact .bl b
  | .int i, _, h => by cases h; exact .int i
  | .str x, _, h => by cases h; exact .str x
  | .list ds, _, h => by
    cases h with
    | lst hs ha =>
      refine .lst ?_ (DpAll.monoD s ds _ ha)
      rcases hs with q | q
      · exact .inl (s.rd (fun φ z => nomatch z) q)
      · exact .inr q
  | .tuple ds, _, h => by
    cases h with
    | tup hs ha =>
      refine .tup ?_ (DpAll.monoD s ds _ ha)
      rcases hs with q | q
      · exact .inl (s.rd (fun φ z => nomatch z) q)
      · exact .inr q
  | .dict _, _, h => by cases h
theorem DpAll.monoD {K : PySem.W.Frag} {H H' : Hp} (s : SameD H H') : ∀ (ds : List PyData) (vs : List V), DpAll K H vs ds → DpAll K H' vs ds
  | [], _, h => by cases h; exact .nil
  | d :: ds, _, h => by
    cases h with
    | cons h1 h2 => exact .cons (Dp.monoD s d _ h1) (DpAll.monoD s ds _ h2)
end
theorem Dp.mono {K : PySem.W.Frag} {H H' : Hp} (s : Same H H') {d : PyData} {v : V} (h : Dp K H v d) : Dp K H' v d := Dp.monoD (Same.d s) d v h
/-! ### == and != of data without a bound on their texts -/
section
variable {X : Cx}
def rEqP (K : PySem.W.Frag) : R2 := fun x y H Q => ∃ d e, Dp K H x d ∧ Dp K H y e ∧ d.plain = true ∧ e.plain = true ∧ d.depth ≤ 60 ∧ Q (.bl (PyData.eqv d e)) H
def rNeP (K : PySem.W.Frag) : R2 := fun x y H Q => ∃ d e, Dp K H x d ∧ Dp K H y e ∧ d.plain = true ∧ e.plain = true ∧ d.depth ≤ 60 ∧ Q (.bl (!PyData.eqv d e)) H
theorem op_eqP (hu : X.A.units + 64 < cLine) : OpR X (compareOp .Eq) (rEqP X.K) := by
  intro pins s σ H x y v u Q I rx ry h
  obtain ⟨d, e, hd, he, pd, pe, dd, q⟩ := h
  obtain ⟨as, r1⟩ := Dp.reads I d x v hd rx
  obtain ⟨bs, r2⟩ := Dp.reads I e y u he ry
  exact SeqAt.eq_plain r1 r2 pd pe (by omega) ⟨.bl _, H, I, rfl, q⟩
theorem op_neP (hu : X.A.units + 64 < cLine) : OpR X (compareOp .NotEq) (rNeP X.K) := by
  intro pins s σ H x y v u Q I rx ry h
  obtain ⟨d, e, hd, he, pd, pe, dd, q⟩ := h
  obtain ⟨as, r1⟩ := Dp.reads I d x v hd rx
  obtain ⟨bs, r2⟩ := Dp.reads I e y u he ry
  exact SeqAt.ne_plain r1 r2 pd pe (by omega) ⟨.bl _, H, I, rfl, q⟩
/-- t < u of two keys of rows, or of one value -/
def rLtK (K : PySem.W.Frag) : R2 := fun x y H Q => (∃ a b, Dp K H x (rankRow a) ∧ Dp K H y (rankRow b) ∧ Q (.bl (rowLt a b)) H) ∨ (∃ a b, Dp K H x (lawRow a) ∧ Dp K H y (lawRow b) ∧ Q (.bl (rowLt a b)) H) ∨
  (∃ a b, Dp K H x (rankD a) ∧ Dp K H y (rankD b) ∧ Q (.bl (oneLt a b)) H)
theorem op_ltK (hu : X.A.units + 64 < cLine) : OpR X (compareOp .Lt) (rLtK X.K) := by
  intro pins s σ H x y v u Q I rx ry h
  rcases h with ⟨a, b, hd, he, q⟩ | ⟨a, b, hd, he, q⟩ | ⟨a, b, hd, he, q⟩
  · obtain ⟨as, r1⟩ := Dp.reads I _ x v hd rx
    obtain ⟨bs, r2⟩ := Dp.reads I _ y u he ry
    exact rc_rankRow r1 r2 (by omega) X.prog X.w _ _ ⟨.bl _, H, I, rfl, q⟩
  · obtain ⟨as, r1⟩ := Dp.reads I _ x v hd rx
    obtain ⟨bs, r2⟩ := Dp.reads I _ y u he ry
    exact rc_lawRow r1 r2 (by omega) X.prog X.w _ _ ⟨.bl _, H, I, rfl, q⟩
  · obtain ⟨as, r1⟩ := Dp.reads I _ x v hd rx
    obtain ⟨bs, r2⟩ := Dp.reads I _ y u he ry
    exact rc_rank r1 r2 (by omega) X.prog X.w _ _ ⟨.bl _, H, I, rfl, q⟩
end
/-! ### defs called by their names -/
/-- the module's name x stands for a def that keeps the promise sp -/
def Cal (P : Program) (w : World) (K : PySem.W.Frag) (mg : Str → Option Value) (base : Heap) (x : Str) (k : Nat) (ps : List Str) (sp : Sp) : Prop :=
  ∃ f fd, mg x = some (.ref f) ∧ PySem.W.keepIn K (.ref f) = true ∧ Binds K fd ps [] ∧ FnOk P w K mg base CX0 k f fd ps sp
section
variable {X : Cx} {x : Str} {k : Nat} {ps : List Str} {sp : Sp} {E : XK} {p pos : Pos} {e : Expr} {es : List Expr} {t : TA}
theorem pe_cal (c : Cal X.prog X.w X.K X.mg X.base x k ps sp) (hr : Room k X.A) (ha : PA X (e :: es) t) (hg : Gl X x := by rfl) (hx : Passes CX0 X E0 := by exact pass0) (hdb : (x == ("__debug__" : Str)) = false := by decide)
    (he : starEach (e :: es) X.env = (false, eval e X.env) :: starEach es X.env := by rfl) (hpl : (backTo pos (starEach es X.env)).any (·.1) = false := by rfl) : PE X (.Call (.Name x p) (e :: es) [] pos) (tCall sp [] E0 t) := by
  obtain ⟨f, fd, g, kp, b, G⟩ := c
  exact pe_call G hr hg g kp b .nil hx ha hdb he hpl
end
/-- room for a call below -/
theorem _root_.L2.Room.lt {j k : Nat} {A : Around} (r : Room k A) (h : j ≤ k := by decide) : Room j A := r.mono h
theorem _root_.L2.Room.u64 {k : Nat} {A : Around} (r : Room k A) : A.units + 64 < cLine := by
  have := r.un
  omega
theorem _root_.L2.Room.u1 {k : Nat} {A : Around} (r : Room k A) : A.units + 1 < cLine := by
  have := r.un
  omega
end KA
set_option Elab.async false
set_option linter.all false
set_option maxRecDepth 100000
set_option maxHeartbeats 8000000
/-! sorted(rows, key=f), f a def that gives the key of a row -/
namespace KA
open PySem PySem.Spec PyProof.Rows L2
open PySem.W (EachIs SortsAt KeepsBut sorted_of_sort copyHeap copyHeap_at copyHeap_old keyH_end sortVals)
open PySem.Calls
section
variable {X : Cx}
/-- what a call f(row) does, wherever it is made -/
def KeyCall (X : Cx) (E : Row → PyData) (f : Addr) : Prop :=
  ∀ (pins : List (Addr × Obj)) (s : Shared) (σ : L2.St) (H : Hp) (q : Addr) (r : Row), Inv X pins σ H s → RowAt H q r → r.length ≤ 1000 →
    wpAny (model X.prog X.w) X.A.in1.in1 (call (.ref f) [.ref q]) (fun u s' => ∃ v H', Inv X pins σ H' s' ∧ Same H H' ∧ RelV v u ∧ Dp X.K H' v (E r)) (fun _ _ => False) s
/-- the promise of a def that gives keys -/
def spKey (K : PySem.W.Frag) (E : Row → PyData) : Sp := fun vs H Q _ => ∃ (q : Addr) (r : Row), vs = [.ref q] ∧ RowAt H q r ∧ r.length ≤ 1000 ∧ ∀ v H', Same H H' → Dp K H' v (E r) → Q v H'
theorem keyCall_of {E : Row → PyData} {f : Addr} {fd : FuncData} {k : Nat} {x : Str} (G : FnOk X.prog X.w X.K X.mg X.base CX0 k f fd [x] (spKey X.K E)) (hb : Binds X.K fd [x] []) (hr : Room (k + 2) X.A) : KeyCall X E f := by
  intro pins s σ H q r I hq hl
  have e0 := (I.env0.in1).in1
  refine wpAny_call (codeAny_mono (G.run X.A.in1.in1 X.stack s H ⟨[.ref q], []⟩ [.ref q] [.ref q] (fun v H' => Same H H' ∧ Dp X.K H' v (E r)) E0 (hr.in1).in1 e0 (hb s [.ref q] I.kIn rfl) (.cons rfl .nil)
    ⟨q, r, rfl, hq, hl, fun v H' s1 d => ⟨s1, d⟩⟩) fun z s' hz => ?_)
  cases z with
  | error e => exact False.elim hz
  | ok fl =>
    cases fl with
    | ret u =>
      obtain ⟨v, H', I', rv, s1, d⟩ := I.after hz
      exact ⟨v, H', I', s1, rv, d⟩
    | next => exact False.elim hz
    | brk => exact False.elim hz
    | cont => exact False.elim hz
def rSortRows (X : Cx) (f : Addr) : List V → List V → Hp → VK → Prop := fun vs zs H Q => ∃ (l : Addr) (as : List Addr) (rows : List Row), vs = [.ref l] ∧ zs = [.ref f] ∧ SqL X.K H l (as.map V.ref) ∧ EachIs (RowAt H) as rows ∧
  (∀ r ∈ rows, r.length ≤ 1000) ∧ (∀ p, H p = none → X.H_0 p = none) ∧ ∀ (p : Addr) (H' : Hp), Same H H' → H p = none → RowsAt H' p (sortRows rows) → Q (.ref p) H'
/-- the list of the keys so far -/
def keysO (kS : Addr) (kvs : List V) : HO := .ext fun h => ∃ (arr : Array Value) (e : Nat), Vals kvs arr.toList ∧ h.get? kS = some (seqObj "list" arr e)
/-- the list that is sorted, empty meanwhile -/
def nilO (a : Addr) (e : Nat) : HO := .ext fun h => h.get? a = some (seqObj "list" #[] e)
theorem keysO_ok {P : Program} {w : World} {H : Hp} {h : Heap} {kS : Addr} {kvs : List V} {arr : Array Value} {e : Nat} (v : Vals kvs arr.toList) (q : h.get? kS = some (seqObj "list" arr e)) : ObjOk P w H h kS (keysO kS kvs) :=
  ⟨⟨arr, e, v, q⟩, ⟨_, q⟩, fun h1 h2 ⟨a1, e1, v1, q1⟩ k => ⟨a1, e1, v1, k _ q1⟩⟩
theorem nilO_ok {P : Program} {w : World} {H : Hp} {h : Heap} {a : Addr} {e : Nat} (q : h.get? a = some (seqObj "list" #[] e)) : ObjOk P w H h a (nilO a e) :=
  ⟨q, ⟨_, q⟩, fun h1 h2 q1 k => k _ q1⟩
theorem upd_ext {H : Hp} {a : Addr} {o : HO} {φ : Heap → Prop} (h : H a = some (.ext φ)) : SameD H (upd H a o) := fun b u q n => by
  by_cases e : b = a
  · rw [e, h] at q
    exact absurd (Option.some.inj q).symm (n φ)
  · rw [upd_ne e]
    exact q
theorem del_ext {H : Hp} {a : Addr} {φ : Heap → Prop} (h : H a = some (.ext φ)) : SameD H (delH H a) := fun b u q n => by
  by_cases e : b = a
  · rw [e, h] at q
    exact absurd (Option.some.inj q).symm (n φ)
  · rw [delH_ne e]
    exact q
theorem refs_vals : ∀ {as : List Addr} {its : List Value}, Vals (as.map V.ref) its → its = as.map Value.ref
  | [], _, h => by cases h; rfl
  | a :: as, _, h => by
    have h' : Vals (V.ref a :: as.map V.ref) _ := h
    cases h' with
    | cons r t =>
      rw [refs_vals t]
      have e : _ = Value.ref a := r
      rw [e]
      rfl
theorem vals_refs : ∀ as : List Addr, Vals (as.map V.ref) (as.map Value.ref)
  | [] => .nil
  | a :: as => .cons rfl (vals_refs as)
theorem dps_reads {pins : List (Addr × Obj)} {s : Shared} {σ : L2.St} {H : Hp} {E : Row → PyData} (I : Inv X pins σ H s) : ∀ {kvs : List V} {rows : List Row} {ks : List Value}, EachIs (fun v r => Dp X.K H v (E r)) kvs rows → Vals kvs ks → EachIs (KeyIs1 s.heap E) ks rows
  | _, _, _, .nil, h => by cases h; exact .nil
  | _, _, _, .cons h t, q => by
    cases q with
    | cons q1 q2 =>
      obtain ⟨as, r⟩ := Dp.reads I _ _ _ h q1
      exact .cons ⟨as, r⟩ (dps_reads I t q2)
theorem each_snoc1 {α β : Type} {R : α → β → Prop} {x : α} {y : β} (h : R x y) : ∀ {as : List α} {bs : List β}, EachIs R as bs → EachIs R (as ++ [x]) (bs ++ [y])
  | _, _, .nil => .cons h .nil
  | _, _, .cons q t => .cons q (each_snoc1 h t)
theorem each_at {α β : Type} {R : α → β → Prop} : ∀ {as : List α} {bs : List β} {i : Nat} {x : α}, EachIs R as bs → as[i]? = some x → ∃ y, bs[i]? = some y ∧ R x y
  | _, _, _, _, .nil, h => by simp at h
  | _, _, 0, _, .cons q t, h => by
    simp at h
    subst h
    exact ⟨_, rfl, q⟩
  | _, _, i + 1, x, .cons q t, h => each_at (i := i) t (by simpa using h)
theorem vals_snoc {x : V} {u : Value} (r : RelV x u) {xs : List V} {us : List Value} (h : Vals xs us) : Vals (xs ++ [x]) (us ++ [u]) := h.append (.cons r .nil)
theorem each_refs {α : Type} {R : Addr → α → Prop} : ∀ {vs : List Value} {bs : List α}, EachIs (fun v b => ∃ a, v = Value.ref a ∧ R a b) vs bs → ∃ as : List Addr, vs = as.map Value.ref ∧ EachIs R as bs
  | _, _, .nil => ⟨[], rfl, .nil⟩
  | _, _, .cons ⟨a, e, r⟩ t => by
    obtain ⟨as, e2, r2⟩ := each_refs t
    exact ⟨a :: as, by rw [e, e2]; rfl, .cons r r2⟩
theorem each_map_l {α β γ : Type} {R : β → γ → Prop} (f : α → β) : ∀ {as : List α} {cs : List γ}, EachIs (fun a c => R (f a) c) as cs → EachIs R (as.map f) cs
  | _, _, .nil => .nil
  | _, _, .cons h t => .cons h (each_map_l f t)
theorem cr_sortKey {E : Row → PyData} {f : Addr} (T : Tells E)
    (hS : ∀ (prog : Program) (w : World) (A : Around) (s : Shared) (ks : List Value) (rows : List Row), EachIs (KeyIs1 s.heap E) ks rows → A.units + 12 < cLine → SortsAt prog w A s (rowKind s.heap E) ks)
    (hc : KeyCall X E f) (hu : X.A.units + 64 < cLine) (hx : X.ex = []) : CallRK X (.builtin "sorted") [Str.ofString "key"] (rSortRows X f) := by
  intro pins s σ H vs zs us ws Q I r rz h
  obtain ⟨l, as, rows, rfl, rfl, hs, hrow, hrl, h0, q⟩ := h
  obtain rfl := Vals.ref1 r
  obtain ⟨w1, rfl, e1⟩ := vals1 rz
  obtain rfl : w1 = Value.ref f := e1
  obtain ⟨its, rv, hl, hz⟩ := I.list hs
  obtain rfl := refs_vals rv
  rw [List.length_map] at hz
  have hzi : (as.map Value.ref).length ≤ sizeLine := by rw [List.length_map]; exact hz
  show wpAny (model X.prog X.w) X.A (call (.builtin "sorted") [.ref l] [(Str.ofString "key", .ref f)]) (EP X pins σ Q) X.xe s
  refine sorted_of_sort (vs := as.map Value.ref) hl.isList hzi (ksk_s1 _ _) (fun x => ksk_l1 _ _) fun E' => ?_
  rw [ksk_t1]
  obtain ⟨a, ea⟩ : ∃ a, a = s.heap.objs.size + 1 := ⟨_, rfl⟩
  rw [← ea]
  have ho := copyHeap_at s.heap (as.map Value.ref)
  rw [← ea] at ho
  have hHa : H a = none := I.hok.fresh (by rw [ea]; exact Nat.le_succ _)
  obtain ⟨e1, ho1⟩ : ∃ e1, ((copyHeap s.heap (as.map Value.ref)).update a (Obj.mapSeq fun _ => (#[] : Array Value))).get? a = some (seqObj "list" #[] e1) := ⟨_, get?_update_seq ho fun _ => #[]⟩
  have s1 := Heap.SameBut.update (copyHeap s.heap (as.map Value.ref)) a (Obj.mapSeq fun _ => (#[] : Array Value))
  have k1 : ∀ b u, s.heap.get? b = some u → ((copyHeap s.heap (as.map Value.ref)).update a (Obj.mapSeq fun _ => (#[] : Array Value))).get? b = some u := fun b u z =>
    (s1.2 b (by rw [ea]; exact Nat.ne_of_lt (Nat.lt_succ_of_lt (Heap.lt_size z)))).trans (copyHeap_old z)
  unfold ksk_tree
  refine wpAny_bind (listItems_at ho rfl ?_)
  refine wpAny_bind (listUpdate_at ho rfl ?_ (by rw [List.size_toArray]; exact hzi) (Nat.zero_le _))
  refine wpAny_bind (seqEpoch_at ho1 rfl ?_)
  refine wpAny_bind (wpAny_newTuple ?_ (by show (as.map Value.ref).toArray.toList.length ≤ _; simpa using hz))
  refine wpAny_bind (wpAny_newList ?_ (Nat.zero_le _))
  refine wpAny_holding ?_
  have I1 : Inv X pins σ (upd H a (nilO a e1)) { s with heap := (copyHeap s.heap (as.map Value.ref)).update a (Obj.mapSeq fun _ => (#[] : Array Value)) } :=
    I.laid (t' := s.toks) k1 (by rw [ea]; exact Nat.le_succ _) (nilO_ok ho1)
  obtain ⟨hT, ehT⟩ : ∃ hT, hT = ((copyHeap s.heap (as.map Value.ref)).update a (Obj.mapSeq fun _ => (#[] : Array Value))).push (seqObj "tuple" (as.map Value.ref).toArray 0) := ⟨_, rfl⟩
  have I2 : Inv X pins σ (upd H a (nilO a e1)) { s with heap := hT } := I1.kept (t' := s.toks) fun b u z => by rw [ehT]; exact Heap.get?_push_of_some _ z
  obtain ⟨kS, ekS⟩ : ∃ kS, kS = hT.objs.size := ⟨_, rfl⟩
  have hk0 : (upd H a (nilO a e1)) kS = none := I2.hok.fresh (by rw [ekS]; exact Nat.le_refl _)
  have hka : kS ≠ a := fun z => by
    rw [z, upd_same] at hk0
    cases hk0
  have hHk : H kS = none := by
    rw [upd_ne hka] at hk0
    exact hk0
  have nk0 : (hT.push (seqObj "list" #[] 0)).get? kS = some (seqObj "list" #[] 0) := by
    rw [ekS]
    exact Heap.get?_push_size _ rfl
  have I3 : Inv X pins σ (upd (upd H a (nilO a e1)) kS (keysO kS [])) { s with heap := hT.push (seqObj "list" #[] 0) } :=
    I2.laid (t' := s.toks) (fun b u z => Heap.get?_push_of_some _ z) (by rw [ekS]; exact Nat.le_refl _) (keysO_ok (arr := #[]) .nil nk0)
  rw [← ehT]
  show wpAny _ X.A.in1.in1 (ksk_rest a (.ref f) false (as.map Value.ref).toArray e1 (.ref hT.objs.size)) _ _ { s with heap := hT.push (seqObj "list" #[] 0) }
  rw [← ekS]
  unfold ksk_rest
  refine wpAny_bind (wpAny_rule ?_)
  rw [List.forIn_toArray]
  refine wpAny_bind (ksk_fold (fun i s' => ∃ H' kvs, Inv X pins σ H' s' ∧ Same H H' ∧ H' a = some (nilO a e1) ∧ H' kS = some (keysO kS kvs) ∧ EachIs (fun v r => Dp X.K H' v (E r)) kvs (rows.take i)) (as.map Value.ref) 0 _
    ⟨_, [], I3, same_mut (same_mut (Same.refl H) hHa) hHk, by rw [upd_ne hka.symm, upd_same], upd_same, by rw [List.take_zero]; exact .nil⟩ ?step ?done)
  case step =>
    rintro j x s' hxj ⟨H', kvs, I', sm, na, nk, hd⟩
    simp only [Nat.zero_add] at hd ⊢
    rw [List.getElem?_map] at hxj
    cases haj : as[j]? with
    | none => rw [haj] at hxj; cases hxj
    | some p =>
      rw [haj] at hxj
      obtain rfl : Value.ref p = x := Option.some.inj hxj
      obtain ⟨r, hrj, hrp⟩ := each_at hrow haj
      have hj : j < rows.length := (List.getElem?_eq_some_iff.mp hrj).1
      refine wpAny_bind (wpAny_attempt (wpAny_mono (hc pins s' σ H' p r I' (hrp.mono sm) (hrl r (List.mem_of_getElem? hrj))) (fun v s'' he => ?_) fun _ _ hF => hF.elim))
      obtain ⟨kv, H2, I4, sm2, rkv, hdp⟩ := he
      try dsimp only
      obtain ⟨⟨arr, e, va, gk⟩, _, _⟩ := I4.hok kS _ (sm2 _ _ nk)
      have la : arr.size ≤ as.length := by
        have q1 := va.length
        have q2 := hd.length
        rw [List.length_take] at q2
        have q3 := hrow.length
        have q4 : arr.toList.length = arr.size := Array.length_toList
        omega
      obtain ⟨c2, hc2⟩ : ∃ c2, (s''.heap.update kS (Obj.mapSeq (·.push v))).get? kS = some (seqObj "list" (arr.push v) c2) := ⟨_, get?_update_seq gk (·.push v)⟩
      have s3 := Heap.SameBut.update s''.heap kS (Obj.mapSeq (·.push v))
      refine wpAny_bind (listUpdate_at gk rfl ?_ (Nat.le_trans la hz) (Nat.le_trans (Nat.le_of_eq (Array.size_push ..)) (Nat.succ_le_succ (Nat.le_trans la hz))))
      have nk2 : H2 kS = some (keysO kS kvs) := sm2 _ _ nk
      have I5 : Inv X pins σ (upd H2 kS (keysO kS (kvs ++ [kv]))) { s'' with heap := s''.heap.update kS (Obj.mapSeq (·.push v)) } :=
        I4.write (t' := s''.toks) (by rw [nk2]; trivial) (.inl rfl) (fun b u hb z => (s3.2 b hb).trans z) ⟨_, hc2⟩ (keysO_ok (arr := arr.push v) (by rw [Array.toList_push]; exact vals_snoc rkv va) hc2)
      have sd : SameD H2 (upd H2 kS (keysO kS (kvs ++ [kv]))) := upd_ext nk2
      refine wpAny_pure ⟨rfl, _, kvs ++ [kv], I5, same_mut (sm.trans sm2) hHk, by rw [upd_ne hka.symm]; exact sm2 _ _ na, upd_same, ?_⟩
      rw [List.take_add_one, hrj]
      exact each_snoc1 (R := fun v r => Dp X.K (upd H2 kS (keysO kS (kvs ++ [kv]))) v (E r)) (Dp.monoD sd _ _ hdp) (hd.mono fun v r z => Dp.monoD sd _ _ (Dp.mono sm2 z))
  case done =>
    rintro s' ⟨H', kvs, I', sm, na, nk, hd⟩
    have et : rows.take (0 + (as.map Value.ref).length) = rows := List.take_of_length_le (by rw [List.length_map, hrow.length]; omega)
    rw [et] at hd
    obtain ⟨⟨arr, e, va, gk⟩, _, _⟩ := I'.hok kS _ nk
    have ga : s'.heap.get? a = some (seqObj "list" #[] e1) := (I'.hok a _ na).1
    try dsimp only
    refine wpAny_bind (listItems_at gk rfl ?_)
    have hks : EachIs (KeyIs1 s'.heap E) arr.toList rows := dps_reads I' hd va
    have hsz : arr.size = (as.map Value.ref).length := by
      have q1 := hks.length
      rw [Array.length_toList] at q1
      rw [q1, List.length_map, hrow.length]
    obtain ⟨G, gs, gn, J⟩ := I'.untrack nk (fr0_none (h0 kS hHk)) hx
    refine keyH_end (κ := rowKind s'.heap E) (h₁ := G) (fun b o _ z => gs b o z) gn gk ga hka (hS _ _ _ _ _ _ hks (by show X.A.units + 1 + 1 + 12 < _; omega)) hsz hzi fun h3 tk c k3 n3 => ⟨rfl, ?_⟩
    have hout : EachIs (fun v r => ∃ b, v = Value.ref b ∧ RowAt H b r) (sortVals (rowKind s'.heap E) false arr.toList (as.map Value.ref)) (sortRows rows) :=
      PySem.W.sortVals_each (κ := rowKind s'.heap E) (rev := false) (fun r => r) (each_map_l (R := fun v r => ∃ b, v = Value.ref b ∧ RowAt H b r) Value.ref (hrow.mono fun a r z => ⟨a, rfl, z⟩)) (hks.mono fun v r z => rowKind_some T z)
    obtain ⟨bs, eb, hb⟩ := each_refs hout
    rw [eb] at n3
    have nka : (delH H' kS) a = some (nilO a e1) := by
      rw [delH_ne hka.symm]
      exact na
    have J2 : Inv X pins σ (upd (delH H' kS) a (.lst (bs.map V.ref))) { s' with heap := h3, toks := tk } :=
      J.write (t' := tk) (by rw [nka]; trivial) (.inl rfl) (fun b u hbn z => k3 b u hbn z) ⟨_, n3⟩ ⟨by rw [List.length_map, hb.length, (sortRows_perm rows).length_eq, ← hrow.length]; exact hz, bs.map Value.ref, c, vals_refs bs, by simpa using n3⟩
    have sf : Same H (upd (delH H' kS) a (.lst (bs.map V.ref))) := by
      refine same_mut (fun b o z => ?_) hHa
      rw [delH_ne (ne_of_none z hHk)]
      exact sm b o z
    exact ⟨.ref a, _, J2, rfl, q a _ sf hHa ⟨bs, upd_same, hb.mono fun b r z => z.mono sf⟩⟩
end
end KA
set_option Elab.async false
set_option linter.all false
set_option maxRecDepth 100000
set_option maxHeartbeats 4000000
/-! comprehensions and loops: what is made, item by item -/
namespace KA
open PySem PySem.Spec PyProof.Rows L2
open PySem.W (EachIs)
/-- the tuples alone -/
def tups (H : Hp) : Hp := fun a => match H a with
  | some (.tup xs) => some (.tup xs)
  | _ => none
theorem tups_at {H : Hp} {a : Addr} {xs : List V} (h : H a = some (.tup xs)) : tups H a = some (.tup xs) := by
  unfold tups
  rw [h]
theorem tups_is {H : Hp} {a : Addr} {o : HO} (h : tups H a = some o) : ∃ xs, o = .tup xs ∧ H a = some (.tup xs) := by
  unfold tups at h
  split at h
  · rename_i xs e
    exact ⟨xs, (Option.some.inj h).symm, e⟩
  · cases h
theorem tups_sub (H : Hp) : Same (tups H) H := fun a o h => by
  obtain ⟨xs, rfl, e⟩ := tups_is h
  exact e
def TupKeep (H H' : Hp) : Prop := Same (tups H) (tups H')
theorem TupKeep.refl (H : Hp) : TupKeep H H := Same.refl _
theorem TupKeep.trans {H H1 H2 : Hp} (a : TupKeep H H1) (b : TupKeep H1 H2) : TupKeep H H2 := Same.trans a b
theorem TupKeep.of {H H' : Hp} (h : ∀ a xs, H a = some (.tup xs) → H' a = some (.tup xs)) : TupKeep H H' := fun a o q => by
  obtain ⟨xs, rfl, e⟩ := tups_is q
  exact tups_at (h a xs e)
theorem TupKeep.at {H H' : Hp} (k : TupKeep H H') {a : Addr} {xs : List V} (h : H a = some (.tup xs)) : H' a = some (.tup xs) := tups_sub H' _ _ (k _ _ (tups_at h))
theorem _root_.L2.Same.tk {H H' : Hp} (s : Same H H') : TupKeep H H' := .of fun _ _ h => s _ _ h
theorem tk_upd {H : Hp} {D : Addr} {o : HO} (h : ∀ xs, H D ≠ some (.tup xs)) : TupKeep H (upd H D o) := .of fun a xs q => by
  rw [upd_ne (fun e => h xs (by rw [← e]; exact q))]
  exact q
theorem tk_lst {H : Hp} {D : Addr} {o : HO} {xs : List V} (h : H D = some (.lst xs)) : TupKeep H (upd H D o) := tk_upd fun ys q => by
  rw [h] at q
  cases q
theorem RowAt.tk {H H' : Hp} (k : TupKeep H H') {q : Addr} {r : Row} (h : RowAt H q r) : RowAt H' q r := k.at h
theorem PairAt.tk {H H' : Hp} (k : TupKeep H H') {t : Addr} {e : Row × Int} (h : PairAt H t e) : PairAt H' t e := by
  obtain ⟨q, h1, h2⟩ := h
  exact ⟨q, k.at h1, h2.tk k⟩
section
variable {J : It} {n : Nat} {G : Hp → Prop} {Y : Nat → Hp → V → Hp → Prop} {β : Type}
/-- a comprehension over anything that is walked -/
theorem lc_go (w : Walk J n G Y) (bs : List β) (hn : bs.length = n) (keep : β → Bool) (R : Hp → V → β → Prop) (hR : ∀ H H' v b, TupKeep H H' → R H v b → R H' v b) (Rel : Hp → Prop)
    {g : TG} {tt : TT} {te : TE} {vs : List Nat} {σ : L2.St} {H1 : Hp} {D : Addr} {Qd : Hp → Prop} (h0 : Rel (upd H1 D (.lst []))) (hG : ∀ H, Rel H → G H) (hD : ∀ H acc, Rel H → Rel (upd H D (.lst acc))) (hz : n ≤ 100000)
    (turn : ∀ i x b H H', i < n → bs[i]? = some b → Rel H → (∃ acc, H D = some (.lst acc)) → Y i H x H' → ∀ (Q : VK) (Qn : Hp → Prop), (keep b = true → ∀ v H'', Rel H'' → H'' D = H D → TupKeep H H'' → R H'' v b → Q v H'') →
      (keep b = false → ∀ H'', Rel H'' → H'' D = H D → TupKeep H H'' → Qn H'') → g x (wipe σ vs) H' fun σ2 H2 => wipe σ2 vs = wipe σ vs ∧ tt σ2 H2 fun c H3 => if c = true then te σ2 H3 Q else Qn H3)
    (done : ∀ H acc, Rel H → H D = some (.lst acc) → EachIs (R H) acc (bs.filter keep) → Qd H) :
    ∃ W : Nat → Nat → Hp → Prop, (∃ m, W 0 m (upd H1 D (.lst []))) ∧ ∀ i m H, W i m H →
      (J.stop i H ∧ Qd H) ∨ (J.go i H ∧ ∃ Nx : Hp → Prop, (∀ H', Nx H' → ∃ m', m' < m ∧ W (i + 1) m' H') ∧ ∀ x H', J.yld i H x H' → g x (wipe σ vs) H' fun σ2 H2 => wipe σ2 vs = wipe σ vs ∧ tt σ2 H2 fun b H3 =>
        if b = true then te σ2 H3 fun y H4 => ∃ acc, H4 D = some (.lst acc) ∧ acc.length < sizeLine ∧ Nx (upd H4 D (.lst (acc ++ [y]))) else Nx H3) := by
  refine lc_it w (fun i H => Rel H ∧ ∃ acc, H D = some (.lst acc) ∧ EachIs (R H) acc ((bs.take i).filter keep)) ⟨h0, [], upd_same, by rw [List.take_zero]; exact .nil⟩ (fun i H _ p => hG H p.1) ?_ ?_
  · rintro i x H H' hi ⟨hr, acc, ha, he⟩ y
    obtain ⟨b, hb⟩ : ∃ b, bs[i]? = some b := ⟨_, List.getElem?_eq_getElem (by omega)⟩
    have et : bs.take (i + 1) = bs.take i ++ [b] := by rw [List.take_add_one, hb]; rfl
    refine turn i x b H H' hi hb hr ⟨acc, ha⟩ y _ _ (fun hk v H2 r2 d2 tk rv => ?_) fun hk H2 r2 d2 tk => ?_
    · have hlen : acc.length ≤ i := by
        rw [he.length]
        exact Nat.le_trans (List.length_filter_le ..) (by rw [List.length_take]; exact Nat.min_le_left _ _)
      have hd : H2 D = some (.lst acc) := d2.trans ha
      refine ⟨acc, hd, Nat.lt_of_lt_of_le (show acc.length < 100001 by omega) (by decide), hD _ _ r2, acc ++ [v], upd_same, ?_⟩
      rw [et, List.filter_append, List.filter_cons_of_pos hk]
      have k2 : TupKeep H2 (upd H2 D (.lst (acc ++ [v]))) := tk_lst hd
      exact each_snoc1 (hR _ _ _ _ k2 rv) (he.mono fun v b z => hR _ _ _ _ (tk.trans k2) z)
    · refine ⟨r2, acc, d2.trans ha, ?_⟩
      rw [et, List.filter_append, List.filter_cons_of_neg (by rw [hk]; exact Bool.false_ne_true), List.filter_nil, List.append_nil]
      exact he.mono fun v b z => hR _ _ _ _ tk z
  · rintro H ⟨hr, acc, ha, he⟩
    rw [List.take_of_length_le (by omega)] at he
    exact done H acc hr ha he
/-- the same where all objects of the start are kept -/
theorem lc_same (w : Walk J n G Y) (bs : List β) (hn : bs.length = n) (keep : β → Bool) (R : Hp → V → β → Prop) (hR : ∀ H H' v b, TupKeep H H' → R H v b → R H' v b)
    {g : TG} {tt : TT} {te : TE} {vs : List Nat} {σ : L2.St} {H1 : Hp} {D : Addr} {Qd : Hp → Prop} (hD : H1 D = none) (hG : ∀ H, Same H1 H → G H) (hz : n ≤ 100000)
    (turn : ∀ i x b H H', i < n → bs[i]? = some b → Same H1 H → Y i H x H' → ∀ (Q : VK) (Qn : Hp → Prop), (keep b = true → ∀ v H'', Same H H'' → R H'' v b → Q v H'') → (keep b = false → ∀ H'', Same H H'' → Qn H'') →
      g x (wipe σ vs) H' fun σ2 H2 => wipe σ2 vs = wipe σ vs ∧ tt σ2 H2 fun c H3 => if c = true then te σ2 H3 Q else Qn H3)
    (done : ∀ H acc, Same H1 H → H D = some (.lst acc) → EachIs (R H) acc (bs.filter keep) → Qd H) :
    ∃ W : Nat → Nat → Hp → Prop, (∃ m, W 0 m (upd H1 D (.lst []))) ∧ ∀ i m H, W i m H →
      (J.stop i H ∧ Qd H) ∨ (J.go i H ∧ ∃ Nx : Hp → Prop, (∀ H', Nx H' → ∃ m', m' < m ∧ W (i + 1) m' H') ∧ ∀ x H', J.yld i H x H' → g x (wipe σ vs) H' fun σ2 H2 => wipe σ2 vs = wipe σ vs ∧ tt σ2 H2 fun b H3 =>
        if b = true then te σ2 H3 fun y H4 => ∃ acc, H4 D = some (.lst acc) ∧ acc.length < sizeLine ∧ Nx (upd H4 D (.lst (acc ++ [y]))) else Nx H3) :=
  lc_go w bs hn keep R hR (Same H1) (same_new hD) hG (fun H acc s => same_mut s hD) hz (fun i x b H H' hi hb hr ⟨acc, ha⟩ y Q Qn h1 h2 => turn i x b H H' hi hb hr y Q Qn
    (fun hk v H2 s2 rv => h1 hk v H2 (hr.trans s2) (by rw [ha]; exact s2 _ _ ha) s2.tk rv) fun hk H2 s2 => h2 hk H2 (hr.trans s2) (by rw [ha]; exact s2 _ _ ha) s2.tk) done
end
theorem yes_in {te : TE} {σ : L2.St} {H : Hp} {Q : VK} {Qn : Hp → Prop} (h : te σ H Q) : tYes σ H fun c H3 => if c = true then te σ H3 Q else Qn H3 := by
  show if true = true then te σ H Q else Qn H
  rw [if_pos rfl]
  exact h
theorem filter_true {α : Type} (l : List α) : l.filter (fun _ => true) = l := List.filter_eq_self.mpr fun _ _ => rfl
theorem each_list {α : Type} {R : V → α → Prop} {P : Addr → α → Prop} (h : ∀ v x, R v x → ∃ a, v = V.ref a ∧ P a x) : ∀ {vs : List V} {xs : List α}, EachIs R vs xs → ∃ as : List Addr, vs = as.map V.ref ∧ EachIs P as xs
  | _, _, .nil => ⟨[], rfl, .nil⟩
  | _, _, .cons q t => by
    obtain ⟨a, rfl, p⟩ := h _ _ q
    obtain ⟨as, rfl, ps⟩ := each_list h t
    exact ⟨a :: as, rfl, .cons p ps⟩
theorem each_dps {K : PySem.W.Frag} {H : Hp} {α : Type} {E : α → PyData} : ∀ {vs : List V} {r : List α}, EachIs (fun v x => Dp K H v (E x)) vs r → DpAll K H vs (r.map E)
  | _, _, .nil => .nil
  | _, _, .cons h t => .cons h (each_dps t)
theorem map_at {α : Type} {f : α → V} {r : List α} {i : Nat} {v : V} (h : (r.map f)[i]? = some v) : ∃ x, r[i]? = some x ∧ v = f x := by
  rw [List.getElem?_map] at h
  cases e : r[i]? with
  | none => rw [e] at h; cases h
  | some x => rw [e] at h; exact ⟨x, rfl, (Option.some.inj h).symm⟩
/-- a datum of tuples alone -/
def Tp (K : PySem.W.Frag) (H : Hp) (v : V) (d : PyData) : Prop := Dp K (tups H) v d
theorem Tp.tk {K : PySem.W.Frag} {H H' : Hp} (k : TupKeep H H') {v : V} {d : PyData} (h : Tp K H v d) : Tp K H' v d := Dp.mono k h
theorem Tp.dp {K : PySem.W.Frag} {H : Hp} {v : V} {d : PyData} (h : Tp K H v d) : Dp K H v d := Dp.mono (tups_sub H) h
theorem sq_tups {K : PySem.W.Frag} {H : Hp} {a : Addr} {xs : List V} (h : H a = some (.tup xs)) : SqT K (tups H) a xs := .inl (.inl (tups_at h))
end KA
set_option Elab.async false
set_option linter.all false
set_option maxRecDepth 100000
set_option maxHeartbeats 0
namespace KA
open PySem PySem.Spec PyProof.Rows L2
def top (i : Nat) : Stmt := PySem.Challenge.pw_deltaloom_k11_whole_disks_after_crashes.main.body.getD i (.Pass ⟨0, 0, 0, 0⟩)
abbrev s_wrap : Stmt := top 9
abbrev s_rank : Stmt := top 10
abbrev s_row_rank : Stmt := top 11
abbrev s_format_value : Stmt := top 17
abbrev s_format_row : Stmt := top 18
abbrev s_format_bag : Stmt := top 19
abbrev s_format_change : Stmt := top 20
abbrev s_parse_change : Stmt := top 21
abbrev s_all_of : Stmt := top 22
abbrev s_require : Stmt := top 23
abbrev s_behind : Stmt := top 24
abbrev s_read_series : Stmt := top 25
abbrev s_read_enclosed : Stmt := top 26
abbrev s_read_integer : Stmt := top 27
abbrev s_read_text : Stmt := top 28
abbrev s_read_value : Stmt := top 29
abbrev s_read_row : Stmt := top 30
abbrev s_read_pair : Stmt := top 31
abbrev s_read_bag : Stmt := top 32
abbrev s_read_name : Stmt := top 33
abbrev s_read_named_bag : Stmt := top 34
abbrev s_read_change : Stmt := top 35
abbrev s_check_number : Stmt := top 42
abbrev s_encode_change : Stmt := top 43
abbrev s_read_changes : Stmt := top 44
abbrev s_in_bytes : Stmt := top 45
abbrev s_content_at : Stmt := top 46
abbrev s_change_of : Stmt := top 47
abbrev s__law_state : Stmt := top 50
abbrev s__law_draw : Stmt := top 51
abbrev s__law_one : Stmt := top 52
abbrev s__law_row : Stmt := top 53
abbrev s__law_key : Stmt := top 54
abbrev s__law_canon : Stmt := top 55
abbrev s__law_bag : Stmt := top 56
abbrev s__law_change : Stmt := top 57
abbrev s__law_check : Stmt := top 58
abbrev s__law_bytes : Stmt := top 59
abbrev s__law_shown : Stmt := top 60
abbrev s__law_shown_bag : Stmt := top 61
abbrev s__law_shown_change : Stmt := top 62
abbrev s__law_record : Stmt := top 63
abbrev s__law_chars : Stmt := top 64
abbrev s__law_parsed : Stmt := top 65
abbrev s__law_readable : Stmt := top 66
abbrev s__law_junk : Stmt := top 67
abbrev s__law_ends : Stmt := top 68
abbrev s__law_long : Stmt := top 69
abbrev s__law_sizes_right : Stmt := top 70
abbrev s__law_appended : Stmt := top 71
abbrev s__law_recovered : Stmt := top 72
abbrev s_law : Stmt := top 73
abbrev s_Disk___init__ : Stmt := inClass (top 48) 0
abbrev s_Disk_append : Stmt := inClass (top 48) 1
abbrev s_Disk_sync : Stmt := inClass (top 48) 2
abbrev s_Disk_crash : Stmt := inClass (top 48) 3
abbrev s_Disk_recover : Stmt := inClass (top 48) 4
theorem sc_Disk___init__ : FnScope ["self"] ["self"] (defScope s_Disk___init__) := ⟨rfl, rfl, rfl, by decide +kernel, rfl, by decide +kernel, by decide +kernel⟩
theorem sc_Disk_append : FnScope ["self", "change"] ["self", "change"] (defScope s_Disk_append) := ⟨rfl, rfl, rfl, by decide +kernel, rfl, by decide +kernel, by decide +kernel⟩
theorem sc_Disk_sync : FnScope ["self"] ["self"] (defScope s_Disk_sync) := ⟨rfl, rfl, rfl, by decide +kernel, rfl, by decide +kernel, by decide +kernel⟩
theorem sc_Disk_crash : FnScope ["self", "kept", "junk"] ["self", "kept", "junk"] (defScope s_Disk_crash) := ⟨rfl, rfl, rfl, by decide +kernel, rfl, by decide +kernel, by decide +kernel⟩
theorem sc_Disk_recover : FnScope ["self", "changes", "taken"] ["self"] (defScope s_Disk_recover) := ⟨rfl, rfl, rfl, by decide +kernel, rfl, by decide +kernel, by decide +kernel⟩
theorem sc_wrap : FnScope ["n"] ["n"] (defScope s_wrap) := ⟨rfl, rfl, rfl, by decide +kernel, rfl, by decide +kernel, by decide +kernel⟩
theorem sc_rank : FnScope ["value"] ["value"] (defScope s_rank) := ⟨rfl, rfl, rfl, by decide +kernel, rfl, by decide +kernel, by decide +kernel⟩
theorem sc_row_rank : FnScope ["row", "value"] ["row"] (defScope s_row_rank) := ⟨rfl, rfl, rfl, by decide +kernel, rfl, by decide +kernel, by decide +kernel⟩
theorem sc_format_value : FnScope ["value"] ["value"] (defScope s_format_value) := ⟨rfl, rfl, rfl, by decide +kernel, rfl, by decide +kernel, by decide +kernel⟩
theorem sc_format_row : FnScope ["row", "value"] ["row"] (defScope s_format_row) := ⟨rfl, rfl, rfl, by decide +kernel, rfl, by decide +kernel, by decide +kernel⟩
theorem sc_format_bag : FnScope ["bag", "row", "count"] ["bag"] (defScope s_format_bag) := ⟨rfl, rfl, rfl, by decide +kernel, rfl, by decide +kernel, by decide +kernel⟩
theorem sc_format_change : FnScope ["change", "name", "bag"] ["change"] (defScope s_format_change) := ⟨rfl, rfl, rfl, by decide +kernel, rfl, by decide +kernel, by decide +kernel⟩
theorem sc_parse_change : FnScope ["text"] ["text"] (defScope s_parse_change) := ⟨rfl, rfl, rfl, by decide +kernel, rfl, by decide +kernel, by decide +kernel⟩
theorem sc_all_of : FnScope ["text", "read_thing", "thing", "at"] ["text", "read_thing"] (defScope s_all_of) := ⟨rfl, rfl, rfl, by decide +kernel, rfl, by decide +kernel, by decide +kernel⟩
theorem sc_require : FnScope ["right", "at"] ["right", "at"] (defScope s_require) := ⟨rfl, rfl, rfl, by decide +kernel, rfl, by decide +kernel, by decide +kernel⟩
theorem sc_behind : FnScope ["text", "at", "word"] ["text", "at", "word"] (defScope s_behind) := ⟨rfl, rfl, rfl, by decide +kernel, rfl, by decide +kernel, by decide +kernel⟩
theorem sc_read_series : FnScope ["text", "at", "separator", "read_item", "item", "items"] ["text", "at", "separator", "read_item"] (defScope s_read_series) := ⟨rfl, rfl, rfl, by decide +kernel, rfl, by decide +kernel, by decide +kernel⟩
theorem sc_read_enclosed : FnScope ["text", "at", "ends", "read_item", "opening", "closing", "start", "items", "end"] ["text", "at", "ends", "read_item"] (defScope s_read_enclosed) := ⟨rfl, rfl, rfl, by decide +kernel, rfl, by decide +kernel, by decide +kernel⟩
theorem sc_read_integer : FnScope ["text", "at", "start", "end"] ["text", "at"] (defScope s_read_integer) := ⟨rfl, rfl, rfl, by decide +kernel, rfl, by decide +kernel, by decide +kernel⟩
theorem sc_read_text : FnScope ["text", "at", "start", "end", "found", "c"] ["text", "at"] (defScope s_read_text) := ⟨rfl, rfl, rfl, by decide +kernel, rfl, by decide +kernel, by decide +kernel⟩
theorem sc_read_value : FnScope ["text", "at", "number", "end"] ["text", "at"] (defScope s_read_value) := ⟨rfl, rfl, rfl, by decide +kernel, rfl, by decide +kernel, by decide +kernel⟩
theorem sc_read_row : FnScope ["text", "at", "values", "end"] ["text", "at"] (defScope s_read_row) := ⟨rfl, rfl, rfl, by decide +kernel, rfl, by decide +kernel, by decide +kernel⟩
theorem sc_read_pair : FnScope ["text", "at", "row", "end", "count"] ["text", "at"] (defScope s_read_pair) := ⟨rfl, rfl, rfl, by decide +kernel, rfl, by decide +kernel, by decide +kernel⟩
theorem sc_read_bag : FnScope ["text", "at", "pairs", "end", "ranks", "row", "_", "first", "second"] ["text", "at"] (defScope s_read_bag) := ⟨rfl, rfl, rfl, by decide +kernel, rfl, by decide +kernel, by decide +kernel⟩
theorem sc_read_name : FnScope ["text", "at", "end"] ["text", "at"] (defScope s_read_name) := ⟨rfl, rfl, rfl, by decide +kernel, rfl, by decide +kernel, by decide +kernel⟩
theorem sc_read_named_bag : FnScope ["text", "at", "name", "end", "bag"] ["text", "at"] (defScope s_read_named_bag) := ⟨rfl, rfl, rfl, by decide +kernel, rfl, by decide +kernel, by decide +kernel⟩
theorem sc_read_change : FnScope ["text", "at"] ["text", "at"] (defScope s_read_change) := ⟨rfl, rfl, rfl, by decide +kernel, rfl, by decide +kernel, by decide +kernel⟩
theorem sc_check_number : FnScope ["data", "number", "byte"] ["data"] (defScope s_check_number) := ⟨rfl, rfl, rfl, by decide +kernel, rfl, by decide +kernel, by decide +kernel⟩
theorem sc_encode_change : FnScope ["change", "text", "data", "c"] ["change"] (defScope s_encode_change) := ⟨rfl, rfl, rfl, by decide +kernel, rfl, by decide +kernel, by decide +kernel⟩
theorem sc_read_changes : FnScope ["data", "characters", "c", "changes", "taken", "content", "change"] ["data"] (defScope s_read_changes) := ⟨rfl, rfl, rfl, by decide +kernel, rfl, by decide +kernel, by decide +kernel⟩
theorem sc_in_bytes : FnScope ["number", "shifts", "shift"] ["number", "shifts"] (defScope s_in_bytes) := ⟨rfl, rfl, rfl, by decide +kernel, rfl, by decide +kernel, by decide +kernel⟩
theorem sc_content_at : FnScope ["data", "at", "start", "end"] ["data", "at"] (defScope s_content_at) := ⟨rfl, rfl, rfl, by decide +kernel, rfl, by decide +kernel, by decide +kernel⟩
theorem sc_change_of : FnScope ["content", "characters", "byte"] ["content", "characters"] (defScope s_change_of) := ⟨rfl, rfl, rfl, by decide +kernel, rfl, by decide +kernel, by decide +kernel⟩
theorem sc__law_state : FnScope ["script", "seed", "cell"] ["script"] (defScope s__law_state) := ⟨rfl, rfl, rfl, by decide +kernel, rfl, by decide +kernel, by decide +kernel⟩
theorem sc__law_draw : FnScope ["state", "many", "cells", "k", "amount", "mixed"] ["state", "many"] (defScope s__law_draw) := ⟨rfl, rfl, rfl, by decide +kernel, rfl, by decide +kernel, by decide +kernel⟩
theorem sc__law_one : FnScope ["state", "kind"] ["state"] (defScope s__law_one) := ⟨rfl, rfl, rfl, by decide +kernel, rfl, by decide +kernel, by decide +kernel⟩
theorem sc__law_row : FnScope ["state", "most", "k"] ["state", "most"] (defScope s__law_row) := ⟨rfl, rfl, rfl, by decide +kernel, rfl, by decide +kernel, by decide +kernel⟩
theorem sc__law_key : FnScope ["row", "one"] ["row"] (defScope s__law_key) := ⟨rfl, rfl, rfl, by decide +kernel, rfl, by decide +kernel, by decide +kernel⟩
theorem sc__law_canon : FnScope ["counts", "rows", "row"] ["counts"] (defScope s__law_canon) := ⟨rfl, rfl, rfl, by decide +kernel, rfl, by decide +kernel, by decide +kernel⟩
theorem sc__law_bag : FnScope ["state", "most", "counts", "k", "row"] ["state", "most"] (defScope s__law_bag) := ⟨rfl, rfl, rfl, by decide +kernel, rfl, by decide +kernel, by decide +kernel⟩
theorem sc__law_change : FnScope ["state", "names", "change", "k", "chars", "char", "text"] ["state"] (defScope s__law_change) := ⟨rfl, rfl, rfl, by decide +kernel, rfl, by decide +kernel, by decide +kernel⟩
theorem sc__law_check : FnScope ["data", "number", "byte"] ["data"] (defScope s__law_check) := ⟨rfl, rfl, rfl, by decide +kernel, rfl, by decide +kernel, by decide +kernel⟩
theorem sc__law_bytes : FnScope ["number", "size", "rows", "k"] ["number", "size"] (defScope s__law_bytes) := ⟨rfl, rfl, rfl, by decide +kernel, rfl, by decide +kernel, by decide +kernel⟩
theorem sc__law_shown : FnScope ["one"] ["one"] (defScope s__law_shown) := ⟨rfl, rfl, rfl, by decide +kernel, rfl, by decide +kernel, by decide +kernel⟩
theorem sc__law_shown_bag : FnScope ["bag", "rows", "row", "count", "one"] ["bag"] (defScope s__law_shown_bag) := ⟨rfl, rfl, rfl, by decide +kernel, rfl, by decide +kernel, by decide +kernel⟩
theorem sc__law_shown_change : FnScope ["change", "name", "bag"] ["change"] (defScope s__law_shown_change) := ⟨rfl, rfl, rfl, by decide +kernel, rfl, by decide +kernel, by decide +kernel⟩
theorem sc__law_record : FnScope ["change", "text", "data", "char"] ["change"] (defScope s__law_record) := ⟨rfl, rfl, rfl, by decide +kernel, rfl, by decide +kernel, by decide +kernel⟩
theorem sc__law_chars : FnScope [] [] (defScope s__law_chars) := ⟨rfl, rfl, rfl, by decide +kernel, rfl, by decide +kernel, by decide +kernel⟩
theorem sc__law_parsed : FnScope ["data", "byte", "text", "found"] ["data"] (defScope s__law_parsed) := ⟨rfl, rfl, rfl, by decide +kernel, rfl, by decide +kernel, by decide +kernel⟩
theorem sc__law_readable : FnScope ["data", "found", "at", "k", "size", "end", "one"] ["data"] (defScope s__law_readable) := ⟨rfl, rfl, rfl, by decide +kernel, rfl, by decide +kernel, by decide +kernel⟩
theorem sc__law_junk : FnScope ["state", "text", "data", "k"] ["state"] (defScope s__law_junk) := ⟨rfl, rfl, rfl, by decide +kernel, rfl, by decide +kernel, by decide +kernel⟩
theorem sc__law_ends : FnScope ["changes", "rows", "at", "change"] ["changes"] (defScope s__law_ends) := ⟨rfl, rfl, rfl, by decide +kernel, rfl, by decide +kernel, by decide +kernel⟩
theorem sc__law_long : FnScope ["over", "pairs", "k"] ["over"] (defScope s__law_long) := ⟨rfl, rfl, rfl, by decide +kernel, rfl, by decide +kernel, by decide +kernel⟩
theorem sc__law_sizes_right : FnScope ["disk", "data"] [] (defScope s__law_sizes_right) := ⟨rfl, rfl, rfl, by decide +kernel, rfl, by decide +kernel, by decide +kernel⟩
theorem sc__law_appended : FnScope ["disk", "m", "change"] ["disk", "m", "change"] (defScope s__law_appended) := ⟨rfl, rfl, rfl, by decide +kernel, rfl, by decide +kernel, by decide +kernel⟩
theorem sc__law_recovered : FnScope ["disk", "m", "found", "end", "told", "one"] ["disk", "m"] (defScope s__law_recovered) := ⟨rfl, rfl, rfl, by decide +kernel, rfl, by decide +kernel, by decide +kernel⟩
theorem sc_law : FnScope ["script", "state", "disk", "m", "k", "kind", "kept", "junk", "given"] ["script"] (defScope s_law) := ⟨rfl, rfl, rfl, by decide +kernel, rfl, by decide +kernel, by decide +kernel⟩
abbrev FnP (K : PySem.W.Frag) (x : Str) (st : Stmt) (f : Addr) (fd : FuncData) : Prop := FunD K x x (defArgs st) (defBody st) (defScope st) [] [] f fd
def d_wrap : He.DefD := ⟨("wrap", none), "wrap", "wrap", defArgs s_wrap, defBody s_wrap, defScope s_wrap, [], []⟩
def d_rank : He.DefD := ⟨("rank", none), "rank", "rank", defArgs s_rank, defBody s_rank, defScope s_rank, [], []⟩
def d_row_rank : He.DefD := ⟨("row_rank", none), "row_rank", "row_rank", defArgs s_row_rank, defBody s_row_rank, defScope s_row_rank, [], []⟩
def d_format_value : He.DefD := ⟨("format_value", none), "format_value", "format_value", defArgs s_format_value, defBody s_format_value, defScope s_format_value, [], []⟩
def d_format_row : He.DefD := ⟨("format_row", none), "format_row", "format_row", defArgs s_format_row, defBody s_format_row, defScope s_format_row, [], []⟩
def d_format_bag : He.DefD := ⟨("format_bag", none), "format_bag", "format_bag", defArgs s_format_bag, defBody s_format_bag, defScope s_format_bag, [], []⟩
def d_format_change : He.DefD := ⟨("format_change", none), "format_change", "format_change", defArgs s_format_change, defBody s_format_change, defScope s_format_change, [], []⟩
def d_parse_change : He.DefD := ⟨("parse_change", none), "parse_change", "parse_change", defArgs s_parse_change, defBody s_parse_change, defScope s_parse_change, [], []⟩
def d_all_of : He.DefD := ⟨("all_of", none), "all_of", "all_of", defArgs s_all_of, defBody s_all_of, defScope s_all_of, [], []⟩
def d_require : He.DefD := ⟨("require", none), "require", "require", defArgs s_require, defBody s_require, defScope s_require, [], []⟩
def d_behind : He.DefD := ⟨("behind", none), "behind", "behind", defArgs s_behind, defBody s_behind, defScope s_behind, [], []⟩
def d_read_series : He.DefD := ⟨("read_series", none), "read_series", "read_series", defArgs s_read_series, defBody s_read_series, defScope s_read_series, [], []⟩
def d_read_enclosed : He.DefD := ⟨("read_enclosed", none), "read_enclosed", "read_enclosed", defArgs s_read_enclosed, defBody s_read_enclosed, defScope s_read_enclosed, [], []⟩
def d_read_integer : He.DefD := ⟨("read_integer", none), "read_integer", "read_integer", defArgs s_read_integer, defBody s_read_integer, defScope s_read_integer, [], []⟩
def d_read_text : He.DefD := ⟨("read_text", none), "read_text", "read_text", defArgs s_read_text, defBody s_read_text, defScope s_read_text, [], []⟩
def d_read_value : He.DefD := ⟨("read_value", none), "read_value", "read_value", defArgs s_read_value, defBody s_read_value, defScope s_read_value, [], []⟩
def d_read_row : He.DefD := ⟨("read_row", none), "read_row", "read_row", defArgs s_read_row, defBody s_read_row, defScope s_read_row, [], []⟩
def d_read_pair : He.DefD := ⟨("read_pair", none), "read_pair", "read_pair", defArgs s_read_pair, defBody s_read_pair, defScope s_read_pair, [], []⟩
def d_read_bag : He.DefD := ⟨("read_bag", none), "read_bag", "read_bag", defArgs s_read_bag, defBody s_read_bag, defScope s_read_bag, [], []⟩
def d_read_name : He.DefD := ⟨("read_name", none), "read_name", "read_name", defArgs s_read_name, defBody s_read_name, defScope s_read_name, [], []⟩
def d_read_named_bag : He.DefD := ⟨("read_named_bag", none), "read_named_bag", "read_named_bag", defArgs s_read_named_bag, defBody s_read_named_bag, defScope s_read_named_bag, [], []⟩
def d_read_change : He.DefD := ⟨("read_change", none), "read_change", "read_change", defArgs s_read_change, defBody s_read_change, defScope s_read_change, [], []⟩
def d_check_number : He.DefD := ⟨("check_number", none), "check_number", "check_number", defArgs s_check_number, defBody s_check_number, defScope s_check_number, [], []⟩
def d_encode_change : He.DefD := ⟨("encode_change", none), "encode_change", "encode_change", defArgs s_encode_change, defBody s_encode_change, defScope s_encode_change, [], []⟩
def d_read_changes : He.DefD := ⟨("read_changes", none), "read_changes", "read_changes", defArgs s_read_changes, defBody s_read_changes, defScope s_read_changes, [], []⟩
def d_in_bytes : He.DefD := ⟨("in_bytes", none), "in_bytes", "in_bytes", defArgs s_in_bytes, defBody s_in_bytes, defScope s_in_bytes, [], []⟩
def d_content_at : He.DefD := ⟨("content_at", none), "content_at", "content_at", defArgs s_content_at, defBody s_content_at, defScope s_content_at, [], []⟩
def d_change_of : He.DefD := ⟨("change_of", none), "change_of", "change_of", defArgs s_change_of, defBody s_change_of, defScope s_change_of, [], []⟩
def d__law_state : He.DefD := ⟨("_law_state", none), "_law_state", "_law_state", defArgs s__law_state, defBody s__law_state, defScope s__law_state, [], []⟩
def d__law_draw : He.DefD := ⟨("_law_draw", none), "_law_draw", "_law_draw", defArgs s__law_draw, defBody s__law_draw, defScope s__law_draw, [], []⟩
def d__law_one : He.DefD := ⟨("_law_one", none), "_law_one", "_law_one", defArgs s__law_one, defBody s__law_one, defScope s__law_one, [], []⟩
def d__law_row : He.DefD := ⟨("_law_row", none), "_law_row", "_law_row", defArgs s__law_row, defBody s__law_row, defScope s__law_row, [], []⟩
def d__law_key : He.DefD := ⟨("_law_key", none), "_law_key", "_law_key", defArgs s__law_key, defBody s__law_key, defScope s__law_key, [], []⟩
def d__law_canon : He.DefD := ⟨("_law_canon", none), "_law_canon", "_law_canon", defArgs s__law_canon, defBody s__law_canon, defScope s__law_canon, [], []⟩
def d__law_bag : He.DefD := ⟨("_law_bag", none), "_law_bag", "_law_bag", defArgs s__law_bag, defBody s__law_bag, defScope s__law_bag, [], []⟩
def d__law_change : He.DefD := ⟨("_law_change", none), "_law_change", "_law_change", defArgs s__law_change, defBody s__law_change, defScope s__law_change, [], []⟩
def d__law_check : He.DefD := ⟨("_law_check", none), "_law_check", "_law_check", defArgs s__law_check, defBody s__law_check, defScope s__law_check, [], []⟩
def d__law_bytes : He.DefD := ⟨("_law_bytes", none), "_law_bytes", "_law_bytes", defArgs s__law_bytes, defBody s__law_bytes, defScope s__law_bytes, [], []⟩
def d__law_shown : He.DefD := ⟨("_law_shown", none), "_law_shown", "_law_shown", defArgs s__law_shown, defBody s__law_shown, defScope s__law_shown, [], []⟩
def d__law_shown_bag : He.DefD := ⟨("_law_shown_bag", none), "_law_shown_bag", "_law_shown_bag", defArgs s__law_shown_bag, defBody s__law_shown_bag, defScope s__law_shown_bag, [], []⟩
def d__law_shown_change : He.DefD := ⟨("_law_shown_change", none), "_law_shown_change", "_law_shown_change", defArgs s__law_shown_change, defBody s__law_shown_change, defScope s__law_shown_change, [], []⟩
def d__law_record : He.DefD := ⟨("_law_record", none), "_law_record", "_law_record", defArgs s__law_record, defBody s__law_record, defScope s__law_record, [], []⟩
def d__law_chars : He.DefD := ⟨("_law_chars", none), "_law_chars", "_law_chars", defArgs s__law_chars, defBody s__law_chars, defScope s__law_chars, [], []⟩
def d__law_parsed : He.DefD := ⟨("_law_parsed", none), "_law_parsed", "_law_parsed", defArgs s__law_parsed, defBody s__law_parsed, defScope s__law_parsed, [], []⟩
def d__law_readable : He.DefD := ⟨("_law_readable", none), "_law_readable", "_law_readable", defArgs s__law_readable, defBody s__law_readable, defScope s__law_readable, [], []⟩
def d__law_junk : He.DefD := ⟨("_law_junk", none), "_law_junk", "_law_junk", defArgs s__law_junk, defBody s__law_junk, defScope s__law_junk, [], []⟩
def d__law_ends : He.DefD := ⟨("_law_ends", none), "_law_ends", "_law_ends", defArgs s__law_ends, defBody s__law_ends, defScope s__law_ends, [], []⟩
def d__law_long : He.DefD := ⟨("_law_long", none), "_law_long", "_law_long", defArgs s__law_long, defBody s__law_long, defScope s__law_long, [], []⟩
def d__law_sizes_right : He.DefD := ⟨("_law_sizes_right", none), "_law_sizes_right", "_law_sizes_right", defArgs s__law_sizes_right, defBody s__law_sizes_right, defScope s__law_sizes_right, [], []⟩
def d__law_appended : He.DefD := ⟨("_law_appended", none), "_law_appended", "_law_appended", defArgs s__law_appended, defBody s__law_appended, defScope s__law_appended, [], []⟩
def d__law_recovered : He.DefD := ⟨("_law_recovered", none), "_law_recovered", "_law_recovered", defArgs s__law_recovered, defBody s__law_recovered, defScope s__law_recovered, [], []⟩
def d_law : He.DefD := ⟨("law", none), "law", "law", defArgs s_law, defBody s_law, defScope s_law, [], []⟩
abbrev FnM (K : PySem.W.Frag) (x q : Str) (st : Stmt) (f : Addr) (fd : FuncData) : Prop := FunD K x q (defArgs st) (defBody st) (defScope st) [] [] f fd
def d_Disk___init__ : He.DefD := ⟨("Disk", some "__init__"), "__init__", "Disk.__init__", defArgs s_Disk___init__, defBody s_Disk___init__, defScope s_Disk___init__, [], []⟩
def d_Disk_append : He.DefD := ⟨("Disk", some "append"), "append", "Disk.append", defArgs s_Disk_append, defBody s_Disk_append, defScope s_Disk_append, [], []⟩
def d_Disk_sync : He.DefD := ⟨("Disk", some "sync"), "sync", "Disk.sync", defArgs s_Disk_sync, defBody s_Disk_sync, defScope s_Disk_sync, [], []⟩
def d_Disk_crash : He.DefD := ⟨("Disk", some "crash"), "crash", "Disk.crash", defArgs s_Disk_crash, defBody s_Disk_crash, defScope s_Disk_crash, [], []⟩
def d_Disk_recover : He.DefD := ⟨("Disk", some "recover"), "recover", "Disk.recover", defArgs s_Disk_recover, defBody s_Disk_recover, defScope s_Disk_recover, [], []⟩
def fn : List He.DefD := ([d_wrap, d_rank, d_row_rank, d_format_value, d_format_row, d_format_bag, d_format_change, d_parse_change, d_all_of, d_require, d_behind, d_read_series, d_read_enclosed, d_read_integer, d_read_text, d_read_value, d_read_row, d_read_pair, d_read_bag, d_read_name, d_read_named_bag, d_read_change, d_check_number, d_encode_change, d_read_changes] : List He.DefD) ++ ([d_in_bytes, d_content_at, d_change_of, d__law_state, d__law_draw, d__law_one, d__law_row, d__law_key, d__law_canon, d__law_bag, d__law_change, d__law_check, d__law_bytes, d__law_shown, d__law_shown_bag, d__law_shown_change, d__law_record, d__law_chars, d__law_parsed, d__law_readable, d__law_junk, d__law_ends, d__law_long, d__law_sizes_right, d__law_appended] : List He.DefD) ++ ([d__law_recovered, d_law, d_Disk___init__, d_Disk_append, d_Disk_sync, d_Disk_crash, d_Disk_recover] : List He.DefD)
def fa : List He.Fa := ([.glo "wrap", .glo "rank", .glo "row_rank", .glo "format_value", .glo "format_row", .glo "format_bag", .glo "format_change", .glo "parse_change", .glo "all_of", .glo "require", .glo "behind", .glo "read_series", .glo "read_enclosed", .glo "read_integer", .glo "read_text", .glo "read_value", .glo "read_row", .glo "read_pair", .glo "read_bag", .glo "read_name", .glo "read_named_bag", .glo "read_change", .glo "check_number", .glo "encode_change", .glo "read_changes"] : List He.Fa) ++ ([.glo "in_bytes", .glo "content_at", .glo "change_of", .glo "_law_state", .glo "_law_draw", .glo "_law_one", .glo "_law_row", .glo "_law_key", .glo "_law_canon", .glo "_law_bag", .glo "_law_change", .glo "_law_check", .glo "_law_bytes", .glo "_law_shown", .glo "_law_shown_bag", .glo "_law_shown_change", .glo "_law_record", .glo "_law_chars", .glo "_law_parsed", .glo "_law_readable", .glo "_law_junk", .glo "_law_ends", .glo "_law_long", .glo "_law_sizes_right", .glo "_law_appended"] : List He.Fa) ++ ([.glo "_law_recovered", .glo "law", .int "SPAN" (4294967296), .int "LOWEST" (-2147483648), .int "LONGEST_TEXT" (40), .int "LONGEST_ROW" (8), .str "DIGITS" "0123456789", .int "MOST_DIGITS" (30), .int "LONGEST_NAME" (12), .int "PERCENT_SIGN" (37), .int "MODULUS" (4294967291), .int "MOST_CHARACTERS" (65535), .str "CHARACTERS" " !\"#$&'()*+,-./0123456789:;<=>?@ABCDEFGHIJKLMNOPQRSTUVWXYZ[\\]^_`abcdefghijklmnopqrstuvwxyz{|}~", .free "len", .free "range", .free "int", .free "abs", .free "isinstance", .free "tuple", .free "sorted", .free "list", .free "str", .free "zip", .free "all", .free "ord"] : List He.Fa) ++ ([.glo "LoomError", .glo "FormError", .glo "SizeError", .glo "Disk", .cls "Disk", .noat "Disk" "data", .noat "Disk" "safe", .mkr "Disk", .meth "Disk" "append", .meth "Disk" "sync", .meth "Disk" "crash", .meth "Disk" "recover"] : List He.Fa)
end KA
set_option linter.all false
/-! the written forms as lists of code points: reading undoes writing, and writing undoes reading -/
namespace KA
/-- decimal digits of a number -/
def dec (n : Nat) : List Nat := if h : n < 10 then [48 + n] else dec (n / 10) ++ [48 + n % 10]
termination_by n
decreasing_by omega
def isDig (c : Nat) : Bool := decide (48 ≤ c) && decide (c ≤ 57)
def val (ds : List Nat) : Nat := ds.foldl (fun a c => a * 10 + (c - 48)) 0
theorem val_snoc (ds : List Nat) (c : Nat) : val (ds ++ [c]) = val ds * 10 + (c - 48) := by
  unfold val
  rw [List.foldl_append]
  rfl
theorem dec_small {n : Nat} (h : n < 10) : dec n = [48 + n] := by
  rw [dec]
  simp [h]
theorem dec_big {n : Nat} (h : ¬ n < 10) : dec n = dec (n / 10) ++ [48 + n % 10] := by
  rw [dec]
  simp [h]
theorem val_dec (n : Nat) : val (dec n) = n := by
  induction n using Nat.strongRecOn with
  | _ n ih =>
    by_cases h : n < 10
    · rw [dec_small h]
      simp [val]
    · rw [dec_big h, val_snoc, ih (n / 10) (by omega)]
      omega
theorem dec_digs (n : Nat) : ∀ c ∈ dec n, isDig c = true := by
  induction n using Nat.strongRecOn with
  | _ n ih =>
    by_cases h : n < 10
    · rw [dec_small h]
      intro c hc
      rw [List.mem_singleton.mp hc]
      simp [isDig]
      omega
    · rw [dec_big h]
      intro c hc
      rcases List.mem_append.mp hc with z | z
      · exact ih (n / 10) (by omega) c z
      · rw [List.mem_singleton.mp z]
        simp [isDig]
        omega
theorem dec_ne (n : Nat) : dec n ≠ [] := by
  by_cases h : n < 10
  · rw [dec_small h]
    simp
  · rw [dec_big h]
    simp
/-- no leading zero but of 0 itself -/
theorem dec_head (n : Nat) : ∀ t, dec n = 48 :: t → n = 0 ∧ t = [] := by
  induction n using Nat.strongRecOn with
  | _ n ih =>
    intro t e
    by_cases h : n < 10
    · rw [dec_small h] at e
      injection e with e1 e2
      exact ⟨by omega, e2.symm⟩
    · rw [dec_big h] at e
      cases hd : dec (n / 10) with
      | nil => exact absurd hd (dec_ne _)
      | cons a r =>
        rw [hd] at e
        have e' : a :: (r ++ [48 + n % 10]) = 48 :: t := e
        injection e' with e1 e2
        subst e1
        have := (ih (n / 10) (by omega) r hd).1
        omega
/-- digits without a leading zero are their value's digits -/
theorem dec_val : ∀ (m : Nat) (ds : List Nat), ds.length ≤ m → ds ≠ [] → (∀ c ∈ ds, isDig c = true) → (∀ t, ds = 48 :: t → t = []) → dec (val ds) = ds := by
  intro m
  induction m with
  | zero =>
    intro ds hl hn _ _
    cases ds with
    | nil => exact absurd rfl hn
    | cons a t => simp at hl
  | succ m ih =>
    intro ds hl hn hd hz
    obtain ⟨init, c, rfl⟩ : ∃ init c, ds = init ++ [c] := ⟨ds.dropLast, ds.getLast hn, (List.dropLast_concat_getLast hn).symm⟩
    have hc : 48 ≤ c ∧ c ≤ 57 := by
      have := hd c (by simp)
      simp [isDig] at this
      exact this
    rw [val_snoc]
    cases init with
    | nil =>
      have e : val [] * 10 + (c - 48) = c - 48 := by simp [val]
      rw [e, dec_small (by omega)]
      simp
      omega
    | cons a r =>
      have a48 : a ≠ 48 := fun z => by
        have := hz (r ++ [c]) (by rw [z]; rfl)
        simp at this
      have hv := ih (a :: r) (by simp at hl ⊢; omega) (by simp) (fun x hx => hd x (by
        rcases List.mem_cons.mp hx with z | z
        · rw [z]; simp
        · simp [z])) (fun t e => by injection e with e1 _; exact absurd e1 a48)
      have pos : 0 < val (a :: r) := by
        cases z : val (a :: r) with
        | zero =>
          rw [z, dec_small (by omega)] at hv
          injection hv with h1 _
          exact absurd h1.symm a48
        | succ k => omega
      have h10 : ¬ val (a :: r) * 10 + (c - 48) < 10 := by omega
      rw [dec_big h10]
      have q1 : (val (a :: r) * 10 + (c - 48)) / 10 = val (a :: r) := by omega
      have q2 : (val (a :: r) * 10 + (c - 48)) % 10 = c - 48 := by omega
      rw [q1, q2, hv]
      have : 48 + (c - 48) = c := by omega
      rw [this]
/-! ### readers: what is read from the head of the rest of a text, and what is left -/
abbrev Rd1 (α : Type) := List Nat → Option (α × List Nat)
/-- a reader reads what its writing wrote, and nothing else -/
structure Good {α : Type} (fmt : α → List Nat) (ok : α → Prop) (follow : List Nat → Prop) (rd : Rd1 α) : Prop where
  sound : ∀ s v r, rd s = some (v, r) → s = fmt v ++ r ∧ ok v
  full : ∀ v r, ok v → follow r → rd (fmt v ++ r) = some (v, r)
def rWord (w : List Nat) (s : List Nat) : Option (List Nat) := if w <+: s then some (s.drop w.length) else none
theorem rWord_sound {w s r : List Nat} (h : rWord w s = some r) : s = w ++ r := by
  unfold rWord at h
  split at h
  · rename_i c
    obtain ⟨t, rfl⟩ := c
    rw [List.drop_left] at h
    rw [Option.some.inj h]
  · cases h
theorem rWord_full (w r : List Nat) : rWord w (w ++ r) = some r := by
  unfold rWord
  rw [if_pos ⟨r, rfl⟩, List.drop_left]
/-- the digits at the head -/
def span (p : Nat → Bool) : List Nat → List Nat × List Nat
  | [] => ([], [])
  | c :: t => if p c = true then let (a, b) := span p t; (c :: a, b) else ([], c :: t)
theorem span_app (p : Nat → Bool) : ∀ s, (span p s).1 ++ (span p s).2 = s
  | [] => rfl
  | c :: t => by
    unfold span
    split
    · show c :: ((span p t).1 ++ (span p t).2) = c :: t
      rw [span_app p t]
    · rfl
theorem span_all (p : Nat → Bool) : ∀ s, ∀ c ∈ (span p s).1, p c = true
  | [], c, h => by cases h
  | d :: t, c, h => by
    unfold span at h
    split at h
    · rename_i hd
      have h' : c ∈ d :: (span p t).1 := h
      rcases List.mem_cons.mp h' with z | z
      · rw [z]; exact hd
      · exact span_all p t c z
    · cases h
theorem span_full (p : Nat → Bool) : ∀ (a b : List Nat), (∀ c ∈ a, p c = true) → (∀ c t, b = c :: t → p c = false) → span p (a ++ b) = (a, b)
  | [], b, _, hb => by
    cases b with
    | nil => rfl
    | cons c t =>
      show span p (c :: t) = ([], c :: t)
      unfold span
      rw [if_neg (by rw [hb c t rfl]; simp)]
  | c :: a, b, ha, hb => by
    show span p (c :: (a ++ b)) = (c :: a, b)
    unfold span
    rw [if_pos (ha c List.mem_cons_self), span_full p a b (fun x hx => ha x (List.mem_cons_of_mem _ hx)) hb]
/-! ### whole numbers -/
def fmtInt (i : Int) : List Nat := if i < 0 then 45 :: dec i.natAbs else dec i.natAbs
def okInt (i : Int) : Prop := (dec i.natAbs).length ≤ 30
def noDig (r : List Nat) : Prop := ∀ c t, r = c :: t → isDig c = false
def rNat (s : List Nat) (neg : Bool) : Option (Int × List Nat) :=
  let (ds, r) := span isDig s
  if ds.length = 0 ∨ 30 < ds.length then none
  else if ds.head? = some 48 ∧ ¬ (neg = false ∧ ds.length = 1) then none
  else some ((if neg = true then -(val ds : Int) else (val ds : Int)), r)
def rInt (s : List Nat) : Option (Int × List Nat) := match s with
  | 45 :: t => rNat t true
  | s => rNat s false
theorem rNat_sound {s r : List Nat} {neg : Bool} {i : Int} (h : rNat s neg = some (i, r)) : ∃ ds, s = ds ++ r ∧ dec (val ds) = ds ∧ ds.length ≤ 30 ∧ i = (if neg = true then -(val ds : Int) else (val ds : Int)) ∧ (neg = true → val ds ≠ 0) := by
  unfold rNat at h
  have e1 := span_app isDig s
  have e2 := span_all isDig s
  generalize span isDig s = p at h e1 e2
  obtain ⟨ds, r'⟩ := p
  dsimp only at h e1 e2
  split at h
  · cases h
  · rename_i c1
    split at h
    · cases h
    · rename_i c2
      have h' := Option.some.inj h
      injection h' with h1 h2
      subst h2
      have hn : ds ≠ [] := fun z => c1 (.inl (by rw [z]; rfl))
      have hz : ∀ t, ds = 48 :: t → t = [] := fun t e => by
        cases t with
        | nil => rfl
        | cons a t =>
          refine absurd ⟨by rw [e]; rfl, fun z => ?_⟩ c2
          rw [e] at z
          simp at z
      have hv := dec_val ds.length ds (Nat.le_refl _) hn e2 hz
      refine ⟨ds, e1.symm, hv, by omega, h1.symm, fun hneg z => ?_⟩
      rw [z, dec_small (by decide)] at hv
      refine c2 ⟨by rw [← hv]; rfl, fun y => ?_⟩
      rw [hneg] at y
      cases y.1
theorem rNat_full {n : Nat} {r : List Nat} {neg : Bool} (hl : (dec n).length ≤ 30) (hr : noDig r) (hz : neg = true → n ≠ 0) : rNat (dec n ++ r) neg = some ((if neg = true then -(n : Int) else (n : Int)), r) := by
  unfold rNat
  rw [span_full isDig (dec n) r (dec_digs n) hr]
  dsimp only
  have hne := dec_ne n
  have h0 : ¬ ((dec n).length = 0 ∨ 30 < (dec n).length) := fun z => by
    rcases z with z | z
    · exact hne (List.length_eq_zero_iff.mp z)
    · omega
  rw [if_neg h0]
  have h1 : ¬ ((dec n).head? = some 48 ∧ ¬ (neg = false ∧ (dec n).length = 1)) := fun ⟨z, y⟩ => by
    cases hd : dec n with
    | nil => exact hne hd
    | cons a t =>
      rw [hd] at z
      have : a = 48 := Option.some.inj z
      subst this
      obtain ⟨q1, q2⟩ := dec_head n t hd
      refine y ⟨?_, by rw [hd, q2]; rfl⟩
      cases neg with
      | false => rfl
      | true => exact absurd q1 (hz rfl)
  rw [if_neg h1, val_dec]
theorem good_int : Good fmtInt okInt noDig rInt := by
  refine ⟨fun s i r h => ?_, fun i r ok hr => ?_⟩
  · unfold rInt at h
    split at h
    · rename_i t
      obtain ⟨ds, rfl, e2, e3, e4, e5⟩ := rNat_sound h
      have n0 := e5 rfl
      rw [if_pos rfl] at e4
      have hneg : i < 0 := by omega
      have ha : i.natAbs = val ds := by omega
      refine ⟨?_, ?_⟩
      · unfold fmtInt
        rw [if_pos hneg, ha, e2]
        rfl
      · unfold okInt
        rw [ha, e2]
        exact e3
    · obtain ⟨ds, rfl, e2, e3, e4, _⟩ := rNat_sound h
      rw [if_neg (by simp)] at e4
      have hneg : ¬ i < 0 := by omega
      have ha : i.natAbs = val ds := by omega
      refine ⟨?_, ?_⟩
      · unfold fmtInt
        rw [if_neg hneg, ha, e2]
      · unfold okInt
        rw [ha, e2]
        exact e3
  · unfold fmtInt
    split
    · rename_i hneg
      show rNat (dec i.natAbs ++ r) true = _
      rw [rNat_full ok hr (fun _ => by omega), if_pos rfl]
      congr 2
      omega
    · rename_i hneg
      have hd : rInt (dec i.natAbs ++ r) = rNat (dec i.natAbs ++ r) false := by
        cases e : dec i.natAbs with
        | nil => exact absurd e (dec_ne _)
        | cons a t =>
          have hc := dec_digs i.natAbs a (by rw [e]; exact List.mem_cons_self)
          have a45 : a ≠ 45 := fun z => by rw [z] at hc; simp [isDig] at hc
          show rInt (a :: (t ++ r)) = rNat (a :: (t ++ r)) false
          unfold rInt
          split
          · rename_i q
            injection q with q1 _
            exact absurd q1 a45
          · rfl
      rw [hd, rNat_full ok hr (fun z => by cases z), if_neg (by simp)]
      congr 2
      omega
/-! ### one after the other, with a separator; between two ends -/
def joined (sep : List Nat) : List (List Nat) → List Nat
  | [] => []
  | [a] => a
  | a :: b :: t => a ++ (sep ++ joined sep (b :: t))
/-- read_series: one or more; fuel bounds the number of items -/
def rSeries {α : Type} (sep : List Nat) (rd : Rd1 α) : Nat → List Nat → Option (List α × List Nat)
  | 0, _ => none
  | k + 1, s => match rd s with
    | none => none
    | some (v, r) => match rWord sep r with
      | none => some ([v], r)
      | some r' => match rSeries sep rd k r' with
        | none => none
        | some (vs, r'') => some (v :: vs, r'')
theorem rWord_none {w s : List Nat} (h : rWord w s = none) : ¬ w <+: s := fun z => by
  unfold rWord at h
  rw [if_pos z] at h
  cases h
section
variable {α : Type} {fmt : α → List Nat} {ok : α → Prop} {follow : List Nat → Prop} {rd : Rd1 α} {sep : List Nat}
theorem rSeries_sound (g : Good fmt ok follow rd) : ∀ (k : Nat) (s : List Nat) (vs : List α) (r : List Nat), rSeries sep rd k s = some (vs, r) → s = joined sep (vs.map fmt) ++ r ∧ vs ≠ [] ∧ (∀ v ∈ vs, ok v) ∧ vs.length ≤ k
  | 0, s, vs, r, h => by cases h
  | k + 1, s, vs, r, h => by
    unfold rSeries at h
    split at h
    · cases h
    · rename_i v r1 h1
      obtain ⟨e1, o1⟩ := g.sound _ _ _ h1
      split at h
      · have h' := Option.some.inj h
        injection h' with h2 h3
        subst h2 h3
        exact ⟨e1, by simp, fun x hx => by rw [List.mem_singleton.mp hx]; exact o1, by simp⟩
      · rename_i r2 h2
        have e2 := rWord_sound h2
        split at h
        · cases h
        · rename_i ws r3 h3
          have h' := Option.some.inj h
          injection h' with h4 h5
          subst h4 h5
          obtain ⟨e3, n3, o3, l3⟩ := rSeries_sound g k _ _ _ h3
          cases ws with
          | nil => exact absurd rfl n3
          | cons w ws =>
            refine ⟨?_, by simp, fun x hx => ?_, by simp at l3 ⊢; omega⟩
            · rw [e1, e2, e3]
              show fmt v ++ (sep ++ (joined sep (fmt w :: ws.map fmt) ++ r3)) = (fmt v ++ (sep ++ joined sep (fmt w :: ws.map fmt))) ++ r3
              simp only [List.append_assoc]
            · rcases List.mem_cons.mp hx with z | z
              · rw [z]; exact o1
              · exact o3 x z
theorem rSeries_full (g : Good fmt ok follow rd) (hsep : ∀ r, follow (sep ++ r)) : ∀ (k : Nat) (vs : List α) (r : List Nat), vs ≠ [] → (∀ v ∈ vs, ok v) → vs.length ≤ k → follow r → ¬ sep <+: r → rSeries sep rd k (joined sep (vs.map fmt) ++ r) = some (vs, r)
  | 0, vs, r, hn, _, hl, _, _ => by
    cases vs with
    | nil => exact absurd rfl hn
    | cons v t => simp at hl
  | k + 1, [], r, hn, _, _, _, _ => absurd rfl hn
  | k + 1, [v], r, _, ho, _, hf, hs => by
    unfold rSeries
    have e : joined sep ([v].map fmt) ++ r = fmt v ++ r := rfl
    rw [e, g.full v r (ho v (by simp)) hf]
    have : rWord sep r = none := if_neg hs
    simp only [this]
  | k + 1, v :: w :: t, r, _, ho, hl, hf, hs => by
    unfold rSeries
    have e : joined sep ((v :: w :: t).map fmt) ++ r = fmt v ++ (sep ++ (joined sep ((w :: t).map fmt) ++ r)) := by
      show (fmt v ++ (sep ++ joined sep (fmt w :: t.map fmt))) ++ r = fmt v ++ (sep ++ (joined sep (fmt w :: t.map fmt) ++ r))
      simp only [List.append_assoc]
    rw [e, g.full v _ (ho v (by simp)) (hsep _)]
    simp only [rWord_full, rSeries_full g hsep k (w :: t) r (by simp) (fun x hx => ho x (List.mem_cons_of_mem _ hx)) (by simp at hl ⊢; omega) hf hs]
end
/-! ### between two ends -/
def rEncl {α : Type} (o c : Nat) (sep : List Nat) (rd : Rd1 α) (k : Nat) (s : List Nat) : Option (List α × List Nat) := match rWord [o] s with
  | none => none
  | some s1 => match rWord [c] s1 with
    | some r => some ([], r)
    | none => match rSeries sep rd k s1 with
      | none => none
      | some (vs, r) => match rWord [c] r with
        | none => none
        | some r' => some (vs, r')
def fmtEncl {α : Type} (o c : Nat) (sep : List Nat) (fmt : α → List Nat) (vs : List α) : List Nat := o :: (joined sep (vs.map fmt) ++ [c])
section
variable {α : Type} {fmt : α → List Nat} {ok : α → Prop} {follow : List Nat → Prop} {rd : Rd1 α} {sep : List Nat} {o c : Nat}
theorem rEncl_sound (g : Good fmt ok follow rd) {k : Nat} {s : List Nat} {vs : List α} {r : List Nat} (h : rEncl o c sep rd k s = some (vs, r)) : s = fmtEncl o c sep fmt vs ++ r ∧ (∀ v ∈ vs, ok v) ∧ vs.length ≤ k := by
  unfold rEncl at h
  split at h
  · cases h
  · rename_i s1 h1
    have e1 := rWord_sound h1
    split at h
    · rename_i r1 h2
      have h' := Option.some.inj h
      injection h' with h3 h4
      subst h3 h4
      have e2 := rWord_sound h2
      refine ⟨by rw [e1, e2]; rfl, fun v hv => (List.not_mem_nil hv).elim, Nat.zero_le _⟩
    · split at h
      · cases h
      · rename_i ws r1 h3
        obtain ⟨e3, _, o3, l3⟩ := rSeries_sound g _ _ _ _ h3
        split at h
        · cases h
        · rename_i r2 h4
          have h' := Option.some.inj h
          injection h' with h5 h6
          subst h5 h6
          have e4 := rWord_sound h4
          refine ⟨?_, o3, l3⟩
          rw [e1, e3, e4]
          unfold fmtEncl
          simp only [List.cons_append, List.nil_append, List.append_assoc]
theorem rEncl_full (g : Good fmt ok follow rd) (hsep : ∀ r, follow (sep ++ r)) (hc : ∀ r, follow (c :: r)) (hcs : ∀ r, ¬ sep <+: c :: r) (first : ∀ v r, ok v → ¬ [c] <+: fmt v ++ r) {k : Nat} {vs : List α} {r : List Nat} (ho : ∀ v ∈ vs, ok v) (hl : vs.length ≤ k) :
    rEncl o c sep rd k (fmtEncl o c sep fmt vs ++ r) = some (vs, r) := by
  unfold rEncl
  have e0 : fmtEncl o c sep fmt vs ++ r = [o] ++ (joined sep (vs.map fmt) ++ (c :: r)) := by
    unfold fmtEncl
    simp only [List.cons_append, List.nil_append, List.append_assoc]
  rw [e0, rWord_full]
  dsimp only
  cases vs with
  | nil =>
    have : rWord [c] (joined sep (([] : List α).map fmt) ++ c :: r) = some r := rWord_full [c] r
    simp only [this]
  | cons v t =>
    have hno : rWord [c] (joined sep ((v :: t).map fmt) ++ c :: r) = none := by
      have : ¬ [c] <+: joined sep ((v :: t).map fmt) ++ c :: r := by
        cases t with
        | nil => exact first v (c :: r) (ho v (by simp))
        | cons w u =>
          have e : joined sep ((v :: w :: u).map fmt) ++ c :: r = fmt v ++ (sep ++ joined sep ((w :: u).map fmt) ++ c :: r) := by
            show (fmt v ++ (sep ++ joined sep (fmt w :: u.map fmt))) ++ c :: r = _
            simp only [List.append_assoc, List.map_cons]
          rw [e]
          exact first v _ (ho v (by simp))
      exact if_neg this
    simp only [hno, rSeries_full g hsep k (v :: t) (c :: r) (by simp) ho hl (hc r) (hcs r)]
    have : rWord [c] (c :: r) = some r := rWord_full [c] r
    simp only [this]
end
/-! ### texts and values -/
def printable (c : Nat) : Bool := decide (32 ≤ c) && (decide (c ≤ 126) && decide (c ≠ 37))
def fmtText (x : List Nat) : List Nat := 34 :: (x ++ [34])
def okText (x : List Nat) : Prop := x.length ≤ 40 ∧ (∀ c ∈ x, printable c = true) ∧ ∀ c ∈ x, c ≠ 34
def rText (s : List Nat) : Option (List Nat × List Nat) := match s with
  | 34 :: t => match span (fun c => decide (c ≠ 34)) t with
    | (x, 34 :: r) => if x.length ≤ 40 ∧ x.all printable = true then some (x, r) else none
    | _ => none
  | _ => none
theorem good_text : Good fmtText okText (fun _ => True) rText := by
  refine ⟨fun s x r h => ?_, fun x r ok _ => ?_⟩
  · unfold rText at h
    split at h
    · rename_i t
      have e1 := span_app (fun c => decide (c ≠ 34)) t
      have e2 := span_all (fun c => decide (c ≠ 34)) t
      split at h
      · rename_i y r' he
        rw [he] at e1 e2
        split at h
        · rename_i hc
          have h' := Option.some.inj h
          injection h' with h1 h2
          subst h1 h2
          refine ⟨?_, hc.1, List.all_eq_true.mp hc.2, fun c hm => ?_⟩
          · rw [← e1]
            unfold fmtText
            simp only [List.cons_append, List.nil_append, List.append_assoc]
          · have := e2 c hm
            simpa using this
        · cases h
      · cases h
    · cases h
  · obtain ⟨o1, o2, o3⟩ := ok
    have e : fmtText x ++ r = 34 :: (x ++ 34 :: r) := by
      unfold fmtText
      simp only [List.cons_append, List.nil_append, List.append_assoc]
    rw [e]
    unfold rText
    have sp : span (fun c => decide (c ≠ 34)) (x ++ 34 :: r) = (x, 34 :: r) := span_full _ x (34 :: r) (fun c hc => by simpa using o3 c hc) (fun c t he => by injection he with h1 _; rw [← h1]; rfl)
    simp only [sp]
    rw [if_pos ⟨o1, List.all_eq_true.mpr o2⟩]
inductive Vl where
  | i (n : Int)
  | s (x : List Nat)
def fmtVl : Vl → List Nat
  | .i n => fmtInt n
  | .s x => fmtText x
def okVl : Vl → Prop
  | .i n => okInt n ∧ -2147483648 ≤ n ∧ n < 2147483648
  | .s x => okText x
def rVl (s : List Nat) : Option (Vl × List Nat) := match s with
  | 34 :: t => (rText (34 :: t)).map fun p => (.s p.1, p.2)
  | s => match rInt s with
    | none => none
    | some (n, r) => if -2147483648 ≤ n ∧ n < 2147483648 then some (.i n, r) else none
theorem fmtInt_head (n : Int) : ∃ a t, fmtInt n = a :: t ∧ (a = 45 ∨ isDig a = true) := by
  unfold fmtInt
  split
  · exact ⟨45, _, rfl, .inl rfl⟩
  · cases e : dec n.natAbs with
    | nil => exact absurd e (dec_ne _)
    | cons a t => exact ⟨a, t, rfl, .inr (dec_digs n.natAbs a (by rw [e]; exact List.mem_cons_self))⟩
theorem good_vl : Good fmtVl okVl noDig rVl := by
  refine ⟨fun s v r h => ?_, fun v r ok hr => ?_⟩
  · unfold rVl at h
    split at h
    · rename_i t
      cases e : rText (34 :: t) with
      | none => rw [e] at h; cases h
      | some p =>
        rw [e] at h
        have h' := Option.some.inj h
        injection h' with h1 h2
        obtain ⟨x, r'⟩ := p
        subst h1 h2
        exact good_text.sound _ _ _ e
    · split at h
      · cases h
      · rename_i n r' e
        split at h
        · rename_i hc
          have h' := Option.some.inj h
          injection h' with h1 h2
          subst h1 h2
          obtain ⟨e1, e2⟩ := good_int.sound _ _ _ e
          exact ⟨e1, e2, hc⟩
        · cases h
  · cases v with
    | s x =>
      have e := good_text.full x r ok trivial
      show rVl (34 :: ((x ++ [34]) ++ r)) = _
      have e' : rText (34 :: ((x ++ [34]) ++ r)) = some (x, r) := e
      unfold rVl
      simp only [e', Option.map_some]
    | i n =>
      obtain ⟨o1, o2⟩ := ok
      have e := good_int.full n r o1 hr
      obtain ⟨a, t, hd, ha⟩ := fmtInt_head n
      have a34 : a ≠ 34 := fun z => by
        rw [z] at ha
        rcases ha with h | h
        · cases h
        · simp [isDig] at h
      show rVl (fmtInt n ++ r) = _
      rw [hd] at e ⊢
      have e' : rInt (a :: (t ++ r)) = some (n, r) := e
      show rVl (a :: (t ++ r)) = _
      unfold rVl
      split
      · rename_i q
        injection q with q1 _
        exact absurd q1 a34
      · simp only [e']
        rw [if_pos o2]
/-! ### enough fuel: a text's own length -/
theorem joined_len (sep : List Nat) (hs : 1 ≤ sep.length) : ∀ (ts : List (List Nat)), ts.length ≤ (joined sep ts).length + 1
  | [] => Nat.zero_le _
  | [a] => by simp
  | a :: b :: t => by
    have h := joined_len sep hs (b :: t)
    show (b :: t).length + 1 ≤ (a ++ (sep ++ joined sep (b :: t))).length + 1
    simp only [List.length_append]
    omega
theorem fmtEncl_len {α : Type} (o c : Nat) (sep : List Nat) (hs : 1 ≤ sep.length) (fmt : α → List Nat) (vs : List α) (r : List Nat) : vs.length ≤ (fmtEncl o c sep fmt vs ++ r).length := by
  have h := joined_len sep hs (vs.map fmt)
  simp only [fmtEncl, List.length_append, List.length_cons, List.length_nil, List.length_map] at h ⊢
  omega
/-! ### rows -/
def comma : List Nat := [44, 32]
def fmtRow (vs : List Vl) : List Nat := fmtEncl 40 41 comma fmtVl vs
def okRow (vs : List Vl) : Prop := (∀ v ∈ vs, okVl v) ∧ vs.length ≤ 8
def rRow (s : List Nat) : Option (List Vl × List Nat) := match rEncl 40 41 comma rVl s.length s with
  | none => none
  | some (vs, r) => if vs.length ≤ 8 then some (vs, r) else none
theorem noDig_cons {c : Nat} (h : isDig c = false) (r : List Nat) : noDig (c :: r) := fun a t e => by
  injection e with e1 _
  rw [← e1]; exact h
theorem pre1 {a b : Nat} {r t : List Nat} (h : a ≠ b) : ¬ (a :: t) <+: b :: r := fun z => by
  obtain ⟨u, hu⟩ := z
  injection hu with h1 _
  exact h h1
theorem fmtVl_head {v : Vl} : ∃ a t, fmtVl v = a :: t ∧ (a = 34 ∨ a = 45 ∨ isDig a = true) := by
  cases v with
  | i n =>
    obtain ⟨a, t, e, h⟩ := fmtInt_head n
    exact ⟨a, t, e, .inr h⟩
  | s x => exact ⟨34, _, rfl, .inl rfl⟩
theorem good_row : Good fmtRow okRow (fun _ => True) rRow := by
  refine ⟨fun s vs r h => ?_, fun vs r ok _ => ?_⟩
  · unfold rRow at h
    split at h
    · cases h
    · rename_i ws r' e
      split at h
      · rename_i hl
        have h' := Option.some.inj h
        injection h' with h1 h2
        subst h1 h2
        obtain ⟨e1, e2, _⟩ := rEncl_sound good_vl e
        exact ⟨e1, e2, hl⟩
      · cases h
  · have e : rEncl 40 41 comma rVl (fmtRow vs ++ r).length (fmtRow vs ++ r) = some (vs, r) :=
      rEncl_full good_vl (fun r => noDig_cons rfl _) (fun r => noDig_cons rfl _) (fun r => pre1 (by decide)) (fun v r _ => by
        obtain ⟨a, t, e, h⟩ := fmtVl_head (v := v)
        rw [e]
        refine pre1 (fun z => ?_)
        rw [← z] at h
        rcases h with h | h | h
        · cases h
        · cases h
        · simp [isDig] at h) ok.1 (fmtEncl_len 40 41 comma (by decide) fmtVl vs r)
    unfold rRow
    simp only [e]
    rw [if_pos ok.2]
/-! ### a row with its count -/
def fmtPair (p : List Vl × Int) : List Nat := fmtRow p.1 ++ (58 :: 32 :: fmtInt p.2)
def okPair (p : List Vl × Int) : Prop := okRow p.1 ∧ okInt p.2 ∧ p.2 ≠ 0
def rPair (s : List Nat) : Option ((List Vl × Int) × List Nat) := match rRow s with
  | none => none
  | some (vs, r) => match rWord [58, 32] r with
    | none => none
    | some r1 => match rInt r1 with
      | none => none
      | some (n, r2) => if n ≠ 0 then some ((vs, n), r2) else none
theorem good_pair : Good fmtPair okPair noDig rPair := by
  refine ⟨fun s p r h => ?_, fun p r ok hr => ?_⟩
  · unfold rPair at h
    split at h
    · cases h
    · rename_i vs r1 e1
      obtain ⟨a1, o1⟩ := good_row.sound _ _ _ e1
      split at h
      · cases h
      · rename_i r2 e2
        have a2 := rWord_sound e2
        split at h
        · cases h
        · rename_i n r3 e3
          obtain ⟨a3, o3⟩ := good_int.sound _ _ _ e3
          split at h
          · rename_i hn
            have h' := Option.some.inj h
            injection h' with h1 h2
            subst h1 h2
            refine ⟨?_, o1, o3, hn⟩
            rw [a1, a2, a3]
            unfold fmtPair
            simp only [List.append_assoc, List.cons_append, List.nil_append]
          · cases h
  · obtain ⟨o1, o2, o3⟩ := ok
    obtain ⟨vs, n⟩ := p
    have e : fmtPair (vs, n) ++ r = fmtRow vs ++ ([58, 32] ++ (fmtInt n ++ r)) := by
      unfold fmtPair
      simp only [List.append_assoc, List.cons_append, List.nil_append]
    rw [e]
    unfold rPair
    simp only [good_row.full vs _ o1 trivial, rWord_full, good_int.full n r o2 hr]
    rw [if_pos o3]
/-! ### bags: their rows in order, told by `asc` -/
section
variable (asc : List (List Vl × Int) → Bool)
def fmtBag (b : List (List Vl × Int)) : List Nat := fmtEncl 123 125 comma fmtPair b
def okBag (b : List (List Vl × Int)) : Prop := (∀ p ∈ b, okPair p) ∧ asc b = true
def rBag (s : List Nat) : Option (List (List Vl × Int) × List Nat) := match rEncl 123 125 comma rPair s.length s with
  | none => none
  | some (b, r) => if asc b = true then some (b, r) else none
theorem good_bag : Good fmtBag (okBag asc) (fun _ => True) (rBag asc) := by
  refine ⟨fun s b r h => ?_, fun b r ok _ => ?_⟩
  · unfold rBag at h
    split at h
    · cases h
    · rename_i ws r' e
      split at h
      · rename_i hl
        have h' := Option.some.inj h
        injection h' with h1 h2
        subst h1 h2
        obtain ⟨e1, e2, _⟩ := rEncl_sound good_pair e
        exact ⟨e1, e2, hl⟩
      · cases h
  · have e : rEncl 123 125 comma rPair (fmtBag b ++ r).length (fmtBag b ++ r) = some (b, r) :=
      rEncl_full good_pair (fun r => noDig_cons rfl _) (fun r => noDig_cons rfl _) (fun r => pre1 (by decide)) (fun v r _ => by
        show ¬ [125] <+: 40 :: _
        exact pre1 (by decide)) ok.1 (fmtEncl_len 123 125 comma (by decide) fmtPair b r)
    unfold rBag
    simp only [e]
    rw [if_pos ok.2]
end
/-! ### names -/
def isLow (c : Nat) : Bool := decide (97 ≤ c) && decide (c ≤ 122)
def okName (x : List Nat) : Prop := (∀ c ∈ x, isLow c = true) ∧ 1 ≤ x.length ∧ x.length ≤ 12
def noLow (r : List Nat) : Prop := ∀ c t, r = c :: t → isLow c = false
def rName (s : List Nat) : Option (List Nat × List Nat) := match span isLow s with
  | (x, r) => if 1 ≤ x.length ∧ x.length ≤ 12 then some (x, r) else none
theorem good_name : Good (fun x => x) okName noLow rName := by
  refine ⟨fun s x r h => ?_, fun x r ok hr => ?_⟩
  · unfold rName at h
    have e1 := span_app isLow s
    have e2 := span_all isLow s
    split at h
    rename_i y r' he
    rw [he] at e1 e2
    split at h
    · rename_i hc
      have h' := Option.some.inj h
      injection h' with h1 h2
      subst h1 h2
      exact ⟨e1.symm, e2, hc⟩
    · cases h
  · unfold rName
    have sp : span isLow (x ++ r) = (x, r) := span_full _ x r ok.1 hr
    simp only [sp]
    rw [if_pos ok.2]
/-! ### a name with its bag; a change -/
section
variable (asc : List (List Vl × Int) → Bool)
abbrev NBag := List Nat × List (List Vl × Int)
def fmtNamed (p : NBag) : List Nat := p.1 ++ (32 :: fmtBag p.2)
def okNamed (p : NBag) : Prop := okName p.1 ∧ okBag asc p.2
def rNamed (s : List Nat) : Option (NBag × List Nat) := match rName s with
  | none => none
  | some (x, r) => match rWord [32] r with
    | none => none
    | some r1 => match rBag asc r1 with
      | none => none
      | some (b, r2) => some ((x, b), r2)
theorem good_named : Good fmtNamed (okNamed asc) (fun _ => True) (rNamed asc) := by
  refine ⟨fun s p r h => ?_, fun p r ok _ => ?_⟩
  · unfold rNamed at h
    split at h
    · cases h
    · rename_i x r1 e1
      obtain ⟨a1, o1⟩ := good_name.sound _ _ _ e1
      split at h
      · cases h
      · rename_i r2 e2
        have a2 := rWord_sound e2
        split at h
        · cases h
        · rename_i b r3 e3
          obtain ⟨a3, o3⟩ := (good_bag asc).sound _ _ _ e3
          have h' := Option.some.inj h
          injection h' with h1 h2
          subst h1 h2
          refine ⟨?_, o1, o3⟩
          rw [a1, a2, a3]
          unfold fmtNamed
          simp only [List.append_assoc, List.cons_append, List.nil_append]
  · obtain ⟨o1, o2⟩ := ok
    obtain ⟨x, b⟩ := p
    have e : fmtNamed (x, b) ++ r = x ++ ([32] ++ (fmtBag b ++ r)) := by
      unfold fmtNamed
      simp only [List.append_assoc, List.cons_append, List.nil_append]
    rw [e]
    have hn : noLow ([32] ++ (fmtBag b ++ r)) := fun c t e => by
      injection e with e1 _
      rw [← e1]; rfl
    unfold rNamed
    simp only [good_name.full x _ o1 hn, rWord_full, (good_bag asc).full b r o2 trivial]
def semi : List Nat := [59, 32]
def fmtChange (c : List NBag) : List Nat := joined semi (c.map fmtNamed)
def okChange (c : List NBag) : Prop := ∀ p ∈ c, okNamed asc p
/-! ### whole texts -/
def whole {α : Type} (rd : Rd1 α) (s : List Nat) : Option α := match rd s with
  | some (v, []) => some v
  | _ => none
theorem whole_sound {α : Type} {fmt : α → List Nat} {ok : α → Prop} {follow : List Nat → Prop} {rd : Rd1 α} (g : Good fmt ok follow rd) {s : List Nat} {v : α} (h : whole rd s = some v) : s = fmt v ∧ ok v := by
  unfold whole at h
  split at h
  · rename_i w e
    have h' := Option.some.inj h
    subst h'
    obtain ⟨e1, e2⟩ := g.sound _ _ _ e
    exact ⟨by rw [e1, List.append_nil], e2⟩
  · cases h
theorem whole_full {α : Type} {fmt : α → List Nat} {ok : α → Prop} {follow : List Nat → Prop} {rd : Rd1 α} (g : Good fmt ok follow rd) {v : α} (ho : ok v) (hf : follow []) : whole rd (fmt v) = some v := by
  have e := g.full v [] ho hf
  rw [List.append_nil] at e
  unfold whole
  simp only [e]
def wChange (s : List Nat) : Option (List NBag) := if s = [] then some [] else whole (rSeries semi (rNamed asc) (s.length + 1)) s
theorem wChange_sound {s : List Nat} {c : List NBag} (h : wChange asc s = some c) : s = fmtChange c ∧ okChange asc c := by
  unfold wChange at h
  split at h
  · rename_i e
    have h' := Option.some.inj h
    subst h'
    exact ⟨e, fun p hp => by cases hp⟩
  · unfold whole at h
    split at h
    · rename_i w e
      have h' := Option.some.inj h
      subst h'
      obtain ⟨e1, _, e2, _⟩ := rSeries_sound (good_named asc) _ _ _ _ e
      exact ⟨by rw [e1, List.append_nil]; rfl, e2⟩
    · cases h
theorem fmtNamed_ne {p : NBag} : fmtNamed p ≠ [] := by
  unfold fmtNamed
  intro h
  have := congrArg List.length h
  simp at this
theorem wChange_full {c : List NBag} (ho : okChange asc c) : wChange asc (fmtChange c) = some c := by
  unfold wChange
  cases c with
  | nil => rw [if_pos (show fmtChange [] = [] from rfl)]
  | cons p t =>
    have hne : fmtChange (p :: t) ≠ [] := by
      cases t with
      | nil => exact fmtNamed_ne
      | cons q t =>
        intro h
        have h' : fmtNamed p ++ (semi ++ joined semi ((q :: t).map fmtNamed)) = [] := h
        exact fmtNamed_ne (List.append_eq_nil_iff.mp h').1
    rw [if_neg hne]
    have hl := joined_len semi (by decide) ((p :: t).map fmtNamed)
    rw [List.length_map] at hl
    have e := rSeries_full (good_named asc) (sep := semi) (fun _ => trivial) ((fmtChange (p :: t)).length + 1) (p :: t) [] (by simp) ho hl trivial (fun z => by
      obtain ⟨u, hu⟩ := z
      cases hu)
    rw [List.append_nil] at e
    have e' : rSeries semi (rNamed asc) ((fmtChange (p :: t)).length + 1) (fmtChange (p :: t)) = some (p :: t, []) := e
    unfold whole
    simp only [e']
end
end KA
set_option linter.all false
set_option maxRecDepth 100000
namespace KA
open PySem
theorem digit_nat : ∀ d, d < 10 → (Nat.digitChar d).toNat = 48 + d := by decide
theorem dec_digits (m : Nat) : dec m = (Nat.toDigits 10 m).map Char.toNat := by
  induction m using Nat.strongRecOn with
  | _ m ih =>
    rw [Nat.toDigits_eq_if (by decide)]
    by_cases h : m < 10
    · rw [dec_small h, if_pos h]
      simp only [List.map_cons, List.map_nil, digit_nat m h]
    · rw [dec_big h, if_neg h, ih (m / 10) (by omega)]
      simp only [List.map_append, List.map_cons, List.map_nil, digit_nat (m % 10) (by omega)]
/-- str(i) is the written form of i -/
theorem text_int (i : Int) : (Str.ofString (toString i)).cps.toList = fmtInt i := by
  cases i with
  | ofNat m =>
    rw [PyProof.Rows.text_ofNat]
    show _ = if (m : Int) < 0 then _ else _
    rw [if_neg (by omega), dec_digits]
    rfl
  | negSucc m =>
    have e : toString (Int.negSucc m) = "-" ++ toString (m + 1) := rfl
    rw [e, PyProof.Rows.signs_ofString]
    show _ = if Int.negSucc m < 0 then 45 :: dec (m + 1) else _
    rw [if_pos (by omega), dec_digits]
    have t := PyProof.Rows.text_ofNat (m + 1)
    have t2 := PyProof.Rows.signs_ofString (toString (Int.ofNat (m + 1)))
    rw [t] at t2
    simp only [String.toList_append, List.map_append]
    have t3 : (toString (Int.ofNat (m + 1))) = toString (m + 1) := rfl
    rw [t3] at t2
    rw [← t2]
    rfl
/-- int(text) of digits -/
theorem int_of_digs {x : Str} (hd : ∀ c ∈ x.cps.toList, isDig c = true) (hn : x.cps.toList ≠ []) (hl : x.length ≤ 4300) : intText? x = some (val x.cps.toList : Int) :=
  intText_digits (fun c hc => by
    have := hd c hc
    simpa [isDig] using this) hn hl
theorem int_of_neg {x : Str} {ds : List Nat} (e : x.cps.toList = 45 :: ds) (hd : ∀ c ∈ ds, isDig c = true) (hn : ds ≠ []) (hl : x.length ≤ 4300) : intText? x = some (-(val ds : Int)) :=
  intText_neg e (fun c hc => by
    have := hd c hc
    simpa [isDig] using this) hn hl
theorem from_nat (n i : Nat) : fromIndex n (i : Int) = i := by
  unfold fromIndex
  rw [if_neg (by omega)]
  omega
/-- x.startswith(y, i) -/
theorem starts_at (x y : Str) {i : Nat} (h : i ≤ x.length) : Txt.startswith3 x y i = decide (y.cps.toList <+: x.cps.toList.drop i) := by
  unfold Txt.startswith3
  rw [from_nat, StrLaws.subAt_eq]
  have hx : x.length = x.cps.toList.length := rfl
  have hy : y.length = y.cps.toList.length := rfl
  by_cases p : y.cps.toList <+: x.cps.toList.drop i
  · rw [decide_eq_true p]
    have l := p.length_le
    rw [List.length_drop] at l
    rw [hy, ← List.prefix_iff_eq_take.mp p]
    simp only [Bool.and_eq_true, decide_eq_true_eq, beq_self_eq_true, and_true]
    omega
  · rw [decide_eq_false p]
    cases e : (List.take y.length (List.drop i x.cps.toList) == y.cps.toList) with
    | false => rw [Bool.and_false]
    | true =>
      exfalso
      have := eq_of_beq e
      exact p (this ▸ List.take_prefix _ _)
/-- x[i:j] -/
theorem slice_at (x : Str) {i j : Nat} (h1 : i ≤ j) (h2 : j ≤ x.length) : (Txt.slice x (some (i : Int)) (some (j : Int))).cps.toList = (x.cps.toList.drop i).take (j - i) := by
  have h := PyProof.Rows.slice_closes (x := x) (i := i) (j := j) ⟨by omega, by omega, by
    have hx : x.length = x.cps.toList.length := rfl
    omega⟩
  have h' := eq_of_beq h
  rw [h']
  show List.take ((j : Int) - (i : Int)).toNat (List.drop ((i : Int).toNat) x.cps.toList) = _
  congr 1
  omega
theorem span_rest (p : Nat → Bool) : ∀ (s : List Nat) (c : Nat) (t : List Nat), (span p s).2 = c :: t → p c = false
  | [], c, t, h => by cases h
  | d :: s, c, t, h => by
    unfold span at h
    by_cases q : p d = true
    · rw [if_pos q] at h
      exact span_rest p s c t h
    · rw [if_neg q] at h
      injection h with h1 _
      rw [← h1]
      simpa using q
theorem at_one (x : Str) (c i : Nat) : StrLaws.At x { cps := #[c] } x.length i ↔ x.cps.toList[i]? = some c := StrLaws.subAt_one x c i
/-- x.find(c, start) for one character -/
theorem find_at (x : Str) (c start : Nat) (h : start ≤ x.length) : Txt.find3 x { cps := #[c] } (start : Int) = if (span (fun d => decide (d ≠ c)) (x.cps.toList.drop start)).2 = [] then -1 else ((start + (span (fun d => decide (d ≠ c)) (x.cps.toList.drop start)).1.length : Nat) : Int) := by
  have e1 := span_app (fun d => decide (d ≠ c)) (x.cps.toList.drop start)
  have e2 := span_all (fun d => decide (d ≠ c)) (x.cps.toList.drop start)
  have e3 := span_rest (fun d => decide (d ≠ c)) (x.cps.toList.drop start)
  revert e1 e2 e3
  generalize span (fun d => decide (d ≠ c)) (x.cps.toList.drop start) = ab
  obtain ⟨a, b⟩ := ab
  intro e1 e2 e3
  have key : ∀ k, start ≤ k → x.cps.toList[k]? = (a ++ b)[k - start]? := fun k hk => by
    rw [e1, List.getElem?_drop]
    congr 1
    omega
  have inA : ∀ k, start ≤ k → k < start + a.length → ¬ StrLaws.At x { cps := #[c] } x.length k := fun k h1 h2 z => by
    have z' := (at_one x c k).mp z
    rw [key k h1, List.getElem?_append_left (by omega)] at z'
    have := e2 c (List.mem_of_getElem? z')
    simp at this
  unfold Txt.find3
  rw [from_nat]
  have hf := StrLaws.occ_head_from x { cps := #[c] } start 1 (Nat.le_refl 1)
  cases b with
  | nil =>
    rw [if_pos rfl]
    rcases hf with ⟨f1, _⟩ | ⟨i, r, f1, f2, f3, _⟩
    · rw [f1]
    · exfalso
      refine inA i f2 ?_ f3
      have z' := (at_one x c i).mp f3
      rw [key i f2, List.append_nil] at z'
      have := List.getElem?_eq_some_iff.mp z'
      obtain ⟨w, _⟩ := this
      omega
  | cons d b =>
    rw [if_neg (by simp)]
    have hd : d = c := by
      have := e3 d b rfl
      simpa using this
    have atE : StrLaws.At x { cps := #[c] } x.length (start + a.length) := (at_one x c _).mpr (by
      rw [key _ (by omega), List.getElem?_append_right (by omega), hd]
      have : start + a.length - start - a.length = 0 := by omega
      rw [this]; rfl)
    rcases hf with ⟨_, f2⟩ | ⟨i, r, f1, f2, f3, f4⟩
    · exact absurd atE (f2 _ (by omega))
    · rw [f1]
      have : i = start + a.length := by
        have h1 : ¬ i < start + a.length := fun z => inA i f2 z f3
        have h2 : ¬ start + a.length < i := fun z => f4 _ (by omega) z atE
        omega
      rw [this]
end KA
set_option Elab.async false
set_option linter.all false
set_option maxRecDepth 100000
set_option maxHeartbeats 4000000
/-! require, behind -/
namespace KA
open PySem PySem.Spec PyProof.Rows L2
/-- the class FormError -/
structure FormC (K : PySem.W.Frag) (mg : Str → Option Value) (FE : Addr) : Prop where
  gF : mg "FormError" = some (.ref FE)
  xF : PySem.W.excIn K FE [.type "ValueError", .type "Exception", .type "BaseException", .type "object"] "ValueError.__new__" = true
  kF : PySem.W.keepIn K (.ref FE) = true
  bF : PySem.W.subIn K (.ref FE) (.type "BaseException") = true
  tF : PySem.W.typeIn K (.ref FE) = some (.type "type")
section
variable {P : Program} {w : World} {K : PySem.W.Frag} {mg : Str → Option Value} {base : Heap} {f : Addr} {fd : FuncData} {FE : Addr}
theorem log_small {i : Nat} (hi : i < 2 ^ 62) : (i : Int).natAbs.log2 < 1920 := by
  rw [Int.natAbs_natCast]
  by_cases h0 : i = 0
  · subst h0; decide
  · have := (Nat.log2_lt h0).mpr hi
    omega
def spRequire (FE : Addr) : Sp := fun vs H Q E => ∃ (b : Bool) (i : Nat), vs = [.bl b, .int i] ∧ i < 2 ^ 62 ∧ (b = true → Q .non H) ∧ (b = false → E (.ref FE) none H)
theorem ok_require (F : FnP K "require" s_require f fd) (C : FormC K mg FE) : FnOk P w K mg base (L2.CX P w) 1 f fd ["right", "at"] (spRequire FE) := by
  refine F.ok sc_require (fun vs H Q E h => ?_) (fun cdv A outer s H vs Q E hr h => ?_)
  · obtain ⟨b, i, rfl, _⟩ := h
    rfl
  · obtain ⟨b, i, rfl, hi, q, qe⟩ := h
    refine ⟨_, pss_one (ps_if (pt_not (pt_val (pv 0))) (pss_one (ps_raise rfl (takes_of rfl rfl rfl rfl) (SkE.pmk_own1 PySem.F.excBase_ValueError C.xF C.gF C.kF (raises_own C.bF C.tF) (by exact rfl) (pe_joined (.cons pe_str (.cons (pe_fmt (pv 1)) .nil)))))) pss_nil), ?_⟩
    refine ⟨_, rfl, _, rfl, ?_⟩
    cases b with
    | true =>
      refine iteF ?_
      exact q rfl
    | false =>
      refine iteT ?_
      have hs : ∀ t : Str, t.length ≤ 2000 → t.length ≤ sizeLine := fun t h => by rw [sizeLine_eq]; omega
      have hlog : (i : Int).natAbs.log2 < 1920 := log_small hi
      have hlen : (Str.ofString (toString (i : Int))).length ≤ 1921 := PyProof.Rows.int_text_len_1921 hlog
      refine ⟨_, rfl, hs _ (by decide +kernel), _, rfl, .inr ⟨_, rfl, hlog, _, rfl, hs _ ?_, qe rfl⟩⟩
      rw [Str.length_append, Str.length_append]
      have h1 : Str.empty.length = 0 := rfl
      have h2 : (Str.ofString "not a written form, at character ").length = 33 := by decide +kernel
      omega
def spBehind (FE : Addr) : Sp := fun vs H Q E => ∃ (x y : Str) (i : Nat), vs = [.str x, .int i, .str y] ∧ i ≤ x.length ∧ x.length ≤ 100000 ∧ y.length ≤ 1000 ∧
  (y.cps.toList <+: x.cps.toList.drop i → Q (.int ((i + y.length : Nat) : Int)) H) ∧ (¬ y.cps.toList <+: x.cps.toList.drop i → E (.ref FE) none H)
theorem ok_behind {fR : Addr} {fdR : FuncData} (F : FnP K "behind" s_behind f fd) (mR : mg "require" = some (.ref fR)) (kR : PySem.W.keepIn K (.ref fR) = true) (bR : Binds K fdR ["right", "at"] []) (G : FnOk P w K mg base (L2.CX P w) 1 fR fdR ["right", "at"] (spRequire FE)) (gL : mg "len" = none) :
    FnOk P w K mg base (L2.CX P w) 2 f fd ["text", "at", "word"] (spBehind FE) := by
  refine F.ok sc_behind (fun vs H Q E h => ?_) (fun cdv A outer s H vs Q E hr h => ?_)
  · obtain ⟨x, y, i, rfl, _⟩ := h
    rfl
  · obtain ⟨x, y, i, rfl, hi, hx, hy, q, qe⟩ := h
    refine ⟨_, pss_cons (ps_expr (pe_call (E := E) G hr (by rfl) mR kR bR .nil (passes_call (W := fun c d _ H' => E c d H') (takes_of rfl rfl rfl rfl) fun _ _ _ _ z => z) (pa_cons (pe_bm PySem.F.plainAttrs_str PySem.F.slot_str_startswith PySem.F.type_str_startswith mt_startswith3 (pv 0) (pa_cons (pv 2) (pa_cons (pv 1) pa_nil))) (pa_cons (pv 1) pa_nil))))
      (pss_one (ps_ret (pe_op op_add (pv 1) (pe_callB call_len_str (by rfl) gL PySem.boot_len (pa_cons (pv 2) pa_nil))))), ?_⟩
    have hst : Txt.startswith3 x y i = decide (y.cps.toList <+: x.cps.toList.drop i) := starts_at x y hi
    have hs : y.length ≤ sizeLine := by rw [sizeLine_eq]; omega
    refine ⟨_, rfl, rfl, _, rfl, _, rfl, x, y, (i : Int), rfl, rfl, _, rfl, ?_⟩
    refine ⟨_, i, rfl, by omega, fun hb => ?_, fun hb => qe (fun z => ?_)⟩
    · rw [hst] at hb
      exact ⟨_, rfl, _, rfl, y, rfl, hs, i, y.length, rfl, rfl, q (of_decide_eq_true hb)⟩
    · rw [hst, decide_eq_true z] at hb
      cases hb
end
end KA
set_option Elab.async false
set_option linter.all false
set_option maxRecDepth 100000
set_option maxHeartbeats 4000000
/-! calls of defs that may raise; what a reader promises; read_pair -/
namespace KA
open PySem PySem.Spec PyProof.Rows L2
/-- the module's name x stands for a def that keeps the promise sp and may raise -/
def CalX (P : Program) (w : World) (K : PySem.W.Frag) (mg : Str → Option Value) (base : Heap) (x : Str) (k : Nat) (ps : List Str) (sp : Sp) : Prop :=
  ∃ f fd, mg x = some (.ref f) ∧ PySem.W.keepIn K (.ref f) = true ∧ Binds K fd ps [] ∧ FnOk P w K mg base (L2.CX P w) k f fd ps sp
section
variable {X : Cx} {x : Str} {k : Nat} {ps : List Str} {sp : Sp} {E : XK} {p pos : Pos} {e : Expr} {es : List Expr} {t : TA}
theorem pe_calX (c : CalX X.prog X.w X.K X.mg X.base x k ps sp) (hr : Room k X.A) (hx : Passes (L2.CX X.prog X.w) X E) (ha : PA X (e :: es) t) (hg : Gl X x := by rfl) (hdb : (x == ("__debug__" : Str)) = false := by decide)
    (he : starEach (e :: es) X.env = (false, eval e X.env) :: starEach es X.env := by rfl) (hpl : (backTo pos (starEach es X.env)).any (·.1) = false := by rfl) : PE X (.Call (.Name x p) (e :: es) [] pos) (tCall sp [] E t) := by
  obtain ⟨f, fd, g, kp, b, G⟩ := c
  exact pe_call G hr hg g kp b .nil hx ha hdb he hpl
end
/-- S H0 H v a: v stands for a at H by things that were made after H0 -/
structure Stn {α : Type} (S : Hp → Hp → V → α → Prop) : Prop where
  mono : ∀ H0 H H' v a, (∀ b o, H0 b = none → H b = some o → H' b = some o) → S H0 H v a → S H0 H' v a
  weak : ∀ H0 H1 H v a, Same H0 H1 → S H1 H v a → S H0 H v a
theorem Stn.same {α : Type} {S : Hp → Hp → V → α → Prop} (st : Stn S) {H0 H H' : Hp} {v : V} {a : α} (s : Same H H') (h : S H0 H v a) : S H0 H' v a := st.mono _ _ _ _ _ (fun b o _ e => s b o e) h
theorem none_back {H H' : Hp} {p : Addr} (s : Same H H') (h : H' p = none) : H p = none := by
  cases e : H p with
  | none => rfl
  | some o => rw [s p o e] at h; cases h
/-- a reader at a place of a text: a thing and the place behind it, or a FormError -/
def Reads {α : Type} (FE : Addr) (S : Hp → Hp → V → α → Prop) (rd : Rd1 α) (x : Str) (i : Nat) (H : Hp) (Q : VK) (E : XK) : Prop := i ≤ x.length ∧ x.length ≤ 100000 ∧
  (∀ v j t tv H', i ≤ j → j ≤ x.length → rd (x.cps.toList.drop i) = some (v, x.cps.toList.drop j) → Same H H' → H' t = some (.tup [tv, .int (j : Int)]) → S H H' tv v → Q (.ref t) H') ∧
  (rd (x.cps.toList.drop i) = none → ∀ H', Same H H' → E (.ref FE) none H')
def spRead {α : Type} (FE : Addr) (S : Hp → Hp → V → α → Prop) (rd : Rd1 α) : Sp := fun vs H Q E => ∃ (x : Str) (i : Nat), vs = [.str x, .int i] ∧ Reads FE S rd x i H Q E
/-- numbers, texts -/
def IntS : Hp → Hp → V → Int → Prop := fun _ _ v n => v = .int n
def TxtS : Hp → Hp → V → List Nat → Prop := fun _ _ v n => ∃ z : Str, v = .str z ∧ z.cps.toList = n
theorem stn_int : Stn IntS := ⟨fun _ _ _ _ _ _ h => h, fun _ _ _ _ _ _ h => h⟩
theorem stn_txt : Stn TxtS := ⟨fun _ _ _ _ _ _ h => h, fun _ _ _ _ _ _ h => h⟩
/-- a pair of a row and a count -/
def PairS (sR : Hp → Hp → V → List Vl → Prop) : Hp → Hp → V → List Vl × Int → Prop := fun H0 H v p => ∃ t rv, v = .ref t ∧ H0 t = none ∧ H t = some (.tup [rv, .int p.2]) ∧ sR H0 H rv p.1
theorem stn_pair {sR : Hp → Hp → V → List Vl → Prop} (st : Stn sR) : Stn (PairS sR) :=
  ⟨fun H0 H H' v a k ⟨t, rv, e, h0, h1, h2⟩ => ⟨t, rv, e, h0, k _ _ h0 h1, st.mono _ _ _ _ _ k h2⟩, fun H0 H1 H v a s ⟨t, rv, e, h0, h1, h2⟩ => ⟨t, rv, e, none_back s h0, h1, st.weak _ _ _ _ _ s h2⟩⟩
/-- a list of things -/
def ListS {α : Type} (S : Hp → Hp → V → α → Prop) : Hp → Hp → V → List α → Prop := fun H0 H v vs => ∃ l ivs, v = .ref l ∧ H0 l = none ∧ H l = some (.lst ivs) ∧ PySem.W.EachIs (S H0 H) ivs vs
theorem stn_list {α : Type} {S : Hp → Hp → V → α → Prop} (st : Stn S) : Stn (ListS S) :=
  ⟨fun H0 H H' v a k ⟨l, ivs, e, h0, h1, h2⟩ => ⟨l, ivs, e, h0, k _ _ h0 h1, h2.mono fun x y z => st.mono _ _ _ _ _ k z⟩, fun H0 H1 H v a s ⟨l, ivs, e, h0, h1, h2⟩ => ⟨l, ivs, e, none_back s h0, h1, h2.mono fun x y z => st.weak _ _ _ _ _ s z⟩⟩
section
variable {P : Program} {w : World} {K : PySem.W.Frag} {mg : Str → Option Value} {base : Heap} {f : Addr} {fd : FuncData} {FE : Addr}
theorem ok_read_pair {sR : Hp → Hp → V → List Vl → Prop} (stn : Stn sR) (F : FnP K "read_pair" s_read_pair f fd) (CQ : CalX P w K mg base "require" 1 ["right", "at"] (spRequire FE)) (CB : CalX P w K mg base "behind" 2 ["text", "at", "word"] (spBehind FE))
    (CI : CalX P w K mg base "read_integer" 3 ["text", "at"] (spRead FE IntS rInt)) (CR : CalX P w K mg base "read_row" 8 ["text", "at"] (spRead FE sR rRow)) :
    FnOk P w K mg base (L2.CX P w) 9 f fd ["text", "at"] (spRead FE (PairS sR) rPair) := by
  refine F.ok sc_read_pair (fun vs H Q E h => ?_) (fun cdv A outer s H vs Q E hr h => ?_)
  · obtain ⟨x, i, rfl, _⟩ := h
    rfl
  · obtain ⟨x, i, rfl, hi, hx, q, qe⟩ := h
    have nd := sc_read_pair.nd
    refine ⟨_, pss_cons (ps_asg (pe_calX (E := E) CR hr.lt (passes_call (W := fun c d _ H' => E c d H') (takes_of rfl rfl rfl rfl) fun _ _ _ _ z => z) (pa_cons (pv 0) (pa_cons (pv 1) pa_nil))) (pg_tup (by rfl) (pgs_cons (pg_name (i := 2) nd rfl (Or.inl rfl)) (pgs_cons (pg_name (i := 3) nd rfl (Or.inl rfl)) pgs_nil))))
      (pss_cons (ps_asg (pe_calX (E := E) CI hr.lt (passes_call (W := fun c d _ H' => E c d H') (takes_of rfl rfl rfl rfl) fun _ _ _ _ z => z) (pa_cons (pv 0) (pa_cons (pe_calX (E := E) CB hr.lt (passes_call (W := fun c d _ H' => E c d H') (takes_of rfl rfl rfl rfl) fun _ _ _ _ z => z) (pa_cons (pv 0) (pa_cons (pv 3) (pa_cons pe_str pa_nil)))) pa_nil))) (pg_tup (by rfl) (pgs_cons (pg_name (i := 4) nd rfl (Or.inl rfl)) (pgs_cons (pg_name (i := 3) nd rfl (Or.inl rfl)) pgs_nil))))
      (pss_cons (ps_expr (pe_calX (E := E) CQ hr.lt (passes_call (W := fun c d _ H' => E c d H') (takes_of rfl rfl rfl rfl) fun _ _ _ _ z => z) (pa_cons (pe_cmpR op_ne (pv 4) pe_int (nomark _)) (pa_cons (pv 1) pa_nil))))
      (pss_one (ps_ret (pe_tup (pa_cons (pe_tup (pa_cons (pv 2) (pa_cons (pv 4) pa_nil))) (pa_cons (pv 3) pa_nil))))))), ?_⟩
    refine ⟨_, rfl, _, rfl, x, i, rfl, hi, hx, fun v j t tv H1 hij hj hrd s1 h1 st1 => ?_, fun hn H' s' => qe (by unfold rPair; rw [hn]) H' s'⟩
    refine ⟨t, _, rfl, sq_t h1, rfl, ?_⟩
    have e2 : (Str.ofString ": ").cps.toList = [58, 32] := by decide +kernel
    have l2 : (Str.ofString ": ").length = 2 := by decide +kernel
    refine ⟨_, _, rfl, _, _, rfl, rfl, ?_⟩
    refine ⟨_, rfl, _, rfl, _, rfl, x, _, j, rfl, hj, hx, by rw [l2]; decide, fun pre => ?_, fun npre => ?_⟩
    · rw [e2] at pre
      have pl := pre.length_le
      have hxl : x.length = x.cps.toList.length := rfl
      rw [List.length_drop] at pl
      have pl' : 2 ≤ x.length - j := pl
      have w2 : rWord [58, 32] (x.cps.toList.drop j) = some (x.cps.toList.drop (j + 2)) := by
        unfold rWord
        rw [if_pos pre, List.drop_drop]
        rfl
      rw [l2]
      refine ⟨x, j + 2, rfl, by omega, hx, fun n j2 t2 tv2 H2 hij2 hj2 hrd2 s2 h2 st2 => ?_, fun hn2 H' s' => qe (by unfold rPair; simp only [hrd, w2, hn2]) H' (s1.trans s')⟩
      refine ⟨t2, _, rfl, sq_t h2, rfl, ?_⟩
      refine ⟨_, _, rfl, _, _, rfl, rfl, ?_⟩
      obtain rfl : tv2 = .int n := st2
      refine ⟨_, rfl, rfl, _, rfl, _, i, rfl, by omega, fun hb => ?_, fun hb => ?_⟩
      · have hn0 : n ≠ 0 := fun z => by
          subst z
          simp at hb
        have h2s : 2 ≤ sizeLine := by rw [sizeLine_eq]; decide
        refine ⟨_, rfl, _, rfl, h2s, fun p hp => ⟨_, rfl, h2s, fun p2 hp2 => ?_⟩⟩
        have sA := same_new (o := .tup [tv, .int n]) hp
        have sB := same_new (o := .tup [.ref p, .int (j2 : Int)]) hp2
        refine q (v, n) j2 p2 (.ref p) _ (by omega) hj2 ?_ (s1.trans (s2.trans (sA.trans sB))) upd_same ⟨p, tv, rfl, none_back (s1.trans s2) hp, sB _ _ upd_same, stn.same (s2.trans (sA.trans sB)) st1⟩
        unfold rPair
        simp only [hrd, w2, hrd2]
        rw [if_pos hn0]
      · have hn0 : n = 0 := by
          simp at hb
          exact hb
        refine qe ?_ H2 (s1.trans s2)
        unfold rPair
        simp only [hrd, w2, hrd2]
        rw [if_neg (fun z => z hn0)]
    · have w2 : rWord [58, 32] (x.cps.toList.drop j) = none := by
        unfold rWord
        rw [e2] at npre
        rw [if_neg npre]
      exact qe (by unfold rPair; simp only [hrd, w2]) H1 s1
end
end KA
set_option Elab.async false
set_option linter.all false
set_option maxRecDepth 100000
set_option maxHeartbeats 4000000
/-! read_named_bag -/
namespace KA
open PySem PySem.Spec PyProof.Rows L2
/-- a name with its bag -/
def NamedS (sB : Hp → Hp → V → List (List Vl × Int) → Prop) : Hp → Hp → V → NBag → Prop := fun H0 H v p => ∃ t z bv, v = .ref t ∧ H0 t = none ∧ H t = some (.tup [.str z, bv]) ∧ z.cps.toList = p.1 ∧ sB H0 H bv p.2
theorem stn_named {sB : Hp → Hp → V → List (List Vl × Int) → Prop} (st : Stn sB) : Stn (NamedS sB) :=
  ⟨fun H0 H H' v a k ⟨t, z, bv, e, h0, h1, hz, h2⟩ => ⟨t, z, bv, e, h0, k _ _ h0 h1, hz, st.mono _ _ _ _ _ k h2⟩, fun H0 H1 H v a s ⟨t, z, bv, e, h0, h1, hz, h2⟩ => ⟨t, z, bv, e, none_back s h0, h1, hz, st.weak _ _ _ _ _ s h2⟩⟩
section
variable {P : Program} {w : World} {K : PySem.W.Frag} {mg : Str → Option Value} {base : Heap} {f : Addr} {fd : FuncData} {FE : Addr}
theorem ok_read_named_bag {asc : List (List Vl × Int) → Bool} {sB : Hp → Hp → V → List (List Vl × Int) → Prop} (stn : Stn sB) (F : FnP K "read_named_bag" s_read_named_bag f fd)
    (CB : CalX P w K mg base "behind" 2 ["text", "at", "word"] (spBehind FE)) (CN : CalX P w K mg base "read_name" 3 ["text", "at"] (spRead FE TxtS rName)) (CR : CalX P w K mg base "read_bag" 12 ["text", "at"] (spRead FE sB (rBag asc))) :
    FnOk P w K mg base (L2.CX P w) 13 f fd ["text", "at"] (spRead FE (NamedS sB) (rNamed asc)) := by
  refine F.ok sc_read_named_bag (fun vs H Q E h => ?_) (fun cdv A outer s H vs Q E hr h => ?_)
  · obtain ⟨x, i, rfl, _⟩ := h
    rfl
  · obtain ⟨x, i, rfl, hi, hx, q, qe⟩ := h
    have nd := sc_read_named_bag.nd
    refine ⟨_, pss_cons (ps_asg (pe_calX (E := E) CN hr.lt (passes_call (W := fun c d _ H' => E c d H') (takes_of rfl rfl rfl rfl) fun _ _ _ _ z => z) (pa_cons (pv 0) (pa_cons (pv 1) pa_nil))) (pg_tup (by rfl) (pgs_cons (pg_name (i := 2) nd rfl (Or.inl rfl)) (pgs_cons (pg_name (i := 3) nd rfl (Or.inl rfl)) pgs_nil))))
      (pss_cons (ps_asg (pe_calX (E := E) CR hr.lt (passes_call (W := fun c d _ H' => E c d H') (takes_of rfl rfl rfl rfl) fun _ _ _ _ z => z) (pa_cons (pv 0) (pa_cons (pe_calX (E := E) CB hr.lt (passes_call (W := fun c d _ H' => E c d H') (takes_of rfl rfl rfl rfl) fun _ _ _ _ z => z) (pa_cons (pv 0) (pa_cons (pv 3) (pa_cons pe_str pa_nil)))) pa_nil))) (pg_tup (by rfl) (pgs_cons (pg_name (i := 4) nd rfl (Or.inl rfl)) (pgs_cons (pg_name (i := 3) nd rfl (Or.inl rfl)) pgs_nil))))
      (pss_one (ps_ret (pe_tup (pa_cons (pe_tup (pa_cons (pv 2) (pa_cons (pv 4) pa_nil))) (pa_cons (pv 3) pa_nil)))))), ?_⟩
    refine ⟨_, rfl, _, rfl, x, i, rfl, hi, hx, fun v j t tv H1 hij hj hrd s1 h1 st1 => ?_, fun hn H' s' => qe (by unfold rNamed; rw [hn]) H' s'⟩
    refine ⟨t, _, rfl, sq_t h1, rfl, ?_⟩
    obtain ⟨z, rfl, hz⟩ := st1
    have e2 : (Str.ofString " ").cps.toList = [32] := by decide +kernel
    have l2 : (Str.ofString " ").length = 1 := by decide +kernel
    refine ⟨_, _, rfl, _, _, rfl, rfl, ?_⟩
    refine ⟨_, rfl, _, rfl, _, rfl, x, _, j, rfl, hj, hx, by rw [l2]; decide, fun pre => ?_, fun npre => ?_⟩
    · rw [e2] at pre
      have pl := pre.length_le
      have hxl : x.length = x.cps.toList.length := rfl
      rw [List.length_drop] at pl
      have pl' : 1 ≤ x.length - j := pl
      have w2 : rWord [32] (x.cps.toList.drop j) = some (x.cps.toList.drop (j + 1)) := by
        unfold rWord
        rw [if_pos pre, List.drop_drop]
        rfl
      rw [l2]
      refine ⟨x, j + 1, rfl, by omega, hx, fun n j2 t2 tv2 H2 hij2 hj2 hrd2 s2 h2 st2 => ?_, fun hn2 H' s' => qe (by unfold rNamed; simp only [hrd, w2, hn2]) H' (s1.trans s')⟩
      refine ⟨t2, _, rfl, sq_t h2, rfl, ?_⟩
      refine ⟨_, _, rfl, _, _, rfl, rfl, ?_⟩
      have h2s : 2 ≤ sizeLine := by rw [sizeLine_eq]; decide
      refine ⟨_, rfl, _, rfl, h2s, fun p hp => ⟨_, rfl, h2s, fun p2 hp2 => ?_⟩⟩
      have sA := same_new (o := .tup [.str z, tv2]) hp
      have sB' := same_new (o := .tup [.ref p, .int (j2 : Int)]) hp2
      refine q (v, n) j2 p2 (.ref p) _ (by omega) hj2 ?_ (s1.trans (s2.trans (sA.trans sB'))) upd_same ⟨p, z, tv2, rfl, none_back (s1.trans s2) hp, sB' _ _ upd_same, hz, stn.weak _ _ _ _ _ s1 (stn.same (sA.trans sB') st2)⟩
      unfold rNamed
      simp only [hrd, w2, hrd2]
    · have w2 : rWord [32] (x.cps.toList.drop j) = none := by
        unfold rWord
        rw [e2] at npre
        rw [if_neg npre]
      exact qe (by unfold rNamed; simp only [hrd, w2]) H1 s1
end
end KA
set_option Elab.async false
set_option linter.all false
set_option maxRecDepth 100000
set_option maxHeartbeats 4000000
/-! wrap, rank, row_rank, _law_key -/
namespace KA
open PySem PySem.Spec PyProof.Rows L2
open PySem.W (EachIs)
section
variable {P : Program} {w : World} {K : PySem.W.Frag} {mg : Str → Option Value} {base : Heap} {f : Addr} {fd : FuncData}
def wrapZ (n : Int) : Int := (n - (-2147483648)) % 4294967296 + (-2147483648)
def spWrap : Sp := fun vs H Q _ => ∃ n : Int, vs = [.int n] ∧ Q (.int (wrapZ n)) H
theorem ok_wrap (F : FnP K "wrap" s_wrap f fd) {tS tL : Tok} (gS : mg "SPAN" = some (.int 4294967296 tS)) (gL : mg "LOWEST" = some (.int (-2147483648) tL)) : FnOk P w K mg base CX0 1 f fd ["n"] spWrap := by
  refine F.ok sc_wrap (fun vs H Q E h => ?_) (fun cdv A outer s H vs Q E hr h => ?_)
  · obtain ⟨n, rfl, _⟩ := h
    rfl
  · obtain ⟨n, rfl, q⟩ := h
    refine ⟨_, PSs.nox (pss_one (ps_ret (pe_op op_add (pe_op op_mod (pe_op op_sub (pv 0) (pe_glob (v := .int (-2147483648)) rfl gL ⟨_, rfl⟩)) (pe_glob (v := .int 4294967296) rfl gS ⟨_, rfl⟩)) (pe_glob (v := .int (-2147483648)) rfl gL ⟨_, rfl⟩)))), ?_⟩
    exact ⟨_, rfl, _, _, rfl, rfl, _, _, rfl, rfl, by show (0 : Int) < 4294967296; decide, _, _, rfl, rfl, q⟩
def spRank (K : PySem.W.Frag) : Sp := fun vs H Q _ => ∃ x : Key, vs = [kV x] ∧ ∀ v H', Same H H' → Tp K H' v (rankD x) → Q v H'
theorem ok_rank (F : FnP K "rank" s_rank f fd) (gI : mg "isinstance" = none) (gS : mg "str" = none) : FnOk P w K mg base CX0 1 f fd ["value"] (spRank K) := by
  refine F.ok sc_rank (fun vs H Q E h => ?_) (fun cdv A outer s H vs Q E hr h => ?_)
  · obtain ⟨n, rfl, _⟩ := h
    rfl
  · obtain ⟨x, rfl, q⟩ := h
    refine ⟨_, PSs.nox (pss_cons (ps_if (pt_val (pe_callB call_isi (by rfl) gI (by decide +kernel) (pa_cons (pv 0) (pa_cons (pe_bltn (v := .ty "str") (by rfl) gS (by decide +kernel) rfl) pa_nil)))) (pss_one (ps_ret (pe_tup (pa_cons pe_int (pa_cons (pv 0) pa_nil))))) pss_nil)
      (pss_one (ps_ret (pe_tup (pa_cons pe_int (pa_cons (pv 0) pa_nil)))))), ?_⟩
    cases x with
    | inl i =>
      refine ⟨_, rfl, _, _, .type "int", .type "str", false, rfl, .ty "str", .base (.int i), kit_ty (by decide +kernel), _, rfl, iteF ?_⟩
      exact ⟨_, rfl, (by show 2 ≤ sizeLine; decide), fun p hp => q _ _ (same_new hp) (.tup (sq_tups upd_same) (.cons (.int _) (.cons (.int _) .nil)))⟩
    | inr z =>
      refine ⟨_, rfl, _, _, .type "str", .type "str", true, rfl, .ty "str", .base (.str z), kit_ty (by decide +kernel), _, rfl, iteT ?_⟩
      exact ⟨_, rfl, (by show 2 ≤ sizeLine; decide), fun p hp => q _ _ (same_new hp) (.tup (sq_tups upd_same) (.cons (.int _) (.cons (.str _) .nil)))⟩
theorem ok_row_rank (F : FnP K "row_rank" s_row_rank f fd) (gT : mg "tuple" = none) (C : Cal P w K mg base "rank" 1 ["value"] (spRank K)) : FnOk P w K mg base CX0 2 f fd ["row"] (spKey K rankRow) := by
  refine F.ok sc_row_rank (fun vs H Q E h => ?_) (fun cdv A outer s H vs Q E hr h => ?_)
  · obtain ⟨n, r, rfl, _⟩ := h
    rfl
  · obtain ⟨a, r, rfl, hq, hl, q⟩ := h
    refine ⟨_, PSs.nox (pss_one (ps_ret (pe_callTy call_tuple_of (by rfl) gT (by decide +kernel) (pa_cons (pe_lc (own := [("value", 1)]) (g := gName 1) (tt := tYes) (by rfl) sc_row_rank.nd (pi_tup (pv 0))
      (blkOk_by (own := [("value", 1)]) (N := ["row", "value"]) (sc := defScope s_row_rank) (by decide +kernel)) (fun _ _ _ _ _ => pg_name (i := 1) sc_row_rank.nd rfl (Or.inl rfl)) (fun _ _ _ _ _ => pts_nil)
      (fun _ _ _ _ _ => pe_cal C hr (pa_cons (pv 1) pa_nil))) pa_nil)))), ?_⟩
    refine ⟨_, rfl, a, rfl, ⟨_, hq.sq⟩, fun D hD => ?_⟩
    refine lc_same (walk_tup (xs := r.map kV)) r (by rw [List.length_map]) (fun _ => true) (fun H v x => Tp K H v (rankD x)) (fun _ _ _ _ k z => Tp.tk k z) hD (fun H' s' => (hq.mono s').sq) (by rw [List.length_map]; omega) ?_ ?_
    · rintro i x b H1 _ hi hb s1 ⟨rfl, hx⟩ Q' Qn h1 _
      obtain ⟨b', hb', rfl⟩ := map_at hx
      obtain rfl : b = b' := Option.some.inj (hb.symm.trans hb')
      exact ⟨rfl, yes_in ⟨_, rfl, b, rfl, fun v H2 s2 d => h1 rfl v H2 s2 d⟩⟩
    · intro H1 acc s1 ha he
      rw [filter_true] at he
      refine ⟨D, acc, rfl, .inl ⟨sq_l ha, fun p hp => ?_⟩⟩
      have s2 : Same H1 (upd H1 p (.tup acc)) := same_new hp
      exact q _ _ (s1.trans s2) (.tup (sq_t upd_same) (each_dps (he.mono fun v x z => (Tp.tk s2.tk z).dp)))
/-- a row as a tuple, or its items in a list -/
def spLawKey (K : PySem.W.Frag) : Sp := fun vs H Q _ => ∃ (q : Addr) (r : Row), vs = [.ref q] ∧ (RowAt H q r ∨ H q = some (.lst (r.map kV))) ∧ r.length ≤ 1000 ∧ ∀ v H', Same H H' → Dp K H' v (lawRow r) → Q v H'
theorem law_item (x : Key) {H : Hp} {K : PySem.W.Frag} {σ : L2.St} {i : Nat} (hs : σ[i]? = some (some (kV x))) {Q : VK} (h : ∀ v H', Same H H' → Tp K H' v (lawD x) → Q v H') :
    tIf (tB (tCB (rIsi K) (tCons (tVar i) (tCons (tC (V.ty "int")) tNil)))) (tTup (tCons (tC (.int 0)) (tCons (tVar i) (tCons (tC (.str "")) tNil)))) (tTup (tCons (tC (.int 1)) (tCons (tC (.int 0)) (tCons (tVar i) tNil)))) σ H Q := by
  cases x with
  | inl n =>
    refine ⟨_, hs, _, _, .type "int", .type "int", true, rfl, .ty "int", .base (.int n), kit_ty (by decide +kernel), _, rfl, iteT ?_⟩
    exact ⟨_, hs, (by show 3 ≤ sizeLine; decide), fun p hp => h _ _ (same_new hp) (.tup (sq_tups upd_same) (.cons (.int _) (.cons (.int _) (.cons (.str _) .nil))))⟩
  | inr z =>
    refine ⟨_, hs, _, _, .type "str", .type "int", false, rfl, .ty "int", .base (.str z), kit_ty (by decide +kernel), _, rfl, iteF ?_⟩
    exact ⟨_, hs, (by show 3 ≤ sizeLine; decide), fun p hp => h _ _ (same_new hp) (.tup (sq_tups upd_same) (.cons (.int _) (.cons (.int _) (.cons (.str _) .nil))))⟩
theorem ok_law_key (F : FnP K "_law_key" s__law_key f fd) (gI : mg "isinstance" = none) (gN : mg "int" = none) : FnOk P w K mg base CX0 1 f fd ["row"] (spLawKey K) := by
  refine F.ok sc__law_key (fun vs H Q E h => ?_) (fun cdv A outer s H vs Q E hr h => ?_)
  · obtain ⟨n, r, rfl, _⟩ := h
    rfl
  · obtain ⟨a, r, rfl, hq, hl, q⟩ := h
    have fin : ∀ H1 D acc, Same H H1 → H1 D = some (.lst acc) → EachIs (fun v x => Tp K H1 v (lawD x)) acc (r.filter fun _ => true) → Q (.ref D) H1 := fun H1 D acc s1 ha he => by
      rw [filter_true] at he
      exact q _ _ s1 (.lst (sq_l ha) (each_dps (he.mono fun v x z => z.dp)))
    rcases hq with hq | hq
    · refine ⟨_, PSs.nox (pss_one (ps_ret (pe_lc (own := [("one", 1)]) (g := gName 1) (tt := tYes) (by rfl) sc__law_key.nd (pi_tup (pv 0))
        (blkOk_by (own := [("one", 1)]) (N := ["row", "one"]) (sc := defScope s__law_key) (by decide +kernel)) (fun _ _ _ _ _ => pg_name (i := 1) sc__law_key.nd rfl (Or.inl rfl)) (fun _ _ _ _ _ => pts_nil)
        (fun _ _ _ _ _ => pe_ifExp (pt_val (pe_callB (id := "isinstance") (r := rIsi K) call_isi (by rfl) gI (by decide +kernel) (pa_cons (pv 1) (pa_cons (pe_bltn (v := .ty "int") (by rfl) gN (by decide +kernel) rfl) pa_nil))))
          (pe_tup (pa_cons pe_int (pa_cons (pv 1) (pa_cons pe_str pa_nil)))) (pe_tup (pa_cons pe_int (pa_cons pe_int (pa_cons (pv 1) pa_nil)))))))), ?_⟩
      refine ⟨_, rfl, a, rfl, ⟨_, hq.sq⟩, fun D hD => ?_⟩
      refine lc_same (walk_tup (xs := r.map kV)) r (by rw [List.length_map]) (fun _ => true) (fun H v x => Tp K H v (lawD x)) (fun _ _ _ _ k z => Tp.tk k z) hD (fun H' s' => (hq.mono s').sq) (by rw [List.length_map]; omega) ?_ (fun H1 acc s1 ha he => fin H1 D acc s1 ha he)
      rintro i x b H1 _ hi hb s1 ⟨rfl, hx⟩ Q' Qn h1 _
      obtain ⟨b', hb', rfl⟩ := map_at hx
      obtain rfl : b = b' := Option.some.inj (hb.symm.trans hb')
      exact ⟨rfl, yes_in (law_item b rfl fun v H2 s2 d => h1 rfl v H2 s2 d)⟩
    · refine ⟨_, PSs.nox (pss_one (ps_ret (pe_lc (own := [("one", 1)]) (g := gName 1) (tt := tYes) (by rfl) sc__law_key.nd (pi_list (pv 0))
        (blkOk_by (own := [("one", 1)]) (N := ["row", "one"]) (sc := defScope s__law_key) (by decide +kernel)) (fun _ _ _ _ _ => pg_name (i := 1) sc__law_key.nd rfl (Or.inl rfl)) (fun _ _ _ _ _ => pts_nil)
        (fun _ _ _ _ _ => pe_ifExp (pt_val (pe_callB (id := "isinstance") (r := rIsi K) call_isi (by rfl) gI (by decide +kernel) (pa_cons (pv 1) (pa_cons (pe_bltn (v := .ty "int") (by rfl) gN (by decide +kernel) rfl) pa_nil))))
          (pe_tup (pa_cons pe_int (pa_cons (pv 1) (pa_cons pe_str pa_nil)))) (pe_tup (pa_cons pe_int (pa_cons pe_int (pa_cons (pv 1) pa_nil)))))))), ?_⟩
      refine ⟨_, rfl, a, rfl, ⟨_, sq_l hq⟩, fun D hD => ?_⟩
      refine lc_same (walk_list (xs := r.map kV)) r (by rw [List.length_map]) (fun _ => true) (fun H v x => Tp K H v (lawD x)) (fun _ _ _ _ k z => Tp.tk k z) hD (fun H' s' => sq_l (s' _ _ hq)) (by rw [List.length_map]; omega) ?_ (fun H1 acc s1 ha he => fin H1 D acc s1 ha he)
      rintro i x b H1 _ hi hb s1 ⟨rfl, hx⟩ Q' Qn h1 _
      obtain ⟨b', hb', rfl⟩ := map_at hx
      obtain rfl : b = b' := Option.some.inj (hb.symm.trans hb')
      exact ⟨rfl, yes_in (law_item b rfl fun v H2 s2 d => h1 rfl v H2 s2 d)⟩
end
end KA
set_option Elab.async false
set_option linter.all false
set_option maxRecDepth 100000
set_option maxHeartbeats 4000000
/-! read_value -/
namespace KA
open PySem PySem.Spec PyProof.Rows L2
theorem rVl_text {s : List Nat} (h : [34] <+: s) : rVl s = (rText s).map fun p => (.s p.1, p.2) := by
  obtain ⟨t, rfl⟩ := h
  rfl
theorem rVl_num {s : List Nat} (h : ¬ [34] <+: s) : rVl s = match rInt s with
    | none => none
    | some (n, r) => if -2147483648 ≤ n ∧ n < 2147483648 then some (.i n, r) else none := by
  unfold rVl
  split
  · rename_i t
    exact absurd ⟨t, rfl⟩ h
  · rfl
def VlAt (v : V) : Vl → Prop
  | .i n => v = .int n
  | .s y => ∃ z : Str, v = .str z ∧ z.cps.toList = y
theorem wrapZ_eq (n : Int) : wrapZ n = n ↔ -2147483648 ≤ n ∧ n < 2147483648 := by
  unfold wrapZ
  omega
section
variable {P : Program} {w : World} {K : PySem.W.Frag} {mg : Str → Option Value} {base : Heap} {f : Addr} {fd : FuncData} {FE : Addr}
theorem ok_read_value (F : FnP K "read_value" s_read_value f fd) (CQ : CalX P w K mg base "require" 1 ["right", "at"] (spRequire FE)) (CW : Cal P w K mg base "wrap" 1 ["n"] spWrap)
    (CI : CalX P w K mg base "read_integer" 3 ["text", "at"] (spRead FE IntS rInt)) (CT : CalX P w K mg base "read_text" 3 ["text", "at"] (spRead FE TxtS rText)) :
    FnOk P w K mg base (L2.CX P w) 4 f fd ["text", "at"] (spRead FE (fun _ _ v p => VlAt v p) rVl) := by
  refine F.ok sc_read_value (fun vs H Q E h => ?_) (fun cdv A outer s H vs Q E hr h => ?_)
  · obtain ⟨x, i, rfl, _⟩ := h
    rfl
  · obtain ⟨x, i, rfl, hi, hx, q, qe⟩ := h
    have nd := sc_read_value.nd
    refine ⟨_, pss_cons (ps_if (pt_val (pe_bm PySem.F.plainAttrs_str PySem.F.slot_str_startswith PySem.F.type_str_startswith mt_startswith3 (pv 0) (pa_cons pe_str (pa_cons (pv 1) pa_nil)))) (pss_one (ps_ret (pe_calX (E := E) CT hr.lt (passes_call (W := fun c d _ H' => E c d H') (takes_of rfl rfl rfl rfl) fun _ _ _ _ z => z) (pa_cons (pv 0) (pa_cons (pv 1) pa_nil))))) pss_nil)
      (pss_cons (ps_asg (pe_calX (E := E) CI hr.lt (passes_call (W := fun c d _ H' => E c d H') (takes_of rfl rfl rfl rfl) fun _ _ _ _ z => z) (pa_cons (pv 0) (pa_cons (pv 1) pa_nil))) (pg_tup (by rfl) (pgs_cons (pg_name (i := 2) nd rfl (Or.inl rfl)) (pgs_cons (pg_name (i := 3) nd rfl (Or.inl rfl)) pgs_nil))))
      (pss_cons (ps_expr (pe_calX (E := E) CQ hr.lt (passes_call (W := fun c d _ H' => E c d H') (takes_of rfl rfl rfl rfl) fun _ _ _ _ z => z) (pa_cons (pe_cmpR op_eq (pe_cal CW hr.lt (pa_cons (pv 2) pa_nil)) (pv 2) (nomark _)) (pa_cons (pv 1) pa_nil))))
      (pss_one (ps_ret (pe_tup (pa_cons (pv 2) (pa_cons (pv 3) pa_nil))))))), ?_⟩
    have e2 : (Str.ofString "\"").cps.toList = [34] := by decide +kernel
    have hst : Txt.startswith3 x (Str.ofString "\"") i = decide ([34] <+: x.cps.toList.drop i) := by rw [starts_at x _ hi, e2]
    refine ⟨_, rfl, rfl, _, rfl, x, _, (i : Int), rfl, rfl, _, rfl, ?_⟩
    by_cases hp : [34] <+: x.cps.toList.drop i
    · rw [hst, decide_eq_true hp]
      refine iteT ?_
      refine ⟨_, rfl, _, rfl, x, i, rfl, hi, hx, fun v j t tv H' hij hj hrd s1 h1 st1 => ?_, fun hn H' s' => qe (by rw [rVl_text hp, hn]; rfl) H' s'⟩
      exact q (.s v) j t tv H' hij hj (by rw [rVl_text hp, hrd]; rfl) s1 h1 st1
    · rw [hst, decide_eq_false hp]
      refine iteF ?_
      refine ⟨_, rfl, _, rfl, x, i, rfl, hi, hx, fun n j t tv H1 hij hj hrd s1 h1 st1 => ?_, fun hn H' s' => qe (by rw [rVl_num hp, hn]) H' s'⟩
      obtain rfl : tv = .int n := st1
      refine ⟨t, _, rfl, sq_t h1, rfl, _, _, rfl, _, _, rfl, rfl, ?_⟩
      refine ⟨_, rfl, n, rfl, _, rfl, rfl, _, rfl, _, i, rfl, by omega, fun hb => ?_, fun hb => ?_⟩
      · have hn0 : -2147483648 ≤ n ∧ n < 2147483648 := (wrapZ_eq n).mp (by simpa using hb)
        have h2s : 2 ≤ sizeLine := by rw [sizeLine_eq]; decide
        refine ⟨_, rfl, _, rfl, h2s, fun p hp2 => ?_⟩
        exact q (.i n) j p (.int n) _ hij hj (by rw [rVl_num hp, hrd]; exact if_pos hn0) (s1.trans (same_new hp2)) upd_same rfl
      · have hn0 : ¬ (-2147483648 ≤ n ∧ n < 2147483648) := fun z => by
          have := (wrapZ_eq n).mpr z
          simp [this] at hb
        exact qe (by rw [rVl_num hp, hrd]; exact if_neg hn0) H1 s1
end
end KA
set_option Elab.async false
set_option linter.all false
set_option maxRecDepth 100000
set_option maxHeartbeats 4000000
/-! read_integer -/
namespace KA
open PySem PySem.Spec PyProof.Rows L2
section
variable {P : Program} {w : World} {K : PySem.W.Frag} {mg : Str → Option Value} {base : Heap} {f : Addr} {fd : FuncData} {FE : Addr}
theorem dig_mem (c : Nat) : c ∈ (Str.ofString "0123456789").cps.toList ↔ isDig c = true := by
  have e : (Str.ofString "0123456789").cps.toList = [48, 49, 50, 51, 52, 53, 54, 55, 56, 57] := by decide +kernel
  rw [e]
  simp only [List.mem_cons, List.not_mem_nil, or_false, isDig, Bool.and_eq_true, decide_eq_true_eq]
  omega
theorem if_start {σ : L2.St} {H : Hp} {st : Nat} {neg : Bool} {Qf : VK} {ta tb : TE} (ha : neg = true → ∀ Q : VK, Q (.int (st : Int)) H → ta σ H Q) (hb : neg = false → ∀ Q : VK, Q (.int (st : Int)) H → tb σ H Q) (g : Qf (.int (st : Int)) H) : if neg = true then ta σ H Qf else tb σ H Qf := by
  cases neg with
  | true => exact ha rfl _ g
  | false => exact hb rfl _ g
theorem while_post {c : TT} {tb : TS} {D : Ends} {σ : L2.St} {H : Hp} (Po : L2.St → Hp → Prop) (Pv : L2.St → Hp → Prop) (μ : L2.St → Hp → Nat) (h0 : Pv σ H)
    (hs : ∀ σ H, Pv σ H → c σ H fun b H1 => if b = true then tb { D with nx := fun σ' H' => Pv σ' H' ∧ μ σ' H' < μ σ H, ct := fun σ' H' => Pv σ' H' ∧ μ σ' H' < μ σ H, bk := D.nx } σ H1 else Po σ H1)
    (mono : ∀ σ H Q Q', (∀ b H1, Q b H1 → Q' b H1) → c σ H Q → c σ H Q') (hd : ∀ σ H, Po σ H → D.nx σ H) : tWhile c tb D σ H :=
  while_by Pv μ h0 (fun σ G p => mono σ G _ _ (fun b H1 q => by
    cases b with
    | true => exact q
    | false => exact hd _ _ q) (hs σ G p)) mono
theorem chain_le {σ : L2.St} {H : Hp} {lo hi d : Int} {Q : VK} (g : Q (.bl (decide (lo ≤ d ∧ d ≤ hi))) H) : if decide (lo ≤ d) = true then (tC (V.int hi) σ H fun w' H4 => rI0 (fun i j => V.bl (decide (i ≤ j))) (V.int d) w' H4 Q) else Q (V.bl false) H := by
  by_cases h : lo ≤ d
  · rw [if_pos (decide_eq_true h)]
    refine ⟨_, _, rfl, rfl, ?_⟩
    have : decide (lo ≤ d ∧ d ≤ hi) = decide (d ≤ hi) := by simp [h]
    rw [this] at g
    exact g
  · rw [if_neg (fun z => h (of_decide_eq_true z))]
    have : decide (lo ≤ d ∧ d ≤ hi) = false := decide_eq_false (fun z => h z.1)
    rw [this] at g
    exact g
theorem or_in {σ : L2.St} {H : Hp} {c d : Bool} {tb : TE} {Q : VK} (hb : c = false → ∀ Q : VK, Q (.bl d) H → tb σ H Q) (g : Q (.bl (c || d)) H) : ∃ c', V.bl c = V.bl c' ∧ if c' = true then Q (.bl true) H else tb σ H Q := by
  refine ⟨c, rfl, ?_⟩
  cases c with
  | true => rw [if_pos rfl]; exact g
  | false => rw [if_neg Bool.false_ne_true]; exact hb rfl Q g
theorem drop_take_drop (l : List Nat) (s k : Nat) : l.drop s = (l.drop s).take k ++ l.drop (s + k) := by
  rw [← List.drop_drop]
  exact (List.take_append_drop _ _).symm
theorem span_at {p : Nat → Bool} {l : List Nat} {s k : Nat} (hd : ∀ c ∈ (l.drop s).take k, p c = true) (hn : ∀ c t, l.drop (s + k) = c :: t → p c = false) : span p (l.drop s) = ((l.drop s).take k, l.drop (s + k)) := by
  have e := span_full p _ _ hd hn
  rw [← drop_take_drop] at e
  exact e
theorem head_not {p : Nat → Bool} {x : Str} {j : Nat} (h : j = x.length ∨ ∃ (hl : j < x.cps.size), p (x.cps[j]'hl) = false) : ∀ c t, x.cps.toList.drop j = c :: t → p c = false := fun c t e => by
  rcases h with h | ⟨hl, h⟩
  · rw [List.drop_of_length_le (by rw [Array.length_toList]; exact Nat.le_of_eq h.symm)] at e
    cases e
  · have hl' : j < x.cps.toList.length := by rw [Array.length_toList]; exact hl
    rw [List.drop_eq_getElem_cons hl'] at e
    injection e with e1 _
    rw [← e1, Array.getElem_toList]
    exact h
theorem ok_read_integer (F : FnP K "read_integer" s_read_integer f fd) (CQ : CalX P w K mg base "require" 1 ["right", "at"] (spRequire FE)) (gL : mg "len" = none) (gI : mg "int" = none) {tD tM : Tok}
    (gD : mg "DIGITS" = some (.str "0123456789" tD)) (gM : mg "MOST_DIGITS" = some (.int 30 tM)) :
    FnOk P w K mg base (L2.CX P w) 3 f fd ["text", "at"] (spRead FE IntS rInt) := by
  refine F.ok sc_read_integer (fun vs H Q E h => ?_) (fun cdv A outer s H vs Q E hr h => ?_)
  · obtain ⟨x, i, rfl, _⟩ := h
    rfl
  · obtain ⟨x, i, rfl, hi, hx, q, qe⟩ := h
    have nd := sc_read_integer.nd
    refine ⟨_, pss_cons (ps_set (i := 2) nd rfl (Or.inl rfl) (pe_ifExp (pt_val (pe_bm PySem.F.plainAttrs_str PySem.F.slot_str_startswith PySem.F.type_str_startswith mt_startswith3 (pv 0) (pa_cons pe_str (pa_cons (pv 1) pa_nil)))) (pe_op op_add (pv 1) pe_int) (pv 1)))
      (pss_cons (ps_set (i := 3) nd rfl (Or.inl rfl) (pv 2))
      (pss_cons (ps_while (passes_of rfl) (PW.pt (pw_and (pt_cmpR op_lt (pv 3) (pe_callB call_len_str (by rfl) gL PySem.boot_len (pa_cons (pv 0) pa_nil)) (nomark _)) (pw_and1 (pt_cmpR op_in_sign (pe_item_str (pv 0) (pv 3) (fun _ _ => rfl)) (pe_glob (v := .str "0123456789") (by rfl) gD ⟨_, rfl⟩) (by rfl)))))
        (pss_one (ps_aug (i := 3) nd rfl (Or.inl rfl) pe_int ip_add)))
      (pss_cons (ps_expr (pe_calX (E := E) CQ hr.lt (passes_call (W := fun c d _ H' => E c d H') (takes_of rfl rfl rfl rfl) fun _ _ _ _ z => z) (pa_cons (pe_chain op_le op_le pe_int (pe_op op_sub (pv 3) (pv 2)) (pe_glob (v := .int 30) (by rfl) gM ⟨_, rfl⟩)) (pa_cons (pv 1) pa_nil))))
      (pss_cons (ps_expr (pe_calX (E := E) CQ hr.lt (passes_call (W := fun c d _ H' => E c d H') (takes_of rfl rfl rfl rfl) fun _ _ _ _ z => z) (pa_cons (pe_or (pe_cmpR op_ne (pe_item_str (pv 0) (pv 2) (fun _ _ => rfl)) pe_str (nomark _)) (pe_one (pe_cmpR op_eq (pv 3) (pe_op op_add (pv 1) pe_int) (nomark _)))) (pa_cons (pv 1) pa_nil))))
      (pss_one (ps_ret (pe_tup (pa_cons (pe_callTy call_int_str (by rfl) gI (by decide +kernel) (pa_cons (pe_slice sl_str (pv 0) (po_some (pv 1)) (po_some (pv 3))) pa_nil)) (pa_cons (pv 3) pa_nil))))))))), ?_⟩
    have e2 : (Str.ofString "-").cps.toList = [45] := by decide +kernel
    have hst : Txt.startswith3 x (Str.ofString "-") i = decide ([45] <+: x.cps.toList.drop i) := by rw [starts_at x _ hi, e2]
    have hxl : x.length = x.cps.toList.length := rfl
    refine ⟨_, rfl, rfl, _, rfl, x, _, (i : Int), rfl, rfl, _, rfl, ?_⟩
    rw [hst]
    have hxs : x.length ≤ sizeLine := by rw [sizeLine_eq]; omega
    obtain ⟨st, neg, h1, h2, h3, h4⟩ : ∃ (st : Nat) (neg : Bool), (decide ([45] <+: x.cps.toList.drop i) = neg) ∧ (st = if neg = true then i + 1 else i) ∧ st ≤ x.length ∧ rInt (x.cps.toList.drop i) = rNat (x.cps.toList.drop st) neg := by
      by_cases hp : [45] <+: x.cps.toList.drop i
      · obtain ⟨t, ht⟩ := hp
        have pl := congrArg List.length ht
        rw [List.length_drop] at pl
        simp only [List.length_append, List.length_cons, List.length_nil] at pl
        refine ⟨i + 1, true, decide_eq_true ⟨t, ht⟩, rfl, by omega, ?_⟩
        have : x.cps.toList.drop (i + 1) = t := by
          rw [← List.drop_drop, ← ht]; rfl
        rw [this, ← ht]
        rfl
      · refine ⟨i, false, decide_eq_false hp, rfl, hi, ?_⟩
        unfold rInt
        split
        · rename_i t e
          exact absurd ⟨t, e.symm⟩ hp
        · rfl
    rw [h1]
    refine if_start (st := st) (fun hn Q g => ⟨_, rfl, _, _, rfl, rfl, ?_⟩) (fun hn Q g => ⟨_, rfl, ?_⟩) ?_
    · rw [hn, if_pos rfl] at h2
      have e : ((i : Int) + 1) = (st : Int) := by omega
      show Q (.int ((i : Int) + 1)) H
      rw [e]
      exact g
    · rw [hn] at h2
      have e : (i : Int) = (st : Int) := by simp at h2; omega
      show Q (.int (i : Int)) H
      rw [e]
      exact g
    refine ⟨_, rfl, ?_⟩
    refine while_post (fun σ G => ∃ k : Nat, G = H ∧ σ = [some (.str x), some (.int (i : Int)), some (.int (st : Int)), some (.int ((st + k : Nat) : Int))] ∧ st + k ≤ x.length ∧ (∀ c ∈ (x.cps.toList.drop st).take k, isDig c = true) ∧ ∀ c t, x.cps.toList.drop (st + k) = c :: t → isDig c = false) (fun σ G => ∃ k : Nat, G = H ∧ σ = [some (.str x), some (.int (i : Int)), some (.int (st : Int)), some (.int ((st + k : Nat) : Int))] ∧ st + k ≤ x.length ∧ ∀ c ∈ (x.cps.toList.drop st).take k, isDig c = true)
      (fun σ G => match σ with
        | [_, _, _, some (.int e)] => x.length - e.toNat
        | _ => 0) ⟨0, rfl, rfl, h3, fun c hc => by simp at hc⟩ ?_ ?_ ?_
    · rintro σ G ⟨k, rfl, rfl, hk, hd⟩
      refine ⟨_, rfl, _, rfl, x, rfl, hxs, _, _, rfl, rfl, _, rfl, ?_⟩
      by_cases hl : st + k < x.length
      · refine (if_pos (decide_eq_true (by omega))).mpr ?_
        have hget : x.cps[st + k]? = some (x.cps[st + k]'hl) := Array.getElem?_eq_getElem hl
        refine ⟨_, rfl, _, rfl, x, ((st + k : Nat) : Int), _, rfl, rfl, by omega, by omega, by omega, hget, _, _, rfl, rfl, ?_⟩
        by_cases hdg : isDig (x.cps[st + k]'hl) = true
        · have hm : decide ((x.cps[st + k]'hl) ∈ (Str.ofString "0123456789").cps.toList) = true := decide_eq_true ((dig_mem _).mpr hdg)
          rw [hm]
          refine ⟨_, rfl, iteT ?_⟩
          refine ⟨_, rfl, _, _, rfl, rfl, ⟨k + 1, rfl, ?_, by omega, fun c hc => ?_⟩, ?_⟩
          · have e : (((st + k : Nat) : Int) + 1) = ((st + (k + 1) : Nat) : Int) := by omega
            show [some (V.str x), some (V.int (i : Int)), some (V.int (st : Int)), some (V.int (((st + k : Nat) : Int) + 1))] = _
            rw [e]
          · rw [List.take_succ] at hc
            rcases List.mem_append.mp hc with z | z
            · exact hd c z
            · have hg : x.cps.toList[st + k]? = some (x.cps[st + k]'hl) := by
                rw [Array.getElem?_toList]
                exact hget
              rw [List.getElem?_drop, hg] at z
              have z' : c = x.cps[st + k]'hl := by simpa using z
              rw [z']
              exact hdg
          · show x.length - (((st + k : Nat) : Int) + 1).toNat < x.length - ((st + k : Nat) : Int).toNat
            omega
        · have hm : decide ((x.cps[st + k]'hl) ∈ (Str.ofString "0123456789").cps.toList) = false := decide_eq_false (fun z => hdg ((dig_mem _).mp z))
          rw [hm]
          refine ⟨_, rfl, iteF ?_⟩
          exact ⟨k, rfl, rfl, hk, hd, head_not (.inr ⟨hl, by simpa using hdg⟩)⟩
      · refine (if_neg (fun z => hl (by have := of_decide_eq_true z; omega))).mpr ?_
        exact ⟨k, rfl, rfl, hk, hd, head_not (.inl (by omega))⟩
    · intro σ G Q Q' hQ h
      obtain ⟨v1, e1, v2, e2, z, e3, l1, i1, j1, e4, e5, c, e6, h⟩ := h
      refine ⟨v1, e1, v2, e2, z, e3, l1, i1, j1, e4, e5, c, e6, ?_⟩
      revert h
      by_cases hc : c = true
      · rw [if_pos hc]
        intro h
        refine (if_pos hc).mpr ?_
        revert h
        rintro ⟨a1, b1, a2, b2, y, k, d, f1, f2, f3, f4, f5, f6, d2, y2, f7, f8, b, f9, h⟩
        exact ⟨a1, b1, a2, b2, y, k, d, f1, f2, f3, f4, f5, f6, d2, y2, f7, f8, b, f9, hQ _ _ h⟩
      · rw [if_neg hc]
        intro h
        exact (if_neg hc).mpr (hQ _ _ h)
    · rintro σ G ⟨k, rfl, rfl, hk, hd, hn⟩
      have hsp := span_at hd hn
      have hlen : ((x.cps.toList.drop st).take k).length = k := by rw [List.length_take, List.length_drop]; omega
      have hrd : rInt (x.cps.toList.drop i) = if k = 0 ∨ 30 < k then none else if ((x.cps.toList.drop st).take k).head? = some 48 ∧ ¬ (neg = false ∧ k = 1) then none else some ((if neg = true then -(val ((x.cps.toList.drop st).take k) : Int) else (val ((x.cps.toList.drop st).take k) : Int)), x.cps.toList.drop (st + k)) := by
        rw [h4]
        unfold rNat
        rw [hsp]
        dsimp only
        rw [hlen]
      have hk' : ((st + k : Nat) : Int) - (st : Int) = (k : Int) := by omega
      refine ⟨_, rfl, _, rfl, _, _, rfl, rfl, _, _, rfl, rfl, _, rfl, ?_⟩
      refine chain_le ?_
      rw [hk']
      refine ⟨_, rfl, _, i, rfl, by omega, fun hb => ?_, fun hb => ?_⟩
      · have hb' := of_decide_eq_true hb
        have hl : st < x.cps.size := by
          have : x.cps.size = x.length := rfl
          omega
        have hget : x.cps[st]? = some (x.cps[st]'hl) := Array.getElem?_eq_getElem hl
        refine ⟨_, rfl, _, rfl, x, (st : Int), _, rfl, rfl, by omega, by omega, by omega, hget, rfl, ?_⟩
        have hhead : ((x.cps.toList.drop st).take k).head? = some (x.cps[st]'hl) := by
          have hl' : st < x.cps.toList.length := by rw [Array.length_toList]; exact hl
          obtain ⟨k', rfl⟩ : ∃ k', k = k' + 1 := ⟨k - 1, by omega⟩
          rw [List.drop_eq_getElem_cons hl', List.take_succ_cons, List.head?_cons, Array.getElem_toList]
        have h0 : (V.str ⟨#[x.cps[st]'hl]⟩ = V.str (Str.ofString "0")) ↔ x.cps[st]'hl = 48 := by
          have e0 : Str.ofString "0" = ⟨#[48]⟩ := by decide +kernel
          rw [e0]
          constructor
          · intro z
            injection z with z
            injection z with z
            simpa using z
          · intro z
            rw [z]
        have hcond : (!decide (V.str ⟨#[x.cps[st]'hl]⟩ = V.str (Str.ofString "0")) || decide (V.int ((st + k : Nat) : Int) = V.int ((i : Int) + 1))) = true ↔ ¬ (((x.cps.toList.drop st).take k).head? = some 48 ∧ ¬ (neg = false ∧ k = 1)) := by
          rw [hhead]
          have e1 : (V.int ((st + k : Nat) : Int) = V.int ((i : Int) + 1)) ↔ (neg = false ∧ k = 1) := by
            constructor
            · intro z
              injection z with z
              cases neg with
              | true => rw [if_pos rfl] at h2; omega
              | false => rw [if_neg (by simp)] at h2; exact ⟨rfl, by omega⟩
            · rintro ⟨z, y⟩
              subst z
              rw [if_neg (by simp)] at h2
              congr 1
              omega
          simp only [Bool.or_eq_true, Bool.not_eq_true', decide_eq_true_eq, decide_eq_false_iff_not, h0, e1, Option.some.injEq]
          constructor
          · rintro (z | z) ⟨y, u⟩
            · exact z y
            · exact u z
          · intro z
            by_cases y : x.cps[st]'hl = 48
            · exact .inr (Classical.byContradiction fun u => z ⟨y, u⟩)
            · exact .inl y
        refine or_in (d := decide (V.int ((st + k : Nat) : Int) = V.int ((i : Int) + 1))) (fun _ Q g => ⟨_, rfl, _, rfl, _, _, rfl, rfl, rfl, g⟩) ?_
        refine ⟨_, rfl, _, i, rfl, by omega, fun hb => ?_, fun hb => ?_⟩
        · have hc := hcond.mp hb
          rw [if_neg (by omega), if_neg hc] at hrd
          have h2s : 2 ≤ sizeLine := by rw [sizeLine_eq]; decide
          have hcut : cutS x (some (i : Int)) (some ((st + k : Nat) : Int)) = Txt.slice x (some (i : Int)) (some ((st + k : Nat) : Int)) := C8.cutS_slice x _ _
          have hij : i ≤ st + k := by rw [h2]; split <;> omega
          have hsl := slice_at x hij hk
          have hln : (Txt.slice x (some (i : Int)) (some ((st + k : Nat) : Int))).length ≤ 31 := by
            have : (Txt.slice x (some (i : Int)) (some ((st + k : Nat) : Int))).length = (Txt.slice x (some (i : Int)) (some ((st + k : Nat) : Int))).cps.toList.length := rfl
            rw [this, hsl, List.length_take, List.length_drop]
            have : st ≤ i + 1 := by rw [h2]; split <;> omega
            omega
          have hint : intText? (Txt.slice x (some (i : Int)) (some ((st + k : Nat) : Int))) = some (if neg = true then -(val ((x.cps.toList.drop st).take k) : Int) else (val ((x.cps.toList.drop st).take k) : Int)) := by
            have hne : (x.cps.toList.drop st).take k ≠ [] := fun z => by
              rw [z] at hlen
              simp at hlen
              omega
            cases neg with
            | true =>
              rw [if_pos rfl] at h2 ⊢
              obtain ⟨t, ht⟩ := of_decide_eq_true h1
              have e1 : x.cps.toList.drop st = t := by
                rw [h2, ← List.drop_drop, ← ht]
                rfl
              refine int_of_neg ?_ hd hne (by omega)
              rw [hsl, ← ht, e1, show st + k - i = k + 1 by omega]
              rfl
            | false =>
              rw [if_neg (by simp)] at h2 ⊢
              have e1 : (Txt.slice x (some (i : Int)) (some ((st + k : Nat) : Int))).cps.toList = (x.cps.toList.drop st).take k := by
                rw [hsl, h2, show i + k - i = k by omega]
              have hi2 := int_of_digs (x := Txt.slice x (some (i : Int)) (some ((st + k : Nat) : Int))) (by rw [e1]; exact hd) (by rw [e1]; exact hne) (by omega)
              rw [hi2, e1]
          refine ⟨_, rfl, _, rfl, _, rfl, _, rfl, _, rfl, x, rfl, hxs, ?_⟩
          rw [hcut]
          refine ⟨_, _, rfl, hint, by omega, _, rfl, h2s, fun p hp => ?_⟩
          exact q _ (st + k) p _ _ hij hk hrd (same_new hp) upd_same rfl
        · have hc : ¬ ¬ (((x.cps.toList.drop st).take k).head? = some 48 ∧ ¬ (neg = false ∧ k = 1)) := fun z => by
            rw [hcond.mpr z] at hb
            cases hb
          rw [if_neg (by omega), if_pos (Classical.not_not.mp hc)] at hrd
          exact qe hrd G (fun _ _ e => e)
      · have hb' := of_decide_eq_false hb
        exact qe (by rw [hrd, if_pos (by omega)]) G (fun _ _ e => e)
end
end KA
set_option Elab.async false
set_option linter.all false
set_option maxRecDepth 100000
set_option maxHeartbeats 4000000
/-! a, b = a text of two characters -/
namespace KA
open PySem PySem.Spec PyProof.Rows L2
section
variable {prog : Program} {w : World} {A : Around} {E : Value → Shared → Prop} {s : Shared}
theorem unpack_txt2 {a b : Nat} {t : Tok} {Q : List Value → Shared → Prop} (hh : A.handled = none)
    (hQ : ∀ h' tk u1 u2, Heap.ExtBut s.heap.objs.size s.heap h' → Q [.str ⟨#[a]⟩ u1, .str ⟨#[b]⟩ u2] { s with heap := h', toks := tk }) : wpAny (model prog w) A (unpackItems (.str ⟨#[a, b]⟩ t) 2 none) Q E s := by
  have go : ∀ (T : String) (o : PySem.Obj), (∀ B : Around, B.handled = none → Walks prog w B s.heap.objs.size [s.heap.objs.size] [s.heap.objs.size] 2 (SignAt ⟨#[a, b]⟩) (fun i h => h.IsStrIter s.heap.objs.size T ⟨#[a, b]⟩ t i)) →
      (s.heap.push o).IsStrIter s.heap.objs.size T ⟨#[a, b]⟩ t 0 →
      wpAny (model prog w) A (do
        let items ← holding [Value.ref s.heap.objs.size] (draw (.ref s.heap.objs.size) 2)
        if items.length < 2 then
          rule "unpack.too-few"; raiseError "ValueError" s!"not enough values to unpack (expected {2}, got {items.length})"
        if (← holding items (pyNext (.ref s.heap.objs.size))).isSome then
          rule "unpack.too-many"; raiseError "ValueError" s!"too many values to unpack (expected {2})"
        return items) Q E { s with heap := s.heap.push o } := by
    intro T o W hst
    have e0 : Heap.ExtBut s.heap.objs.size s.heap (s.heap.push o) := fun b o' hb e => Heap.get?_push_of_some _ e
    refine wpAny_bind (wpAny_holding ?_)
    show wpAny _ _ (pyNext (.ref s.heap.objs.size) >>= _) _ _ _
    refine wpAny_bind ((W _ hh).item 0 _ _ _ (by decide) hst fun v1 h1 tk1 p1 st1 k1 => ?_)
    refine wpAny_bind (wpAny_holding ?_)
    show wpAny _ _ (pyNext (.ref s.heap.objs.size) >>= _) _ _ _
    refine wpAny_bind ((W _ hh).item 1 _ _ _ (by decide) st1 fun v2 h2 tk2 p2 st2 k2 => ?_)
    refine wpAny_bind (wpAny_holding ?_)
    show wpAny _ _ (pure []) _ _ _
    refine wpAny_pure (wpAny_pure (wpAny_pure ?_))
    rw [if_neg (by simp)]
    refine wpAny_bind (wpAny_holding ((W _ hh).done _ _ _ st2 fun h3 tk3 k3 => ?_))
    simp only [Option.isSome_none, Bool.false_eq_true, if_false]
    obtain ⟨c1, u1, g1, rfl⟩ := p1
    obtain ⟨c2, u2, g2, rfl⟩ := p2
    obtain rfl : a = c1 := Option.some.inj g1
    obtain rfl : b = c2 := Option.some.inj g2
    refine wpAny_pure (hQ h3 tk3 u1 u2 fun b o hb e => ?_)
    have nb : b ∉ [s.heap.objs.size] := fun z => hb (List.mem_singleton.mp z)
    exact k3 _ _ nb (k2 _ _ nb (k1 _ _ nb (e0 b o hb e)))
  unfold unpackItems
  refine wpAny_bind ?_
  unfold notIterableAtAll
  refine wpAny_bind (wpAny_specialOf (typeIs_str s ⟨#[a, b]⟩ t) F.slot_str_iter.lookup ?_)
  refine wpAny_pure ?_
  simp only [Bool.false_eq_true, if_false]
  refine wpAny_bind (wpAny_holding ?_)
  cases ha : (#[a, b] : Array Nat).all (· < 128)
  · exact wpAny_pyIter_wide ha (go "str_iterator" _ (fun B hB => Walks.strWide hB _ ⟨#[a, b]⟩ t) ⟨_, Heap.get?_push_size _ rfl, rfl, rfl⟩)
  · exact wpAny_pyIter_ascii ha (go "str_ascii_iterator" _ (fun B hB => Walks.strAscii hB _ ⟨#[a, b]⟩ t) ⟨_, Heap.get?_push_size _ rfl, rfl, rfl⟩)
end
section
variable {X : Cx} {pos : Pos}
def gTxt2 (t : TGs) : TG := fun v σ H Q => ∃ a b : Nat, v = .str ⟨#[a, b]⟩ ∧ t [.str ⟨#[a]⟩, .str ⟨#[b]⟩] σ H Q
theorem pg_txt2 {es : List Expr} {k : Nat} {t : TGs} (hc : X.calm = true) (h : PGs X es t)
    (hn : (assignEach es X.env).length = 2 := by rfl) (hst : (assignEach es X.env).findIdx? (·.1) = none := by rfl) : PG X (.Tuple es k pos) (gTxt2 t) := by
  refine ⟨fun pins s σ H v u Q I r hw => ?_⟩
  obtain ⟨a, b, rfl, hw⟩ := hw
  obtain ⟨t, rfl⟩ := r
  rw [assign_Tuple]
  refine wpAny_bind (wpAny_standAt ?_)
  unfold unpack
  rw [hn, hst]
  refine wpAny_bind (wpAny_holding (unpack_txt2 (I.ok.hd hc) fun h' tk u1 u2 hx => ?_))
  have I1 : Inv X pins σ H { s with heap := h', toks := tk } := I.kept (t' := tk) fun b o e => hx b o (Nat.ne_of_lt (Heap.lt_size e)) e
  exact h.run pins _ σ H [.str ⟨#[a]⟩, .str ⟨#[b]⟩] _ Q I1 (.cons ⟨u1, rfl⟩ (.cons ⟨u2, rfl⟩ .nil)) hw
end
end KA
set_option Elab.async false
set_option linter.all false
set_option maxRecDepth 100000
set_option maxHeartbeats 4000000
/-! read_series -/
namespace KA
open PySem PySem.Spec PyProof.Rows L2
open PySem.W (EachIs)
/-- what follows an item of a series -/
def rTail {α : Type} (sep : List Nat) (rd : Rd1 α) (k : Nat) (r : List Nat) : Option (List α × List Nat) := match rWord sep r with
  | none => some ([], r)
  | some r' => rSeries sep rd k r'
theorem rSeries_tail {α : Type} (sep : List Nat) (rd : Rd1 α) (k : Nat) (s : List Nat) : rSeries sep rd (k + 1) s = match rd s with
    | none => none
    | some (v, r) => (rTail sep rd k r).map fun p => (v :: p.1, p.2) := by
  conv => lhs; unfold rSeries
  cases e : rd s with
  | none => rfl
  | some p =>
    obtain ⟨v, r⟩ := p
    dsimp only
    unfold rTail
    cases e2 : rWord sep r with
    | none => rfl
    | some r' =>
      dsimp only
      cases e3 : rSeries sep rd k r' with
      | none => rfl
      | some q => rfl
/-- a list of things at l, all but l itself may change -/
def OffS {α : Type} (S : Hp → Hp → V → α → Prop) (H G : Hp) (l : Addr) (v : V) (a : α) : Prop := ∀ G', (∀ b o, b ≠ l → G b = some o → G' b = some o) → S H G' v a
def spSeries {α : Type} (FE fI : Addr) (sep : Str) (S : Hp → Hp → V → α → Prop) (rd : Rd1 α) : Sp := fun vs H Q E => ∃ (x : Str) (i : Nat), vs = [.str x, .int i, .str sep, .ref fI] ∧ Reads FE (ListS S) (fun s => rSeries sep.cps.toList rd (s.length + 1) s) x i H Q E
section
variable {P : Program} {w : World} {K : PySem.W.Frag} {mg : Str → Option Value} {base : Heap} {f : Addr} {fd : FuncData} {FE fI : Addr} {fdI : FuncData}
theorem ok_read_series {α : Type} {S : Hp → Hp → V → α → Prop} {rd : Rd1 α} {sep : Str} {k : Nat} (stn : Stn S) (hsep : 1 ≤ sep.length) (hsp2 : sep.length ≤ 1000) (F : FnP K "read_series" s_read_series f fd) (gL : mg "len" = none)
    (G : FnOk P w K mg base (L2.CX P w) k fI fdI ["text", "at"] (spRead FE S rd)) (kp : PySem.W.keepIn K (.ref fI) = true) (hb : Binds K fdI ["text", "at"] []) :
    FnOk P w K mg base (L2.CX P w) (k + 1) f fd ["text", "at", "separator", "read_item"] (spSeries FE fI sep S rd) := by
  refine F.ok sc_read_series (fun vs H Q E h => ?_) (fun cdv A outer s H vs Q E hr h => ?_)
  · obtain ⟨x, i, rfl, _⟩ := h
    rfl
  · obtain ⟨x, i, rfl, hi, hx, q, qe⟩ := h
    have nd := sc_read_series.nd
    refine ⟨_, pss_cons (ps_asg (pe_callL (i := 3) (E := E) G hr (by rfl) (.inl rfl) kp hb .nil (passes_call (W := fun c d _ H' => E c d H') (takes_of rfl rfl rfl rfl) fun _ _ _ _ z => z) (pa_cons (pv 0) (pa_cons (pv 1) pa_nil))) (pg_tup (by rfl) (pgs_cons (pg_name (i := 4) nd rfl (Or.inl rfl)) (pgs_cons (pg_name (i := 1) nd rfl (Or.inl rfl)) pgs_nil))))
      (pss_cons (ps_set (i := 5) nd rfl (Or.inl rfl) (pe_lst (pa_cons (pv 4) pa_nil)))
      (pss_cons (ps_while (passes_of rfl) (pt_val (pe_bm PySem.F.plainAttrs_str PySem.F.slot_str_startswith PySem.F.type_str_startswith mt_startswith3 (pv 0) (pa_cons (pv 2) (pa_cons (pv 1) pa_nil))))
        (pss_cons (ps_asg (pe_callL (i := 3) (E := E) G hr (by rfl) (.inl rfl) kp hb .nil (passes_call (W := fun c d _ H' => E c d H') (takes_of rfl rfl rfl rfl) fun _ _ _ _ z => z) (pa_cons (pv 0) (pa_cons (pe_op op_add (pv 1) (pe_callB call_len_str (by rfl) gL PySem.boot_len (pa_cons (pv 2) pa_nil))) pa_nil))) (pg_tup (by rfl) (pgs_cons (pg_name (i := 4) nd rfl (Or.inl rfl)) (pgs_cons (pg_name (i := 1) nd rfl (Or.inl rfl)) pgs_nil))))
        (pss_one (ps_expr (pe_bm PySem.F.plainAttrs_list PySem.F.slot_list_append PySem.F.type_list_append mt_append (pv 5) (pa_cons (pv 4) pa_nil))))))
      (pss_one (ps_ret (pe_tup (pa_cons (pv 5) (pa_cons (pv 1) pa_nil))))))), ?_⟩
    have hxl : x.length = x.cps.toList.length := rfl
    have hxs : x.length ≤ 100000 := hx
    have hss : sep.length ≤ sizeLine := by rw [sizeLine_eq]; omega
    refine ⟨rfl, _, rfl, _, rfl, x, i, rfl, hi, hx, fun v j t tv H1 hij hj hrd s1 h1 st1 => ?_, fun hn H' s' => qe (by
      show rSeries _ rd _ _ = none
      rw [rSeries_tail, hn]) H' s'⟩
    refine ⟨t, _, rfl, sq_t h1, rfl, _, _, rfl, _, _, rfl, rfl, ?_⟩
    refine ⟨_, rfl, (by show 1 ≤ sizeLine; rw [sizeLine_eq]; decide), fun l hl => ?_⟩
    have sA := same_new (o := HO.lst [tv]) hl
    have hl0 : H l = none := none_back s1 hl
    have h2s : 2 ≤ sizeLine := by rw [sizeLine_eq]; decide
    have hs0 : rSeries sep.cps.toList rd ((x.cps.toList.drop i).length + 1) (x.cps.toList.drop i) = (rTail sep.cps.toList rd (x.cps.toList.drop i).length (x.cps.toList.drop j)).map fun p => ([v] ++ p.1, p.2) := by
      rw [rSeries_tail, hrd]
      rfl
    have hld : (x.cps.toList.drop i).length = x.length - i := by rw [List.length_drop]; rfl
    have qe' : rSeries sep.cps.toList rd ((x.cps.toList.drop i).length + 1) (x.cps.toList.drop i) = none → ∀ H', Same H H' → E (.ref FE) none H' := qe
    refine while_post (fun σ G => ∃ (acc : List α) (ivs : List V) (m : Nat) (it : V), σ = [some (.str x), some (.int (m : Int)), some (.str sep), some (.ref fI), some it, some (.ref l)] ∧ G l = some (.lst ivs) ∧ EachIs (OffS S H G l) ivs acc ∧ Same H G ∧ i ≤ m ∧ m ≤ x.length ∧
        rSeries sep.cps.toList rd ((x.cps.toList.drop i).length + 1) (x.cps.toList.drop i) = some (acc, x.cps.toList.drop m))
      (fun σ G => ∃ (acc : List α) (ivs : List V) (m kf : Nat) (it : V), σ = [some (.str x), some (.int (m : Int)), some (.str sep), some (.ref fI), some it, some (.ref l)] ∧ G l = some (.lst ivs) ∧ EachIs (OffS S H G l) ivs acc ∧ Same H G ∧ i ≤ m ∧ m ≤ x.length ∧ x.length - m ≤ kf ∧ ivs.length ≤ m + 1 ∧
        rSeries sep.cps.toList rd ((x.cps.toList.drop i).length + 1) (x.cps.toList.drop i) = (rTail sep.cps.toList rd kf (x.cps.toList.drop m)).map fun p => (acc ++ p.1, p.2))
      (fun σ G => match σ with
        | [_, some (.int e), _, _, _, _] => x.length - e.toNat
        | _ => 0) ⟨[v], [tv], j, _, _, rfl, upd_same, .cons (fun G' k => stn.mono _ _ _ _ _ (fun b o _ e => k b o (fun z => by rw [z, hl] at e; cases e) (sA _ _ e)) st1) .nil, s1.trans sA, hij, hj, by omega, by simp, hs0⟩ ?_ ?_ ?_
    · rintro σ G ⟨acc, ivs, m, kf, it, rfl, hG, he, sG, him, hm, hkf, hlen, hser⟩
      have hst : Txt.startswith3 x sep m = decide (sep.cps.toList <+: x.cps.toList.drop m) := starts_at x sep hm
      refine ⟨_, rfl, rfl, _, rfl, _, rfl, x, sep, (m : Int), rfl, rfl, _, rfl, ?_⟩
      rw [hst]
      by_cases pre : sep.cps.toList <+: x.cps.toList.drop m
      · refine (if_pos (decide_eq_true pre)).mpr ?_
        have pl := pre.length_le
        rw [List.length_drop] at pl
        have pl' : sep.length ≤ x.length - m := pl
        have hw : rWord sep.cps.toList (x.cps.toList.drop m) = some (x.cps.toList.drop (m + sep.length)) := by
          unfold rWord
          rw [if_pos pre, List.drop_drop]
          rfl
        obtain ⟨k', rfl⟩ : ∃ k', kf = k' + 1 := ⟨kf - 1, by omega⟩
        have hser2 : rSeries sep.cps.toList rd ((x.cps.toList.drop i).length + 1) (x.cps.toList.drop i) = (rSeries sep.cps.toList rd (k' + 1) (x.cps.toList.drop (m + sep.length))).map fun p => (acc ++ p.1, p.2) := by
          rw [hser]
          unfold rTail
          rw [hw]
        rw [rSeries_tail _ _ k'] at hser2
        refine ⟨rfl, _, rfl, _, rfl, _, rfl, sep, rfl, hss, _, _, rfl, rfl, x, m + sep.length, rfl, by omega, hx, fun v2 j2 t2 tv2 H2 hij2 hj2 hrd2 s2 h2 st2 => ?_, fun hn H' s' => qe' ?_ H' (sG.trans s')⟩
        · rw [hrd2] at hser2
          refine ⟨t2, _, rfl, sq_t h2, rfl, _, _, rfl, _, _, rfl, rfl, ?_⟩
          have hG2 := s2 _ _ hG
          refine ⟨_, rfl, .inl ⟨rfl, _, sq_l hG2⟩, _, rfl, l, _, _, rfl, rfl, hG2, by rw [sizeLine_eq]; omega, ?_⟩
          have kA : ∀ b o, b ≠ l → H2 b = some o → upd H2 l (.lst (ivs ++ [tv2])) b = some o := fun b o hb e => by rw [upd_ne hb]; exact e
          refine ⟨⟨acc ++ [v2], ivs ++ [tv2], j2, k', tv2, rfl, upd_same, each_snoc1 ?_ (he.mono fun y a z => ?_), ?_, by omega, hj2, by omega, ?_, ?_⟩, ?_⟩
          · intro G' k
            refine stn.weak _ _ _ _ _ sG (stn.mono _ _ _ _ _ (fun b o hb e => ?_) st2)
            have hbl : b ≠ l := fun z => by rw [z, hG] at hb; cases hb
            exact k b o hbl (kA b o hbl e)
          · intro G' k
            exact z G' (fun b o hb e => k b o hb (kA b o hb (s2 _ _ e)))
          · exact same_mut (sG.trans s2) hl0
          · rw [List.length_append]
            simp
            omega
          · rw [hser2]
            dsimp only
            rw [Option.map_map]
            congr 1
            funext p
            show (acc ++ (v2 :: p.1), p.2) = (acc ++ [v2] ++ p.1, p.2)
            rw [List.append_assoc]
            rfl
          · show x.length - ((j2 : Nat) : Int).toNat < x.length - ((m : Nat) : Int).toNat
            omega
        · rw [hn] at hser2
          exact hser2
      · refine (if_neg (fun z => pre (of_decide_eq_true z))).mpr ?_
        refine ⟨acc, ivs, m, it, rfl, hG, he, sG, him, hm, ?_⟩
        rw [hser]
        unfold rTail
        rw [show rWord sep.cps.toList (x.cps.toList.drop m) = none from if_neg pre]
        show some (acc ++ [], x.cps.toList.drop m) = _
        rw [List.append_nil]
    · intro σ G Q1 Q2 hQ h
      obtain ⟨v1, e1, e2, v3, e3, v4, e4, a1, b1, i1, f1, f2, c, f3, h⟩ := h
      exact ⟨v1, e1, e2, v3, e3, v4, e4, a1, b1, i1, f1, f2, c, f3, hQ _ _ h⟩
    · rintro σ G ⟨acc, ivs, m, it, rfl, hG, he, sG, him, hm, hser⟩
      refine ⟨_, rfl, _, rfl, h2s, fun p hp => ?_⟩
      have sP := same_new (o := HO.tup [.ref l, .int (m : Int)]) hp
      exact q acc m p (.ref l) _ him hm hser (sG.trans sP) upd_same ⟨l, ivs, rfl, hl0, sP _ _ hG, he.mono fun y a z => z _ (fun b o _ e => sP _ _ e)⟩
end
end KA
set_option Elab.async false
set_option linter.all false
set_option maxRecDepth 100000
set_option maxHeartbeats 4000000
/-! read_enclosed -/
namespace KA
open PySem PySem.Spec PyProof.Rows L2
open PySem.W (EachIs)
def spEncl {α : Type} (FE fI : Addr) (o c : Nat) (S : Hp → Hp → V → α → Prop) (rd : Rd1 α) : Sp := fun vs H Q E => ∃ (x en : Str) (i : Nat), vs = [.str x, .int i, .str en, .ref fI] ∧ en = ⟨#[o, c]⟩ ∧ Reads FE (ListS S) (fun s => rEncl o c comma rd s.length s) x i H Q E
section
variable {P : Program} {w : World} {K : PySem.W.Frag} {mg : Str → Option Value} {base : Heap} {f : Addr} {fd : FuncData} {FE fI : Addr}
theorem ok_read_enclosed {α : Type} {S : Hp → Hp → V → α → Prop} {rd : Rd1 α} {o c : Nat} {k : Nat} (hk : 2 ≤ k) (stn : Stn S) (F : FnP K "read_enclosed" s_read_enclosed f fd)
    (CB : CalX P w K mg base "behind" 2 ["text", "at", "word"] (spBehind FE)) (CS : CalX P w K mg base "read_series" k ["text", "at", "separator", "read_item"] (spSeries FE fI ", " S rd)) :
    FnOk P w K mg base (L2.CX P w) (k + 1) f fd ["text", "at", "ends", "read_item"] (spEncl FE fI o c S rd) := by
  refine F.ok sc_read_enclosed (fun vs H Q E h => ?_) (fun cdv A outer s H vs Q E hr h => ?_)
  · obtain ⟨x, en, i, rfl, _⟩ := h
    rfl
  · obtain ⟨x, en, i, rfl, rfl, hi, hx, q, qe⟩ := h
    have nd := sc_read_enclosed.nd
    have hr2 := hr.mono hk
    refine ⟨_, pss_cons (ps_asg (pv 2) (pg_txt2 (by rfl) (pgs_cons (pg_name (i := 4) nd rfl (Or.inl rfl)) (pgs_cons (pg_name (i := 5) nd rfl (Or.inl rfl)) pgs_nil))))
      (pss_cons (ps_set (i := 6) nd rfl (Or.inl rfl) (pe_calX (E := E) CB hr2 (passes_call (W := fun c d _ H' => E c d H') (takes_of rfl rfl rfl rfl) fun _ _ _ _ z => z) (pa_cons (pv 0) (pa_cons (pv 1) (pa_cons (pv 4) pa_nil)))))
      (pss_cons (ps_if (pt_val (pe_bm PySem.F.plainAttrs_str PySem.F.slot_str_startswith PySem.F.type_str_startswith mt_startswith3 (pv 0) (pa_cons (pv 5) (pa_cons (pv 6) pa_nil)))) (pss_one (ps_ret (pe_tup (pa_cons (pe_lst pa_nil) (pa_cons (pe_op op_add (pv 6) pe_int) pa_nil))))) pss_nil)
      (pss_cons (ps_asg (pe_calX (E := E) CS hr (passes_call (W := fun c d _ H' => E c d H') (takes_of rfl rfl rfl rfl) fun _ _ _ _ z => z) (pa_cons (pv 0) (pa_cons (pv 6) (pa_cons pe_str (pa_cons (pv 3) pa_nil))))) (pg_tup (by rfl) (pgs_cons (pg_name (i := 7) nd rfl (Or.inl rfl)) (pgs_cons (pg_name (i := 8) nd rfl (Or.inl rfl)) pgs_nil))))
      (pss_one (ps_ret (pe_tup (pa_cons (pv 7) (pa_cons (pe_calX (E := E) CB hr2 (passes_call (W := fun c d _ H' => E c d H') (takes_of rfl rfl rfl rfl) fun _ _ _ _ z => z) (pa_cons (pv 0) (pa_cons (pv 8) (pa_cons (pv 5) pa_nil)))) pa_nil)))))))), ?_⟩
    have hxl : x.length = x.cps.toList.length := rfl
    refine ⟨_, rfl, o, c, rfl, _, _, rfl, _, _, rfl, rfl, ?_⟩
    refine ⟨_, rfl, _, rfl, _, rfl, x, _, i, rfl, hi, hx, (by show 1 ≤ 1000; decide), fun pre => ?_, fun npre => ?_⟩
    · have pl := pre.length_le
      rw [List.length_drop] at pl
      have pl' : 1 ≤ x.length - i := pl
      have w1 : rWord [o] (x.cps.toList.drop i) = some (x.cps.toList.drop (i + 1)) := by
        unfold rWord
        rw [if_pos pre, List.drop_drop]
        rfl
      have hlen : (x.cps.toList.drop i).length = (x.cps.toList.drop (i + 1)).length + 1 := by
        rw [List.length_drop, List.length_drop]
        omega
      have h2s : 2 ≤ sizeLine := by rw [sizeLine_eq]; decide
      have hst : Txt.startswith3 x ⟨#[c]⟩ ((i + 1 : Nat) : Int) = decide ([c] <+: x.cps.toList.drop (i + 1)) := starts_at x _ (by omega)
      refine ⟨_, rfl, rfl, _, rfl, _, rfl, x, _, ((i + 1 : Nat) : Int), rfl, rfl, _, rfl, ?_⟩
      rw [hst]
      by_cases hc : [c] <+: x.cps.toList.drop (i + 1)
      · refine (if_pos (decide_eq_true hc)).mpr ?_
        have pl2 := hc.length_le
        rw [List.length_drop] at pl2
        have pl2' : 1 ≤ x.length - (i + 1) := pl2
        have w2 : rWord [c] (x.cps.toList.drop (i + 1)) = some (x.cps.toList.drop (i + 2)) := by
          unfold rWord
          rw [if_pos hc, List.drop_drop]
          rfl
        refine ⟨Nat.zero_le _, fun l hl => ⟨_, rfl, _, _, rfl, rfl, h2s, fun p hp => ?_⟩⟩
        have sA := same_new (o := HO.lst []) hl
        have sP := same_new (o := HO.tup [.ref l, .int ((i + 2 : Nat) : Int)]) hp
        refine q [] (i + 2) p (.ref l) _ (by omega) (by omega) ?_ (sA.trans sP) upd_same ⟨l, [], rfl, hl, sP _ _ upd_same, .nil⟩
        unfold rEncl
        simp only [w1, w2]
      · refine (if_neg (fun z => hc (of_decide_eq_true z))).mpr ?_
        have w2 : rWord [c] (x.cps.toList.drop (i + 1)) = none := if_neg hc
        have ec : (Str.ofString ", ").cps.toList = comma := by decide +kernel
        refine ⟨_, rfl, _, rfl, _, rfl, x, i + 1, rfl, by omega, hx, fun vs j t tv H1 hij hj hrd s1 h1 st1 => ?_, fun hn H' s' => qe ?_ H' s'⟩
        · rw [ec] at hrd
          refine ⟨t, _, rfl, sq_t h1, rfl, _, _, rfl, _, _, rfl, rfl, ?_⟩
          refine ⟨_, rfl, _, rfl, _, rfl, _, rfl, x, _, j, rfl, hj, hx, (by show 1 ≤ 1000; decide), fun pre2 => ?_, fun npre2 => ?_⟩
          · have pl3 := pre2.length_le
            rw [List.length_drop] at pl3
            have pl3' : 1 ≤ x.length - j := pl3
            have w3 : rWord [c] (x.cps.toList.drop j) = some (x.cps.toList.drop (j + 1)) := by
              unfold rWord
              rw [if_pos pre2, List.drop_drop]
              rfl
            refine ⟨h2s, fun p hp => ?_⟩
            have sP := same_new (o := HO.tup [tv, .int ((j + 1 : Nat) : Int)]) hp
            refine q vs (j + 1) p tv _ (by omega) (by omega) ?_ (s1.trans sP) upd_same ((stn_list stn).same sP st1)
            show rEncl o c comma rd _ _ = _
            unfold rEncl
            rw [hlen]
            simp only [w1, w2, hrd, w3]
          · refine qe ?_ H1 s1
            have w3 : rWord [c] (x.cps.toList.drop j) = none := if_neg npre2
            show rEncl o c comma rd _ _ = none
            unfold rEncl
            rw [hlen]
            simp only [w1, w2, hrd, w3]
        · rw [ec] at hn
          show rEncl o c comma rd _ _ = none
          unfold rEncl
          rw [hlen]
          simp only [w1, w2, hn]
    · exact qe (by
        show rEncl o c comma rd _ _ = none
        unfold rEncl
        have : rWord [o] (x.cps.toList.drop i) = none := if_neg npre
        simp only [this]) H (fun _ _ e => e)
end
end KA
set_option Elab.async false
set_option linter.all false
set_option maxRecDepth 100000
set_option maxHeartbeats 4000000
/-! scaled, rows_of, support, count_of -/
namespace KA
open PySem PySem.Spec PyProof.Rows L2
open PySem.W (EachIs)
/-- the pairs of a bag, as a comprehension or a loop meets them -/
theorem each_get {α β : Type} {R : α → β → Prop} : ∀ {as : List α} {bs : List β} {i : Nat} {x : α} {y : β}, EachIs R as bs → as[i]? = some x → bs[i]? = some y → R x y
  | _, _, _, _, _, .nil, h, _ => by simp at h
  | _, _, 0, _, _, .cons q t, h, g => by
    simp at h g
    subst h g
    exact q
  | _, _, i + 1, x, y, .cons q t, h, g => each_get (i := i) t (by simpa using h) (by simpa using g)
theorem ref_at {as : List Addr} {i : Nat} {v : V} (h : (as.map V.ref)[i]? = some v) : ∃ a, as[i]? = some a ∧ v = .ref a := map_at h
theorem each_map_r {α β γ : Type} {R : α → γ → Prop} (f : β → γ) : ∀ {as : List α} {bs : List β}, EachIs (fun a b => R a (f b)) as bs → EachIs R as (bs.map f)
  | _, _, .nil => .nil
  | _, _, .cons h t => .cons h (each_map_r f t)
abbrev gP2 (K : PySem.W.Frag) (i j : Nat) : TG := gTup K 2 (gCons (gName i) (gCons (gName j) gNil))
theorem gp2 {K : PySem.W.Frag} {i j : Nat} {t : Addr} {x y : V} {σ : L2.St} {H : Hp} {Q : L2.St → Hp → Prop} (hp : H t = some (.tup [x, y])) (h : Q ((σ.set i (some x)).set j (some y)) H) : gP2 K i j (.ref t) σ H Q :=
  ⟨t, _, rfl, sq_t hp, rfl, _, _, rfl, _, _, rfl, rfl, h⟩
theorem if_in {te : TE} {tt : TT} {c : Bool} {σ : L2.St} {H : Hp} {Q : VK} {Qn : Hp → Prop} (ht : ∀ Q : Bool → Hp → Prop, Q c H → tt σ H Q) (h1 : c = true → te σ H Q) (h2 : c = false → Qn H) : tt σ H fun c H3 => if c = true then te σ H3 Q else Qn H3 := by
  refine ht _ ?_
  cases c with
  | true => rw [if_pos rfl]; exact h1 rfl
  | false => rw [if_neg Bool.false_ne_true]; exact h2 rfl
section
variable {P : Program} {w : World} {K : PySem.W.Frag} {mg : Str → Option Value} {base : Heap} {f : Addr} {fd : FuncData}
def BdB (n : Nat) (b : Bag) : Prop := ∀ e ∈ b, e.2.natAbs ≤ n
theorem BdB.mono {n m : Nat} {b : Bag} (h : BdB n b) (hn : n ≤ m) : BdB m b := fun e he => Nat.le_trans (h e he) hn
/-- a pair made on the spot stands for an entry -/
theorem pair_new {H : Hp} {p q : Addr} {r : Row} {c : Int} (hp : H p = none) (hq : RowAt H q r) : PairAt (upd H p (.tup [.ref q, .int c])) p (r, c) := ⟨q, upd_same, hq.mono (same_new hp)⟩
def spScaled : Sp := fun vs H Q _ => ∃ (p : Addr) (b : Bag) (m : Int), vs = [.ref p, .int m] ∧ BagAt H p b ∧ b.length ≤ 1000 ∧ BdB (2 ^ 60) b ∧ ∀ q H', Same H H' → BagAt H' q (scaleB b m) → Q (.ref q) H'
def spRowsOf : Sp := fun vs H Q _ => ∃ (p : Addr) (b : Bag), vs = [.ref p] ∧ BagAt H p b ∧ b.length ≤ 1000 ∧ ∀ q H', Same H H' → RowsAt H' q (posRows b) → Q (.ref q) H'
/-- a list of rows gives the list of pairs of each row and 1 -/
def spSupport : Sp := fun vs H Q _ => ∃ (p : Addr) (b : Bag), vs = [.ref p] ∧ BagAt H p b ∧ b.length ≤ 1000 ∧ ∀ q H', Same H H' → BagAt H' q (onesB (posRows b)) → Q (.ref q) H'
def spCountOf : Sp := fun vs H Q _ => ∃ (p t : Addr) (b : Bag) (r : Row), vs = [.ref p, .ref t] ∧ BagAt H p b ∧ RowAt H t r ∧ b.length ≤ 1000 ∧ Q (.int (cntB b r)) H
theorem row_plain (r : Row) : (rowD r).plain = true := by
  show PyData.plainAll (r.map keyD) = true
  exact plain_map (fun x => by cases x <;> rfl) r
theorem row_depth (r : Row) : (rowD r).depth ≤ 3 := by
  have h := depth_map (enc := keyD) (fun x => by cases x <;> simp [keyD, PyData.depth]) r
  simp only [rowD, PyData.depth]
  omega
theorem eqv_rows : ∀ a b : Row, PyData.eqvAll (a.map keyD) (b.map keyD) = decide (a = b)
  | [], [] => by simp [PyData.eqvAll]
  | [], _ :: _ => by simp [PyData.eqvAll]
  | _ :: _, [] => by simp [PyData.eqvAll]
  | x :: a, y :: b => by
    rw [List.map_cons, List.map_cons, PySem.W.eqv_all_cons, eqv_key, eqv_rows a b]
    by_cases h : x = y
    · by_cases h2 : a = b <;> simp [h, h2]
    · simp [h]
theorem eqv_row (a b : Row) : PyData.eqv (rowD a) (rowD b) = decide (a = b) := by
  simp only [rowD, PyData.eqv]
  exact eqv_rows a b
theorem cntB_cons (e : Row × Int) (b : Bag) (r : Row) : cntB (e :: b) r = if e.1 = r then e.2 else cntB b r := by
  unfold cntB
  by_cases h : e.1 = r <;> simp [List.find?_cons, h]
theorem cnt_drop {b : Bag} {i : Nat} {e : Row × Int} (h : b[i]? = some e) (r : Row) : cntB (b.drop i) r = if e.1 = r then e.2 else cntB (b.drop (i + 1)) r := by
  obtain ⟨hi, he⟩ := List.getElem?_eq_some_iff.mp h
  rw [List.drop_eq_getElem_cons hi, he, cntB_cons]
end
end KA
set_option Elab.async false
set_option linter.all false
set_option maxRecDepth 100000
set_option maxHeartbeats 4000000
set_option pp.explicit false
/-! read_name -/
namespace KA
open PySem PySem.Spec PyProof.Rows L2
theorem one_lt (a b : Nat) : ([a] < [b]) ↔ a < b := by
  rw [List.cons_lt_cons_iff]
  simp
def leS (x y : Str) : Bool := !decide (y.cps.toList < x.cps.toList)
def rLeS : R2 := fun x y H Q => ∃ i j, x = V.str i ∧ y = V.str j ∧ Q (V.bl (leS i j)) H
theorem op_leS {X : Cx} : OpR X (compareOp .LtE) rLeS := op_le_str
theorem leS_sign {a c : Nat} {x y : Str} (ex : x.cps.toList = [a]) (ey : y.cps.toList = [c]) : leS x y = decide (a ≤ c) := by
  unfold leS
  rw [ex, ey]
  by_cases h : a ≤ c
  · rw [decide_eq_true h, decide_eq_false (fun z => by have := (one_lt c a).mp z; omega)]
    rfl
  · rw [decide_eq_false h, decide_eq_true ((one_lt c a).mpr (by omega))]
    rfl
theorem chain_str {σ : L2.St} {H : Hp} {lo hi y : Str} {a b c : Nat} (elo : lo.cps.toList = [a]) (ehi : hi.cps.toList = [b]) (ey : y.cps.toList = [c]) {Q : VK} (g : Q (.bl (decide (a ≤ c) && decide (c ≤ b))) H) :
    if leS lo y = true then (tC (V.str hi) σ H fun w' H4 => rLeS (V.str y) w' H4 Q) else Q (V.bl false) H := by
  rw [leS_sign elo ey]
  by_cases h : a ≤ c
  · rw [if_pos (decide_eq_true h)]
    refine ⟨_, _, rfl, rfl, ?_⟩
    rw [leS_sign ey ehi]
    rw [decide_eq_true h] at g
    exact g
  · rw [if_neg (fun z => h (of_decide_eq_true z))]
    rw [decide_eq_false h] at g
    exact g
section
variable {P : Program} {w : World} {K : PySem.W.Frag} {mg : Str → Option Value} {base : Heap} {f : Addr} {fd : FuncData} {FE : Addr}
theorem rName_some {l : List Nat} {i k : Nat} (hd : ∀ c ∈ (l.drop i).take k, isLow c = true) (hn : ∀ c t, l.drop (i + k) = c :: t → isLow c = false) (hk : i + k ≤ l.length) : rName (l.drop i) = if 1 ≤ k ∧ k ≤ 12 then some ((l.drop i).take k, l.drop (i + k)) else none := by
  have hsp := span_at hd hn
  have hlen : ((l.drop i).take k).length = k := by rw [List.length_take, List.length_drop]; omega
  unfold rName
  simp only [hsp, hlen]
theorem ok_read_name (F : FnP K "read_name" s_read_name f fd) (CQ : CalX P w K mg base "require" 1 ["right", "at"] (spRequire FE)) (gL : mg "len" = none) {tM : Tok} (gM : mg "LONGEST_NAME" = some (.int 12 tM)) :
    FnOk P w K mg base (L2.CX P w) 3 f fd ["text", "at"] (spRead FE TxtS rName) := by
  refine F.ok sc_read_name (fun vs H Q E h => ?_) (fun cdv A outer s H vs Q E hr h => ?_)
  · obtain ⟨x, i, rfl, _⟩ := h
    rfl
  · obtain ⟨x, i, rfl, hi, hx, q, qe⟩ := h
    have nd := sc_read_name.nd
    refine ⟨_, pss_cons (ps_set (i := 2) nd rfl (Or.inl rfl) (pv 1))
      (pss_cons (ps_while (passes_of rfl) (PW.pt (pw_and (pt_cmpR op_lt (pv 2) (pe_callB call_len_str (by rfl) gL PySem.boot_len (pa_cons (pv 0) pa_nil)) (nomark _)) (pw_and1 (pt_chain op_leS op_leS pe_str (pe_item_str (pv 0) (pv 2) (fun _ _ => rfl)) pe_str))))
        (pss_one (ps_aug (i := 2) nd rfl (Or.inl rfl) pe_int ip_add)))
      (pss_cons (ps_expr (pe_calX (E := E) CQ hr.lt (passes_call (W := fun c d _ H' => E c d H') (takes_of rfl rfl rfl rfl) fun _ _ _ _ z => z) (pa_cons (pe_chain op_le op_le pe_int (pe_op op_sub (pv 2) (pv 1)) (pe_glob (v := .int 12) (by rfl) gM ⟨_, rfl⟩)) (pa_cons (pv 1) pa_nil))))
      (pss_one (ps_ret (pe_tup (pa_cons (pe_slice sl_str (pv 0) (po_some (pv 1)) (po_some (pv 2))) (pa_cons (pv 2) pa_nil))))))), ?_⟩
    have hxl : x.length = x.cps.toList.length := rfl
    have hxs : x.length ≤ sizeLine := by rw [sizeLine_eq]; omega
    have eA : (Str.ofString "a").cps.toList = [97] := by decide +kernel
    have eZ : (Str.ofString "z").cps.toList = [122] := by decide +kernel
    refine ⟨_, rfl, ?_⟩
    refine while_post (fun σ G => ∃ k : Nat, G = H ∧ σ = [some (.str x), some (.int (i : Int)), some (.int ((i + k : Nat) : Int))] ∧ i + k ≤ x.length ∧ (∀ c ∈ (x.cps.toList.drop i).take k, isLow c = true) ∧ ∀ c t, x.cps.toList.drop (i + k) = c :: t → isLow c = false)
      (fun σ G => ∃ k : Nat, G = H ∧ σ = [some (.str x), some (.int (i : Int)), some (.int ((i + k : Nat) : Int))] ∧ i + k ≤ x.length ∧ ∀ c ∈ (x.cps.toList.drop i).take k, isLow c = true)
      (fun σ G => match σ with
        | [_, _, some (.int e)] => x.length - e.toNat
        | _ => 0) ⟨0, rfl, rfl, hi, fun c hc => by simp at hc⟩ ?_ ?_ ?_
    · rintro σ G ⟨k, rfl, rfl, hk, hd⟩
      refine ⟨_, rfl, _, rfl, x, rfl, hxs, _, _, rfl, rfl, _, rfl, ?_⟩
      by_cases hl : i + k < x.length
      · refine (if_pos (decide_eq_true (by omega))).mpr ?_
        have hget : x.cps[i + k]? = some (x.cps[i + k]'hl) := Array.getElem?_eq_getElem hl
        refine ⟨_, rfl, _, rfl, x, ((i + k : Nat) : Int), _, rfl, rfl, by omega, by omega, by omega, hget, _, _, rfl, rfl, _, rfl, ?_⟩
        refine chain_str eA eZ (c := x.cps[i + k]'hl) rfl ?_
        refine ⟨_, rfl, ?_⟩
        by_cases hdg : isLow (x.cps[i + k]'hl) = true
        · refine (if_pos hdg).mpr ?_
          refine ⟨_, rfl, _, _, rfl, rfl, ⟨k + 1, rfl, ?_, by omega, fun c hc => ?_⟩, ?_⟩
          · have e : (((i + k : Nat) : Int) + 1) = ((i + (k + 1) : Nat) : Int) := by omega
            show [some (V.str x), some (V.int (i : Int)), some (V.int (((i + k : Nat) : Int) + 1))] = _
            rw [e]
          · rw [List.take_succ] at hc
            rcases List.mem_append.mp hc with z | z
            · exact hd c z
            · have hg : x.cps.toList[i + k]? = some (x.cps[i + k]'hl) := by
                rw [Array.getElem?_toList]
                exact hget
              rw [List.getElem?_drop, hg] at z
              have z' : c = x.cps[i + k]'hl := by simpa using z
              rw [z']
              exact hdg
          · show x.length - (((i + k : Nat) : Int) + 1).toNat < x.length - ((i + k : Nat) : Int).toNat
            omega
        · refine (if_neg hdg).mpr ?_
          exact ⟨k, rfl, rfl, hk, hd, head_not (.inr ⟨hl, by simpa using hdg⟩)⟩
      · refine (if_neg (fun z => hl (by have := of_decide_eq_true z; omega))).mpr ?_
        exact ⟨k, rfl, rfl, hk, hd, head_not (.inl (by omega))⟩
    · intro σ G Q Q' hQ h
      obtain ⟨v1, e1, v2, e2, z, e3, l1, i1, j1, e4, e5, c, e6, h⟩ := h
      refine ⟨v1, e1, v2, e2, z, e3, l1, i1, j1, e4, e5, c, e6, ?_⟩
      revert h
      by_cases hc : c = true
      · rw [if_pos hc]
        intro h
        refine (if_pos hc).mpr ?_
        revert h
        rintro ⟨a1, b1, a2, b2, y, k, d, f1, f2, f3, f4, f5, f6, d2, y2, f7, f8, k2, f9, h⟩
        refine ⟨a1, b1, a2, b2, y, k, d, f1, f2, f3, f4, f5, f6, d2, y2, f7, f8, k2, f9, ?_⟩
        revert h
        by_cases hk2 : k2 = true
        · rw [if_pos hk2]
          intro h
          refine (if_pos hk2).mpr ?_
          revert h
          rintro ⟨i3, j3, g1, g2, b, g3, h⟩
          exact ⟨i3, j3, g1, g2, b, g3, hQ _ _ h⟩
        · rw [if_neg hk2]
          rintro ⟨b, g3, h⟩
          exact (if_neg hk2).mpr ⟨b, g3, hQ _ _ h⟩
      · rw [if_neg hc]
        intro h
        exact (if_neg hc).mpr (hQ _ _ h)
    · rintro σ G ⟨k, rfl, rfl, hk, hd, hn⟩
      have hk' : ((i + k : Nat) : Int) - (i : Int) = (k : Int) := by omega
      have hrd := rName_some hd hn (by omega)
      refine ⟨_, rfl, _, rfl, _, _, rfl, rfl, _, _, rfl, rfl, _, rfl, ?_⟩
      refine chain_le ?_
      rw [hk']
      refine ⟨_, rfl, _, i, rfl, by omega, fun hb => ?_, fun hb => ?_⟩
      · have hb' := of_decide_eq_true hb
        rw [if_pos (by omega)] at hrd
        have h2s : 2 ≤ sizeLine := by rw [sizeLine_eq]; decide
        have hsl := slice_at x (show i ≤ i + k by omega) hk
        have hcut : cutS x (some (i : Int)) (some ((i + k : Nat) : Int)) = Txt.slice x (some (i : Int)) (some ((i + k : Nat) : Int)) := C8.cutS_slice x _ _
        refine ⟨_, rfl, _, rfl, _, rfl, _, rfl, _, rfl, x, rfl, hxs, _, rfl, h2s, fun p hp => ?_⟩
        refine q _ (i + k) p _ _ (by omega) hk hrd (same_new hp) upd_same ⟨_, rfl, ?_⟩
        rw [hcut, hsl, show i + k - i = k by omega]
      · have hb' := of_decide_eq_false hb
        exact qe (by rw [hrd, if_neg (by omega)]) G (fun _ _ e => e)
end
end KA
set_option Elab.async false
set_option linter.all false
set_option maxRecDepth 100000
set_option maxHeartbeats 4000000
/-! read_text -/
namespace KA
open PySem PySem.Spec PyProof.Rows L2
theorem and_in {σ : L2.St} {H : Hp} {c d : Bool} {tb : TE} {Q : VK} (hb : c = true → ∀ Q : VK, Q (.bl d) H → tb σ H Q) (g : Q (.bl (c && d)) H) : ∃ c', V.bl c = V.bl c' ∧ if c' = true then tb σ H Q else Q (.bl false) H := by
  refine ⟨c, rfl, ?_⟩
  cases c with
  | true => rw [if_pos rfl]; exact hb rfl Q g
  | false => rw [if_neg Bool.false_ne_true]; exact g
theorem rText_none {s : List Nat} (h : ¬ [34] <+: s) : rText s = none := by
  unfold rText
  split
  · rename_i t
    exact absurd ⟨t, rfl⟩ h
  · rfl
theorem rText_at {t : List Nat} : rText (34 :: t) = if (span (fun d => decide (d ≠ 34)) t).2 = [] then none else if (span (fun d => decide (d ≠ 34)) t).1.length ≤ 40 ∧ (span (fun d => decide (d ≠ 34)) t).1.all printable = true then some ((span (fun d => decide (d ≠ 34)) t).1, (span (fun d => decide (d ≠ 34)) t).2.drop 1) else none := by
  show (match span (fun c => decide (c ≠ 34)) t with
    | (x, 34 :: r) => if x.length ≤ 40 ∧ x.all printable = true then some (x, r) else none
    | _ => none) = _
  have e3 := span_rest (fun d => decide (d ≠ 34)) t
  revert e3
  generalize span (fun d => decide (d ≠ 34)) t = ab
  obtain ⟨a, b⟩ := ab
  intro e3
  cases b with
  | nil => rfl
  | cons d b =>
    have hd : d = 34 := by
      have := e3 d b rfl
      simpa using this
    subst hd
    rfl
theorem bls_map {α : Type} {g : α → Bool} : ∀ {acc : List V} {xs : List α}, PySem.W.EachIs (fun v c => v = V.bl (g c)) acc xs → acc = (xs.map g).map V.bl
  | _, _, .nil => rfl
  | _, _, .cons h t => by rw [h, bls_map t]; rfl
section
variable {P : Program} {w : World} {K : PySem.W.Frag} {mg : Str → Option Value} {base : Heap} {f : Addr} {fd : FuncData} {FE : Addr}
theorem ok_read_text (F : FnP K "read_text" s_read_text f fd) (CQ : CalX P w K mg base "require" 1 ["right", "at"] (spRequire FE)) (CB : CalX P w K mg base "behind" 2 ["text", "at", "word"] (spBehind FE)) (gA : mg "all" = none) (gO : mg "ord" = none) {tM tP : Tok} (gM : mg "LONGEST_TEXT" = some (.int 40 tM)) (gP : mg "PERCENT_SIGN" = some (.int 37 tP)) :
    FnOk P w K mg base (L2.CX P w) 3 f fd ["text", "at"] (spRead FE TxtS rText) := by
  refine F.ok sc_read_text (fun vs H Q E h => ?_) (fun cdv A outer s H vs Q E hr h => ?_)
  · obtain ⟨x, i, rfl, _⟩ := h
    rfl
  · obtain ⟨x, i, rfl, hi, hx, q, qe⟩ := h
    have nd := sc_read_text.nd
    refine ⟨_, pss_cons (ps_set (i := 2) nd rfl (Or.inl rfl) (pe_calX (E := E) CB hr.lt (passes_call (W := fun c d _ H' => E c d H') (takes_of rfl rfl rfl rfl) fun _ _ _ _ z => z) (pa_cons (pv 0) (pa_cons (pv 1) (pa_cons pe_str pa_nil)))))
      (pss_cons (ps_set (i := 3) nd rfl (Or.inl rfl) (pe_bm PySem.F.plainAttrs_str PySem.F.slot_str_find PySem.F.type_str_find mt_find3 (pv 0) (pa_cons pe_str (pa_cons (pv 2) pa_nil))))
      (pss_cons (ps_expr (pe_calX (E := E) CQ hr.lt (passes_call (W := fun c d _ H' => E c d H') (takes_of rfl rfl rfl rfl) fun _ _ _ _ z => z) (pa_cons (pe_chain op_le op_le pe_int (pe_op op_sub (pv 3) (pv 2)) (pe_glob (v := .int 40) (by rfl) gM ⟨_, rfl⟩)) (pa_cons (pv 1) pa_nil))))
      (pss_cons (ps_set (i := 4) nd rfl (Or.inl rfl) (pe_slice sl_str (pv 0) (po_some (pv 2)) (po_some (pv 3))))
      (pss_cons (ps_expr (pe_calX (E := E) CQ hr.lt (passes_call (W := fun c d _ H' => E c d H') (takes_of rfl rfl rfl rfl) fun _ _ _ _ z => z) (pa_cons
        (pe_callB (cr_all rfl) (by rfl) gA (by decide +kernel) (pa_cons (pe_lc (own := [("c", 5)]) (g := gName 5) (tt := tYes) rfl nd (pi_str (pv 4)) (blkOk_by (own := [("c", 5)]) (N := ["text", "at", "start", "end", "found", "c"]) (sc := defScope s_read_text) (by decide +kernel)) (fun _ _ _ _ _ => pg_name (i := 5) nd rfl (Or.inl rfl)) (fun _ _ _ _ _ => pts_nil)
          (fun _ _ _ _ _ => pe_and (pe_chain op_leS op_leS pe_str (pv 5) pe_str) (pe_one (pe_cmpR op_ne (pe_callB call_ord (by rfl) gO (by decide +kernel) (pa_cons (pv 5) pa_nil)) (pe_glob (v := .int 37) (by rfl) gP ⟨_, rfl⟩) (nomark _))))) pa_nil)) (pa_cons (pv 1) pa_nil))))
      (pss_one (ps_ret (pe_tup (pa_cons (pv 4) (pa_cons (pe_op op_add (pv 3) pe_int) pa_nil))))))))), ?_⟩
    have hxl : x.length = x.cps.toList.length := rfl
    have hxs : x.length ≤ sizeLine := by rw [sizeLine_eq]; omega
    have e2 : (Str.ofString "\"").cps.toList = [34] := by decide +kernel
    have e2' : Str.ofString "\"" = ⟨#[34]⟩ := by decide +kernel
    refine ⟨_, rfl, _, rfl, x, _, i, rfl, hi, hx, (by decide +kernel), fun pre => ?_, fun npre => ?_⟩
    · rw [e2] at pre
      have pl := pre.length_le
      rw [List.length_drop] at pl
      have hi1 : i + 1 ≤ x.length := by
        have pl' : 1 ≤ x.length - i := pl
        omega
      have hd1 : x.cps.toList.drop i = 34 :: x.cps.toList.drop (i + 1) := by
        obtain ⟨t, ht⟩ := pre
        rw [← List.drop_drop, ← ht]
        rfl
      have hrd := rText_at (t := x.cps.toList.drop (i + 1))
      rw [← hd1] at hrd
      have hl1 : ((i + (Str.ofString "\"").length : Nat) : Int) = ((i + 1 : Nat) : Int) := by
        have : (Str.ofString "\"").length = 1 := by decide +kernel
        rw [this]
      rw [hl1]
      refine ⟨_, rfl, rfl, _, rfl, x, _, ((i + 1 : Nat) : Int), rfl, rfl, ?_⟩
      have hf := find_at x 34 (i + 1) hi1
      rw [e2', hf]
      have e1 := span_app (fun d => decide (d ≠ 34)) (x.cps.toList.drop (i + 1))
      revert hrd e1
      generalize span (fun d => decide (d ≠ 34)) (x.cps.toList.drop (i + 1)) = ab
      obtain ⟨a, b⟩ := ab
      intro hrd e1
      dsimp only at hrd e1 ⊢
      cases b with
      | nil =>
        rw [if_pos rfl] at hrd ⊢
        refine ⟨_, rfl, _, rfl, _, _, rfl, rfl, _, _, rfl, rfl, _, rfl, ?_⟩
        refine chain_le ?_
        refine ⟨_, rfl, _, i, rfl, by omega, fun hb => ?_, fun hb => ?_⟩
        · have hb' := of_decide_eq_true hb
          exfalso
          omega
        · exact qe hrd H (fun _ _ e => e)
      | cons d b =>
        rw [if_neg (by simp)] at hrd ⊢
        have hla : (i + 1) + a.length + (b.length + 1) = x.length := by
          have := congrArg List.length e1
          rw [List.length_append, List.length_drop, List.length_cons] at this
          omega
        have hk' : ((i + 1 + a.length : Nat) : Int) - ((i + 1 : Nat) : Int) = (a.length : Int) := by omega
        refine ⟨_, rfl, _, rfl, _, _, rfl, rfl, _, _, rfl, rfl, _, rfl, ?_⟩
        refine chain_le ?_
        rw [hk']
        refine ⟨_, rfl, _, i, rfl, by omega, fun hb => ?_, fun hb => ?_⟩
        · have hb' := of_decide_eq_true hb
          have hsl := slice_at x (show i + 1 ≤ i + 1 + a.length by omega) (by omega)
          have hcut : cutS x (some ((i + 1 : Nat) : Int)) (some ((i + 1 + a.length : Nat) : Int)) = Txt.slice x (some ((i + 1 : Nat) : Int)) (some ((i + 1 + a.length : Nat) : Int)) := C8.cutS_slice x _ _
          have hza : (Txt.slice x (some ((i + 1 : Nat) : Int)) (some ((i + 1 + a.length : Nat) : Int))).cps.toList = a := by
            rw [hsl, ← e1, show i + 1 + a.length - (i + 1) = a.length by omega, List.take_left]
          refine ⟨_, rfl, _, rfl, _, rfl, _, rfl, _, rfl, x, rfl, hxs, ?_⟩
          rw [hcut]
          revert hza
          generalize Txt.slice x (some ((i + 1 : Nat) : Int)) (some ((i + 1 + a.length : Nat) : Int)) = z
          intro hza
          refine ⟨_, rfl, z, rfl, fun D hD => ?_⟩
          refine lc_same (walk_str (z := z)) z.cps.toList (by rw [Array.length_toList]) (fun _ => true) (fun _ v c => v = .bl (printable c)) (fun _ _ _ _ _ k => k) hD (fun _ _ => trivial) (by rw [← Array.length_toList, hza]; omega) ?_ ?_
          · rintro m y c H1 _ hm hc s1 ⟨rfl, c', hc', rfl⟩ Q' Qn k1 _
            rw [Array.getElem?_toList, hc'] at hc
            obtain rfl : c' = c := Option.some.inj hc
            have eS : (Str.ofString " ").cps.toList = [32] := by decide +kernel
            have eT : (Str.ofString "~").cps.toList = [126] := by decide +kernel
            refine ⟨rfl, yes_in ⟨_, rfl, _, _, rfl, rfl, _, rfl, ?_⟩⟩
            refine chain_str eS eT (c := c') rfl ?_
            refine and_in (d := decide (c' ≠ 37)) (fun _ Q g => ⟨_, rfl, _, rfl, rfl, rfl, ?_⟩) ?_
            · have eo : (!decide (V.int (((⟨#[c']⟩ : Str).cps.getD 0 0 : Nat) : Int) = V.int 37)) = decide (c' ≠ 37) := by
                show (!decide (V.int (c' : Int) = V.int 37)) = _
                by_cases h : c' = 37
                · subst h; rfl
                · rw [decide_eq_true h, decide_eq_false (fun z => h (by injection z with z; omega))]; rfl
              rw [eo]
              exact g
            · refine k1 rfl _ _ (Same.refl _) ?_
              unfold printable
              rw [Bool.and_assoc]
          · intro H1 acc s1 ha he
            rw [filter_true] at he
            have hacc := bls_map he
            rw [hza] at hacc
            refine ⟨D, _, rfl, sq_l (by rw [← hacc]; exact ha), ?_⟩
            have hall : (a.map printable).all id = a.all printable := by rw [List.all_map]; rfl
            rw [hall]
            refine ⟨_, rfl, _, i, rfl, by omega, fun hb2 => ?_, fun hb2 => ?_⟩
            · have h2s : 2 ≤ sizeLine := by rw [sizeLine_eq]; decide
              rw [if_pos ⟨by omega, hb2⟩] at hrd
              refine ⟨_, rfl, _, rfl, _, _, rfl, rfl, h2s, fun p hp => ?_⟩
              have ej : (((i + 1 + a.length : Nat) : Int) + 1) = ((i + 1 + a.length + 1 : Nat) : Int) := by omega
              show Q (V.ref p) (upd H1 p (HO.tup [V.str z, V.int (((i + 1 + a.length : Nat) : Int) + 1)]))
              rw [ej]
              refine q a (i + 1 + a.length + 1) p (.str z) _ (by omega) (by omega) ?_ (s1.trans (same_new hp)) upd_same ⟨z, rfl, hza⟩
              rw [hrd]
              have : x.cps.toList.drop (i + 1 + a.length + 1) = (d :: b).drop 1 := by
                rw [Nat.add_assoc (i + 1), ← List.drop_drop, ← e1, ← List.drop_drop, List.drop_left]
              rw [this]
            · exact qe (by rw [hrd, if_neg (fun z => by rw [z.2] at hb2; cases hb2)]) H1 s1
        · have hb' := of_decide_eq_false hb
          exact qe (by rw [hrd, if_neg (fun z => hb' (by omega))]) H (fun _ _ e => e)
    · rw [e2] at npre
      exact qe (rText_none npre) H (fun _ _ e => e)
end
end KA
set_option Elab.async false
set_option linter.all false
set_option maxRecDepth 100000
set_option maxHeartbeats 4000000
/-! read_row, read_bag -/
namespace KA
open PySem PySem.Spec PyProof.Rows L2
open PySem.W (EachIs)
def kOf : Vl → Key
  | .i n => .inl n
  | .s y => .inr ⟨y.toArray⟩
theorem vlAt_k {v : V} {a : Vl} (h : VlAt v a) : v = kV (kOf a) := by
  cases a with
  | i n => exact h
  | s y =>
    obtain ⟨z, rfl, rfl⟩ := h
    rfl
theorem vlAts_k : ∀ {ivs : List V} {vs : List Vl}, EachIs VlAt ivs vs → ivs = (vs.map kOf).map kV
  | _, _, .nil => rfl
  | _, _, .cons h t => by
    rw [vlAt_k h, vlAts_k t]
    rfl
def VlS : Hp → Hp → V → Vl → Prop := fun _ _ v p => VlAt v p
theorem stn_vl : Stn VlS := ⟨fun _ _ _ _ _ _ h => h, fun _ _ _ _ _ _ h => h⟩
def RowS : Hp → Hp → V → List Vl → Prop := fun H0 H v vs => ∃ q, v = .ref q ∧ H0 q = none ∧ RowAt H q (vs.map kOf)
theorem stn_row : Stn RowS := ⟨fun _ _ _ _ _ k ⟨q, e, h0, h1⟩ => ⟨q, e, h0, k _ _ h0 h1⟩, fun _ _ _ _ _ s ⟨q, e, h0, h1⟩ => ⟨q, e, none_back s h0, h1⟩⟩
def kPair (p : List Vl × Int) : Row × Int := (p.1.map kOf, p.2)
abbrev BagS : Hp → Hp → V → List (List Vl × Int) → Prop := ListS (PairS RowS)
theorem stn_bag : Stn BagS := stn_list (stn_pair stn_row)
theorem pairS_at {H0 H : Hp} {v : V} {p : List Vl × Int} (h : PairS RowS H0 H v p) : ∃ t, v = .ref t ∧ PairAt H t (kPair p) := by
  obtain ⟨t, rv, rfl, _, h1, q, rfl, _, h2⟩ := h
  exact ⟨t, rfl, q, h1, h2⟩
theorem pairsS_at {H0 H : Hp} : ∀ {ivs : List V} {b : List (List Vl × Int)}, EachIs (PairS RowS H0 H) ivs b → ∃ ts : List Addr, ivs = ts.map V.ref ∧ EachIs (PairAt H) ts (b.map kPair)
  | _, _, .nil => ⟨[], rfl, .nil⟩
  | _, _, .cons h t => by
    obtain ⟨a, rfl, p⟩ := pairS_at h
    obtain ⟨ts, rfl, q⟩ := pairsS_at t
    exact ⟨a :: ts, rfl, .cons p q⟩
theorem bagS_at {H0 H : Hp} {v : V} {b : List (List Vl × Int)} (h : BagS H0 H v b) : ∃ l, v = .ref l ∧ BagAt H l (b.map kPair) := by
  obtain ⟨l, ivs, rfl, _, h1, h2⟩ := h
  obtain ⟨ts, rfl, q⟩ := pairsS_at h2
  exact ⟨l, rfl, ts, h1, q⟩
/-- the rows of a bag rise -/
def asc : List (List Vl × Int) → Bool
  | [] => true
  | [_] => true
  | a :: b :: t => rowLt (a.1.map kOf) (b.1.map kOf) && asc (b :: t)
theorem asc_zip : ∀ b : List (List Vl × Int), asc b = (b.zip (b.drop 1)).all fun z => rowLt (z.1.1.map kOf) (z.2.1.map kOf)
  | [] => rfl
  | [_] => rfl
  | a :: b :: t => by
    show (rowLt (a.1.map kOf) (b.1.map kOf) && asc (b :: t)) = _
    rw [asc_zip (b :: t)]
    rfl
theorem cut_from (xs : List V) {n : Nat} (h : n ≤ xs.length) : cutV xs (some (n : Int)) none = xs.drop n := by
  unfold cutV
  rw [HT.sIx_none, HT.sIx_nat, Nat.min_eq_left h, List.take_of_length_le]
  rw [List.length_drop]
  exact Nat.le_refl _
/-- what a result may consist of, told at the call and told at the whole -/
def spKeyT (K : PySem.W.Frag) : Sp := fun vs H Q _ => ∃ (q : Addr) (r : Row), vs = [.ref q] ∧ RowAt H q r ∧ r.length ≤ 1000 ∧ ∀ v H', Same H H' → Tp K H' v (rankRow r) → Q v H'
section
variable {P : Program} {w : World} {K : PySem.W.Frag} {mg : Str → Option Value} {base : Heap} {f : Addr} {fd : FuncData} {FE fI : Addr}
theorem ok_row_rankT (F : FnP K "row_rank" s_row_rank f fd) (gT : mg "tuple" = none) (C : Cal P w K mg base "rank" 1 ["value"] (spRank K)) : FnOk P w K mg base CX0 2 f fd ["row"] (spKeyT K) := by
  refine F.ok sc_row_rank (fun vs H Q E h => ?_) (fun cdv A outer s H vs Q E hr h => ?_)
  · obtain ⟨n, r, rfl, _⟩ := h
    rfl
  · obtain ⟨a, r, rfl, hq, hl, q⟩ := h
    refine ⟨_, PSs.nox (pss_one (ps_ret (pe_callTy call_tuple_of (by rfl) gT (by decide +kernel) (pa_cons (pe_lc (own := [("value", 1)]) (g := gName 1) (tt := tYes) (by rfl) sc_row_rank.nd (pi_tup (pv 0))
      (blkOk_by (own := [("value", 1)]) (N := ["row", "value"]) (sc := defScope s_row_rank) (by decide +kernel)) (fun _ _ _ _ _ => pg_name (i := 1) sc_row_rank.nd rfl (Or.inl rfl)) (fun _ _ _ _ _ => pts_nil)
      (fun _ _ _ _ _ => pe_cal C hr (pa_cons (pv 1) pa_nil))) pa_nil)))), ?_⟩
    refine ⟨_, rfl, a, rfl, ⟨_, hq.sq⟩, fun D hD => ?_⟩
    refine lc_same (walk_tup (xs := r.map kV)) r (by rw [List.length_map]) (fun _ => true) (fun H v x => Tp K H v (rankD x)) (fun _ _ _ _ k z => Tp.tk k z) hD (fun H' s' => (hq.mono s').sq) (by rw [List.length_map]; omega) ?_ ?_
    · rintro i x b H1 _ hi hb s1 ⟨rfl, hx⟩ Q' Qn h1 _
      obtain ⟨b', hb', rfl⟩ := map_at hx
      obtain rfl : b = b' := Option.some.inj (hb.symm.trans hb')
      exact ⟨rfl, yes_in ⟨_, rfl, b, rfl, fun v H2 s2 d => h1 rfl v H2 s2 d⟩⟩
    · intro H1 acc s1 ha he
      rw [filter_true] at he
      refine ⟨D, acc, rfl, .inl ⟨sq_l ha, fun p hp => ?_⟩⟩
      have s2 : Same H1 (upd H1 p (.tup acc)) := same_new hp
      refine q _ _ (s1.trans s2) ?_
      show Dp K (tups _) _ _
      exact .tup (sq_tups upd_same) (each_dps (he.mono fun v x z => Tp.tk s2.tk z))
theorem ok_read_row (F : FnP K "read_row" s_read_row f fd) (CQ : CalX P w K mg base "require" 1 ["right", "at"] (spRequire FE)) (CE : CalX P w K mg base "read_enclosed" 6 ["text", "at", "ends", "read_item"] (spEncl FE fI 40 41 VlS rVl))
    (gV : mg "read_value" = some (.ref fI)) (gL : mg "len" = none) (gT : mg "tuple" = none) {tM : Tok} (gM : mg "LONGEST_ROW" = some (.int 8 tM)) :
    FnOk P w K mg base (L2.CX P w) 8 f fd ["text", "at"] (spRead FE RowS rRow) := by
  refine F.ok sc_read_row (fun vs H Q E h => ?_) (fun cdv A outer s H vs Q E hr h => ?_)
  · obtain ⟨x, i, rfl, _⟩ := h
    rfl
  · obtain ⟨x, i, rfl, hi, hx, q, qe⟩ := h
    have nd := sc_read_row.nd
    refine ⟨_, pss_cons (ps_asg (pe_calX (E := E) CE hr.lt (passes_call (W := fun c d _ H' => E c d H') (takes_of rfl rfl rfl rfl) fun _ _ _ _ z => z) (pa_cons (pv 0) (pa_cons (pv 1) (pa_cons pe_str (pa_cons (pe_glob (v := .ref fI) (by rfl) gV rfl) pa_nil))))) (pg_tup (by rfl) (pgs_cons (pg_name (i := 2) nd rfl (Or.inl rfl)) (pgs_cons (pg_name (i := 3) nd rfl (Or.inl rfl)) pgs_nil))))
      (pss_cons (ps_expr (pe_calX (E := E) CQ hr.lt (passes_call (W := fun c d _ H' => E c d H') (takes_of rfl rfl rfl rfl) fun _ _ _ _ z => z) (pa_cons (pe_cmpR op_le (pe_callB call_len_seq (by rfl) gL PySem.boot_len (pa_cons (pv 2) pa_nil)) (pe_glob (v := .int 8) (by rfl) gM ⟨_, rfl⟩) (nomark _)) (pa_cons (pv 1) pa_nil))))
      (pss_one (ps_ret (pe_tup (pa_cons (pe_callTy call_tuple_of (by rfl) gT (by decide +kernel) (pa_cons (pv 2) pa_nil)) (pa_cons (pv 3) pa_nil)))))), ?_⟩
    refine ⟨_, rfl, _, rfl, x, _, i, rfl, (by decide +kernel), hi, hx, fun vs j t tv H1 hij hj hrd s1 h1 st1 => ?_, fun hn H' s' => qe (by unfold rRow; simp only [hn]) H' s'⟩
    obtain ⟨l, ivs, rfl, hl0, hl, he⟩ := st1
    have ev : ivs = (vs.map kOf).map kV := vlAts_k he
    refine ⟨t, _, rfl, sq_t h1, rfl, _, _, rfl, _, _, rfl, rfl, ?_⟩
    refine ⟨_, rfl, _, _, rfl, .inl (sq_l hl), _, _, rfl, rfl, _, rfl, _, i, rfl, by omega, fun hb => ?_, fun hb => ?_⟩
    · have hlv : vs.length ≤ 8 := by
        have hb' := of_decide_eq_true hb
        rw [ev, List.length_map, List.length_map] at hb'
        omega
      have h2s : 2 ≤ sizeLine := by rw [sizeLine_eq]; decide
      refine ⟨_, rfl, l, _, rfl, .inl ⟨sq_l hl, fun tq htq => ⟨_, rfl, h2s, fun p hp => ?_⟩⟩⟩
      have sA := same_new (o := HO.tup ivs) htq
      have sP := same_new (o := HO.tup [.ref tq, .int (j : Int)]) hp
      refine q vs j p (.ref tq) _ hij hj ?_ (s1.trans (sA.trans sP)) upd_same ⟨tq, rfl, none_back s1 htq, ?_⟩
      · unfold rRow
        simp only [hrd]
        rw [if_pos hlv]
      · have := sP _ _ (upd_same (H := H1) (a := tq) (o := .tup ivs))
        rw [ev] at this ⊢
        exact this
    · have hlv : ¬ vs.length ≤ 8 := by
        have hb' := of_decide_eq_false hb
        rw [ev, List.length_map, List.length_map] at hb'
        omega
      refine qe ?_ H1 s1
      unfold rRow
      simp only [hrd]
      rw [if_neg hlv]
theorem ok_read_bag (F : FnP K "read_bag" s_read_bag f fd) (CQ : CalX P w K mg base "require" 1 ["right", "at"] (spRequire FE)) (CE : CalX P w K mg base "read_enclosed" 11 ["text", "at", "ends", "read_item"] (spEncl FE fI 123 125 (PairS RowS) rPair))
    (CK : Cal P w K mg base "row_rank" 2 ["row"] (spKeyT K)) (gV : mg "read_pair" = some (.ref fI)) (gA : mg "all" = none) (gZ : mg "zip" = none) :
    FnOk P w K mg base (L2.CX P w) 12 f fd ["text", "at"] (spRead FE BagS (rBag asc)) := by
  refine F.ok sc_read_bag (fun vs H Q E h => ?_) (fun cdv A outer s H vs Q E hr h => ?_)
  · obtain ⟨x, i, rfl, _⟩ := h
    rfl
  · obtain ⟨x, i, rfl, hi, hx, q, qe⟩ := h
    have nd := sc_read_bag.nd
    refine ⟨_, pss_cons (ps_asg (pe_calX (E := E) CE hr.lt (passes_call (W := fun c d _ H' => E c d H') (takes_of rfl rfl rfl rfl) fun _ _ _ _ z => z) (pa_cons (pv 0) (pa_cons (pv 1) (pa_cons pe_str (pa_cons (pe_glob (v := .ref fI) (by rfl) gV rfl) pa_nil))))) (pg_tup (by rfl) (pgs_cons (pg_name (i := 2) nd rfl (Or.inl rfl)) (pgs_cons (pg_name (i := 3) nd rfl (Or.inl rfl)) pgs_nil))))
      (pss_cons (ps_setLc (i := 4) (own := [("row", 5), ("_", 6)]) (g := gP2 K 5 6) (tt := tYes) (by rfl) nd rfl rfl (sw_true rfl rfl rfl (by decide +kernel)) (pi_list (pv 2))
        (blkOk_by (own := [("row", 5), ("_", 6)]) (N := ["text", "at", "pairs", "end", "ranks", "row", "_", "first", "second"]) (sc := defScope s_read_bag) (by decide +kernel))
        (fun _ _ _ _ _ => pg_tup rfl (pgs_cons (pg_name (i := 5) nd rfl (Or.inl rfl)) (pgs_cons (pg_name (i := 6) nd rfl (Or.inl rfl)) pgs_nil))) (fun _ _ _ _ _ => pts_nil) (fun _ _ _ _ _ => pe_cal CK hr.lt (pa_cons (pv 5) pa_nil)))
      (pss_cons (ps_expr (pe_calX (E := E) CQ hr.lt (passes_call (W := fun c d _ H' => E c d H') (takes_of rfl rfl rfl rfl) fun _ _ _ _ z => z) (pa_cons
        (pe_callB (cr_all rfl) (by rfl) gA (by decide +kernel) (pa_cons (pe_lc (own := [("first", 7), ("second", 8)]) (g := gP2 K 7 8) (tt := tYes) (te := tOp (rLtK K) (tVar 7) (tVar 8)) (by rfl) nd (pi_zip (by rfl) gZ (pa_cons (pv 4) (pa_cons (pe_slice sl_list (pv 4) (po_some pe_int) po_none) pa_nil)))
          (blkOk_by (own := [("first", 7), ("second", 8)]) (N := ["text", "at", "pairs", "end", "ranks", "row", "_", "first", "second"]) (sc := defScope s_read_bag) (by decide +kernel))
          (fun _ _ _ _ _ => pg_tup rfl (pgs_cons (pg_name (i := 7) nd rfl (Or.inl rfl)) (pgs_cons (pg_name (i := 8) nd rfl (Or.inl rfl)) pgs_nil))) (fun _ _ _ _ _ => pts_nil) (fun _ _ _ _ _ => pe_cmpR (op_ltK hr.u64) (pv 7) (pv 8) (nomark _))) pa_nil)) (pa_cons (pv 1) pa_nil))))
      (pss_one (ps_ret (pe_tup (pa_cons (pv 2) (pa_cons (pv 3) pa_nil))))))), ?_⟩
    refine ⟨_, rfl, _, rfl, x, _, i, rfl, (by decide +kernel), hi, hx, fun vs j t tv H1 hij hj hrd s1 h1 st1 => ?_, fun hn H' s' => qe (by unfold rBag; simp only [hn]) H' s'⟩
    have hxl : x.length = x.cps.toList.length := rfl
    have h2s : 2 ≤ sizeLine := by rw [sizeLine_eq]; decide
    obtain ⟨l, ivs, rfl, hl0, hl, he⟩ := id st1
    obtain ⟨ts, rfl, hts⟩ := pairsS_at he
    have hvl : vs.length ≤ 100000 := by
      have := (rEncl_sound good_pair hrd).2.2
      rw [List.length_drop] at this
      omega
    have hlen : (vs.map kPair).length = ts.length := hts.length.symm
    rw [List.length_map] at hlen
    have hrow : ∀ p ∈ vs, p.1.length ≤ 8 := fun p hp => (rEncl_sound good_pair hrd).2.1 p hp |>.1.2
    refine ⟨t, _, rfl, sq_t h1, rfl, _, _, rfl, _, _, rfl, rfl, ?_⟩
    refine ⟨_, rfl, l, rfl, ⟨_, sq_l hl⟩, fun D hD => ?_⟩
    refine lc_same (walk_list (xs := ts.map V.ref)) vs (by rw [List.length_map, hlen]) (fun _ => true) (fun H v p => Tp K H v (rankRow (p.1.map kOf))) (fun _ _ _ _ k z => z.tk k) hD (fun H' s' => sq_l (s' _ _ hl)) (by rw [List.length_map]; omega) ?_ ?_
    · rintro m y p H2 _ hm hp s2 ⟨rfl, hy⟩ Q' Qn k1 _
      obtain ⟨t', ht', rfl⟩ := ref_at hy
      have hp' : (vs.map kPair)[m]? = some (kPair p) := by rw [List.getElem?_map, hp]; rfl
      obtain ⟨qa, p1, p2⟩ := (each_get hts ht' hp').mono s2
      have hr8 := hrow p (List.mem_of_getElem? hp)
      refine gp2 p1 ⟨rfl, yes_in ⟨_, rfl, qa, p.1.map kOf, rfl, p2, by rw [List.length_map]; omega, fun v H3 s3 d => ?_⟩⟩
      exact k1 rfl v H3 s3 d
    · intro H2 acc s2 ha hea
      rw [filter_true] at hea
      have hacc : acc.length = vs.length := hea.length
      refine ⟨_, rfl, _, rfl, _, rfl, D, acc, rfl, sq_l ha, fun p hp => ?_⟩
      have sP := same_new (o := HO.lst (cutV acc (some 1) none)) hp
      have hcut : cutV acc (some 1) none = acc.drop 1 := by
        by_cases h1 : 1 ≤ acc.length
        · exact cut_from (n := 1) acc h1
        · have : acc = [] := List.length_eq_zero_iff.mp (by omega)
          subst this
          simp [cutV]
      rw [hcut] at sP ⊢
      refine ⟨D, p, acc, acc.drop 1, rfl, sq_l (sP _ _ ha), sq_l upd_same, fun D2 hD2 => ?_⟩
      refine lc_same (walk_zip (xs := acc) (ys := acc.drop 1) rfl) (vs.zip (vs.drop 1)) (by rw [List.length_zip, List.length_drop, List.length_drop, hacc]) (fun _ => true) (fun _ v z => v = .bl (rowLt (z.1.1.map kOf) (z.2.1.map kOf))) (fun _ _ _ _ _ k => k) hD2 (fun H' s' => ⟨sq_l (s' _ _ (sP _ _ ha)), sq_l (s' _ _ upd_same)⟩) (by omega) ?_ ?_
      · rintro m y b H3 H4 hm hb s3 ⟨T, u, v, rfl, hT, rfl, hu, hv⟩ Q' Qn k1 _
        have sT := same_new (o := HO.tup [u, v]) hT
        obtain ⟨b1, b2⟩ := b
        have hb1 : vs[m]? = some b1 := (List.getElem?_zip_eq_some.mp hb).1
        have hb2 : (vs.drop 1)[m]? = some b2 := (List.getElem?_zip_eq_some.mp hb).2
        have hv' : (acc.drop 1)[m]? = some v := hv
        rw [List.getElem?_drop] at hb2 hv'
        have d1 := (each_get hea hu hb1).tk ((sP.trans s3).trans sT).tk
        have d2 := (each_get hea hv' hb2).tk ((sP.trans s3).trans sT).tk
        refine gp2 (upd_same) ⟨rfl, yes_in ⟨_, rfl, _, rfl, .inl ⟨_, _, d1.dp, d2.dp, k1 rfl _ _ sT rfl⟩⟩⟩
      · intro H3 acc2 s3 ha2 he2
        rw [filter_true] at he2
        have hb2 := bls_map he2
        refine ⟨D2, _, rfl, sq_l (by rw [← hb2]; exact ha2), ?_⟩
        have hall : ((vs.zip (vs.drop 1)).map fun z => rowLt (z.1.1.map kOf) (z.2.1.map kOf)).all id = asc vs := by rw [asc_zip, List.all_map]; rfl
        rw [hall]
        have s13 : Same H1 H3 := s2.trans (sP.trans s3)
        refine ⟨_, rfl, _, i, rfl, by omega, fun hb => ?_, fun hb => ?_⟩
        · refine ⟨_, rfl, _, rfl, h2s, fun p2 hp2 => ?_⟩
          have sQ := same_new (o := HO.tup [.ref l, .int (j : Int)]) hp2
          refine q vs j p2 (.ref l) _ hij hj ?_ (s1.trans (s13.trans sQ)) upd_same (stn_bag.same (s13.trans sQ) st1)
          unfold rBag
          simp only [hrd]
          rw [if_pos hb]
        · refine qe ?_ H3 (s1.trans s13)
          unfold rBag
          simp only [hrd]
          rw [if_neg (by rw [hb]; exact Bool.false_ne_true)]
end
end KA
set_option Elab.async false
set_option linter.all false
set_option maxRecDepth 100000
set_option maxHeartbeats 4000000
/-! all_of, parse_.., read_change -/
namespace KA
open PySem PySem.Spec PyProof.Rows L2
open PySem.W (EachIs)
/-- a whole text, read or refused -/
def Whole {α : Type} (FE : Addr) (S : Hp → Hp → V → α → Prop) (wh : List Nat → Option α) (x : Str) (H : Hp) (Q : VK) (E : XK) : Prop := x.length ≤ 100000 ∧
  (∀ v tv H', wh x.cps.toList = some v → Same H H' → S H H' tv v → Q tv H') ∧ (wh x.cps.toList = none → ∀ H', Same H H' → E (.ref FE) none H')
def spAllOf {α : Type} (FE fI : Addr) (S : Hp → Hp → V → α → Prop) (rd : Rd1 α) : Sp := fun vs H Q E => ∃ x : Str, vs = [.str x, .ref fI] ∧ Whole FE S (whole rd) x H Q E
def spParse {α : Type} (FE : Addr) (S : Hp → Hp → V → α → Prop) (wh : List Nat → Option α) : Sp := fun vs H Q E => ∃ x : Str, vs = [.str x] ∧ Whole FE S wh x H Q E
section
variable {P : Program} {w : World} {K : PySem.W.Frag} {mg : Str → Option Value} {base : Heap} {f : Addr} {fd : FuncData} {FE fI : Addr} {fdI : FuncData}
theorem whole_some {α : Type} {rd : Rd1 α} {l : List Nat} {v : α} {j : Nat} (h : rd l = some (v, l.drop j)) (hj : j ≤ l.length) : whole rd l = if j = l.length then some v else none := by
  unfold whole
  rw [h]
  by_cases e : j = l.length
  · rw [if_pos e, e, List.drop_length]
  · rw [if_neg e]
    have : (l.drop j).length ≠ 0 := by rw [List.length_drop]; omega
    cases z : l.drop j with
    | nil => rw [z] at this; exact absurd rfl this
    | cons a t => rfl
theorem ok_all_of {α : Type} {S : Hp → Hp → V → α → Prop} {rd : Rd1 α} {k : Nat} (hk : 1 ≤ k) (stn : Stn S) (F : FnP K "all_of" s_all_of f fd) (CQ : CalX P w K mg base "require" 1 ["right", "at"] (spRequire FE)) (gL : mg "len" = none)
    (G : FnOk P w K mg base (L2.CX P w) k fI fdI ["text", "at"] (spRead FE S rd)) (kp : PySem.W.keepIn K (.ref fI) = true) (hb : Binds K fdI ["text", "at"] []) :
    FnOk P w K mg base (L2.CX P w) (k + 1) f fd ["text", "read_thing"] (spAllOf FE fI S rd) := by
  refine F.ok sc_all_of (fun vs H Q E h => ?_) (fun cdv A outer s H vs Q E hr h => ?_)
  · obtain ⟨x, rfl, _⟩ := h
    rfl
  · obtain ⟨x, rfl, hx, q, qe⟩ := h
    have nd := sc_all_of.nd
    refine ⟨_, pss_cons (ps_asg (pe_callL (i := 1) (E := E) G hr (by rfl) (.inl rfl) kp hb .nil (passes_call (W := fun c d _ H' => E c d H') (takes_of rfl rfl rfl rfl) fun _ _ _ _ z => z) (pa_cons (pv 0) (pa_cons pe_int pa_nil))) (pg_tup (by rfl) (pgs_cons (pg_name (i := 2) nd rfl (Or.inl rfl)) (pgs_cons (pg_name (i := 3) nd rfl (Or.inl rfl)) pgs_nil))))
      (pss_cons (ps_expr (pe_calX (E := E) CQ (hr.mono hk) (passes_call (W := fun c d _ H' => E c d H') (takes_of rfl rfl rfl rfl) fun _ _ _ _ z => z) (pa_cons (pe_cmpR op_eq (pv 3) (pe_callB call_len_str (by rfl) gL PySem.boot_len (pa_cons (pv 0) pa_nil)) (nomark _)) (pa_cons (pv 3) pa_nil))))
      (pss_one (ps_ret (pv 2)))), ?_⟩
    have hxl : x.length = x.cps.toList.length := rfl
    have hss : x.length ≤ sizeLine := by rw [sizeLine_eq]; omega
    refine ⟨rfl, _, rfl, x, 0, rfl, Nat.zero_le _, hx, fun v j t tv H1 hij hj hrd s1 h1 st1 => ?_, fun hn H' s' => qe (by unfold whole; rw [List.drop_zero] at hn; rw [hn]) H' s'⟩
    rw [List.drop_zero] at hrd
    have hw := whole_some hrd (by omega)
    refine ⟨t, _, rfl, sq_t h1, rfl, _, _, rfl, _, _, rfl, rfl, ?_⟩
    refine ⟨_, rfl, _, rfl, x, rfl, hss, rfl, _, rfl, _, j, rfl, by omega, fun hb => ?_, fun hb => ?_⟩
    · have e : j = x.length := by
        have hb' := of_decide_eq_true hb
        injection hb' with hb'
        omega
      rw [if_pos (by omega)] at hw
      exact ⟨_, rfl, q v tv H1 hw s1 st1⟩
    · have e : ¬ j = x.length := fun z => by
        have hb' := of_decide_eq_false hb
        exact hb' (by rw [z])
      rw [if_neg (by omega)] at hw
      exact qe hw H1 s1
abbrev ChgS : Hp → Hp → V → List NBag → Prop := ListS (NamedS BagS)
def rChange : Rd1 (List NBag) := fun s => rSeries semi (rNamed asc) (s.length + 1) s
theorem ok_read_change {k : Nat} (F : FnP K "read_change" s_read_change f fd) (CS : CalX P w K mg base "read_series" k ["text", "at", "separator", "read_item"] (spSeries FE fI "; " (NamedS BagS) (rNamed asc))) (gR : mg "read_named_bag" = some (.ref fI)) :
    FnOk P w K mg base (L2.CX P w) (k + 1) f fd ["text", "at"] (spRead FE ChgS rChange) := by
  refine F.ok sc_read_change (fun vs H Q E h => ?_) (fun cdv A outer s H vs Q E hr h => ?_)
  · obtain ⟨x, i, rfl, _⟩ := h
    rfl
  · obtain ⟨x, i, rfl, hi, hx, q, qe⟩ := h
    refine ⟨_, pss_one (ps_ret (pe_calX (E := E) CS hr (passes_call (W := fun c d _ H' => E c d H') (takes_of rfl rfl rfl rfl) fun _ _ _ _ z => z) (pa_cons (pv 0) (pa_cons (pv 1) (pa_cons pe_str (pa_cons (pe_glob (v := .ref fI) (by rfl) gR rfl) pa_nil)))))), ?_⟩
    have e : (Str.ofString "; ").cps.toList = semi := by decide +kernel
    refine ⟨_, rfl, _, rfl, x, i, rfl, hi, hx, fun v j t tv H' h1 h2 hrd => q v j t tv H' h1 h2 ?_, fun hn => qe ?_⟩
    · show rSeries semi _ _ _ = _
      rw [← e]
      exact hrd
    · show rSeries semi _ _ _ = _
      rw [← e]
      exact hn
theorem ok_parse_change {k : Nat} (F : FnP K "parse_change" s_parse_change f fd) (CA : CalX P w K mg base "all_of" k ["text", "read_thing"] (spAllOf FE fI ChgS rChange)) (gR : mg "read_change" = some (.ref fI)) :
    FnOk P w K mg base (L2.CX P w) (k + 1) f fd ["text"] (spParse FE ChgS (wChange asc)) := by
  refine F.ok sc_parse_change (fun vs H Q E h => ?_) (fun cdv A outer s H vs Q E hr h => ?_)
  · obtain ⟨x, rfl, _⟩ := h
    rfl
  · obtain ⟨x, rfl, hx, q, qe⟩ := h
    refine ⟨_, pss_cons (ps_if (pt_cmpR op_eq (pv 0) pe_str (nomark _)) (pss_one (ps_ret (pe_lst pa_nil))) pss_nil)
      (pss_one (ps_ret (pe_calX (E := E) CA hr (passes_call (W := fun c d _ H' => E c d H') (takes_of rfl rfl rfl rfl) fun _ _ _ _ z => z) (pa_cons (pv 0) (pa_cons (pe_glob (v := .ref fI) (by rfl) gR rfl) pa_nil))))), ?_⟩
    refine ⟨_, rfl, rfl, _, rfl, ?_⟩
    by_cases hx0 : x = Str.ofString ""
    · have ex : x.cps.toList = [] := by rw [hx0]; decide +kernel
      refine (if_pos (decide_eq_true (by rw [hx0]))).mpr ?_
      refine ⟨(by show 0 ≤ sizeLine; exact Nat.zero_le _), fun p hp => q [] _ _ ?_ (same_new hp) ⟨p, [], rfl, hp, upd_same, .nil⟩⟩
      unfold wChange
      rw [if_pos ex]
    · have ex : x.cps.toList ≠ [] := fun z => hx0 (by
        cases x with
        | mk c =>
          have : c = #[] := by simpa using z
          rw [this]
          decide +kernel)
      refine (if_neg (fun z => hx0 (by have := of_decide_eq_true z; injection this))).mpr ?_
      have ew : wChange asc x.cps.toList = whole rChange x.cps.toList := by
        unfold wChange
        rw [if_neg ex]
        rfl
      exact ⟨_, rfl, x, rfl, hx, fun v tv H' h => q v tv H' (by rw [ew]; exact h), fun h => qe (by rw [ew]; exact h)⟩
end
end KA
set_option Elab.async false
set_option linter.all false
set_option maxRecDepth 100000
set_option maxHeartbeats 4000000
/-! format_value, format_row, format_bag, format_change -/
namespace KA
open PySem PySem.Spec PyProof.Rows L2
open PySem.W (EachIs)
def vlOf : Key → Vl
  | .inl n => .i n
  | .inr z => .s z.cps.toList
theorem kOf_vlOf : ∀ k : Key, kOf (vlOf k) = k
  | .inl _ => rfl
  | .inr _ => rfl
theorem vlOf_kOf : ∀ v : Vl, vlOf (kOf v) = v
  | .i _ => rfl
  | .s _ => rfl
def vPair (e : Row × Int) : List Vl × Int := (e.1.map vlOf, e.2)
theorem kPair_vPair (e : Row × Int) : kPair (vPair e) = e := by
  unfold kPair vPair
  dsimp only
  rw [List.map_map, show kOf ∘ vlOf = id from funext kOf_vlOf, List.map_id]
theorem vPair_kPair (e : List Vl × Int) : vPair (kPair e) = e := by
  unfold kPair vPair
  dsimp only
  rw [List.map_map, show vlOf ∘ kOf = id from funext vlOf_kOf, List.map_id]
theorem app_cps (a b : Str) : (a ++ b).cps.toList = a.cps.toList ++ b.cps.toList := by
  show (a.cps ++ b.cps).toList = _
  rw [Array.toList_append]
/-! ### join -/
theorem joined_cons (sep a : List Nat) (t : List (List Nat)) : joined sep (a :: t) = a ++ (t.map fun b => sep ++ b).flatten := by
  induction t generalizing a with
  | nil => show a = a ++ []; rw [List.append_nil]
  | cons b t ih =>
    show a ++ (sep ++ joined sep (b :: t)) = _
    rw [ih b]
    simp
theorem foldl_join (g : Str) : ∀ (ps : List Str) (acc : Array Nat), (ps.foldl (fun acc p => acc ++ g.cps ++ p.cps) acc).toList = acc.toList ++ (ps.map fun p => g.cps.toList ++ p.cps.toList).flatten
  | [], acc => by simp
  | p :: ps, acc => by
    rw [List.foldl_cons, foldl_join g ps]
    simp
theorem join_cps (g : Str) (ys : List Str) : (Txt.join g ys).cps.toList = joined g.cps.toList (ys.map fun z => z.cps.toList) := by
  show ((ys.drop 1).foldl (fun acc p => acc ++ g.cps ++ p.cps) (ys.headD Str.empty).cps).toList = _
  rw [foldl_join]
  cases ys with
  | nil => rfl
  | cons y t =>
    rw [List.map_cons, joined_cons, List.map_map]
    rfl
theorem joined_sum (sep : List Nat) : ∀ ts : List (List Nat), (ts.map List.length).sum + ts.length * sep.length ≤ (joined sep ts).length + sep.length
  | [] => by simp
  | [a] => by simp [joined]
  | a :: b :: t => by
    have h := joined_sum sep (b :: t)
    have e : joined sep (a :: b :: t) = a ++ (sep ++ joined sep (b :: t)) := rfl
    rw [e, List.length_append, List.length_append, List.map_cons, List.sum_cons, List.length_cons (a := a), Nat.add_mul, Nat.one_mul]
    omega
theorem joined_mem {sep t : List Nat} : ∀ {ts : List (List Nat)}, t ∈ ts → t.length ≤ (joined sep ts).length
  | [a], h => by rw [List.mem_singleton.mp h]; exact Nat.le_refl _
  | a :: b :: ts, h => by
    have e : joined sep (a :: b :: ts) = a ++ (sep ++ joined sep (b :: ts)) := rfl
    rw [e, List.length_append, List.length_append]
    rcases List.mem_cons.mp h with z | z
    · rw [z]; omega
    · have := joined_mem (sep := sep) z
      omega
theorem strs_of {α : Type} {g : α → List Nat} : ∀ {acc : List V} {bs : List α}, EachIs (fun v b => ∃ z : Str, v = .str z ∧ z.cps.toList = g b) acc bs → ∃ ys : List Str, acc = ys.map V.str ∧ ys.map (fun z => z.cps.toList) = bs.map g
  | _, _, .nil => ⟨[], rfl, rfl⟩
  | _, _, .cons ⟨z, h, e⟩ t => by
    obtain ⟨ys, rfl, h2⟩ := strs_of t
    exact ⟨z :: ys, by rw [h]; rfl, by rw [List.map_cons, List.map_cons, h2, e]⟩
/-- the text that join gives, and that it may be made -/
theorem join_fits {g : Str} {ys : List Str} {α : Type} {f : α → List Nat} {bs : List α} (e : ys.map (fun z => z.cps.toList) = bs.map f) (hg : g.length ≤ 10) (hl : (joined g.cps.toList (bs.map f)).length ≤ 90000) : (ys.map (·.length)).sum + ys.length * g.length ≤ 16777216 ∧ (Txt.join g ys).cps.toList = joined g.cps.toList (bs.map f) := by
  have h := joined_sum g.cps.toList (ys.map fun z => z.cps.toList)
  rw [List.map_map, List.length_map] at h
  have h2 : (ys.map (List.length ∘ fun z : Str => z.cps.toList)).sum = (ys.map (·.length)).sum := rfl
  have h3 : g.cps.toList.length = g.length := rfl
  refine ⟨?_, by rw [join_cps, e]⟩
  rw [e, h3] at h
  omega
/-! ### what may be written -/
def smK : Key → Prop
  | .inl n => n.natAbs < 2 ^ 120
  | .inr _ => True
theorem log_fits {n : Int} (h : n.natAbs < 2 ^ 120) : n.natAbs.log2 < 1920 := by
  by_cases h0 : n.natAbs = 0
  · rw [h0]; decide
  · have := (Nat.log2_lt h0).mpr h
    omega
def tJoin (ts : List TE) : TE := fun σ H Q => tJs ts Str.empty σ H fun out H1 => Q (.str out) H1
theorem pe_joinD {X : Cx} {v1 v2 : Expr} {rest : List Expr} {ts : List TE} {pos : Pos} (h : PJ X (v1 :: v2 :: rest) ts) : PE X (.JoinedStr (v1 :: v2 :: rest) pos) (tJoin ts) := pe_joined h
section
variable {P : Program} {w : World} {K : PySem.W.Frag} {mg : Str → Option Value} {base : Heap} {f : Addr} {fd : FuncData}
def spFmtV : Sp := fun vs H Q _ => ∃ x : Key, vs = [kV x] ∧ smK x ∧ (fmtVl (vlOf x)).length ≤ 90000 ∧ ∀ z : Str, z.cps.toList = fmtVl (vlOf x) → Q (.str z) H
theorem ok_format_value (F : FnP K "format_value" s_format_value f fd) (gI : mg "isinstance" = none) (gS : mg "str" = none) : FnOk P w K mg base CX0 1 f fd ["value"] spFmtV := by
  refine F.ok sc_format_value (fun vs H Q E h => ?_) (fun cdv A outer s H vs Q E hr h => ?_)
  · obtain ⟨x, rfl, _⟩ := h
    rfl
  · obtain ⟨x, rfl, hs, hl, q⟩ := h
    refine ⟨_, PSs.nox (pss_one (ps_ret (pe_ifExp (pt_val (pe_callB call_isi (by rfl) gI (by decide +kernel) (pa_cons (pv 0) (pa_cons (pe_bltn (v := .ty "str") (by rfl) gS (by decide +kernel) rfl) pa_nil))))
      (pe_joined (.cons pe_str (.cons (pe_fmt (pv 0)) (.cons pe_str .nil)))) (pe_callTy call_str_int (by rfl) gS (by decide +kernel) (pa_cons (pv 0) pa_nil))))), ?_⟩
    cases x with
    | inl i =>
      refine ⟨_, rfl, _, _, .type "int", .type "str", false, rfl, .ty "str", .base (.int i), kit_ty (by decide +kernel), _, rfl, iteF ?_⟩
      exact ⟨_, rfl, i, rfl, log_fits hs, q _ (text_int i)⟩
    | inr z =>
      refine ⟨_, rfl, _, _, .type "str", .type "str", true, rfl, .ty "str", .base (.str z), kit_ty (by decide +kernel), _, rfl, iteT ?_⟩
      have eq : (Str.ofString "\"").cps.toList = [34] := by decide +kernel
      have lq : (Str.ofString "\"").length = 1 := by decide +kernel
      have l0 : Str.empty.length = 0 := rfl
      have hl' : z.length + 2 ≤ 90000 := by
        have : (fmtVl (vlOf (.inr z))).length = z.length + 2 := by
          show (34 :: (z.cps.toList ++ [34])).length = _
          rw [List.length_cons, List.length_append]
          rfl
        omega
      refine ⟨_, rfl, ?_, _, rfl, .inl ⟨z, rfl, ?_, _, rfl, ?_, _, rfl, ?_, q _ ?_⟩⟩
      · rw [Str.length_append, sizeLine_eq]; omega
      · rw [sizeLine_eq]; omega
      · rw [Str.length_append, Str.length_append, sizeLine_eq]; omega
      · rw [Str.length_append, Str.length_append, Str.length_append, sizeLine_eq]; omega
      · rw [app_cps, app_cps, app_cps, eq]
        rfl
def spFmtRow : Sp := fun vs H Q _ => ∃ (p : Addr) (r : Row), vs = [.ref p] ∧ RowAt H p r ∧ (∀ k ∈ r, smK k) ∧ (fmtRow (r.map vlOf)).length ≤ 90000 ∧ ∀ (z : Str) (H' : Hp), Same H H' → z.cps.toList = fmtRow (r.map vlOf) → Q (.str z) H'
theorem sep_comma : (Str.ofString ", ").cps.toList = comma ∧ (Str.ofString ", ").length = 2 := by decide +kernel
theorem rowF_parts {r : Row} (h : (fmtRow (r.map vlOf)).length ≤ 90000) : (joined comma (r.map fun k => fmtVl (vlOf k))).length + 2 ≤ 90000 ∧ r.length ≤ 90000 ∧ ∀ k ∈ r, (fmtVl (vlOf k)).length ≤ 90000 := by
  have e : (fmtRow (r.map vlOf)).length = (joined comma (r.map fun k => fmtVl (vlOf k))).length + 2 := by
    show (40 :: (joined comma ((r.map vlOf).map fmtVl) ++ [41])).length = _
    rw [List.length_cons, List.length_append, List.map_map]
    rfl
  have hj := joined_len comma (by decide) (r.map fun k => fmtVl (vlOf k))
  rw [List.length_map] at hj
  refine ⟨by omega, by omega, fun k hk => ?_⟩
  have := joined_mem (sep := comma) (List.mem_map_of_mem (f := fun k => fmtVl (vlOf k)) hk)
  omega
theorem ok_format_row (F : FnP K "format_row" s_format_row f fd) (CV : Cal P w K mg base "format_value" 1 ["value"] spFmtV) : FnOk P w K mg base CX0 2 f fd ["row"] spFmtRow := by
  refine F.ok sc_format_row (fun vs H Q E h => ?_) (fun cdv A outer s H vs Q E hr h => ?_)
  · obtain ⟨n, r, rfl, _⟩ := h
    rfl
  · obtain ⟨a, r, rfl, hq, hsm, hl, q⟩ := h
    obtain ⟨l1, l2, l3⟩ := rowF_parts hl
    refine ⟨_, PSs.nox (pss_one (ps_ret (pe_op op_add_str (pe_op op_add_str pe_str (pe_join pe_str (pe_lc (own := [("value", 1)]) (g := gName 1) (tt := tYes) (by rfl) sc_format_row.nd (pi_tup (pv 0))
      (blkOk_by (own := [("value", 1)]) (N := ["row", "value"]) (sc := defScope s_format_row) (by decide +kernel)) (fun _ _ _ _ _ => pg_name (i := 1) sc_format_row.nd rfl (Or.inl rfl)) (fun _ _ _ _ _ => pts_nil)
      (fun _ _ _ _ _ => pe_cal CV hr (pa_cons (pv 1) pa_nil))))) pe_str))), ?_⟩
    refine ⟨⟨_, rfl⟩, _, rfl, a, rfl, ⟨_, hq.sq⟩, fun D hD => ?_⟩
    refine lc_same (walk_tup (xs := r.map kV)) r (by rw [List.length_map]) (fun _ => true) (fun _ v k => ∃ z : Str, v = .str z ∧ z.cps.toList = fmtVl (vlOf k)) (fun _ _ _ _ _ z => z) hD (fun H' s' => (hq.mono s').sq) (by rw [List.length_map]; omega) ?_ ?_
    · rintro i x b H1 _ hi hb s1 ⟨rfl, hx⟩ Q' Qn h1 _
      obtain ⟨b', hb', rfl⟩ := map_at hx
      obtain rfl : b = b' := Option.some.inj (hb.symm.trans hb')
      have hm := List.mem_of_getElem? hb
      exact ⟨rfl, yes_in ⟨_, rfl, b, rfl, hsm b hm, l3 b hm, fun z hz => h1 rfl _ _ (Same.refl _) ⟨z, rfl, hz⟩⟩⟩
    · intro H1 acc s1 ha he
      rw [filter_true] at he
      obtain ⟨ys, rfl, hys⟩ := strs_of he
      obtain ⟨j1, j2⟩ := join_fits (g := Str.ofString ", ") hys (by rw [sep_comma.2]; decide) (by rw [sep_comma.1]; omega)
      rw [sep_comma.1] at j2
      have hjl : (Txt.join (Str.ofString ", ") ys).length + 2 ≤ 90000 := by
        show (Txt.join (Str.ofString ", ") ys).cps.toList.length + 2 ≤ 90000
        rw [j2]
        exact l1
      have e1 : (Str.ofString "(").cps.toList = [40] ∧ (Str.ofString "(").length = 1 := by decide +kernel
      have e2 : (Str.ofString ")").cps.toList = [41] ∧ (Str.ofString ")").length = 1 := by decide +kernel
      refine ⟨_, D, ys, rfl, rfl, .inl (sq_l ha), j1, _, _, rfl, rfl, ?_, _, _, rfl, rfl, ?_, q _ _ s1 ?_⟩
      · rw [e1.2, sizeLine_eq]; omega
      · rw [Str.length_append, e1.2, e2.2, sizeLine_eq]; omega
      · rw [app_cps, app_cps, e1.1, e2.1, j2]
        show _ = 40 :: (joined comma ((r.map vlOf).map fmtVl) ++ [41])
        rw [List.map_map]
        rfl
theorem pairs_parts {b : Bag} (h : (fmtBag (b.map vPair)).length ≤ 90000) : (joined comma (b.map fun e => fmtPair (vPair e))).length + 2 ≤ 90000 ∧ b.length ≤ 90000 ∧ ∀ e ∈ b, (fmtPair (vPair e)).length ≤ 90000 := by
  have e : (fmtBag (b.map vPair)).length = (joined comma (b.map fun e => fmtPair (vPair e))).length + 2 := by
    show (123 :: (joined comma ((b.map vPair).map fmtPair) ++ [125])).length = _
    rw [List.length_cons, List.length_append, List.map_map]
    rfl
  have hj := joined_len comma (by decide) (b.map fun e => fmtPair (vPair e))
  rw [List.length_map] at hj
  refine ⟨by omega, by omega, fun k hk => ?_⟩
  have := joined_mem (sep := comma) (List.mem_map_of_mem (f := fun e => fmtPair (vPair e)) hk)
  omega
def smE (e : Row × Int) : Prop := (∀ k ∈ e.1, smK k) ∧ e.2.natAbs < 2 ^ 120
def spFmtBag : Sp := fun vs H Q _ => ∃ (p : Addr) (b : Bag), vs = [.ref p] ∧ BagAt H p b ∧ (∀ e ∈ b, smE e) ∧ (fmtBag (b.map vPair)).length ≤ 90000 ∧ ∀ (z : Str) (H' : Hp), Same H H' → z.cps.toList = fmtBag (b.map vPair) → Q (.str z) H'
theorem pair_part {e : Row × Int} : (fmtPair (vPair e)).length = (fmtRow (e.1.map vlOf)).length + 2 + (fmtInt e.2).length := by
  show (fmtRow (e.1.map vlOf) ++ (58 :: 32 :: fmtInt e.2)).length = _
  rw [List.length_append, List.length_cons, List.length_cons]
  omega
theorem int_len (i : Int) : (Str.ofString (toString i)).length = (fmtInt i).length := by
  show (Str.ofString (toString i)).cps.toList.length = _
  rw [text_int]
theorem ok_format_bag (F : FnP K "format_bag" s_format_bag f fd) (CR : Cal P w K mg base "format_row" 2 ["row"] spFmtRow) : FnOk P w K mg base CX0 3 f fd ["bag"] spFmtBag := by
  refine F.ok sc_format_bag (fun vs H Q E h => ?_) (fun cdv A outer s H vs Q E hr h => ?_)
  · obtain ⟨n, r, rfl, _⟩ := h
    rfl
  · obtain ⟨a, b, rfl, hb, hsm, hl, q⟩ := h
    obtain ⟨l1, l2, l3⟩ := pairs_parts hl
    obtain ⟨ts, h1, h2⟩ := id hb
    have hn : b.length = ts.length := h2.length.symm
    refine ⟨_, PSs.nox (pss_one (ps_ret (pe_op op_add_str (pe_op op_add_str pe_str (pe_join pe_str (pe_lc (own := [("row", 1), ("count", 2)]) (g := gP2 K 1 2) (tt := tYes) (by rfl) sc_format_bag.nd (pi_list (pv 0))
      (blkOk_by (own := [("row", 1), ("count", 2)]) (N := ["bag", "row", "count"]) (sc := defScope s_format_bag) (by decide +kernel))
      (fun _ _ _ _ _ => pg_tup rfl (pgs_cons (pg_name (i := 1) sc_format_bag.nd rfl (Or.inl rfl)) (pgs_cons (pg_name (i := 2) sc_format_bag.nd rfl (Or.inl rfl)) pgs_nil))) (fun _ _ _ _ _ => pts_nil)
      (fun _ _ _ _ _ => pe_joinD (.cons (pe_fmt (pe_cal CR hr (pa_cons (pv 1) pa_nil))) (.cons pe_str (.cons (pe_fmt (pv 2)) .nil))))))) pe_str))), ?_⟩
    refine ⟨⟨_, rfl⟩, _, rfl, a, rfl, ⟨_, sq_l h1⟩, fun D hD => ?_⟩
    have e3 : (Str.ofString ": ").cps.toList = [58, 32] ∧ (Str.ofString ": ").length = 2 := by decide +kernel
    refine lc_same (walk_list (xs := ts.map V.ref)) b (by rw [List.length_map, hn]) (fun _ => true) (fun _ v e => ∃ z : Str, v = .str z ∧ z.cps.toList = fmtPair (vPair e)) (fun _ _ _ _ _ z => z) hD (fun H' s' => sq_l (s' _ _ h1)) (by rw [List.length_map]; omega) ?_ ?_
    · rintro i x e H1 _ hi he s1 ⟨rfl, hx⟩ Q' Qn k1 _
      obtain ⟨t, ht, rfl⟩ := ref_at hx
      obtain ⟨qa, p1, p2⟩ := (each_get h2 ht he).mono s1
      have hm := List.mem_of_getElem? he
      have hpl := l3 e hm
      rw [pair_part] at hpl
      refine gp2 p1 ⟨rfl, yes_in ⟨_, rfl, qa, e.1, rfl, p2, (hsm e hm).1, by omega, fun z H2 s2 hz => ?_⟩⟩
      have hzl : z.length = (fmtRow (e.1.map vlOf)).length := by
        show z.cps.toList.length = _
        rw [hz]
      have l0 : Str.empty.length = 0 := rfl
      have il := int_len e.2
      refine .inl ⟨z, rfl, by rw [sizeLine_eq]; omega, _, rfl, by rw [Str.length_append, sizeLine_eq]; omega, _, rfl, by rw [Str.length_append, Str.length_append, e3.2, sizeLine_eq]; omega, _, rfl, .inr ⟨_, rfl, log_fits (hsm e hm).2, _, rfl, by rw [Str.length_append, Str.length_append, Str.length_append, e3.2, sizeLine_eq]; omega, k1 rfl _ _ s2 ⟨_, rfl, ?_⟩⟩⟩
      rw [app_cps, app_cps, app_cps, e3.1, hz, text_int]
      show ([] ++ fmtRow (e.1.map vlOf) ++ [58, 32]) ++ fmtInt e.2 = fmtRow (e.1.map vlOf) ++ (58 :: 32 :: fmtInt e.2)
      simp
    · intro H1 acc s1 ha he
      rw [filter_true] at he
      obtain ⟨ys, rfl, hys⟩ := strs_of he
      obtain ⟨j1, j2⟩ := join_fits (g := Str.ofString ", ") hys (by rw [sep_comma.2]; decide) (by rw [sep_comma.1]; omega)
      rw [sep_comma.1] at j2
      have hjl : (Txt.join (Str.ofString ", ") ys).length + 2 ≤ 90000 := by
        show (Txt.join (Str.ofString ", ") ys).cps.toList.length + 2 ≤ 90000
        rw [j2]
        exact l1
      have e1 : (Str.ofString "{").cps.toList = [123] ∧ (Str.ofString "{").length = 1 := by decide +kernel
      have e2 : (Str.ofString "}").cps.toList = [125] ∧ (Str.ofString "}").length = 1 := by decide +kernel
      refine ⟨_, D, ys, rfl, rfl, .inl (sq_l ha), j1, _, _, rfl, rfl, ?_, _, _, rfl, rfl, ?_, q _ _ s1 ?_⟩
      · rw [e1.2, sizeLine_eq]; omega
      · rw [Str.length_append, e1.2, e2.2, sizeLine_eq]; omega
      · rw [app_cps, app_cps, e1.1, e2.1, j2]
        show _ = 123 :: (joined comma ((b.map vPair).map fmtPair) ++ [125])
        rw [List.map_map]
        rfl
/-- a change of the inputs: names with bags -/
abbrev Chg := List (Str × Bag)
def NamedAt (H : Hp) (t : Addr) (e : Str × Bag) : Prop := ∃ l, H t = some (.tup [.str e.1, .ref l]) ∧ BagAt H l e.2
def ChgAt (H : Hp) (p : Addr) (c : Chg) : Prop := ∃ ts : List Addr, H p = some (.lst (ts.map V.ref)) ∧ EachIs (NamedAt H) ts c
theorem NamedAt.mono {H H' : Hp} (s : Same H H') {t : Addr} {e : Str × Bag} (h : NamedAt H t e) : NamedAt H' t e := by
  obtain ⟨l, h1, h2⟩ := h
  exact ⟨l, s _ _ h1, h2.mono s⟩
theorem ChgAt.mono {H H' : Hp} (s : Same H H') {p : Addr} {c : Chg} (h : ChgAt H p c) : ChgAt H' p c := by
  obtain ⟨ts, h1, h2⟩ := h
  exact ⟨ts, s _ _ h1, h2.mono fun _ _ z => z.mono s⟩
def vNamed (e : Str × Bag) : NBag := (e.1.cps.toList, e.2.map vPair)
def spFmtChg : Sp := fun vs H Q _ => ∃ (p : Addr) (c : Chg), vs = [.ref p] ∧ ChgAt H p c ∧ (∀ n ∈ c, ∀ e ∈ n.2, smE e) ∧ (fmtChange (c.map vNamed)).length ≤ 90000 ∧ ∀ (z : Str) (H' : Hp), Same H H' → z.cps.toList = fmtChange (c.map vNamed) → Q (.str z) H'
theorem sep_semi : (Str.ofString "; ").cps.toList = semi ∧ (Str.ofString "; ").length = 2 := by decide +kernel
theorem named_part {e : Str × Bag} : (fmtNamed (vNamed e)).length = e.1.length + 1 + (fmtBag (e.2.map vPair)).length := by
  show (e.1.cps.toList ++ (32 :: fmtBag (e.2.map vPair))).length = _
  rw [List.length_append, List.length_cons]
  show e.1.length + _ = _
  omega
theorem chg_parts {c : Chg} (h : (fmtChange (c.map vNamed)).length ≤ 90000) : (joined semi (c.map fun e => fmtNamed (vNamed e))).length ≤ 90000 ∧ c.length ≤ 90001 ∧ ∀ e ∈ c, (fmtNamed (vNamed e)).length ≤ 90000 := by
  have e : (fmtChange (c.map vNamed)).length = (joined semi (c.map fun e => fmtNamed (vNamed e))).length := by
    show (joined semi ((c.map vNamed).map fmtNamed)).length = _
    rw [List.map_map]
    rfl
  have hj := joined_len semi (by decide) (c.map fun e => fmtNamed (vNamed e))
  rw [List.length_map] at hj
  refine ⟨by omega, by omega, fun k hk => ?_⟩
  have := joined_mem (sep := semi) (List.mem_map_of_mem (f := fun e => fmtNamed (vNamed e)) hk)
  omega
theorem ok_format_change (F : FnP K "format_change" s_format_change f fd) (CB : Cal P w K mg base "format_bag" 3 ["bag"] spFmtBag) : FnOk P w K mg base CX0 4 f fd ["change"] spFmtChg := by
  refine F.ok sc_format_change (fun vs H Q E h => ?_) (fun cdv A outer s H vs Q E hr h => ?_)
  · obtain ⟨n, r, rfl, _⟩ := h
    rfl
  · obtain ⟨a, c, rfl, hb, hsm, hl, q⟩ := h
    obtain ⟨l1, l2, l3⟩ := chg_parts hl
    obtain ⟨ts, h1, h2⟩ := id hb
    have hn : c.length = ts.length := h2.length.symm
    refine ⟨_, PSs.nox (pss_one (ps_ret (pe_join pe_str (pe_lc (own := [("name", 1), ("bag", 2)]) (g := gP2 K 1 2) (tt := tYes) (by rfl) sc_format_change.nd (pi_list (pv 0))
      (blkOk_by (own := [("name", 1), ("bag", 2)]) (N := ["change", "name", "bag"]) (sc := defScope s_format_change) (by decide +kernel))
      (fun _ _ _ _ _ => pg_tup rfl (pgs_cons (pg_name (i := 1) sc_format_change.nd rfl (Or.inl rfl)) (pgs_cons (pg_name (i := 2) sc_format_change.nd rfl (Or.inl rfl)) pgs_nil))) (fun _ _ _ _ _ => pts_nil)
      (fun _ _ _ _ _ => pe_joinD (.cons (pe_fmt (pv 1)) (.cons pe_str (.cons (pe_fmt (pe_cal CB hr (pa_cons (pv 2) pa_nil))) .nil)))))))), ?_⟩
    refine ⟨⟨_, rfl⟩, _, rfl, a, rfl, ⟨_, sq_l h1⟩, fun D hD => ?_⟩
    have e3 : (Str.ofString " ").cps.toList = [32] ∧ (Str.ofString " ").length = 1 := by decide +kernel
    refine lc_same (walk_list (xs := ts.map V.ref)) c (by rw [List.length_map, hn]) (fun _ => true) (fun _ v e => ∃ z : Str, v = .str z ∧ z.cps.toList = fmtNamed (vNamed e)) (fun _ _ _ _ _ z => z) hD (fun H' s' => sq_l (s' _ _ h1)) (by rw [List.length_map]; omega) ?_ ?_
    · rintro i x e H1 _ hi he s1 ⟨rfl, hx⟩ Q' Qn k1 _
      obtain ⟨t, ht, rfl⟩ := ref_at hx
      obtain ⟨qa, p1, p2⟩ := (each_get h2 ht he).mono s1
      have hm := List.mem_of_getElem? he
      have hpl := l3 e hm
      rw [named_part] at hpl
      have l0 : Str.empty.length = 0 := rfl
      refine gp2 p1 ⟨rfl, yes_in ⟨_, rfl, .inl ⟨e.1, rfl, by rw [sizeLine_eq]; omega, _, rfl, by rw [Str.length_append, sizeLine_eq]; omega, _, rfl, by rw [Str.length_append, Str.length_append, e3.2, sizeLine_eq]; omega, _, rfl, qa, e.2, rfl, p2, hsm e hm, by omega, fun z H2 s2 hz => ?_⟩⟩⟩
      have hzl : z.length = (fmtBag (e.2.map vPair)).length := by
        show z.cps.toList.length = _
        rw [hz]
      refine .inl ⟨z, rfl, by rw [sizeLine_eq]; omega, _, rfl, by rw [Str.length_append, Str.length_append, Str.length_append, e3.2, sizeLine_eq]; omega, k1 rfl _ _ s2 ⟨_, rfl, ?_⟩⟩
      rw [app_cps, app_cps, app_cps, e3.1, hz]
      show ([] ++ e.1.cps.toList ++ [32]) ++ fmtBag (e.2.map vPair) = e.1.cps.toList ++ (32 :: fmtBag (e.2.map vPair))
      simp
    · intro H1 acc s1 ha he
      rw [filter_true] at he
      obtain ⟨ys, rfl, hys⟩ := strs_of he
      obtain ⟨j1, j2⟩ := join_fits (g := Str.ofString "; ") hys (by rw [sep_semi.2]; decide) (by rw [sep_semi.1]; omega)
      rw [sep_semi.1] at j2
      refine ⟨_, D, ys, rfl, rfl, .inl (sq_l ha), j1, q _ _ s1 ?_⟩
      rw [j2]
      show _ = joined semi ((c.map vNamed).map fmtNamed)
      rw [List.map_map]
      rfl
end
end KA
set_option linter.all false
set_option maxRecDepth 100000
set_option maxHeartbeats 4000000
/-! records of a disk: their mathematics -/
namespace KA
open L2
def chk (d : List Nat) : Nat := d.foldl (fun n b => (n * 31 + b) % 4294967291) 1
def be2 (n : Nat) : List Nat := [n / 256 % 256, n % 256]
def be4 (n : Nat) : List Nat := [n / 16777216 % 256, n / 65536 % 256, n / 256 % 256, n % 256]
def recd (s : List Nat) : List Nat := be2 s.length ++ s ++ be4 (chk (be2 s.length ++ s))
/-- the content at the head of a rest, and what is behind its record -/
def contS : List Nat → Option (List Nat × List Nat)
  | a :: b :: t => if (t.drop (a * 256 + b)).take 4 = be4 (chk (a :: b :: t.take (a * 256 + b))) then some (t.take (a * 256 + b), t.drop (a * 256 + b + 4)) else none
  | _ => none
def inChars (c : Nat) : Bool := decide (32 ≤ c) && (decide (c ≤ 126) && decide (c ≠ 37))
def chgOf (c : List Nat) : Option (List NBag) := if c.all inChars = true then wChange asc c else none
def rdAll : Nat → List Nat → List (List NBag) × List Nat
  | 0, s => ([], s)
  | k + 1, s => match contS s with
    | none => ([], s)
    | some (c, r) => match chgOf c with
      | none => ([], s)
      | some v => (v :: (rdAll k r).1, (rdAll k r).2)
theorem contS2 (a b : Nat) (t : List Nat) : contS (a :: b :: t) = if (t.drop (a * 256 + b)).take 4 = be4 (chk (a :: b :: t.take (a * 256 + b))) then some (t.take (a * 256 + b), t.drop (a * 256 + b + 4)) else none := rfl
theorem contS_some {s c r : List Nat} (h : contS s = some (c, r)) : ∃ a b, s = a :: b :: (c ++ (be4 (chk (a :: b :: c)) ++ r)) ∧ c.length = a * 256 + b := by
  match s, h with
  | a :: b :: t, h =>
    rw [contS2] at h
    split at h
    · rename_i hb
      have h' := Option.some.inj h
      injection h' with h1 h2
      subst h1 h2
      have hl := congrArg List.length hb
      rw [List.length_take, List.length_drop] at hl
      have hl4 : (be4 (chk (a :: b :: t.take (a * 256 + b)))).length = 4 := rfl
      rw [hl4] at hl
      refine ⟨a, b, ?_, by rw [List.length_take]; omega⟩
      have e1 : t.drop (a * 256 + b + 4) = (t.drop (a * 256 + b)).drop 4 := by rw [List.drop_drop]
      rw [← hb, e1, List.take_append_drop, List.take_append_drop]
    · cases h
theorem contS_app (a b : Nat) (c r : List Nat) (h : c.length = a * 256 + b) : contS (a :: b :: (c ++ (be4 (chk (a :: b :: c)) ++ r))) = some (c, r) := by
  rw [contS2]
  have e1 : (c ++ (be4 (chk (a :: b :: c)) ++ r)).take (a * 256 + b) = c := by rw [← h, List.take_left]
  have e2 : (c ++ (be4 (chk (a :: b :: c)) ++ r)).drop (a * 256 + b) = be4 (chk (a :: b :: c)) ++ r := by rw [← h, List.drop_left]
  have e3 : (c ++ (be4 (chk (a :: b :: c)) ++ r)).drop (a * 256 + b + 4) = r := by
    rw [← List.drop_drop, e2]
    rfl
  rw [e1, e2, e3]
  exact if_pos rfl
theorem contS_len {s c r : List Nat} (h : contS s = some (c, r)) : s.length = c.length + 6 + r.length := by
  obtain ⟨a, b, e, _⟩ := contS_some h
  rw [e]
  simp [be4]
  omega
theorem recd_eq (s : List Nat) : recd s = (s.length / 256 % 256) :: (s.length % 256) :: (s ++ be4 (chk ((s.length / 256 % 256) :: (s.length % 256) :: s))) := rfl
theorem recd_len (s : List Nat) : (recd s).length = s.length + 6 := by
  rw [recd_eq]
  simp [be4]
theorem contS_recd {s r : List Nat} (h : s.length ≤ 65535) : contS (recd s ++ r) = some (s, r) := by
  have e : recd s ++ r = (s.length / 256 % 256) :: (s.length % 256) :: (s ++ (be4 (chk ((s.length / 256 % 256) :: (s.length % 256) :: s)) ++ r)) := by
    rw [recd_eq]
    simp
  rw [e]
  exact contS_app _ _ s r (by omega)
/-- a record is its content's, where all are bytes -/
theorem contS_bytes {s c r : List Nat} (h : contS s = some (c, r)) (hb : ∀ x ∈ s, x < 256) : s = recd c ++ r ∧ c.length ≤ 65535 := by
  obtain ⟨a, b, e, hl⟩ := contS_some h
  have ha : a < 256 := hb a (by rw [e]; simp)
  have hb' : b < 256 := hb b (by rw [e]; simp)
  have e1 : c.length / 256 % 256 = a := by omega
  have e2 : c.length % 256 = b := by omega
  refine ⟨?_, by omega⟩
  rw [recd_eq, e1, e2, e]
  simp
/-! ### how many records are read -/
theorem rdAll_le : ∀ (k : Nat) (s : List Nat), (rdAll k s).1.length * 6 + (rdAll k s).2.length ≤ s.length
  | 0, s => by simp [rdAll]
  | k + 1, s => by
    unfold rdAll
    split
    · simp
    · rename_i c r h
      have hl := contS_len h
      split
      · simp
      · have := rdAll_le k r
        simp only [List.length_cons]
        omega
theorem rdAll_more : ∀ (k m : Nat) (s : List Nat), (rdAll k s).1.length < k → k ≤ m → rdAll m s = rdAll k s
  | 0, m, s, h, _ => absurd h (Nat.not_lt_zero _)
  | k + 1, 0, s, _, h => absurd h (by omega)
  | k + 1, m + 1, s, h, hm => by
    unfold rdAll at h ⊢
    split
    · rfl
    · rename_i c r hc
      split
      · rfl
      · rename_i v hv
        simp only [hc, hv, List.length_cons] at h
        rw [rdAll_more k m r (by omega) (by omega)]
/-- all records of a disk -/
def rdD (s : List Nat) : List (List NBag) × List Nat := rdAll (s.length + 1) s
theorem rdD_len (s : List Nat) : (rdD s).1.length * 6 + (rdD s).2.length ≤ s.length := rdAll_le _ _
theorem rdAll_rdD {k : Nat} {s : List Nat} (h : (rdD s).1.length < k) : rdAll k s = rdD s := by
  have h1 := rdD_len s
  by_cases hk : k ≤ s.length + 1
  · have h2 : (rdAll k s).1.length < k := by
      -- the shorter reading reads no more
      have mono : ∀ (k m : Nat) (s : List Nat), k ≤ m → (rdAll k s).1.length ≤ (rdAll m s).1.length := by
        intro k
        induction k with
        | zero => intro m s _; simp [rdAll]
        | succ k ih =>
          intro m s hm
          obtain ⟨m', rfl⟩ : ∃ m', m = m' + 1 := ⟨m - 1, by omega⟩
          unfold rdAll
          split
          · simp
          · rename_i c r hc
            split
            · simp
            · simp only [List.length_cons]
              have := ih m' r (show k ≤ m' by omega)
              omega
      exact Nat.lt_of_le_of_lt (mono k (s.length + 1) s hk) h
    exact (rdAll_more k (s.length + 1) s h2 hk).symm
  · exact rdAll_more (s.length + 1) k s (by unfold rdD at h1; omega) (by omega)
theorem rdD_step (s : List Nat) : rdD s = match contS s with
    | none => ([], s)
    | some (c, r) => match chgOf c with
      | none => ([], s)
      | some v => (v :: (rdD r).1, (rdD r).2) := by
  conv => lhs; unfold rdD rdAll
  cases h : contS s with
  | none => rfl
  | some p =>
    obtain ⟨c, r⟩ := p
    dsimp only
    cases hv : chgOf c with
    | none => rfl
    | some v =>
      dsimp only
      have hl := contS_len h
      have h1 := rdD_len r
      rw [rdAll_rdD (k := s.length) (s := r) (by omega)]
def cnt (s : List Nat) : Nat := (rdD s).1.length
theorem cnt_le (s : List Nat) : cnt s ≤ s.length := by
  have := rdD_len s
  unfold cnt
  omega
theorem cnt_step {s c r : List Nat} (h : contS s = some (c, r)) : cnt s = match chgOf c with
    | none => 0
    | some _ => 1 + cnt r := by
  unfold cnt
  rw [rdD_step, h]
  dsimp only
  cases chgOf c with
  | none => rfl
  | some v => simp only [List.length_cons]; omega
/-- a cut and what is put behind it -/
theorem cnt_cut (j : List Nat) : ∀ (m : Nat) (d : List Nat) (k : Nat), d.length ≤ m → cnt (d.take k ++ j) ≤ cnt d + 1 + j.length := by
  intro m
  induction m with
  | zero =>
    intro d k hm
    have hd : d = [] := List.length_eq_zero_iff.mp (by omega)
    subst hd
    rw [List.take_nil, List.nil_append]
    have := cnt_le j
    omega
  | succ m ih =>
    intro d k hm
    cases hs : contS (d.take k ++ j) with
    | none =>
      have : cnt (d.take k ++ j) = 0 := by
        unfold cnt
        rw [rdD_step, hs]
        rfl
      omega
    | some p =>
      obtain ⟨c, r⟩ := p
      obtain ⟨a, b, e, hl⟩ := contS_some hs
      have hlen := contS_len hs
      rw [List.length_append] at hlen
      by_cases hp : c.length + 6 ≤ (d.take k).length
      · -- the record lies within the cut
        have hr : r = (d.take k).drop (c.length + 6) ++ j := by
          have e2 : (d.take k ++ j).drop (c.length + 6) = r := by
            rw [e]
            have e3 : a :: b :: (c ++ (be4 (chk (a :: b :: c)) ++ r)) = (a :: b :: (c ++ be4 (chk (a :: b :: c)))) ++ r := by simp
            rw [e3]
            have e4 : (a :: b :: (c ++ be4 (chk (a :: b :: c)))).length = c.length + 6 := by simp [be4]
            rw [← e4, List.drop_left]
          rw [← e2, List.drop_append_of_le_length hp]
        have hd : d = a :: b :: (c ++ (be4 (chk (a :: b :: c)) ++ d.drop (c.length + 6))) := by
          have e2 : (d.take k ++ j).take (c.length + 6) = a :: b :: (c ++ be4 (chk (a :: b :: c))) := by
            rw [e]
            have e3 : a :: b :: (c ++ (be4 (chk (a :: b :: c)) ++ r)) = (a :: b :: (c ++ be4 (chk (a :: b :: c)))) ++ r := by simp
            rw [e3]
            have e4 : (a :: b :: (c ++ be4 (chk (a :: b :: c)))).length = c.length + 6 := by simp [be4]
            rw [← e4, List.take_left]
          rw [List.take_append_of_le_length hp, List.take_take] at e2
          have hk : min (c.length + 6) k = c.length + 6 := by
            rw [List.length_take] at hp
            omega
          rw [hk] at e2
          have e5 := List.take_append_drop (c.length + 6) d
          rw [e2] at e5
          rw [← e5]
          simp [be4]
        have hcd : contS d = some (c, d.drop (c.length + 6)) := by
          rw [hd]
          have := contS_app a b c (d.drop (c.length + 6)) hl
          rw [this]
          congr 2
          rw [← hd]
        have h1 := cnt_step hs
        have h2 := cnt_step hcd
        cases hv : chgOf c with
        | none =>
          rw [hv] at h1
          have h1' : cnt (d.take k ++ j) = 0 := h1
          omega
        | some v =>
          rw [hv] at h1 h2
          have h1' : cnt (d.take k ++ j) = 1 + cnt r := h1
          have h2' : cnt d = 1 + cnt (d.drop (c.length + 6)) := h2
          have hr2 : r = (d.drop (c.length + 6)).take (k - (c.length + 6)) ++ j := by
            rw [hr, List.drop_take]
          have hdl := contS_len hcd
          have h3 := ih (d.drop (c.length + 6)) (k - (c.length + 6)) (by omega)
          rw [← hr2] at h3
          omega
      · have h1 := cnt_step hs
        have h2 := cnt_le r
        cases hv : chgOf c with
        | none =>
          rw [hv] at h1
          have h1' : cnt (d.take k ++ j) = 0 := h1
          omega
        | some v =>
          rw [hv] at h1
          have h1' : cnt (d.take k ++ j) = 1 + cnt r := h1
          omega
end KA
set_option Elab.async false
set_option linter.all false
set_option maxRecDepth 100000
set_option maxHeartbeats 4000000
/-! in_bytes, check_number, encode_change -/
namespace KA
open PySem PySem.Spec PyProof.Rows L2
open PySem.W (EachIs)
/-- bytes, or any numbers, as a list -/
def bV (d : List Nat) : List V := d.map fun n : Nat => V.int (n : Int)
theorem bV_at {d : List Nat} {i : Nat} {v : V} (h : (bV d)[i]? = some v) : ∃ n, d[i]? = some n ∧ v = .int (n : Int) := by
  obtain ⟨n, h1, h2⟩ := map_at (f := fun n : Nat => V.int (n : Int)) h
  exact ⟨n, h1, h2⟩
theorem bV_len (d : List Nat) : (bV d).length = d.length := List.length_map _
theorem ints_of {α : Type} {g : α → Nat} : ∀ {acc : List V} {bs : List α}, EachIs (fun v b => v = V.int (g b : Int)) acc bs → acc = bV (bs.map g)
  | _, _, .nil => rfl
  | _, _, .cons h t => by
    rw [h, ints_of t]
    rfl
/-- the classes of the errors that are raised with a text -/
theorem shr_nat (n s : Nat) : (n : Int) / 2 ^ ((s : Int).toNat) = ((n / 2 ^ s : Nat) : Int) := by
  rw [Int.toNat_natCast]
  norm_cast
theorem and255 (n : Nat) : Builtin.bitAnd (n : Int) 255 = ((n % 256 : Nat) : Int) := by
  have h := Bits.bitAnd_mask (x := (n : Int)) 8 (by omega)
  have e : ((2 : Int) ^ 8 - 1) = 255 := by decide
  rw [e] at h
  rw [h]
  norm_cast
section
variable {P : Program} {w : World} {K : PySem.W.Frag} {mg : Str → Option Value} {base : Heap} {f : Addr} {fd : FuncData}
/-- the module's tuple x of numbers -/
def TupC (K : PySem.W.Frag) (mg : Str → Option Value) (x : Str) (ss : List Nat) : Prop := ∃ a, mg x = some (.ref a) ∧ ∀ H, SqT K H a (bV ss)
def spInBytes (K : PySem.W.Frag) : Sp := fun vs H Q _ => ∃ (n : Nat) (a : Addr) (ss : List Nat), vs = [.int n, .ref a] ∧ (∀ H, SqT K H a (bV ss)) ∧ ss.length ≤ 10 ∧ ∀ l H', Same H H' → H l = none → H' l = some (.lst (bV (ss.map fun s => n / 2 ^ s % 256))) → Q (.ref l) H'
theorem ok_in_bytes (F : FnP K "in_bytes" s_in_bytes f fd) : FnOk P w K mg base CX0 1 f fd ["number", "shifts"] (spInBytes K) := by
  refine F.ok sc_in_bytes (fun vs H Q E h => ?_) (fun cdv A outer s H vs Q E hr h => ?_)
  · obtain ⟨n, a, ss, rfl, _⟩ := h
    rfl
  · obtain ⟨n, a, ss, rfl, hS, hl, q⟩ := h
    have nd := sc_in_bytes.nd
    refine ⟨_, PSs.nox (pss_one (ps_ret (pe_lc (own := [("shift", 2)]) (g := gName 2) (tt := tYes) (by rfl) nd (pi_tup (pv 1)) (blkOk_by (own := [("shift", 2)]) (N := ["number", "shifts", "shift"]) (sc := defScope s_in_bytes) (by decide +kernel)) (fun _ _ _ _ _ => pg_name (i := 2) nd rfl (Or.inl rfl)) (fun _ _ _ _ _ => pts_nil)
      (fun _ _ _ _ _ => pe_op op_and (pe_op op_shr (pv 0) (pv 2)) pe_int)))), ?_⟩
    refine ⟨_, rfl, a, rfl, ⟨_, hS H⟩, fun D hD => ?_⟩
    refine lc_same (walk_tup (xs := bV ss)) ss (by rw [bV_len]) (fun _ => true) (fun _ v s => v = .int ((n / 2 ^ s % 256 : Nat) : Int)) (fun _ _ _ _ _ z => z) hD (fun H' _ => hS H') (by rw [bV_len]; omega) ?_ ?_
    · rintro i x b H1 _ hi hb s1 ⟨rfl, hx⟩ Q' Qn k1 _
      obtain ⟨b', hb', rfl⟩ := bV_at hx
      obtain rfl : b = b' := Option.some.inj (hb.symm.trans hb')
      refine ⟨rfl, yes_in ⟨_, rfl, _, rfl, _, _, rfl, rfl, by omega, _, _, rfl, rfl, k1 rfl _ _ (Same.refl _) ?_⟩⟩
      rw [shr_nat]
      show V.int (Builtin.bitAnd ((n / 2 ^ b : Nat) : Int) 255) = _
      rw [and255]
    · intro H1 acc s1 ha he
      rw [filter_true] at he
      rw [ints_of (g := fun s => n / 2 ^ s % 256) he] at ha
      exact q D H1 s1 hD ha
def spCheck (K : PySem.W.Frag) : Sp := fun vs H Q _ => ∃ (a : Addr) (d : List Nat), vs = [.ref a] ∧ SqL K H a (bV d) ∧ (∀ x ∈ d, x < 2 ^ 40) ∧ Q (.int (chk d : Int)) H
theorem chk_snoc (d : List Nat) (b : Nat) : chk (d ++ [b]) = (chk d * 31 + b) % 4294967291 := by
  unfold chk
  rw [List.foldl_append]
  rfl
theorem chk_lt : ∀ d : List Nat, chk d < 4294967291 := fun d => by
  rcases List.eq_nil_or_concat d with rfl | ⟨e, b, rfl⟩
  · decide
  · rw [List.concat_eq_append, chk_snoc]
    exact Nat.mod_lt _ (by decide)
theorem ok_check_number (F : FnP K "check_number" s_check_number f fd) {tM : Tok} (gM : mg "MODULUS" = some (.int 4294967291 tM)) : FnOk P w K mg base CX0 1 f fd ["data"] (spCheck K) := by
  refine F.ok sc_check_number (fun vs H Q E h => ?_) (fun cdv A outer s H vs Q E hr h => ?_)
  · obtain ⟨a, d, rfl, _⟩ := h
    rfl
  · obtain ⟨a, d, rfl, hS, hd, q⟩ := h
    have nd := sc_check_number.nd
    refine ⟨_, PSs.nox (pss_cons (ps_set (i := 1) nd rfl (Or.inl rfl) pe_int)
      (pss_cons (ps_for PassesOwn.never rfl (pi_list (pv 0)) (pg_name (i := 2) nd rfl (Or.inl rfl)) (pss_one (ps_set (i := 1) nd rfl (Or.inl rfl) (pe_op op_mod (pe_op op_add (pe_op op_mul (pv 1) pe_int) (pv 2)) (pe_glob (v := .int 4294967291) rfl gM ⟨_, rfl⟩)))))
      (pss_one (ps_ret (pv 1))))), ?_⟩
    refine ⟨_, rfl, a, rfl, ⟨_, hS⟩, for_it (walk_list (xs := bV d)) (fun i σ G => G = H ∧ ∃ v, σ = [some (.ref a), some (.int (chk (d.take i) : Int)), v]) ⟨rfl, none, rfl⟩ (fun i σ G _ z => by rw [z.1]; exact hS) ?_ ?_⟩
    · rintro i x σ _ G hi ⟨rfl, v, rfl⟩ ⟨rfl, hx⟩
      obtain ⟨b, hb, rfl⟩ := bV_at hx
      have hc := chk_lt (d.take i)
      have hb40 := hd b (List.mem_of_getElem? hb)
      refine ⟨_, rfl, _, _, rfl, rfl, .inl ⟨by omega, by omega⟩, _, rfl, _, _, rfl, rfl, _, _, rfl, rfl, (by show (0 : Int) < 4294967291; decide), ?_⟩
      refine ⟨rfl, some (V.int (b : Int)), ?_⟩
      have et : d.take (i + 1) = d.take i ++ [b] := by rw [List.take_add_one, hb]; rfl
      rw [et, chk_snoc]
      have ec : ((chk (d.take i) : Int) * 31 + (b : Int)) % 4294967291 = (((chk (d.take i) * 31 + b) % 4294967291 : Nat) : Int) := by
        generalize chk (d.take i) = c
        omega
      rw [← ec]
      rfl
    · rintro σ G ⟨rfl, v, rfl⟩
      rw [bV_len, List.take_length]
      exact ⟨_, rfl, q⟩
end
end KA
set_option Elab.async false
set_option linter.all false
set_option maxRecDepth 100000
set_option maxHeartbeats 4000000
/-! encode_change, content_at -/
namespace KA
open PySem PySem.Spec PyProof.Rows L2
open PySem.W (EachIs)
/-- the class SizeError -/
structure SizeC (K : PySem.W.Frag) (mg : Str → Option Value) (SE : Addr) : Prop where
  gF : mg "SizeError" = some (.ref SE)
  xF : PySem.W.excIn K SE [.type "ValueError", .type "Exception", .type "BaseException", .type "object"] "ValueError.__new__" = true
  kF : PySem.W.keepIn K (.ref SE) = true
  bF : PySem.W.subIn K (.ref SE) (.type "BaseException") = true
  tF : PySem.W.typeIn K (.ref SE) = some (.type "type")
/-! ### data: lists of numbers -/
def bD (d : List Nat) : PyData := .list (d.map fun n : Nat => .int (n : Int))
theorem dp_bytes {K : PySem.W.Frag} {H : Hp} {a : Addr} {d : List Nat} (h : SqL K H a (bV d)) : Dp K H (.ref a) (bD d) := by
  refine .lst h ?_
  clear h
  induction d with
  | nil => exact .nil
  | cons n t ih => exact .cons (.int _) ih
theorem bytes_plain (d : List Nat) : (bD d).plain = true := by
  unfold bD
  simp only [PyData.plain]
  induction d with
  | nil => simp [PyData.plainAll]
  | cons e t ih => simp [PyData.plainAll, PyData.plain, ih]
theorem bytes_depth (d : List Nat) : (bD d).depth ≤ 1 := by
  have key : PyData.depthAll (d.map fun n : Nat => PyData.int (n : Int)) ≤ 0 := by
    induction d with
    | nil => simp [PyData.depthAll]
    | cons e t ih =>
      simp only [List.map_cons, PyData.depthAll, PyData.depth]
      omega
  simp only [bD, PyData.depth]
  omega
theorem eqv_bytes (d e : List Nat) : PyData.eqv (bD d) (bD e) = decide (d = e) := by
  by_cases h : d = e
  · subst h
    rw [decide_eq_true rfl]
    exact SeqAt.eqv_refl_plain _ (bytes_plain d)
  · rw [decide_eq_false h]
    unfold bD
    simp only [PyData.eqv]
    revert e
    induction d with
    | nil =>
      intro e h
      cases e with
      | nil => exact absurd rfl h
      | cons b t => simp [PyData.eqvAll]
    | cons a d ih =>
      intro e h
      cases e with
      | nil => simp [PyData.eqvAll]
      | cons b t =>
        have h1 := eqv_int (a : Int) (b : Int)
        simp only [List.map_cons, PyData.eqvAll, h1]
        by_cases hab : a = b
        · subst hab
          have := ih t (fun z => h (by rw [z]))
          rw [this]
          simp
        · have : decide ((a : Int) = (b : Int)) = false := decide_eq_false (fun z => hab (by omega))
          rw [this]
          simp
theorem cut_nat (xs : List V) (i j : Nat) : cutV xs (some (i : Int)) (some (j : Int)) = (xs.drop i).take (j - i) := by
  unfold cutV
  rw [HT.sIx_nat, HT.sIx_nat]
  by_cases hi : i ≤ xs.length
  · rw [Nat.min_eq_left hi]
    by_cases hj : j ≤ xs.length
    · rw [Nat.min_eq_left hj]
    · rw [Nat.min_eq_right (by omega), List.take_of_length_le (by rw [List.length_drop]; exact Nat.le_refl _), List.take_of_length_le (by rw [List.length_drop]; omega)]
  · rw [List.drop_of_length_le (by rw [Nat.min_eq_right (by omega)]; exact Nat.le_refl _), List.drop_of_length_le (l := xs) (i := i) (by omega), List.take_nil, List.take_nil]
theorem cut_bytes (d : List Nat) (i j : Nat) : cutV (bV d) (some (i : Int)) (some (j : Int)) = bV ((d.drop i).take (j - i)) := by
  rw [cut_nat]
  unfold bV
  rw [List.map_take, List.map_drop]
section
variable {P : Program} {w : World} {K : PySem.W.Frag} {mg : Str → Option Value} {base : Heap} {f : Addr} {fd : FuncData} {SE : Addr}
def chrsOk (c : Chg) : Prop := ∀ x ∈ fmtChange (c.map vNamed), x < 256
def spEncode (SE : Addr) : Sp := fun vs H Q E => ∃ (p : Addr) (c : Chg), vs = [.ref p] ∧ ChgAt H p c ∧ (∀ n ∈ c, ∀ e ∈ n.2, smE e) ∧ (fmtChange (c.map vNamed)).length ≤ 90000 ∧ chrsOk c ∧
  ((fmtChange (c.map vNamed)).length ≤ 65535 → ∀ l H', Same H H' → H l = none → H' l = some (.lst (bV (recd (fmtChange (c.map vNamed))))) → Q (.ref l) H') ∧ (¬ (fmtChange (c.map vNamed)).length ≤ 65535 → ∀ H', Same H H' → E (.ref SE) none H')
theorem two_shifts (n : Nat) : [8, 0].map (fun s => n / 2 ^ s % 256) = be2 n := by
  show [n / 2 ^ 8 % 256, n / 2 ^ 0 % 256] = _
  rw [Nat.pow_zero, Nat.div_one]
  rfl
theorem four_shifts (n : Nat) : [24, 16, 8, 0].map (fun s => n / 2 ^ s % 256) = be4 n := by
  show [n / 2 ^ 24 % 256, n / 2 ^ 16 % 256, n / 2 ^ 8 % 256, n / 2 ^ 0 % 256] = _
  rw [Nat.pow_zero, Nat.div_one]
  rfl
theorem be2_lt (n : Nat) : ∀ x ∈ be2 n, x < 256 := fun x hx => by
  simp only [be2, List.mem_cons, List.not_mem_nil, or_false] at hx
  omega
theorem be4_lt (n : Nat) : ∀ x ∈ be4 n, x < 256 := fun x hx => by
  simp only [be4, List.mem_cons, List.not_mem_nil, or_false] at hx
  omega
theorem ok_encode_change (F : FnP K "encode_change" s_encode_change f fd) (SC : SizeC K mg SE) (gL : mg "len" = none) (gO : mg "ord" = none) {tM : Tok} (gM : mg "MOST_CHARACTERS" = some (.int 65535 tM)) (T2 : TupC K mg "TWO_BYTES" [8, 0]) (T4 : TupC K mg "FOUR_BYTES" [24, 16, 8, 0])
    (FC : Cal P w K mg base "format_change" 4 ["change"] spFmtChg) (CI : Cal P w K mg base "in_bytes" 1 ["number", "shifts"] (spInBytes K)) (CK : Cal P w K mg base "check_number" 1 ["data"] (spCheck K)) : FnOk P w K mg base (L2.CX P w) 5 f fd ["change"] (spEncode SE) := by
  obtain ⟨a2, g2, q2⟩ := T2
  obtain ⟨a4, g4, q4⟩ := T4
  refine F.ok sc_encode_change (fun vs H Q E h => ?_) (fun cdv A outer s H vs Q E hr h => ?_)
  · obtain ⟨p, c, rfl, _⟩ := h
    rfl
  · obtain ⟨p, c, rfl, hc, hsm, hl, hch, q, qe⟩ := h
    have nd := sc_encode_change.nd
    refine ⟨_, pss_cons (ps_set (i := 1) nd rfl (Or.inl rfl) (pe_cal FC hr (pa_cons (pv 0) pa_nil)))
      (pss_cons (ps_if (pt_cmpR op_gt (pe_callB call_len_str (by rfl) gL PySem.boot_len (pa_cons (pv 1) pa_nil)) (pe_glob (v := .int 65535) (by rfl) gM ⟨_, rfl⟩) (nomark _))
        (pss_one (ps_raise rfl (takes_of rfl rfl rfl rfl) (SkE.pmk_own1 PySem.F.excBase_ValueError SC.xF SC.gF SC.kF (raises_own SC.bF SC.tF) (by exact rfl) (pe_joined (.cons pe_str (.cons (pe_fmt (pe_callB call_len_str (by rfl) gL PySem.boot_len (pa_cons (pv 1) pa_nil))) (.cons pe_str .nil))))))) pss_nil)
      (pss_cons (ps_set (i := 2) nd rfl (Or.inl rfl) (pe_op op_cat (pe_cal CI hr.lt (pa_cons (pe_callB call_len_str (by rfl) gL PySem.boot_len (pa_cons (pv 1) pa_nil)) (pa_cons (pe_glob (v := .ref a2) (by rfl) g2 rfl) pa_nil)))
        (pe_lc (own := [("c", 3)]) (g := gName 3) (tt := tYes) (by rfl) nd (pi_str (pv 1)) (blkOk_by (own := [("c", 3)]) (N := ["change", "text", "data", "c"]) (sc := defScope s_encode_change) (by decide +kernel)) (fun _ _ _ _ _ => pg_name (i := 3) nd rfl (Or.inl rfl)) (fun _ _ _ _ _ => pts_nil)
          (fun _ _ _ _ _ => pe_callB (id := "ord") (r := fun xs H Q => ∃ x, xs = [V.str x] ∧ x.length = 1 ∧ Q (.int (x.cps.getD 0 0 : Nat)) H) call_ord (by rfl) gO (by decide +kernel) (pa_cons (pv 3) pa_nil)))))
      (pss_one (ps_ret (pe_op op_cat (pv 2) (pe_cal CI hr.lt (pa_cons (pe_cal CK hr.lt (pa_cons (pv 2) pa_nil)) (pa_cons (pe_glob (v := .ref a4) (by rfl) g4 rfl) pa_nil)))))))), ?_⟩
    refine ⟨_, rfl, p, c, rfl, hc, hsm, hl, fun z H1 s1 hz => ?_⟩
    have hzl : z.length = (fmtChange (c.map vNamed)).length := by
      show z.cps.toList.length = _
      rw [hz]
    have hzs : z.length ≤ sizeLine := by rw [sizeLine_eq]; omega
    refine ⟨_, rfl, z, rfl, hzs, _, _, rfl, rfl, _, rfl, ?_⟩
    by_cases h6 : z.length ≤ 65535
    · refine (if_neg (fun y => by have := of_decide_eq_true y; omega)).mpr ?_
      refine ⟨_, rfl, z, rfl, hzs, z.length, a2, [8, 0], rfl, q2, by decide, fun l1 H2 s2 hl1 hL1 => ?_⟩
      refine ⟨_, rfl, z, rfl, fun D hD => ?_⟩
      refine lc_same (walk_str (z := z)) z.cps.toList (by rw [Array.length_toList]) (fun _ => true) (fun _ v x => v = .int ((x : Nat) : Int)) (fun _ _ _ _ _ k => k) hD (fun _ _ => trivial) (by have : z.cps.size = z.length := rfl; omega) ?_ ?_
      · rintro i x b H3 _ hi hb s3 ⟨rfl, y, hy, rfl⟩ Q' Qn k1 _
        rw [Array.getElem?_toList, hy] at hb
        obtain rfl : y = b := Option.some.inj hb
        exact ⟨rfl, yes_in ⟨_, rfl, _, rfl, rfl, k1 rfl _ _ (Same.refl _) rfl⟩⟩
      · intro H3 acc s3 ha he
        rw [filter_true] at he
        have hacc := ints_of (g := fun x : Nat => x) he
        rw [List.map_id'] at hacc
        rw [two_shifts] at hL1
        refine ⟨l1, D, _, _, rfl, rfl, s3 _ _ hL1, ha, ?_, fun l2 hl2 => ?_⟩
        · rw [hacc, bV_len, bV_len, sizeLine_eq]
          have : z.cps.toList.length = z.length := rfl
          have h2 : (be2 z.length).length = 2 := rfl
          omega
        have hcat : bV (be2 z.length) ++ acc = bV (be2 z.length ++ z.cps.toList) := by
          rw [hacc]
          unfold bV
          rw [List.map_append]
        rw [hcat]
        have sL2 := same_new (o := HO.lst (bV (be2 z.length ++ z.cps.toList))) hl2
        have hlt : ∀ x ∈ be2 z.length ++ z.cps.toList, x < 2 ^ 40 := fun x hx => by
          rcases List.mem_append.mp hx with y | y
          · have := be2_lt _ x y; omega
          · rw [hz] at y
            have := hch x y
            omega
        refine ⟨_, rfl, _, rfl, l2, _, rfl, sq_l upd_same, hlt, chk (be2 z.length ++ z.cps.toList), a4, [24, 16, 8, 0], rfl, q4, by decide, fun l3 H4 s4 hl3 hL3 => ?_⟩
        rw [four_shifts] at hL3
        refine ⟨l2, l3, _, _, rfl, rfl, s4 _ _ upd_same, hL3, ?_, fun l4 hl4 => ?_⟩
        · rw [bV_len, bV_len, sizeLine_eq, List.length_append]
          have h2 : (be2 z.length).length = 2 := rfl
          have h4 : (be4 (chk (be2 z.length ++ z.cps.toList))).length = 4 := rfl
          have : z.cps.toList.length = z.length := rfl
          omega
        have hcat2 : bV (be2 z.length ++ z.cps.toList) ++ bV (be4 (chk (be2 z.length ++ z.cps.toList))) = bV (recd (fmtChange (c.map vNamed))) := by
          unfold recd bV
          rw [← hzl, ← hz, List.map_append, List.map_append, List.map_append]
        rw [hcat2]
        have sL4 := same_new (o := HO.lst (bV (recd (fmtChange (c.map vNamed))))) hl4
        have sAll := s1.trans (s2.trans (s3.trans (sL2.trans s4)))
        exact q (by omega) l4 _ (sAll.trans sL4) (sAll.free hl4) upd_same
    · refine (if_pos (decide_eq_true (by omega))).mpr ?_
      have hlog : (z.length : Int).natAbs.log2 < 1920 := log_small (by omega)
      have hlen : (Str.ofString (toString (z.length : Int))).length ≤ 1921 := PyProof.Rows.int_text_len_1921 hlog
      have l1 : (Str.ofString "a change of ").length = 12 := by decide +kernel
      have l2 : (Str.ofString " characters").length = 11 := by decide +kernel
      have l0 : Str.empty.length = 0 := rfl
      refine ⟨_, rfl, ?_, _, rfl, z, rfl, hzs, .inr ⟨_, rfl, hlog, _, rfl, ?_, _, rfl, ?_, qe (by omega) H1 s1⟩⟩
      · rw [Str.length_append, sizeLine_eq]; omega
      · rw [Str.length_append, Str.length_append, sizeLine_eq]; omega
      · rw [Str.length_append, Str.length_append, Str.length_append, sizeLine_eq]; omega
end
end KA
set_option Elab.async false
set_option linter.all false
set_option maxRecDepth 100000
set_option maxHeartbeats 4000000
/-! content_at -/
namespace KA
open PySem PySem.Spec PyProof.Rows L2
open PySem.W (EachIs)
section
variable {P : Program} {w : World} {K : PySem.W.Frag} {mg : Str → Option Value} {base : Heap} {f : Addr} {fd : FuncData} {SE : Addr}
def spContent (K : PySem.W.Frag) : Sp := fun vs H Q _ => ∃ (a : Addr) (d : List Nat) (i : Nat), vs = [.ref a, .int i] ∧ SqL K H a (bV d) ∧ i ≤ d.length ∧ d.length ≤ 1000000 ∧ (∀ x ∈ d, x < 256) ∧
  (contS (d.drop i) = none → ∀ H', Same H H' → Q .non H') ∧ (∀ c r, contS (d.drop i) = some (c, r) → ∀ l H', Same H H' → H l = none → H' l = some (.lst (bV c)) → Q (.ref l) H')
theorem contS_short {s : List Nat} (h : s.length < 2) : contS s = none := by
  match s, h with
  | [], _ => rfl
  | [_], _ => rfl
theorem ok_content_at (F : FnP K "content_at" s_content_at f fd) (gL : mg "len" = none) (T2 : TupC K mg "TWO_BYTES" [8, 0]) (T4 : TupC K mg "FOUR_BYTES" [24, 16, 8, 0])
    (CI : Cal P w K mg base "in_bytes" 1 ["number", "shifts"] (spInBytes K)) (CK : Cal P w K mg base "check_number" 1 ["data"] (spCheck K)) : FnOk P w K mg base CX0 2 f fd ["data", "at"] (spContent K) := by
  obtain ⟨a2, g2, q2⟩ := T2
  obtain ⟨a4, g4, q4⟩ := T4
  refine F.ok sc_content_at (fun vs H Q E h => ?_) (fun cdv A outer s H vs Q E hr h => ?_)
  · obtain ⟨a, d, i, rfl, _⟩ := h
    rfl
  · obtain ⟨a, d, i, rfl, hS, hi, hd, hb, qn, qs⟩ := h
    have nd := sc_content_at.nd
    refine ⟨_, PSs.nox (pss_cons (ps_set (i := 2) nd rfl (Or.inl rfl) (pe_op op_add (pv 1) (pe_callB call_len_seq (by rfl) gL PySem.boot_len (pa_cons (pe_glob (v := .ref a2) (by rfl) g2 rfl) pa_nil))))
      (pss_cons (ps_if (pt_cmpR op_gt (pv 2) (pe_callB call_len_seq (by rfl) gL PySem.boot_len (pa_cons (pv 0) pa_nil)) (nomark _)) (pss_one (ps_ret pe_non)) pss_nil)
      (pss_cons (ps_set (i := 3) nd rfl (Or.inl rfl) (pe_op op_add (pe_op op_add (pv 2) (pe_op op_mul (pe_ix ix_list (pv 0) (pv 1) (fun _ _ => rfl)) pe_int)) (pe_ix ix_list (pv 0) (pe_op op_add (pv 1) pe_int) (fun _ _ => rfl))))
      (pss_cons (ps_if (pt_cmpR (op_neP hr.u64) (pe_slice sl_list (pv 0) (po_some (pv 3)) (po_some (pe_op op_add (pv 3) (pe_callB call_len_seq (by rfl) gL PySem.boot_len (pa_cons (pe_glob (v := .ref a4) (by rfl) g4 rfl) pa_nil)))))
          (pe_cal CI hr (pa_cons (pe_cal CK hr (pa_cons (pe_slice sl_list (pv 0) (po_some (pv 1)) (po_some (pv 3))) pa_nil)) (pa_cons (pe_glob (v := .ref a4) (by rfl) g4 rfl) pa_nil))) (nomark _)) (pss_one (ps_ret pe_non)) pss_nil)
      (pss_one (ps_ret (pe_slice sl_list (pv 0) (po_some (pv 2)) (po_some (pv 3))))))))), ?_⟩
    refine ⟨_, rfl, a2, _, rfl, .inr (q2 H), _, _, rfl, rfl, ?_⟩
    refine ⟨_, rfl, _, rfl, a, _, rfl, .inl hS, _, _, rfl, rfl, _, rfl, ?_⟩
    rw [bV_len d]
    have e2 : ((i : Int) + ((bV [8, 0]).length : Nat)) = ((i + 2 : Nat) : Int) := by show (i : Int) + 2 = _; omega
    by_cases h2 : i + 2 ≤ d.length
    · refine (if_neg (fun y => by have := of_decide_eq_true y; rw [e2] at this; omega)).mpr ?_
      obtain ⟨x, y, t, ht⟩ : ∃ x y t, d.drop i = x :: y :: t := by
        match hh : d.drop i, (show 2 ≤ (d.drop i).length by rw [List.length_drop]; omega) with
        | x :: y :: t, _ => exact ⟨x, y, t, rfl⟩
      have hx : d[i]? = some x := by
        have := List.getElem?_drop (xs := d) (i := i) (j := 0)
        rw [ht] at this
        simpa using this.symm
      have hy : d[i + 1]? = some y := by
        have := List.getElem?_drop (xs := d) (i := i) (j := 1)
        rw [ht] at this
        simpa using this.symm
      have hx' : atI (bV d) (i : Int) = some (.int (x : Int)) := atI_nat (j := i) (by unfold bV; rw [List.getElem?_map, hx]; rfl)
      have hy' : atI (bV d) ((i : Int) + 1) = some (.int (y : Int)) := atI_nat (j := i + 1) (by unfold bV; rw [List.getElem?_map, hy]; rfl)
      have hx256 := hb x (List.mem_of_getElem? hx)
      have hy256 := hb y (List.mem_of_getElem? hy)
      dsimp only
      rw [e2]
      refine ⟨_, rfl, _, rfl, _, rfl, a, _, _, _, rfl, rfl, hS, hx', _, _, rfl, rfl, .inl ⟨by omega, by omega⟩, _, _, rfl, rfl, _, rfl, _, rfl, _, _, rfl, rfl, a, _, _, _, rfl, rfl, hS, hy', _, _, rfl, rfl, ?_⟩
      obtain ⟨e, he⟩ : ∃ e, e = i + 2 + (x * 256 + y) := ⟨_, rfl⟩
      have eE : (((i + 2 : Nat) : Int) + (x : Int) * 256 + (y : Int)) = (e : Int) := by omega
      dsimp only
      rw [eE]
      have e4 : ((e : Int) + ((bV [24, 16, 8, 0]).length : Nat)) = ((e + 4 : Nat) : Int) := by show (e : Int) + 4 = _; omega
      refine ⟨_, rfl, _, rfl, _, rfl, _, rfl, a4, _, rfl, .inr (q4 H), _, _, rfl, rfl, _, rfl, a, _, rfl, hS, fun p1 hp1 => ?_⟩
      dsimp only
      rw [e4, cut_bytes, show e + 4 - e = 4 by omega]
      have s1 := same_new (o := HO.lst (bV ((d.drop e).take 4))) hp1
      refine ⟨_, rfl, _, rfl, _, rfl, _, rfl, _, rfl, a, _, rfl, s1.seq hS, fun p2 hp2 => ?_⟩
      dsimp only
      rw [cut_bytes]
      have s2 := same_new (o := HO.lst (bV ((d.drop i).take (e - i)))) hp2
      refine ⟨p2, _, rfl, sq_l upd_same, fun x hx => by have := hb x (List.mem_of_mem_drop (List.mem_of_mem_take hx)); omega, _, a4, [24, 16, 8, 0], rfl, q4, by decide, fun l H2 s3 hl hL => ?_⟩
      rw [four_shifts] at hL
      have hp1' := s3 _ _ (s2 _ _ (upd_same (H := H) (a := p1) (o := .lst (bV ((d.drop e).take 4)))))
      have sAll := s1.trans (s2.trans s3)
      refine ⟨_, _, dp_bytes (sq_l hp1'), dp_bytes (sq_l hL), bytes_plain _, bytes_plain _, Nat.le_trans (bytes_depth _) (by decide), _, rfl, ?_⟩
      rw [eqv_bytes]
      have k1 : d.drop e = t.drop (x * 256 + y) := by
        have k0 : d.drop (i + (2 + (x * 256 + y))) = (d.drop i).drop (2 + (x * 256 + y)) := by rw [List.drop_drop]
        rw [he, Nat.add_assoc, k0, ht, Nat.add_comm 2]
        rfl
      have k2 : (d.drop i).take (e - i) = x :: y :: t.take (x * 256 + y) := by
        rw [ht, show e - i = (x * 256 + y) + 1 + 1 by omega]
        rfl
      have hc := contS2 x y t
      rw [← ht, ← k1, ← k2] at hc
      by_cases hq : (d.drop e).take 4 = be4 (chk ((d.drop i).take (e - i)))
      · rw [if_pos hq] at hc
        refine (if_neg (by rw [decide_eq_true hq]; decide)).mpr ?_
        have k3 : (d.drop (i + 2)).take (e - (i + 2)) = t.take (x * 256 + y) := by
          rw [← List.drop_drop, ht, show e - (i + 2) = x * 256 + y by omega]
          rfl
        refine ⟨_, rfl, _, rfl, _, rfl, _, rfl, _, rfl, a, _, rfl, sAll.seq hS, fun p3 hp3 => ?_⟩
        dsimp only
        rw [cut_bytes, k3]
        exact qs _ _ hc p3 _ (sAll.trans (same_new hp3)) (sAll.free hp3) upd_same
      · rw [if_neg hq] at hc
        refine (if_pos (by rw [decide_eq_false hq]; rfl)).mpr ?_
        exact qn hc H2 sAll
    · refine (if_pos (decide_eq_true (by rw [e2]; omega))).mpr ?_
      exact qn (contS_short (by rw [List.length_drop]; omega)) H (fun _ _ e => e)
end
end KA
set_option Elab.async false
set_option linter.all false
set_option maxRecDepth 100000
set_option maxHeartbeats 4000000
/-! change_of -/
namespace KA
open PySem PySem.Spec PyProof.Rows L2
open PySem.W (EachIs)
def rJoinK (K : PySem.W.Frag) : V → List V → Hp → VK → Prop := fun x xs H Q => ∃ a p, ∃ ys : List Str, x = .str a ∧ xs = [.ref p] ∧ (SqL K H p (ys.map V.str) ∨ SqT K H p (ys.map V.str)) ∧ (ys.map (·.length)).sum + ys.length * a.length ≤ 16777216 ∧ Q (.str (Txt.join a ys)) H
theorem joined_nil : ∀ ts : List (List Nat), joined [] ts = ts.flatten
  | [] => rfl
  | [a] => by simp [joined]
  | a :: b :: t => by
    show a ++ ([] ++ joined [] (b :: t)) = _
    rw [joined_nil (b :: t)]
    simp
/-- the characters by their numbers -/
def CharsAt (H : Hp) (a : Addr) : Prop := ∃ kvs : List (L2.Key × V), H a = some (.dK kvs) ∧ ∀ c : Nat, valV kvs (.inl (c : Int)) = if inChars c = true then some (.str ⟨#[c]⟩) else none
theorem CharsAt.mono {H H' : Hp} (s : Same H H') {a : Addr} (h : CharsAt H a) : CharsAt H' a := by
  obtain ⟨kvs, h1, h2⟩ := h
  exact ⟨kvs, s _ _ h1, h2⟩
section
variable {P : Program} {w : World} {K : PySem.W.Frag} {mg : Str → Option Value} {base : Heap} {f : Addr} {fd : FuncData} {FE : Addr}
def spChangeOf : Sp := fun vs H Q _ => ∃ (l d : Addr) (c : List Nat), vs = [.ref l, .ref d] ∧ H l = some (.lst (bV c)) ∧ CharsAt H d ∧ c.length ≤ 65535 ∧ (chgOf c = none → ∀ H', Same H H' → Q .non H') ∧ (∀ v, chgOf c = some v → ∀ tv H', Same H H' → ChgS H H' tv v → Q tv H')
theorem ok_change_of (F : FnP K "change_of" s_change_of f fd) (gA : mg "all" = none) (gFE : mg "FormError" = some (.ref FE)) (e1 : PySem.W.exmOne K (.ref FE) (.ref FE) = some true)
    (PC : CalX P w K mg base "parse_change" 17 ["text"] (spParse FE ChgS (wChange asc))) : FnOk P w K mg base CX0 18 f fd ["content", "characters"] spChangeOf := by
  obtain ⟨f3, d3, m3, kp3, b3, G3⟩ := PC
  refine F.ok sc_change_of (fun vs H Q E h => ?_) (fun cdv A outer s H vs Q E hr h => ?_)
  · obtain ⟨l, d, c, rfl, _⟩ := h
    rfl
  · obtain ⟨l, d, c, rfl, hl, hd, hcl, qn, qs⟩ := h
    have nd := sc_change_of.nd
    refine ⟨_, PSs.nox (pss_cons (ps_if (pt_not (pt_val (pe_callB (cr_all rfl) (by rfl) gA (by decide +kernel) (pa_cons (pe_lc (own := [("byte", 2)]) (g := gName 2) (tt := tYes) (te := tDIn (tVar 2) (tVar 1)) (by rfl) nd (pi_list (pv 0)) (blkOk_by (own := [("byte", 2)]) (N := ["content", "characters", "byte"]) (sc := defScope s_change_of) (by decide +kernel)) (fun _ _ _ _ _ => pg_name (i := 2) nd rfl (Or.inl rfl)) (fun _ _ _ _ _ => pts_nil)
        (fun _ _ _ _ _ => pe_cmp (pc_din hr.u1 (pv 2) (pv 1)) rfl)) pa_nil)))) (pss_one (ps_ret pe_non)) pss_nil)
      (pss_one (ps_try_only rfl rfl ⟨rfl, by decide, .inl gFE⟩ takes0 (fun W pn xe tk _ =>
          pss_one (ps_ret (pe_callS G3 hr (by rfl) m3 kp3 b3 (fun τ => passAt tk τ) (pa_cons (show PE _ _ (tM1 (rJoinK K) (tC (.str "")) (tLc (iList K (tVar 0)) (gName 2) tYes (tDGet (tVar 1) (tVar 2)) [2])) from pe_join pe_str (pe_lc (wi := iList K (tVar 0)) (te := tDGet (tVar 1) (tVar 2)) (own := [("byte", 2)]) (g := gName 2) (tt := tYes) (by rfl) nd (pi_list (pv 0)) (blkOk_by (own := [("byte", 2)]) (N := ["content", "characters", "byte"]) (sc := defScope s_change_of) (by decide +kernel)) (fun _ _ _ _ _ => pg_name (i := 2) nd rfl (Or.inl rfl)) (fun _ _ _ _ _ => pts_nil)
            (fun _ _ _ _ _ => pe_dget hr.u1 (pv 1) (pv 2) (fun _ _ => rfl)))) pa_nil))))
        (fun a oe cls d pn hz hf => pss_one (ps_ret pe_non))))), ?_⟩
    refine ⟨_, rfl, l, rfl, ⟨_, sq_l hl⟩, fun D hD => ?_⟩
    refine lc_same (walk_list (xs := bV c)) c (by rw [bV_len]) (fun _ => true) (fun _ v x => v = .bl (inChars x)) (fun _ _ _ _ _ z => z) hD (fun H' s' => sq_l (s' _ _ hl)) (by rw [bV_len]; omega) ?_ ?_
    · rintro i x b H1 _ hi hb s1 ⟨rfl, hx⟩ Q' Qn k1 _
      obtain ⟨b', hb', rfl⟩ := bV_at hx
      obtain rfl : b = b' := Option.some.inj (hb.symm.trans hb')
      obtain ⟨kvs, hk, hv⟩ := hd.mono s1
      refine ⟨rfl, yes_in ⟨_, rfl, _, rfl, d, _, rfl, DGet.k (k := Sum.inl (b : Int)) hk, k1 rfl _ _ (Same.refl _) ?_⟩⟩
      rw [hv b]
      cases inChars b <;> rfl
    · intro H1 acc s1 ha he
      rw [filter_true] at he
      have hacc := bls_map he
      refine ⟨D, _, rfl, sq_l (by rw [← hacc]; exact ha), ?_⟩
      have hall : (c.map inChars).all id = c.all inChars := by rw [List.all_map]; rfl
      rw [hall]
      refine ⟨_, rfl, ?_⟩
      by_cases hc : c.all inChars = true
      · refine (if_neg (by rw [hc]; decide)).mpr ?_
        have hcg : chgOf c = wChange asc c := by unfold chgOf; rw [if_pos hc]
        refine ⟨⟨_, rfl⟩, _, rfl, l, rfl, ⟨_, sq_l (s1 _ _ hl)⟩, fun D2 hD2 => ?_⟩
        refine lc_same (walk_list (xs := bV c)) c (by rw [bV_len]) (fun _ => true) (fun _ v x => ∃ z : Str, v = .str z ∧ z.cps.toList = [x]) (fun _ _ _ _ _ z => z) hD2 (fun H' s' => sq_l (s' _ _ (s1 _ _ hl))) (by rw [bV_len]; omega) ?_ ?_
        · rintro i x b H2 _ hi hb s2 ⟨rfl, hx⟩ Q' Qn k1 _
          obtain ⟨b', hb', rfl⟩ := bV_at hx
          obtain rfl : b = b' := Option.some.inj (hb.symm.trans hb')
          obtain ⟨kvs, hk, hv⟩ := hd.mono (s1.trans s2)
          have hbc : inChars b = true := List.all_eq_true.mp hc b (List.mem_of_getElem? hb)
          have hg := DGet.k (k := Sum.inl (b : Int)) hk
          rw [hv b, if_pos hbc] at hg
          exact ⟨rfl, yes_in ⟨_, rfl, _, rfl, d, _, rfl, hg, k1 rfl _ _ (Same.refl _) ⟨_, rfl, rfl⟩⟩⟩
        · intro H2 acc2 s2 ha2 he2
          rw [filter_true] at he2
          obtain ⟨ys, rfl, hys⟩ := strs_of he2
          have e0 : (Str.ofString "").cps.toList = [] ∧ (Str.ofString "").length = 0 := by decide +kernel
          have hj : joined [] (c.map fun x => [x]) = c := by
            rw [joined_nil]
            clear hl hcl qn qs ha he hacc hall hc hcg ha2 he2 hys
            induction c with
            | nil => rfl
            | cons x t ih => rw [List.map_cons, List.flatten_cons, ih]; rfl
          obtain ⟨j1, j2⟩ := join_fits (g := Str.ofString "") hys (by rw [e0.2]; decide) (by rw [e0.1, hj]; omega)
          rw [e0.1, hj] at j2
          refine ⟨_, D2, ys, rfl, rfl, .inl (sq_l ha2), j1, Txt.join (Str.ofString "") ys, rfl, ?_, fun v tv H3 hw s3 st => ?_, fun hn H3 s3 => ?_⟩
          · show (Txt.join (Str.ofString "") ys).cps.toList.length ≤ _
            rw [j2]; omega
          · rw [j2, ← hcg] at hw
            exact qs v hw tv H3 ((s1.trans s2).trans s3) (stn_list (stn_named stn_bag) |>.weak _ _ _ _ _ (s1.trans s2) st)
          · rw [j2, ← hcg] at hn
            exact ⟨true, e1, fun _ a ha => qn hn H3 ((s1.trans s2).trans s3), fun z => nomatch z⟩
      · refine (if_pos (by cases h : c.all inChars with | true => exact absurd h hc | false => rfl)).mpr ?_
        exact qn (by unfold chgOf; rw [if_neg hc]) H1 s1
end
end KA
set_option Elab.async false
set_option linter.all false
set_option maxRecDepth 100000
set_option maxHeartbeats 4000000
/-! a dict comprehension that a local is set to -/
namespace KA
open PySem PySem.Spec PyProof.Rows L2
theorem swaps_dict {kx vx : Expr} {gs : List Comprehension} {scope : Scope} {pos py : Pos} {y : Str} {l : Nat} {env : Env} (hk : env.scope.kind = .function) (hy : env.scope.names.lookup y = some .local) (hl : (py.line == pos.line) = true)
    (ha : (scope.names.any fun (n, k) => n == y && (k == .local || k == .cell)) = false) : swapsWith (.DictComp kx vx gs scope pos) (some (.Name y py)) l env = pure true := by
  have ky : env.kindOf y = some .local := hy
  have hb : env.blockKind = .function := by unfold Env.blockKind; rw [hk]; rfl
  unfold swapsWith
  simp only [hb, ky, ha, Expr.pos, hl]
  rfl
abbrev blkC (X : Cx) (scope : Scope) (s : Shared) (H : Hp) (C : Addr) (cl : List (Str × Addr)) (fp : List Addr) : Cx := X.blk s H scope (compEnvC scope cl C X.env) fp
section
variable {X : Cx} {i : Nat} {y : Str} {py : Pos} {kx vx tg iter : Expr} {ifs : List Expr} {scope : Scope} {own : List (Str × Nat)} {pos spos : Pos} {wi : TI} {g : TG} {tt : TT} {tk tv : TE}
theorem ps_setDict (hc : X.calm = true) (hN : X.N.Nodup) (hy : X.N[i]? = some y) (hyl : X.env.scope.names.lookup y = some .local)
    (sw : swapsWith (.DictComp kx vx [⟨tg, iter, ifs, 0⟩] scope pos) (some (.Name y py)) spos.line X.env = pure true) (hi : PI X tg iter wi) (bo : BlkOk X.N X.env.scope scope own)
    (hg : ∀ s H C cl fp, PG (blkC X scope s H C cl fp) tg g) (ht : ∀ s H C cl fp, PTs (blkC X scope s H C cl fp) ifs tt) (hk : ∀ s H C cl fp, PE (blkC X scope s H C cl fp) kx tk) (hv : ∀ s H C cl fp, PE (blkC X scope s H C cl fp) vx tv)
    (plain : ∀ x, foldedSetIterable iter X.env x = pure x := by intro _; rfl) : PS X (.Assign [.Name y py] (.DictComp kx vx [⟨tg, iter, ifs, 0⟩] scope pos) spos) (tAsg (tDc wi g tt tk tv (own.map (·.2))) (gName i)) := by
  refine ⟨fun pins s σ H D I h => ?_⟩
  rw [exec_Assign_Name_used _ _ _ _ sw]
  refine wpAny_bind (wpAny_standAt (wpAny_bind ?_))
  have h2 : tDc wi g tt tk tv (own.map (·.2)) σ H (fun x H1 => gName i x σ H1 D.nx) := h
  have core := dc_core (pos := pos) (use := some (assign (.Name y py) X.env)) (Qf := fun _ s' => SP X pins D .next s') (pos' := firstIterPos [⟨tg, iter, ifs, 0⟩] pos) hc hN I hi bo hg ht hk hv plain h2
  refine wpAny_bind (thn (core fun M c s' m H' J q hn fr => ?_) fun _ s' hq => wpAny_pure (wpAny_pure hq))
  refine wpAny_assign_Name (store_ok2 (v := V.ref M) J hN hy (.inl hyl) rfl (fun s2 J2 ⟨a, sb, ha⟩ => ?_) (.inr hyl))
  obtain ⟨a0, a1, a2, a3, a4, a5⟩ := fr
  have ca : c ≠ a := by
    rcases ha with rfl | z
    · exact a1
    · exact fun e => a4 y a z e.symm
  exact ⟨m, hn.sameBut sb ca, fun h3 sb3 => ⟨_, H', J2.turned (t' := s2.toks) (fun b o hb e => (sb3.2 b hb).trans e) a0 a1 a3 a4 a5, q⟩⟩
end
theorem dk_it {J : It} {n : Nat} {Gd : Hp → Prop} {Y : Nat → Hp → V → Hp → Prop} (w : Walk J n Gd Y) {D : Addr} {g : TG} {tt : TT} {tk tv : TE} {σ : L2.St} {vs : List Nat} {H0 : Hp} {Qd : Hp → Prop} (Pv : Nat → Hp → Prop) (h0 : Pv 0 H0) (hG : ∀ i H, i ≤ n → Pv i H → Gd H)
    (hs : ∀ i x H H', i < n → Pv i H → Y i H x H' → g x (wipe σ vs) H' fun σ2 H2 => wipe σ2 vs = wipe σ vs ∧ tt σ2 H2 fun b H3 => if b = true then tk σ2 H3 fun y H4 => tv σ2 H4 fun z H5 => ∃ (kvs : List (L2.Key × V)) (k : L2.Key), y = kV k ∧ H5 D = some (.dK kvs) ∧ kvs.length < sizeLine ∧ Pv (i + 1) (upd H5 D (.dK (putK kvs k z))) else Pv (i + 1) H3)
    (hd : ∀ H, Pv n H → Qd H) :
    ∃ W : Nat → Nat → Hp → Prop, (∃ m, W 0 m H0) ∧ ∀ i m H, W i m H → (J.stop i H ∧ Qd H) ∨ (J.go i H ∧ ∃ Nx : Hp → Prop, (∀ H', Nx H' → ∃ m', m' < m ∧ W (i + 1) m' H') ∧ ∀ x H', J.yld i H x H' → g x (wipe σ vs) H' fun σ2 H2 => wipe σ2 vs = wipe σ vs ∧ tt σ2 H2 fun b H3 =>
      if b = true then tk σ2 H3 fun y H4 => tv σ2 H4 fun z H5 => ∃ (kvs : List (L2.Key × V)) (k : L2.Key), y = kV k ∧ H5 D = some (.dK kvs) ∧ kvs.length < sizeLine ∧ Nx (upd H5 D (.dK (putK kvs k z))) else Nx H3) := by
  refine ⟨fun i m H => m = n - i ∧ i ≤ n ∧ Pv i H, ⟨n, by simp, Nat.zero_le _, h0⟩, fun i m H ⟨em, hi, p⟩ => ?_⟩
  have q := hG i H hi p
  by_cases lt : i < n
  · exact .inr ⟨w.goes i H lt q, Pv (i + 1), fun H' p' => ⟨n - (i + 1), by omega, rfl, lt, p'⟩, fun x H' y => hs i x H H' lt p (w.yields i H x H' lt q y)⟩
  · obtain rfl : i = n := by omega
    exact .inl ⟨w.stops H q, hd H p⟩
end KA
set_option Elab.async false
set_option linter.all false
set_option maxRecDepth 100000
set_option maxHeartbeats 4000000
/-! read_changes -/
namespace KA
open PySem PySem.Spec PyProof.Rows L2
open PySem.W (EachIs)
def CHARS : Str := " !\"#$&'()*+,-./0123456789:;<=>?@ABCDEFGHIJKLMNOPQRSTUVWXYZ[\\]^_`abcdefghijklmnopqrstuvwxyz{|}~"
/-- the dict of characters, after some of them -/
def kvC (L : List Nat) : List (L2.Key × V) := L.foldl (fun kvs c => putK kvs (.inl ((c : Nat) : Int)) (.str ⟨#[c]⟩)) []
theorem kvC_snoc (L : List Nat) (c : Nat) : kvC (L ++ [c]) = putK (kvC L) (.inl ((c : Nat) : Int)) (.str ⟨#[c]⟩) := by
  unfold kvC
  rw [List.foldl_append]
  rfl
theorem kvF_val (c : Nat) : ∀ (L : List Nat) (kvs : List (L2.Key × V)), valV (L.foldl (fun kvs c => putK kvs (.inl ((c : Nat) : Int)) (.str ⟨#[c]⟩)) kvs) (.inl ((c : Nat) : Int)) = if c ∈ L then some (.str ⟨#[c]⟩) else valV kvs (.inl ((c : Nat) : Int))
  | [], kvs => by simp
  | b :: t, kvs => by
    rw [List.foldl_cons, kvF_val c t, valV_put]
    by_cases h : c = b
    · subst h
      rw [if_pos rfl, if_pos (List.mem_cons_self)]
      by_cases h2 : c ∈ t
      · rw [if_pos h2]
      · rw [if_neg h2]
    · have hk : ¬ ((.inl ((c : Nat) : Int) : L2.Key) = .inl ((b : Nat) : Int)) := fun z => h (by injection z with z; omega)
      rw [if_neg hk]
      by_cases h2 : c ∈ t
      · rw [if_pos h2, if_pos (List.mem_cons_of_mem _ h2)]
      · rw [if_neg h2, if_neg (fun z => by
          rcases List.mem_cons.mp z with y | y
          · exact h y
          · exact h2 y)]
theorem kvC_val (L : List Nat) (c : Nat) : valV (kvC L) (.inl ((c : Nat) : Int)) = if c ∈ L then some (.str ⟨#[c]⟩) else none := kvF_val c L []
theorem kvF_len : ∀ (L : List Nat) (kvs : List (L2.Key × V)), (L.foldl (fun kvs c => putK kvs (.inl ((c : Nat) : Int)) (.str ⟨#[c]⟩)) kvs).length ≤ kvs.length + L.length
  | [], kvs => by simp
  | b :: t, kvs => by
    rw [List.foldl_cons]
    have h1 := kvF_len t (putK kvs (.inl ((b : Nat) : Int)) (.str ⟨#[b]⟩))
    have h2 := length_putK kvs (.inl ((b : Nat) : Int)) (.str ⟨#[b]⟩)
    rw [List.length_cons]
    omega
theorem kvC_len (L : List Nat) : (kvC L).length ≤ L.length := by
  have h := kvF_len L []
  rw [List.length_nil, Nat.zero_add] at h
  exact h
theorem chars_in (c : Nat) : c ∈ CHARS.cps.toList ↔ inChars c = true := by
  have h1 : ∀ c ∈ CHARS.cps.toList, inChars c = true := by decide +kernel
  have h2 : ∀ c, c < 127 → inChars c = true → c ∈ CHARS.cps.toList := by decide +kernel
  refine ⟨h1 c, fun h => h2 c ?_ h⟩
  unfold inChars at h
  simp only [Bool.and_eq_true, decide_eq_true_eq] at h
  omega
section
variable {P : Program} {w : World} {K : PySem.W.Frag} {mg : Str → Option Value} {base : Heap} {f : Addr} {fd : FuncData} {FE : Addr}
def spReadChanges (K : PySem.W.Frag) : Sp := fun vs H Q _ => ∃ (a : Addr) (d : List Nat), vs = [.ref a] ∧ SqL K H a (bV d) ∧ d.length ≤ 1000000 ∧ (∀ x ∈ d, x < 256) ∧
  ∀ t v H', Same H H' → H' t = some (.tup [v, .int ((d.length - (rdD d).2.length : Nat) : Int)]) → ListS ChgS H H' v (rdD d).1 → H t = none → Q (.ref t) H'
theorem content_both {vs : List V} {H : Hp} {Q : VK} {E : XK} (h : ∃ (a : Addr) (d : List Nat) (i : Nat), vs = [.ref a, .int i] ∧ SqL K H a (bV d) ∧ i ≤ d.length ∧ d.length ≤ 1000000 ∧ (∀ x ∈ d, x < 256) ∧
    ∀ cv H', Same H H' → ((cv = .non ∧ contS (d.drop i) = none) ∨ ∃ lc c r, cv = .ref lc ∧ H lc = none ∧ H' lc = some (.lst (bV c)) ∧ contS (d.drop i) = some (c, r)) → Q cv H') : spContent K vs H Q E := by
  obtain ⟨a, d, i, e, hS, hi, hd, hb, q⟩ := h
  exact ⟨a, d, i, e, hS, hi, hd, hb, fun hn H' s' => q _ _ s' (.inl ⟨rfl, hn⟩), fun c r hc l H' s' hl hL => q _ _ s' (.inr ⟨l, c, r, rfl, hl, hL, hc⟩)⟩
theorem ok_read_changes (F : FnP K "read_changes" s_read_changes f fd) (gL : mg "len" = none) (gO : mg "ord" = none) {tC : Tok} (gC : mg "CHARACTERS" = some (.str CHARS tC)) (T2 : TupC K mg "TWO_BYTES" [8, 0]) (T4 : TupC K mg "FOUR_BYTES" [24, 16, 8, 0])
    (CA : Cal P w K mg base "content_at" 2 ["data", "at"] (spContent K)) (CO : Cal P w K mg base "change_of" 18 ["content", "characters"] spChangeOf) : FnOk P w K mg base CX0 19 f fd ["data"] (spReadChanges K) := by
  obtain ⟨a2, g2, q2⟩ := T2
  obtain ⟨a4, g4, q4⟩ := T4
  refine F.ok sc_read_changes (fun vs H Q E h => ?_) (fun cdv A outer s H vs Q E hr h => ?_)
  · obtain ⟨a, d, rfl, _⟩ := h
    rfl
  · obtain ⟨a, d, rfl, hS, hd, hb, q⟩ := h
    have nd := sc_read_changes.nd
    refine ⟨_, PSs.nox (pss_cons (ps_setDict (i := 1) (own := [("c", 2)]) (g := gName 2) (tt := tYes) (by rfl) nd rfl rfl (swaps_dict rfl rfl rfl (by decide +kernel)) (pi_str (pe_glob (v := .str CHARS) (by rfl) gC ⟨_, rfl⟩)) (blkOk_by (own := [("c", 2)]) (N := ["data", "characters", "c", "changes", "taken", "content", "change"]) (sc := defScope s_read_changes) (by decide +kernel)) (fun _ _ _ _ _ => pg_name (i := 2) nd rfl (Or.inl rfl)) (fun _ _ _ _ _ => pts_nil)
        (fun _ _ _ _ _ => pe_callB (id := "ord") (r := fun xs H Q => ∃ x, xs = [V.str x] ∧ x.length = 1 ∧ Q (.int (x.cps.getD 0 0 : Nat)) H) call_ord (by rfl) gO (by decide +kernel) (pa_cons (pv 2) pa_nil)) (fun _ _ _ _ _ => pv 2))
      (pss_cons (ps_set (i := 3) nd rfl (Or.inl rfl) (pe_lst pa_nil))
      (pss_cons (ps_set (i := 4) nd rfl (Or.inl rfl) pe_int)
      (pss_cons (ps_set (i := 5) nd rfl (Or.inl rfl) (pe_cal CA hr.lt (pa_cons (pv 0) (pa_cons (pv 4) pa_nil))))
      (pss_cons (ps_while PassesOwn.never (pt_cmpR op_notN (pv 5) pe_non (nomark _))
        (pss_cons (ps_set (i := 6) nd rfl (Or.inl rfl) (pe_cal CO hr (pa_cons (pv 5) (pa_cons (pv 1) pa_nil))))
        (pss_cons (ps_if (pt_cmpR op_isN (pv 6) pe_non (nomark _)) (pss_one (ps_ret (pe_tup (pa_cons (pv 3) (pa_cons (pv 4) pa_nil))))) pss_nil)
        (pss_cons (ps_expr (pe_bm PySem.F.plainAttrs_list PySem.F.slot_list_append PySem.F.type_list_append mt_append (pv 3) (pa_cons (pv 6) pa_nil)))
        (pss_cons (ps_aug (i := 4) nd rfl (Or.inl rfl) (pe_op op_add (pe_op op_add (pe_callB call_len_seq (by rfl) gL PySem.boot_len (pa_cons (pe_glob (v := .ref a2) (by rfl) g2 rfl) pa_nil)) (pe_callB call_len_seq (by rfl) gL PySem.boot_len (pa_cons (pv 5) pa_nil))) (pe_callB call_len_seq (by rfl) gL PySem.boot_len (pa_cons (pe_glob (v := .ref a4) (by rfl) g4 rfl) pa_nil))) ip_add)
        (pss_one (ps_set (i := 5) nd rfl (Or.inl rfl) (pe_cal CA hr.lt (pa_cons (pv 0) (pa_cons (pv 4) pa_nil))))))))))
      (pss_one (ps_ret (pe_tup (pa_cons (pv 3) (pa_cons (pv 4) pa_nil)))))))))), ?_⟩
    refine ⟨CHARS, rfl, fun dch hdch => ?_⟩
    have lC : CHARS.cps.toList.length = 94 := by decide +kernel
    refine dk_it (walk_str (z := CHARS)) (fun i G => Same H G ∧ G dch = some (.dK (kvC (CHARS.cps.toList.take i)))) ⟨same_new hdch, upd_same⟩ (fun _ _ _ _ => trivial) ?_ ?_
    · rintro i x _ G1 hi ⟨sG, hG⟩ ⟨rfl, c, hc, rfl⟩
      refine ⟨rfl, yes_in ⟨_, rfl, _, rfl, rfl, _, rfl, kvC (CHARS.cps.toList.take i), .inl ((c : Nat) : Int), rfl, hG, ?_, same_mut sG hdch, ?_⟩⟩
      · have := kvC_len (CHARS.cps.toList.take i)
        rw [List.length_take] at this
        rw [sizeLine_eq]; omega
      · have hcl : CHARS.cps.toList[i]? = some c := by rw [Array.getElem?_toList]; exact hc
        rw [List.take_add_one, hcl]
        show upd G1 dch (.dK (putK (kvC (CHARS.cps.toList.take i)) (.inl ((c : Nat) : Int)) (.str ⟨#[c]⟩))) dch = _
        rw [upd_same]
        have := kvC_snoc (CHARS.cps.toList.take i) c
        rw [← this]
        rfl
    rintro G0 ⟨s0, hG0⟩
    rw [List.take_of_length_le (by rw [Array.length_toList]; exact Nat.le_refl _)] at hG0
    have hchars : ∀ G, G dch = some (.dK (kvC CHARS.cps.toList)) → CharsAt G dch := fun G h => ⟨_, h, fun c => by
      rw [kvC_val]
      by_cases hc : inChars c = true
      · rw [if_pos hc, if_pos ((chars_in c).mpr hc)]
      · rw [if_neg hc, if_neg (fun z => hc ((chars_in c).mp z))]⟩
    refine ⟨Nat.zero_le _, fun lch hlch => ?_⟩
    have sL := same_new (o := HO.lst []) hlch
    have ne1 : dch ≠ lch := fun z => by rw [← z, hG0] at hlch; cases hlch
    have hlch0 : H lch = none := s0.free hlch
    have h2s : 2 ≤ sizeLine := by rw [sizeLine_eq]; decide
    -- the state behind a look for a content
    let St : Nat → List (List NBag) → List V → V → Option V → L2.St → Hp → Prop := fun i acc ivs cv ch σ G => σ = [some (.ref a), some (.ref dch), none, some (.ref lch), some (.int (i : Int)), some cv, ch] ∧ Same H G ∧ G lch = some (.lst ivs) ∧ G dch = some (.dK (kvC CHARS.cps.toList)) ∧
      EachIs (OffS ChgS H G lch) ivs acc ∧ i ≤ d.length ∧ acc.length ≤ i ∧ rdD d = (acc ++ (rdD (d.drop i)).1, (rdD (d.drop i)).2) ∧
      ((cv = .non ∧ contS (d.drop i) = none) ∨ ∃ lc c r, cv = .ref lc ∧ G lc = some (.lst (bV c)) ∧ lc ≠ lch ∧ contS (d.drop i) = some (c, r))
    have fin : ∀ (i : Nat) (acc : List (List NBag)) (ivs : List V) (G : Hp), Same H G → G lch = some (.lst ivs) → EachIs (OffS ChgS H G lch) ivs acc → i ≤ d.length → rdD d = (acc, d.drop i) → ∀ p, G p = none → Q (.ref p) (upd G p (.tup [.ref lch, .int (i : Int)])) := by
      intro i acc ivs G sG hG he hi hrd p hp
      have sP := same_new (o := HO.tup [.ref lch, .int (i : Int)]) hp
      refine q p (.ref lch) _ (sG.trans sP) ?_ ?_ (sG.free hp)
      · rw [upd_same, hrd]
        have : d.length - (d.drop i).length = i := by rw [List.length_drop]; omega
        dsimp only
        rw [this]
      · rw [hrd]
        exact ⟨lch, ivs, rfl, hlch0, sP _ _ hG, he.mono fun y z k => k _ (fun b o _ e => sP _ _ e)⟩
    refine ⟨_, rfl, _, rfl, ?_⟩
    dsimp only [tNil]
    refine content_both ⟨a, d, 0, rfl, (s0.trans sL).seq hS, Nat.zero_le _, hd, hb, fun cv G1 s1 alt => ?_⟩
    have sG1 : Same H G1 := (s0.trans sL).trans s1
    refine while_post (fun σ G => ∃ i acc ivs ch, St i acc ivs .non ch σ G) (fun σ G => ∃ i acc ivs cv ch, St i acc ivs cv ch σ G)
      (fun σ G => match σ with
        | [_, _, _, _, some (.int e), _, _] => d.length - e.toNat
        | _ => 0) ⟨0, [], [], cv, none, rfl, sG1, s1 _ _ upd_same, s1 _ _ (sL _ _ hG0), .nil, Nat.zero_le _, Nat.le_refl _, by rw [List.drop_zero]; rfl, ?_⟩ ?_ ?_ ?_
    · rcases alt with ⟨rfl, hn⟩ | ⟨lc, c, r, rfl, hlc, hL, hc⟩
      · exact .inl ⟨rfl, hn⟩
      · exact .inr ⟨lc, c, r, rfl, hL, (fun z => by rw [z, upd_same] at hlc; cases hlc), hc⟩
    · rintro σ G ⟨i, acc, ivs, cv, ch, rfl, sG, hG, hD, he, hi, hal, hr, alt⟩
      refine ⟨_, rfl, rfl, _, rfl, ?_⟩
      rcases alt with ⟨rfl, hn⟩ | ⟨lc, c, r, rfl, hL, hne, hc⟩
      · refine (if_neg (by simp)).mpr ?_
        exact ⟨i, acc, ivs, ch, rfl, sG, hG, hD, he, hi, hal, hr, .inl ⟨rfl, hn⟩⟩
      · refine (if_pos (by simp)).mpr ?_
        have hcb := (contS_bytes hc (fun x hx => hb x (List.mem_of_mem_drop hx))).2
        have hcl := contS_len hc
        rw [List.length_drop] at hcl
        refine ⟨_, rfl, _, rfl, lc, dch, c, rfl, hL, hchars G hD, hcb, fun hno G' s' => ?_, fun v hv tv G' s' st => ?_⟩
        · refine ⟨_, rfl, rfl, _, rfl, (if_pos (by simp)).mpr ?_⟩
          refine ⟨_, rfl, _, rfl, h2s, fun p hp => fin i acc ivs G' (sG.trans s') (s' _ _ hG) (he.mono fun y z k => fun G2 k2 => k G2 (fun b o hb2 e => k2 b o hb2 (s' _ _ e))) hi ?_ p hp⟩
          rw [hr, rdD_step (d.drop i), hc]
          dsimp only
          rw [hno]
          dsimp only
          rw [List.append_nil]
        · obtain ⟨lv, ivv, rfl, hlv0, hlv, hev⟩ := id st
          have hG' := s' _ _ hG
          have hD' := s' _ _ hD
          have hil := he.length
          refine ⟨_, rfl, rfl, _, rfl, (if_neg (by simp)).mpr ?_⟩
          refine ⟨_, rfl, .inl ⟨rfl, _, sq_l hG'⟩, _, rfl, lch, _, _, rfl, rfl, hG', by rw [sizeLine_eq]; omega, ?_⟩
          have kA : ∀ b o, b ≠ lch → G' b = some o → upd G' lch (.lst (ivs ++ [.ref lv])) b = some o := fun b o hb2 e => by rw [upd_ne hb2]; exact e
          have sN : Same H (upd G' lch (.lst (ivs ++ [.ref lv]))) := same_mut (sG.trans s') hlch0
          refine ⟨_, rfl, a2, _, rfl, .inr (q2 _), _, rfl, lc, _, rfl, .inl (sq_l (kA _ _ hne (s' _ _ hL))), _, _, rfl, rfl, a4, _, rfl, .inr (q4 _), _, _, rfl, rfl, _, _, rfl, rfl, ?_⟩
          have ei : ((i : Int) + ((((bV [8, 0]).length : Nat) : Int) + (((bV c).length : Nat) : Int) + (((bV [24, 16, 8, 0]).length : Nat) : Int))) = ((i + (c.length + 6) : Nat) : Int) := by
            rw [bV_len c]
            show (i : Int) + ((2 : Int) + (c.length : Int) + 4) = _
            omega
          dsimp only
          rw [ei]
          refine ⟨_, rfl, _, rfl, ?_⟩
          dsimp only [tNil]
          refine content_both ⟨a, d, i + (c.length + 6), rfl, sN.seq hS, by omega, hd, hb, fun cv2 G2 s2 alt2 => ?_⟩
          have hr2 : r = d.drop (i + (c.length + 6)) := by
            obtain ⟨x, y, e1, _⟩ := contS_some hc
            have e2 : d.drop (i + (c.length + 6)) = (d.drop i).drop (c.length + 6) := by rw [List.drop_drop]
            rw [e2, e1]
            have e3 : x :: y :: (c ++ (be4 (chk (x :: y :: c)) ++ r)) = (x :: y :: (c ++ be4 (chk (x :: y :: c)))) ++ r := by simp
            have e4 : (x :: y :: (c ++ be4 (chk (x :: y :: c)))).length = c.length + 6 := by simp [be4]
            rw [e3, ← e4, List.drop_left]
          refine ⟨⟨i + (c.length + 6), acc ++ [v], ivs ++ [.ref lv], cv2, _, rfl, sN.trans s2, s2 _ _ upd_same, s2 _ _ (kA _ _ ne1 hD'), ?_, by omega, by rw [List.length_append]; simp; omega, ?_, ?_⟩, ?_⟩
          · refine each_snoc1 (fun G3 k3 => ?_) (he.mono fun y z k => fun G3 k3 => k G3 (fun b o hb2 e => k3 b o hb2 (s2 _ _ (kA _ _ hb2 (s' _ _ e)))))
            refine (stn_list (stn_named stn_bag)).weak _ _ _ _ _ sG ((stn_list (stn_named stn_bag)).mono _ _ _ _ _ (fun b o hb2 e => ?_) st)
            have hbl : b ≠ lch := fun z => by rw [z, hG] at hb2; cases hb2
            exact k3 b o hbl (s2 _ _ (kA _ _ hbl e))
          · rw [hr, rdD_step (d.drop i), hc]
            dsimp only
            rw [hv]
            dsimp only
            rw [← hr2, List.append_assoc]
            rfl
          · rcases alt2 with ⟨rfl, hn⟩ | ⟨lc2, c2, r2, rfl, hlc2, hL2, hc2⟩
            · exact .inl ⟨rfl, hn⟩
            · exact .inr ⟨lc2, c2, r2, rfl, hL2, (fun z => by rw [z, upd_same] at hlc2; cases hlc2), hc2⟩
          · show d.length - ((i + (c.length + 6) : Nat) : Int).toNat < d.length - ((i : Nat) : Int).toNat
            omega
    · intro σ G Q1 Q2 hQ h
      obtain ⟨v1, e1, e2, c, e3, h⟩ := h
      exact ⟨v1, e1, e2, c, e3, hQ _ _ h⟩
    · rintro σ G ⟨i, acc, ivs, ch, rfl, sG, hG, hD, he, hi, hal, hr, alt⟩
      rcases alt with ⟨_, hn⟩ | ⟨lc, c, r, z, _⟩
      · refine ⟨_, rfl, _, rfl, h2s, fun p hp => fin i acc ivs G sG hG he hi ?_ p hp⟩
        rw [hr, rdD_step (d.drop i), hn]
        dsimp only
        rw [List.append_nil]
      · cases z
end
end KA
set_option Elab.async false
set_option linter.all false
set_option maxRecDepth 100000
set_option maxHeartbeats 4000000
/-! the class Disk -/
namespace KA
open PySem PySem.Spec PyProof.Rows L2
open PySem.W (EachIs)
structure DskC (K : PySem.W.Frag) (mg : Str → Option Value) (C : Addr) : Prop where
  cl : Cls K C
  nD : NoAttr K C "data"
  nS : NoAttr K C "safe"
  mgC : mg "Disk" = some (.ref C)
structure MethG (P : Program) (w : World) (K : PySem.W.Frag) (mg : Str → Option Value) (base : Heap) (CX : CXT) (C : Addr) (m : Str) (k : Nat) (ps : List Str) (sp : Sp) : Prop where
  ex : ∃ f fd, Meth K C m f ∧ FnOk P w K mg base CX k f fd ps sp ∧ Binds K fd ps []
structure MakeG (P : Program) (w : World) (K : PySem.W.Frag) (mg : Str → Option Value) (base : Heap) (CX : CXT) (C : Addr) (k : Nat) (ps : List Str) (sp : Sp) : Prop where
  ex : ∃ f fd, Mk K C f ∧ FnOk P w K mg base CX k f fd ps sp ∧ Binds K fd ps []
abbrev dskF (l : Addr) (S : Nat) : List (Str × V) := [("data", .ref l), ("safe", .int (S : Int))]
/-- a disk at p -/
structure DskAt (C : Addr) (H : Hp) (p dx l : Addr) (S : Nat) (d : List Nat) : Prop where
  hp : H p = some (.ins C dx (dskF l S))
  hl : H l = some (.lst (bV d))
theorem DskAt.mono {C : Addr} {H H' : Hp} {p dx l : Addr} {S : Nat} {d : List Nat} (s : Same H H') (h : DskAt C H p dx l S d) : DskAt C H' p dx l S d := ⟨s _ _ h.hp, s _ _ h.hl⟩
def But (p : Addr) (H H' : Hp) : Prop := ∀ b o, b ≠ p → H b = some o → H' b = some o
theorem cut_none (d : List Nat) (k : Nat) : cutV (bV d) none (some (k : Int)) = bV (d.take k) := by
  unfold cutV
  rw [HT.sIx_none, HT.sIx_nat, List.drop_zero, Nat.sub_zero]
  unfold bV
  rw [List.map_take]
  by_cases h : k ≤ (List.map (fun n : Nat => V.int (n : Int)) d).length
  · rw [Nat.min_eq_left h]
  · rw [Nat.min_eq_right (by omega), List.take_length, List.take_of_length_le (by omega)]
section
variable {P : Program} {w : World} {K : PySem.W.Frag} {mg : Str → Option Value} {base : Heap} {f : Addr} {fd : FuncData} {C SE : Addr}
def spDInit (C : Addr) : Sp := fun vs H Q _ => ∃ (p dx : Addr), vs = [.ref p] ∧ H p = some (.ins C dx []) ∧ ∀ l H', H l = none → But p H H' → DskAt C H' p dx l 0 [] → Q .non H'
theorem ok_dinit (F : FnM K "__init__" "Disk.__init__" s_Disk___init__ f fd) (T : DskC K mg C) : FnOk P w K mg base CX0 1 f fd ["self"] (spDInit C) := by
  refine F.ok sc_Disk___init__ (fun vs H Q E h => ?_) (fun cdv A outer s H vs Q E hr h => ?_)
  · obtain ⟨p, dx, rfl, _⟩ := h
    rfl
  · obtain ⟨p, dx, rfl, hp, q⟩ := h
    refine ⟨_, PSs.nox (pss_cons (ps_fld (pv 0) (pe_lst pa_nil) rfl) (pss_one (ps_fld (pv 0) pe_int rfl))), ?_⟩
    refine ⟨Nat.zero_le _, fun l hl => ?_⟩
    have sL := same_new (o := HO.lst []) hl
    have ne : l ≠ p := fun z => by rw [z, hp] at hl; cases hl
    refine ⟨_, rfl, p, C, dx, _, rfl, sL _ _ hp, T.cl, T.nD, (by decide), ?_⟩
    refine ⟨_, rfl, p, C, dx, _, rfl, upd_same, T.cl, T.nS, (by show 1 < _; decide), ?_⟩
    refine q l _ hl (fun b o hb e => ?_) ⟨by rw [upd_same]; rfl, ?_⟩
    · rw [upd_ne hb, upd_ne hb]; exact sL _ _ e
    · rw [upd_ne ne, upd_ne ne]; exact upd_same
def spDSync (C : Addr) : Sp := fun vs H Q _ => ∃ (p dx l : Addr) (S : Nat) (d : List Nat), vs = [.ref p] ∧ DskAt C H p dx l S d ∧ ∀ H', But p H H' → DskAt C H' p dx l d.length d → Q .non H'
theorem ok_dsync (F : FnM K "sync" "Disk.sync" s_Disk_sync f fd) (T : DskC K mg C) (gL : mg "len" = none) : FnOk P w K mg base CX0 1 f fd ["self"] (spDSync C) := by
  refine F.ok sc_Disk_sync (fun vs H Q E h => ?_) (fun cdv A outer s H vs Q E hr h => ?_)
  · obtain ⟨p, dx, l, S, d, rfl, _⟩ := h
    rfl
  · obtain ⟨p, dx, l, S, d, rfl, hD, q⟩ := h
    refine ⟨_, PSs.nox (pss_one (ps_fld (pv 0) (pe_callB call_len_seq (by rfl) gL PySem.boot_len (pa_cons (pe_fld (pv 0) rfl) pa_nil)) rfl)), ?_⟩
    have ne : l ≠ p := fun z => by have := hD.hl; rw [z, hD.hp] at this; cases this
    refine ⟨_, rfl, p, C, dx, _, _, rfl, hD.hp, T.cl, T.nD, rfl, l, _, rfl, .inl (sq_l hD.hl), ?_⟩
    refine ⟨_, rfl, p, C, dx, _, rfl, hD.hp, T.cl, T.nS, (by show 2 < _; decide), ?_⟩
    refine q _ (fun b o hb e => by rw [upd_ne hb]; exact e) ⟨?_, by rw [upd_ne ne]; exact hD.hl⟩
    rw [upd_same, bV_len]
    rfl
def spDCrash (C : Addr) : Sp := fun vs H Q _ => ∃ (p dx l j : Addr) (S k : Nat) (d dj : List Nat), vs = [.ref p, .int k, .ref j] ∧ DskAt C H p dx l S d ∧ H j = some (.lst (bV dj)) ∧ d.length + dj.length ≤ 1000000 ∧
  ∀ l' H', H l' = none → But p H H' → DskAt C H' p dx l' S (d.take (S + k) ++ dj) → Q .non H'
theorem ok_dcrash (F : FnM K "crash" "Disk.crash" s_Disk_crash f fd) (T : DskC K mg C) : FnOk P w K mg base CX0 1 f fd ["self", "kept", "junk"] (spDCrash C) := by
  refine F.ok sc_Disk_crash (fun vs H Q E h => ?_) (fun cdv A outer s H vs Q E hr h => ?_)
  · obtain ⟨p, dx, l, j, S, k, d, dj, rfl, _⟩ := h
    rfl
  · obtain ⟨p, dx, l, j, S, k, d, dj, rfl, hD, hj, hlen, q⟩ := h
    refine ⟨_, PSs.nox (pss_one (ps_fld (pv 0) (pe_op op_cat (pe_slice sl_list (pe_fld (pv 0) rfl) po_none (po_some (pe_op op_add (pe_fld (pv 0) rfl) (pv 1)))) (pv 2)) rfl)), ?_⟩
    refine ⟨_, rfl, p, C, dx, _, _, rfl, hD.hp, T.cl, T.nD, rfl, _, rfl, p, C, dx, _, _, rfl, hD.hp, T.cl, T.nS, rfl, _, rfl, _, _, rfl, rfl, _, rfl, l, _, rfl, sq_l hD.hl, fun p1 hp1 => ?_⟩
    have eS : ((S : Int) + (k : Int)) = ((S + k : Nat) : Int) := by omega
    dsimp only
    rw [eS, cut_none]
    have s1 := same_new (o := HO.lst (bV (d.take (S + k)))) hp1
    refine ⟨_, rfl, p1, j, _, _, rfl, rfl, upd_same, s1 _ _ hj, by rw [bV_len, bV_len, sizeLine_eq, List.length_take]; omega, fun l2 hl2 => ?_⟩
    have e2 : bV (d.take (S + k)) ++ bV dj = bV (d.take (S + k) ++ dj) := by unfold bV; rw [List.map_append]
    rw [e2]
    have s2 := same_new (o := HO.lst (bV (d.take (S + k) ++ dj))) hl2
    have hl20 := s1.free hl2
    have ne : l2 ≠ p := fun z => by rw [z, hD.hp] at hl20; cases hl20
    refine ⟨_, rfl, p, C, dx, _, rfl, s2 _ _ (s1 _ _ hD.hp), T.cl, T.nD, (by show 2 < _; decide), ?_⟩
    refine q l2 _ hl20 (fun b o hb e => by rw [upd_ne hb]; exact s2 _ _ (s1 _ _ e)) ⟨by rw [upd_same]; rfl, by rw [upd_ne ne]; exact upd_same⟩
def spDRecover (C : Addr) : Sp := fun vs H Q _ => ∃ (p dx l : Addr) (S : Nat) (d : List Nat), vs = [.ref p] ∧ DskAt C H p dx l S d ∧ d.length ≤ 1000000 ∧ (∀ x ∈ d, x < 256) ∧
  ∀ v l' H', H l' = none → But p H H' → ListS ChgS H H' v (rdD d).1 → DskAt C H' p dx l' (d.length - (rdD d).2.length) (d.take (d.length - (rdD d).2.length)) → v ≠ .ref l' → Q v H'
theorem ok_drecover (F : FnM K "recover" "Disk.recover" s_Disk_recover f fd) (T : DskC K mg C) (CR : Cal P w K mg base "read_changes" 19 ["data"] (spReadChanges K)) : FnOk P w K mg base CX0 20 f fd ["self"] (spDRecover C) := by
  refine F.ok sc_Disk_recover (fun vs H Q E h => ?_) (fun cdv A outer s H vs Q E hr h => ?_)
  · obtain ⟨p, dx, l, S, d, rfl, _⟩ := h
    rfl
  · obtain ⟨p, dx, l, S, d, rfl, hD, hd, hb, q⟩ := h
    have nd := sc_Disk_recover.nd
    refine ⟨_, PSs.nox (pss_cons (ps_asg (pe_cal CR hr (pa_cons (pe_fld (pv 0) rfl) pa_nil)) (pg_tup (by rfl) (pgs_cons (pg_name (i := 1) nd rfl (Or.inl rfl)) (pgs_cons (pg_name (i := 2) nd rfl (Or.inl rfl)) pgs_nil))))
      (pss_cons (ps_fld (pv 0) (pe_slice sl_list (pe_fld (pv 0) rfl) po_none (po_some (pv 2))) rfl)
      (pss_cons (ps_fld (pv 0) (pv 2) rfl)
      (pss_one (ps_ret (pv 1)))))), ?_⟩
    refine ⟨_, rfl, p, C, dx, _, _, rfl, hD.hp, T.cl, T.nD, rfl, l, d, rfl, sq_l hD.hl, hd, hb, fun t v H1 s1 ht hv _ => ?_⟩
    obtain ⟨lv, ivs, rfl, hlv0, hlv, hev⟩ := id hv
    refine ⟨t, _, rfl, sq_t ht, rfl, _, _, rfl, _, _, rfl, rfl, ?_⟩
    have hp1 := s1 _ _ hD.hp
    refine ⟨_, rfl, p, C, dx, _, _, rfl, hp1, T.cl, T.nD, rfl, _, rfl, _, rfl, l, _, rfl, sq_l (s1 _ _ hD.hl), fun l2 hl2 => ?_⟩
    dsimp only
    rw [cut_none]
    have s2 := same_new (o := HO.lst (bV (d.take (d.length - (rdD d).2.length)))) hl2
    have hl20 := s1.free hl2
    have ne : l2 ≠ p := fun z => by rw [z, hD.hp] at hl20; cases hl20
    have nv : lv ≠ l2 := fun z => by rw [z, hl2] at hlv; cases hlv
    have hlvp : lv ≠ p := fun z => by rw [z, hD.hp] at hlv0; cases hlv0
    refine ⟨_, rfl, p, C, dx, _, rfl, s2 _ _ hp1, T.cl, T.nD, (by show 2 < _; decide), ?_⟩
    refine ⟨_, rfl, _, rfl, p, C, dx, _, rfl, upd_same, T.cl, T.nS, (by show 2 < _; decide), ?_⟩
    have keep : ∀ (o1 o2 : HO) b o, b ≠ p → H1 b = some o → (upd (upd (upd H1 l2 (.lst (bV (d.take (d.length - (rdD d).2.length))))) p o1) p o2) b = some o := fun o1 o2 b o hbp e => by rw [upd_ne hbp, upd_ne hbp]; exact s2 _ _ e
    refine ⟨_, rfl, q _ l2 _ hl20 (fun b o hbp e => keep _ _ b o hbp (s1 _ _ e)) ?_ ⟨by rw [upd_same]; rfl, by rw [upd_ne ne, upd_ne ne]; exact upd_same⟩ (fun z => nv (by injection z))⟩
    exact (stn_list (stn_list (stn_named stn_bag))).mono _ _ _ _ _ (fun b o hb0 e => keep _ _ b o (fun z => by rw [z, hD.hp] at hb0; cases hb0) e) hv
def spDAppend (C SE : Addr) : Sp := fun vs H Q E => ∃ (p dx l pc : Addr) (S : Nat) (d : List Nat) (c : Chg), vs = [.ref p, .ref pc] ∧ DskAt C H p dx l S d ∧ ChgAt H pc c ∧ (∀ n ∈ c, ∀ e ∈ n.2, smE e) ∧ (fmtChange (c.map vNamed)).length ≤ 90000 ∧ chrsOk c ∧ d.length ≤ 500000 ∧
  ((fmtChange (c.map vNamed)).length ≤ 65535 → ∀ H', But l H H' → DskAt C H' p dx l S (d ++ recd (fmtChange (c.map vNamed))) → Q .non H') ∧ (¬ (fmtChange (c.map vNamed)).length ≤ 65535 → ∀ H', Same H H' → E (.ref SE) none H')
theorem ok_dappend (F : FnM K "append" "Disk.append" s_Disk_append f fd) (T : DskC K mg C) (CE : CalX P w K mg base "encode_change" 5 ["change"] (spEncode SE)) : FnOk P w K mg base (L2.CX P w) 6 f fd ["self", "change"] (spDAppend C SE) := by
  refine F.ok sc_Disk_append (fun vs H Q E h => ?_) (fun cdv A outer s H vs Q E hr h => ?_)
  · obtain ⟨p, dx, l, pc, S, d, c, rfl, _⟩ := h
    rfl
  · obtain ⟨p, dx, l, pc, S, d, c, rfl, hD, hc, hsm, hl, hch, hd, q, qe⟩ := h
    refine ⟨_, pss_one (ps_expr (pe_bm PySem.F.plainAttrs_list PySem.F.slot_list_extend PySem.F.type_list_extend mt_extend (pe_fld (pv 0) rfl) (pa_cons (pe_calX (E := E) CE hr (passes_call (W := fun c d _ H' => E c d H') (takes_of rfl rfl rfl rfl) fun _ _ _ _ z => z) (pa_cons (pv 1) pa_nil)) pa_nil))), ?_⟩
    refine ⟨_, rfl, p, C, dx, _, _, rfl, hD.hp, T.cl, T.nD, rfl, .inl ⟨rfl, _, sq_l hD.hl⟩, _, rfl, pc, c, rfl, hc, hsm, hl, hch, fun h6 l2 H1 s1 hl2 hL2 => ?_, fun h6 H1 s1 => qe h6 H1 s1⟩
    have ne : p ≠ l := fun z => by have := hD.hl; rw [← z, hD.hp] at this; cases this
    refine ⟨l, l2, _, _, rfl, rfl, s1 _ _ hD.hl, hL2, by rw [bV_len, bV_len, recd_len, sizeLine_eq]; omega, ?_⟩
    have e2 : bV d ++ bV (recd (fmtChange (c.map vNamed))) = bV (d ++ recd (fmtChange (c.map vNamed))) := by unfold bV; rw [List.map_append]
    rw [e2]
    exact q h6 _ (fun b o hb e => by rw [upd_ne hb]; exact s1 _ _ e) ⟨by rw [upd_ne ne]; exact s1 _ _ hD.hp, upd_same⟩
end
end KA
set_option Elab.async false
set_option linter.all false
set_option maxRecDepth 100000
set_option maxHeartbeats 4000000
/-! xs[::-1]; _law_chars, _law_check, _law_bytes -/
namespace KA
open PySem PySem.Spec PyProof.Rows L2
open PySem.W (EachIs)
section
variable {X : Cx} {e st : Expr} {te ts : TE} {pos p2 : Pos}
theorem pe_slRev (he : PE X e te) (hs : PE X st ts) : PE X (.Subscript e (.Slice none none (some st) p2) pos) (fun σ H Q => te σ H fun x H1 => ts σ H1 fun y H2 => y = .int (-1) ∧ ∃ a xs, x = .ref a ∧ SqL X.K H2 a xs ∧ ∀ p, H2 p = none → Q (.ref p) (upd H2 p (.lst xs.reverse))) := by
  refine ⟨fun pins s σ H Q I h => ?_⟩
  refine Subscript_ (thn (he.run pins s σ H _ I h) fun v s1 ⟨x, H1, I1, r1, q1⟩ => ?_)
  refine wpAny_Slice ?_
  rw [evalPart_none]
  refine wpAny_pure (wpAny_pure ?_)
  rw [evalPart_some]
  refine thn (hs.run pins s1 σ H1 _ I1 q1) fun vk s3 ⟨y, H3, I3, pk, e1, a, xs, ex, hx, q⟩ => ?_
  subst e1 ex
  cases r1
  obtain ⟨tk, rfl⟩ := pk
  have I4 : Inv X pins σ H3 { s3 with heap := s3.heap.push { cls := .type "slice", data := .fields #[.none, .none, .int (-1) tk] } } := I3.kept (t' := s3.toks) fun b ob q => Heap.get?_push_of_some _ q
  obtain ⟨its, r, ht, hz⟩ := I4.list hx
  have hlen := r.length
  have fin : wpAny (model X.prog X.w) X.A (getItem (.ref a) (.ref s3.heap.objs.size)) (EP X pins σ Q) X.xe { s3 with heap := s3.heap.push { cls := .type "slice", data := .fields #[.none, .none, .int (-1) tk] } } := by
    refine wpAny_getItem_list_slice ht.isList (Heap.IsSliceOf.new ..) .none .none (.int (-1) tk) (by decide) ?_ (by rw [List.size_toArray] <;> omega)
    rw [PySem.W.krv_pick]
    refine ⟨.ref _, _, I4.laid (t' := s3.toks) (o := .lst xs.reverse) (fun b ob q => Heap.get?_push_of_some _ q) (Nat.le_refl _) ?_, rfl, q _ (I4.hok.fresh (Nat.le_refl _))⟩
    have rr : Vals xs.reverse its.reverse := r.reverse
    exact ⟨by rw [List.length_reverse]; exact hz, _, 0, rr, Heap.get?_push_size _ rfl⟩
  show wpAny (model X.prog X.w) X.A (subscriptTail e (.Slice none none (some st) p2) (.ref a) (.ref s3.heap.objs.size)) (EP X pins σ Q) X.xe _
  exact tail_any (ops := [.ref a, .ref s3.heap.objs.size]) ht.isList.typeIs slot_list_getitem.lookup fin (by with_unfolding_all rfl)
end
def LCH : Str := " !\"#$?&'()*+,-./0123456789:;<=>?@ABCDEFGHIJKLMNOPQRSTUVWXYZ[\\]^_`abcdefghijklmnopqrstuvwxyz{|}~"
theorem lch_len : LCH.length = 95 := by decide +kernel
theorem lch_at : ∀ i, i < 95 → i ≠ 5 → LCH.cps.toList[i]? = some (i + 32) := by decide +kernel
theorem lch_all : ∀ c ∈ LCH.cps.toList, 32 ≤ c ∧ c ≤ 126 ∧ c ≠ 37 := by decide +kernel
section
variable {P : Program} {w : World} {K : PySem.W.Frag} {mg : Str → Option Value} {base : Heap} {f : Addr} {fd : FuncData}
def spChars : Sp := fun vs H Q _ => vs = [] ∧ Q (.str LCH) H
theorem ok_chars (F : FnP K "_law_chars" s__law_chars f fd) : FnOk P w K mg base CX0 1 f fd [] spChars := by
  refine F.ok sc__law_chars (fun vs H Q E h => ?_) (fun cdv A outer s H vs Q E hr h => ?_)
  · obtain ⟨rfl, _⟩ := h
    rfl
  · obtain ⟨rfl, q⟩ := h
    refine ⟨_, PSs.nox (pss_one (ps_ret pe_str)), ?_⟩
    exact q
theorem ok_lcheck (F : FnP K "_law_check" s__law_check f fd) (gI : mg "int" = none) : FnOk P w K mg base CX0 1 f fd ["data"] (spCheck K) := by
  refine F.ok sc__law_check (fun vs H Q E h => ?_) (fun cdv A outer s H vs Q E hr h => ?_)
  · obtain ⟨a, d, rfl, _⟩ := h
    rfl
  · obtain ⟨a, d, rfl, hS, hd, q⟩ := h
    have nd := sc__law_check.nd
    refine ⟨_, PSs.nox (pss_cons (ps_set (i := 1) nd rfl (Or.inl rfl) pe_int)
      (pss_cons (ps_for PassesOwn.never rfl (pi_list (pv 0)) (pg_name (i := 2) nd rfl (Or.inl rfl)) (pss_one (ps_set (i := 1) nd rfl (Or.inl rfl) (pe_op op_mod (pe_callTy call_int1 (by rfl) gI (by decide +kernel) (pa_cons (pe_op op_add (pe_op op_mul (pv 1) pe_int) (pv 2)) pa_nil)) pe_int))))
      (pss_one (ps_ret (pv 1))))), ?_⟩
    refine ⟨_, rfl, a, rfl, ⟨_, hS⟩, for_it (walk_list (xs := bV d)) (fun i σ G => G = H ∧ ∃ v, σ = [some (.ref a), some (.int (chk (d.take i) : Int)), v]) ⟨rfl, none, rfl⟩ (fun i σ G _ z => by rw [z.1]; exact hS) ?_ ?_⟩
    · rintro i x σ _ G hi ⟨rfl, v, rfl⟩ ⟨rfl, hx⟩
      obtain ⟨b, hb, rfl⟩ := bV_at hx
      have hc := chk_lt (d.take i)
      have hb40 := hd b (List.mem_of_getElem? hb)
      refine ⟨_, rfl, _, _, rfl, rfl, .inl ⟨by omega, by omega⟩, _, rfl, _, _, rfl, rfl, .inl ⟨_, rfl, _, _, rfl, rfl, (by show (0 : Int) < 4294967291; decide), ?_⟩⟩
      refine ⟨rfl, some (V.int (b : Int)), ?_⟩
      have et : d.take (i + 1) = d.take i ++ [b] := by rw [List.take_add_one, hb]; rfl
      rw [et, chk_snoc]
      have ec : ((chk (d.take i) : Int) * 31 + (b : Int)) % 4294967291 = (((chk (d.take i) * 31 + b) % 4294967291 : Nat) : Int) := by
        generalize chk (d.take i) = c
        omega
      rw [← ec]
      rfl
    · rintro σ G ⟨rfl, v, rfl⟩
      rw [bV_len, List.take_length]
      exact ⟨_, rfl, q⟩
def rInt1 : List V → Hp → VK → Prop := fun xs H Q => (∃ i, xs = [V.int i] ∧ Q (.int i) H) ∨ ∃ b, xs = [V.bl b] ∧ Q (.int (if b = true then 1 else 0)) H
def spLBytes : Sp := fun vs H Q _ => ∃ (n z : Nat), vs = [.int n, .int z] ∧ n < 2 ^ 50 ∧ (z = 2 ∨ z = 4) ∧ ∀ l H', Same H H' → H l = none → H' l = some (.lst (bV (if z = 2 then be2 n else be4 n))) → Q (.ref l) H'
theorem pow4 : ∀ i, i < 4 → atI [V.int 1, .int 256, .int 65536, .int 16777216] ((i : Nat) : Int) = some (.int ((256 ^ i : Nat) : Int)) := fun i hi => by
  match i, hi with
  | 0, _ => exact atI_nat (j := 0) rfl
  | 1, _ => exact atI_nat (j := 1) rfl
  | 2, _ => exact atI_nat (j := 2) rfl
  | 3, _ => exact atI_nat (j := 3) rfl
theorem ok_lbytes (F : FnP K "_law_bytes" s__law_bytes f fd) (gI : mg "int" = none) (gR : mg "range" = none) : FnOk P w K mg base CX0 1 f fd ["number", "size"] spLBytes := by
  refine F.ok sc__law_bytes (fun vs H Q E h => ?_) (fun cdv A outer s H vs Q E hr h => ?_)
  · obtain ⟨n, z, rfl, _⟩ := h
    rfl
  · obtain ⟨n, z, rfl, hn, hz, q⟩ := h
    have nd := sc__law_bytes.nd
    refine ⟨_, PSs.nox (pss_cons (ps_setLc (i := 2) (own := [("k", 3)]) (g := gName 3) (tt := tYes) (te := tOp (rI (fun _ j => 0 < j) fun i j => .int (i % j)) (tOp (rI CDivN fun i j => .int (i.fdiv j)) (tCB rInt1 (tCons (tVar 0) tNil)) (tOp (rIxL K) (tLst (tCons (tC (.int 1)) (tCons (tC (.int 256)) (tCons (tC (.int 65536)) (tCons (tC (.int 16777216)) tNil))))) (tVar 3))) (tC (.int 256))) (by rfl) nd rfl rfl (sw_true rfl rfl rfl (by decide +kernel)) (pi_range1 rfl gR (pa_cons (pv 1) pa_nil)) (blkOk_by (own := [("k", 3)]) (N := ["number", "size", "rows", "k"]) (sc := defScope s__law_bytes) (by decide +kernel)) (fun _ _ _ _ _ => pg_name (i := 3) nd rfl (Or.inl rfl)) (fun _ _ _ _ _ => pts_nil)
        (fun _ _ _ _ _ => pe_op op_mod (pe_op op_fdivN (pe_callTy (T := "int") (r := rInt1) call_int1 (by rfl) gI (by decide +kernel) (pa_cons (pv 0) pa_nil)) (pe_ix ix_list (pe_lst (pa_cons pe_int (pa_cons pe_int (pa_cons pe_int (pa_cons pe_int pa_nil))))) (pv 3) (fun _ _ => rfl))) pe_int))
      (pss_one (ps_ret (pe_slRev (pv 2) (pe_un un_neg pe_int))))), ?_⟩
    refine ⟨_, rfl, (z : Int), rfl, by omega, by omega, fun D hD => ?_⟩
    refine lc_same walk_range (List.range z) (by rw [List.length_range]; omega) (fun _ => true) (fun _ v k => v = .int ((n / 256 ^ k % 256 : Nat) : Int)) (fun _ _ _ _ _ z => z) hD (fun _ _ => trivial) (by omega) ?_ ?_
    · rintro i x b H1 _ hi hb s1 ⟨rfl, rfl⟩ Q' Qn k1 _
      have hi2 : i < z := by omega
      obtain rfl : i = b := by
        rw [List.getElem?_range hi2] at hb
        exact Option.some.inj hb
      have hi4 : i < 4 := by omega
      refine ⟨rfl, yes_in ⟨_, rfl, .inl ⟨_, rfl, (by show 4 ≤ sizeLine; decide), fun q4 hq4 => ⟨_, rfl, ?_⟩⟩⟩⟩
      have e0 : (0 + ((i : Nat) : Int)) = ((i : Nat) : Int) := by omega
      have p4 : atI [V.int 1, .int 256, .int 65536, .int 16777216] (0 + ((i : Nat) : Int)) = some (.int ((256 ^ i : Nat) : Int)) := by rw [e0]; exact pow4 i hi4
      refine ⟨q4, _, _, _, rfl, rfl, sq_l upd_same, p4, _, _, rfl, rfl, ?_, _, _, rfl, rfl, (by show (0 : Int) < 256; decide), k1 rfl _ _ (same_new hq4) ?_⟩
      · match i, hi4 with
        | 0, _ => exact ⟨by decide, by decide⟩
        | 1, _ => exact ⟨by decide, by decide⟩
        | 2, _ => exact ⟨by decide, by decide⟩
        | 3, _ => exact ⟨by decide, by decide⟩
      · have : ((n : Int).fdiv ((256 ^ i : Nat) : Int)) % 256 = ((n / 256 ^ i % 256 : Nat) : Int) := by
          generalize 256 ^ i = m
          rw [Int.fdiv_eq_ediv_of_nonneg _ (Int.natCast_nonneg m)]
          norm_cast
        rw [← this]
    · intro H1 acc s1 ha he
      rw [filter_true] at he
      have hacc := ints_of (g := fun k => n / 256 ^ k % 256) he
      refine ⟨_, rfl, _, rfl, rfl, D, _, rfl, sq_l ha, fun p hp => ?_⟩
      have e2 : acc.reverse = bV (if z = 2 then be2 n else be4 n) := by
        rw [hacc]
        unfold bV
        rw [← List.map_reverse]
        rcases hz with rfl | rfl
        · rw [if_pos rfl]
          show (([n / 256 ^ 0 % 256, n / 256 ^ 1 % 256] : List Nat).reverse).map _ = _
          simp [be2]
        · rw [if_neg (by decide)]
          show (([n / 256 ^ 0 % 256, n / 256 ^ 1 % 256, n / 256 ^ 2 % 256, n / 256 ^ 3 % 256] : List Nat).reverse).map _ = _
          simp [be4]
      rw [e2]
      exact q p _ (s1.trans (same_new hp)) (s1.free hp) upd_same
end
end KA
set_option Elab.async false
set_option linter.all false
set_option maxRecDepth 100000
set_option maxHeartbeats 4000000
/-! _law_shown, _law_shown_bag, _law_shown_change, _law_record -/
namespace KA
open PySem PySem.Spec PyProof.Rows L2
open PySem.W (EachIs)
section
variable {P : Program} {w : World} {K : PySem.W.Frag} {mg : Str → Option Value} {base : Heap} {f : Addr} {fd : FuncData}
theorem ok_shown (F : FnP K "_law_shown" s__law_shown f fd) (gI : mg "isinstance" = none) (gS : mg "str" = none) (gN : mg "int" = none) : FnOk P w K mg base CX0 1 f fd ["one"] spFmtV := by
  refine F.ok sc__law_shown (fun vs H Q E h => ?_) (fun cdv A outer s H vs Q E hr h => ?_)
  · obtain ⟨x, rfl, _⟩ := h
    rfl
  · obtain ⟨x, rfl, hs, hl, q⟩ := h
    refine ⟨_, PSs.nox (pss_one (ps_ret (pe_ifExp (pt_val (pe_callB call_isi (by rfl) gI (by decide +kernel) (pa_cons (pv 0) (pa_cons (pe_bltn (v := .ty "int") (by rfl) gN (by decide +kernel) rfl) pa_nil))))
      (pe_callTy call_str_int (by rfl) gS (by decide +kernel) (pa_cons (pv 0) pa_nil)) (pe_op op_add_str (pe_op op_add_str pe_str (pv 0)) pe_str)))), ?_⟩
    cases x with
    | inl i =>
      refine ⟨_, rfl, _, _, .type "int", .type "int", true, rfl, .ty "int", .base (.int i), kit_ty (by decide +kernel), _, rfl, iteT ?_⟩
      exact ⟨_, rfl, i, rfl, log_fits hs, q _ (text_int i)⟩
    | inr z =>
      refine ⟨_, rfl, _, _, .type "str", .type "int", false, rfl, .ty "int", .base (.str z), kit_ty (by decide +kernel), _, rfl, iteF ?_⟩
      have eq : (Str.ofString "\"").cps.toList = [34] := by decide +kernel
      have lq : (Str.ofString "\"").length = 1 := by decide +kernel
      have hl' : z.length + 2 ≤ 90000 := by
        have : (fmtVl (vlOf (.inr z))).length = z.length + 2 := by
          show (34 :: (z.cps.toList ++ [34])).length = _
          rw [List.length_cons, List.length_append]
          rfl
        omega
      refine ⟨_, rfl, _, _, rfl, rfl, ?_, _, _, rfl, rfl, ?_, q _ ?_⟩
      · rw [sizeLine_eq]; omega
      · rw [Str.length_append, sizeLine_eq]; omega
      · rw [app_cps, app_cps, eq]
        rfl
theorem ok_shown_bag (F : FnP K "_law_shown_bag" s__law_shown_bag f fd) (gS : mg "str" = none) (CV : Cal P w K mg base "_law_shown" 1 ["one"] spFmtV) : FnOk P w K mg base CX0 3 f fd ["bag"] spFmtBag := by
  refine F.ok sc__law_shown_bag (fun vs H Q E h => ?_) (fun cdv A outer s H vs Q E hr h => ?_)
  · obtain ⟨n, r, rfl, _⟩ := h
    rfl
  · obtain ⟨a, b, rfl, hb, hsm, hl, q⟩ := h
    obtain ⟨l1, l2, l3⟩ := pairs_parts hl
    obtain ⟨ts, h1, h2⟩ := id hb
    have hn : b.length = ts.length := h2.length.symm
    have nd := sc__law_shown_bag.nd
    refine ⟨_, PSs.nox (pss_cons (ps_set (i := 1) nd rfl (Or.inl rfl) (pe_lst pa_nil))
      (pss_cons (ps_for PassesOwn.never rfl (pi_list (pv 0)) (pg_tup rfl (pgs_cons (pg_name (i := 2) nd rfl (Or.inl rfl)) (pgs_cons (pg_name (i := 3) nd rfl (Or.inl rfl)) pgs_nil)))
        (pss_one (ps_expr (pe_bm PySem.F.plainAttrs_list PySem.F.slot_list_append PySem.F.type_list_append mt_append (pv 1) (pa_cons
          (pe_op op_add_str (pe_op op_add_str (pe_op op_add_str pe_str (pe_join pe_str (pe_lc (own := [("one", 4)]) (g := gName 4) (tt := tYes) (by rfl) nd (pi_tup (pv 2)) (blkOk_by (own := [("one", 4)]) (N := ["bag", "rows", "row", "count", "one"]) (sc := defScope s__law_shown_bag) (by decide +kernel)) (fun _ _ _ _ _ => pg_name (i := 4) nd rfl (Or.inl rfl)) (fun _ _ _ _ _ => pts_nil) (fun _ _ _ _ _ => pe_cal CV hr.lt (pa_cons (pv 4) pa_nil))))) pe_str)
            (pe_callTy call_str_int (by rfl) gS (by decide +kernel) (pa_cons (pv 3) pa_nil))) pa_nil)))))
      (pss_one (ps_ret (pe_op op_add_str (pe_op op_add_str pe_str (pe_join pe_str (pv 1))) pe_str))))), ?_⟩
    refine ⟨Nat.zero_le _, fun l hl0 => ?_⟩
    have sL := same_new (o := HO.lst []) hl0
    refine ⟨_, rfl, a, rfl, ⟨_, sq_l (sL _ _ h1)⟩, ?_⟩
    refine for_it (walk_list (xs := ts.map V.ref)) (fun i σ G => (∃ r c, σ = [some (.ref a), some (.ref l), r, c, none]) ∧ Same H G ∧ ∃ ys : List Str, G l = some (.lst (ys.map V.str)) ∧ ys.map (fun z => z.cps.toList) = (b.take i).map fun e => fmtPair (vPair e)) ⟨⟨_, _, rfl⟩, sL, [], upd_same, rfl⟩ (fun i σ G _ z => sq_l (z.2.1 _ _ h1)) ?_ ?_
    · rintro i x σ _ G hi ⟨⟨r, c, rfl⟩, sG, ys, hG, hys⟩ ⟨rfl, hx⟩
      obtain ⟨t, ht, rfl⟩ := ref_at hx
      rw [List.length_map] at hi
      have he : b[i]? = some (b[i]'(by omega)) := List.getElem?_eq_getElem (by omega)
      obtain ⟨e, hee⟩ : ∃ e, e = b[i]'(by omega) := ⟨_, rfl⟩
      rw [← hee] at he
      obtain ⟨qa, p1, p2⟩ := (each_get h2 ht he).mono sG
      have hm := List.mem_of_getElem? he
      have hpl := l3 e hm
      rw [pair_part] at hpl
      obtain ⟨r1, r2, r3⟩ := rowF_parts (r := e.1) (by omega)
      refine gp2 p1 ?_
      refine ⟨_, rfl, .inl ⟨rfl, _, sq_l hG⟩, ⟨_, rfl⟩, _, rfl, qa, rfl, ⟨_, p2.sq⟩, fun D hD => ?_⟩
      refine lc_same (walk_tup (xs := e.1.map kV)) e.1 (by rw [List.length_map]) (fun _ => true) (fun _ v k => ∃ z : Str, v = .str z ∧ z.cps.toList = fmtVl (vlOf k)) (fun _ _ _ _ _ z => z) hD (fun H' s' => (p2.mono s').sq) (by rw [List.length_map]; omega) ?_ ?_
      · rintro j y k G1 _ hj hk s1 ⟨rfl, hy⟩ Q' Qn k1 _
        obtain ⟨k', hk', rfl⟩ := map_at hy
        obtain rfl : k = k' := Option.some.inj (hk.symm.trans hk')
        have hmk := List.mem_of_getElem? hk
        exact ⟨rfl, yes_in ⟨_, rfl, k, rfl, (hsm e hm).1 k hmk, r3 k hmk, fun z hz => k1 rfl _ _ (Same.refl _) ⟨z, rfl, hz⟩⟩⟩
      · intro G1 acc s1 ha hea
        rw [filter_true] at hea
        obtain ⟨ws, rfl, hws⟩ := strs_of hea
        obtain ⟨j1, j2⟩ := join_fits (g := Str.ofString ", ") hws (by rw [sep_comma.2]; decide) (by rw [sep_comma.1]; omega)
        rw [sep_comma.1] at j2
        have hjl : (Txt.join (Str.ofString ", ") ws).length + 2 ≤ 90000 := by
          show (Txt.join (Str.ofString ", ") ws).cps.toList.length + 2 ≤ 90000
          rw [j2]; omega
        have e1 : (Str.ofString "(").cps.toList = [40] ∧ (Str.ofString "(").length = 1 := by decide +kernel
        have e2 : (Str.ofString "): ").cps.toList = [41, 58, 32] ∧ (Str.ofString "): ").length = 3 := by decide +kernel
        have il := int_len e.2
        have hG1 := s1 _ _ hG
        have hyl : ys.length = i := by
          have := congrArg List.length hys
          rw [List.length_map, List.length_map, List.length_take] at this
          omega
        refine ⟨_, D, ws, rfl, rfl, .inl (sq_l ha), j1, _, _, rfl, rfl, ?_, _, _, rfl, rfl, ?_, _, rfl, _, rfl, log_fits (hsm e hm).2, _, _, rfl, rfl, ?_, l, _, _, rfl, rfl, hG1, by rw [List.length_map, sizeLine_eq]; omega, ?_⟩
        · rw [e1.2, sizeLine_eq]; omega
        · rw [Str.length_append, e1.2, e2.2, sizeLine_eq]; omega
        · rw [Str.length_append, Str.length_append, e1.2, e2.2, sizeLine_eq]; omega
        refine ⟨⟨_, _, rfl⟩, same_mut (sG.trans s1) hl0, ys ++ [_], by rw [List.map_append]; exact upd_same, ?_⟩
        have et : b.take (i + 1) = b.take i ++ [e] := by rw [List.take_add_one, he]; rfl
        rw [et, List.map_append, List.map_append, hys]
        congr 1
        show [(Str.ofString "(" ++ Txt.join (Str.ofString ", ") ws ++ Str.ofString "): " ++ Str.ofString (toString e.2)).cps.toList] = [fmtPair (vPair e)]
        rw [app_cps, app_cps, app_cps, e1.1, e2.1, j2, text_int]
        show [(([40] ++ joined comma (e.1.map fun k => fmtVl (vlOf k))) ++ [41, 58, 32]) ++ fmtInt e.2] = [(40 :: (joined comma ((e.1.map vlOf).map fmtVl) ++ [41])) ++ (58 :: 32 :: fmtInt e.2)]
        rw [List.map_map]
        simp [Function.comp_def]
    · rintro σ G ⟨⟨r, c, rfl⟩, sG, ys, hG, hys⟩
      rw [List.length_map, ← hn, List.take_length] at hys
      obtain ⟨j1, j2⟩ := join_fits (g := Str.ofString ", ") hys (by rw [sep_comma.2]; decide) (by rw [sep_comma.1]; omega)
      rw [sep_comma.1] at j2
      have hjl : (Txt.join (Str.ofString ", ") ys).length + 2 ≤ 90000 := by
        show (Txt.join (Str.ofString ", ") ys).cps.toList.length + 2 ≤ 90000
        rw [j2]
        exact l1
      have e1 : (Str.ofString "{").cps.toList = [123] ∧ (Str.ofString "{").length = 1 := by decide +kernel
      have e2 : (Str.ofString "}").cps.toList = [125] ∧ (Str.ofString "}").length = 1 := by decide +kernel
      refine ⟨⟨_, rfl⟩, _, rfl, _, l, ys, rfl, rfl, .inl (sq_l hG), j1, _, _, rfl, rfl, ?_, _, _, rfl, rfl, ?_, q _ _ sG ?_⟩
      · rw [e1.2, sizeLine_eq]; omega
      · rw [Str.length_append, e1.2, e2.2, sizeLine_eq]; omega
      · rw [app_cps, app_cps, e1.1, e2.1, j2]
        show _ = 123 :: (joined comma ((b.map vPair).map fmtPair) ++ [125])
        rw [List.map_map]
        rfl
theorem ok_shown_change (F : FnP K "_law_shown_change" s__law_shown_change f fd) (CB : Cal P w K mg base "_law_shown_bag" 3 ["bag"] spFmtBag) : FnOk P w K mg base CX0 4 f fd ["change"] spFmtChg := by
  refine F.ok sc__law_shown_change (fun vs H Q E h => ?_) (fun cdv A outer s H vs Q E hr h => ?_)
  · obtain ⟨n, r, rfl, _⟩ := h
    rfl
  · obtain ⟨a, c, rfl, hb, hsm, hl, q⟩ := h
    obtain ⟨l1, l2, l3⟩ := chg_parts hl
    obtain ⟨ts, h1, h2⟩ := id hb
    have hn : c.length = ts.length := h2.length.symm
    refine ⟨_, PSs.nox (pss_one (ps_ret (pe_join pe_str (pe_lc (own := [("name", 1), ("bag", 2)]) (g := gP2 K 1 2) (tt := tYes) (by rfl) sc__law_shown_change.nd (pi_list (pv 0))
      (blkOk_by (own := [("name", 1), ("bag", 2)]) (N := ["change", "name", "bag"]) (sc := defScope s__law_shown_change) (by decide +kernel))
      (fun _ _ _ _ _ => pg_tup rfl (pgs_cons (pg_name (i := 1) sc__law_shown_change.nd rfl (Or.inl rfl)) (pgs_cons (pg_name (i := 2) sc__law_shown_change.nd rfl (Or.inl rfl)) pgs_nil))) (fun _ _ _ _ _ => pts_nil)
      (fun _ _ _ _ _ => pe_op op_add_str (pe_op op_add_str (pv 1) pe_str) (pe_cal CB hr (pa_cons (pv 2) pa_nil))))))), ?_⟩
    refine ⟨⟨_, rfl⟩, _, rfl, a, rfl, ⟨_, sq_l h1⟩, fun D hD => ?_⟩
    have e3 : (Str.ofString " ").cps.toList = [32] ∧ (Str.ofString " ").length = 1 := by decide +kernel
    refine lc_same (walk_list (xs := ts.map V.ref)) c (by rw [List.length_map, hn]) (fun _ => true) (fun _ v e => ∃ z : Str, v = .str z ∧ z.cps.toList = fmtNamed (vNamed e)) (fun _ _ _ _ _ z => z) hD (fun H' s' => sq_l (s' _ _ h1)) (by rw [List.length_map]; omega) ?_ ?_
    · rintro i x e H1 _ hi he s1 ⟨rfl, hx⟩ Q' Qn k1 _
      obtain ⟨t, ht, rfl⟩ := ref_at hx
      obtain ⟨qa, p1, p2⟩ := (each_get h2 ht he).mono s1
      have hm := List.mem_of_getElem? he
      have hpl := l3 e hm
      rw [named_part] at hpl
      have l0 : Str.empty.length = 0 := rfl
      refine gp2 p1 ⟨rfl, yes_in ⟨_, rfl, _, _, rfl, rfl, by rw [e3.2, sizeLine_eq]; omega, _, rfl, qa, e.2, rfl, p2, hsm e hm, by omega, fun z H2 s2 hz => ?_⟩⟩
      have hzl : z.length = (fmtBag (e.2.map vPair)).length := by
        show z.cps.toList.length = _
        rw [hz]
      refine ⟨_, _, rfl, rfl, by rw [Str.length_append, e3.2, sizeLine_eq]; omega, k1 rfl _ _ s2 ⟨_, rfl, ?_⟩⟩
      rw [app_cps, app_cps, e3.1, hz]
      show (e.1.cps.toList ++ [32]) ++ fmtBag (e.2.map vPair) = e.1.cps.toList ++ (32 :: fmtBag (e.2.map vPair))
      simp
    · intro H1 acc s1 ha he
      rw [filter_true] at he
      obtain ⟨ys, rfl, hys⟩ := strs_of he
      obtain ⟨j1, j2⟩ := join_fits (g := Str.ofString "; ") hys (by rw [sep_semi.2]; decide) (by rw [sep_semi.1]; omega)
      rw [sep_semi.1] at j2
      refine ⟨_, D, ys, rfl, rfl, .inl (sq_l ha), j1, q _ _ s1 ?_⟩
      rw [j2]
      show _ = joined semi ((c.map vNamed).map fmtNamed)
      rw [List.map_map]
      rfl
def spRecord : Sp := fun vs H Q _ => ∃ (p : Addr) (c : Chg), vs = [.ref p] ∧ ChgAt H p c ∧ (∀ n ∈ c, ∀ e ∈ n.2, smE e) ∧ (fmtChange (c.map vNamed)).length ≤ 90000 ∧ chrsOk c ∧ ∀ l H', Same H H' → H l = none → H' l = some (.lst (bV (recd (fmtChange (c.map vNamed))))) → Q (.ref l) H'
theorem ok_record (F : FnP K "_law_record" s__law_record f fd) (gL : mg "len" = none) (gO : mg "ord" = none) (CC : Cal P w K mg base "_law_shown_change" 4 ["change"] spFmtChg) (CB : Cal P w K mg base "_law_bytes" 1 ["number", "size"] spLBytes) (CK : Cal P w K mg base "_law_check" 1 ["data"] (spCheck K)) : FnOk P w K mg base CX0 5 f fd ["change"] spRecord := by
  refine F.ok sc__law_record (fun vs H Q E h => ?_) (fun cdv A outer s H vs Q E hr h => ?_)
  · obtain ⟨p, c, rfl, _⟩ := h
    rfl
  · obtain ⟨p, c, rfl, hc, hsm, hl, hch, q⟩ := h
    have nd := sc__law_record.nd
    refine ⟨_, PSs.nox (pss_cons (ps_set (i := 1) nd rfl (Or.inl rfl) (pe_cal CC hr.lt (pa_cons (pv 0) pa_nil)))
      (pss_cons (ps_set (i := 2) nd rfl (Or.inl rfl) (pe_op op_cat (pe_cal CB hr.lt (pa_cons (pe_callB call_len_str (by rfl) gL PySem.boot_len (pa_cons (pv 1) pa_nil)) (pa_cons pe_int pa_nil)))
        (pe_lc (own := [("char", 3)]) (g := gName 3) (tt := tYes) (by rfl) nd (pi_str (pv 1)) (blkOk_by (own := [("char", 3)]) (N := ["change", "text", "data", "char"]) (sc := defScope s__law_record) (by decide +kernel)) (fun _ _ _ _ _ => pg_name (i := 3) nd rfl (Or.inl rfl)) (fun _ _ _ _ _ => pts_nil)
          (fun _ _ _ _ _ => pe_callB (id := "ord") (r := fun xs H Q => ∃ x, xs = [V.str x] ∧ x.length = 1 ∧ Q (.int (x.cps.getD 0 0 : Nat)) H) call_ord (by rfl) gO (by decide +kernel) (pa_cons (pv 3) pa_nil)))))
      (pss_one (ps_ret (pe_op op_cat (pv 2) (pe_cal CB hr.lt (pa_cons (pe_cal CK hr.lt (pa_cons (pv 2) pa_nil)) (pa_cons pe_int pa_nil)))))))), ?_⟩
    refine ⟨_, rfl, p, c, rfl, hc, hsm, hl, fun z H1 s1 hz => ?_⟩
    have hzl : z.length = (fmtChange (c.map vNamed)).length := by
      show z.cps.toList.length = _
      rw [hz]
    have hzs : z.length ≤ sizeLine := by rw [sizeLine_eq]; omega
    refine ⟨_, rfl, z, rfl, hzs, z.length, 2, rfl, by omega, .inl rfl, fun l1 H2 s2 hl1 hL1 => ?_⟩
    rw [if_pos rfl] at hL1
    refine ⟨_, rfl, z, rfl, fun D hD => ?_⟩
    refine lc_same (walk_str (z := z)) z.cps.toList (by rw [Array.length_toList]) (fun _ => true) (fun _ v x => v = .int ((x : Nat) : Int)) (fun _ _ _ _ _ k => k) hD (fun _ _ => trivial) (by have : z.cps.size = z.length := rfl; omega) ?_ ?_
    · rintro i x b H3 _ hi hb s3 ⟨rfl, y, hy, rfl⟩ Q' Qn k1 _
      rw [Array.getElem?_toList, hy] at hb
      obtain rfl : y = b := Option.some.inj hb
      exact ⟨rfl, yes_in ⟨_, rfl, _, rfl, rfl, k1 rfl _ _ (Same.refl _) rfl⟩⟩
    · intro H3 acc s3 ha he
      rw [filter_true] at he
      have hacc := ints_of (g := fun x : Nat => x) he
      rw [List.map_id'] at hacc
      refine ⟨l1, D, _, _, rfl, rfl, s3 _ _ hL1, ha, ?_, fun l2 hl2 => ?_⟩
      · rw [hacc, bV_len, bV_len, sizeLine_eq]
        have : z.cps.toList.length = z.length := rfl
        have h2 : (be2 z.length).length = 2 := rfl
        omega
      have hcat : bV (be2 z.length) ++ acc = bV (be2 z.length ++ z.cps.toList) := by
        rw [hacc]
        unfold bV
        rw [List.map_append]
      rw [hcat]
      have sL2 := same_new (o := HO.lst (bV (be2 z.length ++ z.cps.toList))) hl2
      have hlt : ∀ x ∈ be2 z.length ++ z.cps.toList, x < 2 ^ 40 := fun x hx => by
        rcases List.mem_append.mp hx with y | y
        · have := be2_lt _ x y; omega
        · rw [hz] at y
          have := hch x y
          omega
      have hk := chk_lt (be2 z.length ++ z.cps.toList)
      refine ⟨_, rfl, _, rfl, l2, _, rfl, sq_l upd_same, hlt, chk (be2 z.length ++ z.cps.toList), 4, rfl, by omega, .inr rfl, fun l3 H4 s4 hl3 hL3 => ?_⟩
      rw [if_neg (by decide)] at hL3
      refine ⟨l2, l3, _, _, rfl, rfl, s4 _ _ upd_same, hL3, ?_, fun l4 hl4 => ?_⟩
      · rw [bV_len, bV_len, sizeLine_eq, List.length_append]
        have h2 : (be2 z.length).length = 2 := rfl
        have h4 : (be4 (chk (be2 z.length ++ z.cps.toList))).length = 4 := rfl
        have : z.cps.toList.length = z.length := rfl
        omega
      have hcat2 : bV (be2 z.length ++ z.cps.toList) ++ bV (be4 (chk (be2 z.length ++ z.cps.toList))) = bV (recd (fmtChange (c.map vNamed))) := by
        unfold recd bV
        rw [← hzl, ← hz, List.map_append, List.map_append, List.map_append]
      rw [hcat2]
      have sL4 := same_new (o := HO.lst (bV (recd (fmtChange (c.map vNamed))))) hl4
      have sAll := s1.trans (s2.trans (s3.trans (sL2.trans s4)))
      exact q l4 _ (sAll.trans sL4) (sAll.free hl4) upd_same
end
end KA
set_option Elab.async false
set_option linter.all false
set_option maxRecDepth 100000
set_option maxHeartbeats 4000000
/-! _law_counts, make_bag, _law_canon, plus, minus, set_bag -/
namespace KA
open PySem PySem.Spec PyProof.Rows L2
open PySem.W (EachIs)
theorem tally_snoc (ps : Bag) (e : Row × Int) : tally (ps ++ [e]) = putI (tally ps) e.1 ((valI (tally ps) e.1).getD 0 + e.2) := by
  unfold tally
  rw [List.foldl_append]
  rfl
theorem bag_take {b : Bag} {i : Nat} {e : Row × Int} (h : b[i]? = some e) : b.take (i + 1) = b.take i ++ [e] := by
  rw [List.take_add_one, h]
  rfl
theorem vk_getD (m : Bag) (r : Row) : (valV (vk m) r).getD (.int 0) = .int ((valI m r).getD 0) := by
  rw [vk_val]
  cases valI m r <;> rfl
def tCount : TS := sDPut (tVar 1) (tVar 2) (tOp (rI0 fun i j => .int (i + j)) (tDGet2 (tVar 1) (tVar 2) (tC (.int 0))) (tVar 3))
/-- the loop that fills the dict of counts -/
theorem count_loop {K : PySem.W.Frag} {a d : Addr} {ps : Bag} {H H1 : Hp} (hb : BagAt H a ps) (hl : ps.length ≤ 1000) (s1 : Same H H1) (h0 : H d = none) (h1 : H1 d = some (.dT [])) (rest : L2.St) (u0 v0 : Option V) (D : Ends)
    (done : ∀ u v H', Same H H' → H' d = some (.dT (vk (tally ps))) → D.nx ([some (.ref a), some (.ref d), u, v] ++ rest) H') :
    ∃ W : Nat → Nat → L2.St → Hp → Prop, (∃ m, W 0 m ([some (.ref a), some (.ref d), u0, v0] ++ rest) H1) ∧ ∀ i m σ H, W i m σ H →
      ((Itl K a).stop i H ∧ D.nx σ H) ∨ ((Itl K a).go i H ∧ ∃ N : L2.St → Hp → Prop, (∀ σ' H', N σ' H' → ∃ m', m' < m ∧ W (i + 1) m' σ' H') ∧ ∀ x H', (Itl K a).yld i H x H' → gP2 K 2 3 x σ H' fun σ2 H2 => tCount { D with nx := N, ct := N, bk := D.nx } σ2 H2) := by
  obtain ⟨ts, b1, b2⟩ := id hb
  have hn : ps.length = ts.length := b2.length.symm
  refine for_it (walk_list (xs := ts.map V.ref)) (fun i σ H' => (∃ u v, σ = [some (.ref a), some (.ref d), u, v] ++ rest) ∧ Same H H' ∧ H' d = some (.dT (vk (tally (ps.take i))))) ⟨⟨_, _, rfl⟩, s1, h1⟩ (fun i σ H' _ z => sq_l (z.2.1 _ _ b1)) ?_ ?_
  · rintro i x σ H' _ hi ⟨⟨u, v, rfl⟩, s2, hd⟩ ⟨rfl, hx⟩
    obtain ⟨z, hz, rfl⟩ := ref_at hx
    have hib : i < ps.length := by rw [List.length_map] at hi; omega
    have he : ps[i]? = some ps[i] := List.getElem?_eq_getElem hib
    obtain ⟨qa, p1, p2⟩ := (each_get b2 hz he).mono s2
    refine gp2 p1 ⟨_, rfl, d, rfl, .inr ⟨_, .inl hd⟩, _, rfl, _, DGet.t hd p2, _, rfl, _, _, vk_getD _ _, rfl, ?_⟩
    have hlt : (vk (tally (ps.take i))).length < sizeLine := by
      rw [List.length_map]
      have q := tally_len (ps.take i)
      rw [List.length_take] at q
      exact Nat.lt_of_lt_of_le (show _ < 2000 by omega) (by decide)
    refine ⟨_, rfl, _, rfl, d, _, rfl, DPut.t hd p2 hlt, ⟨_, _, rfl⟩, same_mut s2 h0, ?_⟩
    rw [upd_same, vk_put, bag_take he, tally_snoc]
  · rintro σ H' ⟨⟨u, v, rfl⟩, s2, hd⟩
    rw [List.length_map, List.take_of_length_le (by omega)] at hd
    exact done u v H' s2 hd
section
variable {P : Program} {w : World} {K : PySem.W.Frag} {mg : Str → Option Value} {base : Heap} {f : Addr} {fd : FuncData}
def spCounts : Sp := fun vs H Q _ => ∃ (p : Addr) (b : Bag), vs = [.ref p] ∧ BagAt H p b ∧ b.length ≤ 1000 ∧ ∀ d H', Same H H' → H d = none → H' d = some (.dT (vk (tally b))) → Q (.ref d) H'
/-- the rows whose count is not 0, in a comprehension over the locked dict -/
theorem nz_filter (b : Bag) : ((tally b).filter fun e => decide (e.2 ≠ 0)).map (·.1) = nzRows b := by
  have key : ∀ m : Bag, (∀ e ∈ m, tot b e.1 = e.2) → (m.filter fun e => decide (e.2 ≠ 0)).map (·.1) = (m.map (·.1)).filter fun r => decide (tot b r ≠ 0) := by
    intro m
    induction m with
    | nil => intro _; rfl
    | cons e t ih =>
      intro h
      have he := h e List.mem_cons_self
      rw [List.map_cons]
      by_cases z : e.2 = 0
      · rw [List.filter_cons_of_neg (by simpa using z), List.filter_cons_of_neg (by rw [he]; simpa using z), ih fun x hx => h x (List.mem_cons_of_mem _ hx)]
      · rw [List.filter_cons_of_pos (by simpa using z), List.filter_cons_of_pos (by rw [he]; simpa using z), List.map_cons, ih fun x hx => h x (List.mem_cons_of_mem _ hx)]
  unfold nzRows
  exact key _ fun e he => by rw [← tally_tot, tot_in (tally_nodup b) he]
theorem vk_at {m : Bag} {i : Nat} {k : Row} {v : V} (h : (vk m)[i]? = some (k, v)) : ∃ e, m[i]? = some e ∧ k = e.1 ∧ v = .int e.2 := by
  rw [List.getElem?_map] at h
  cases q : m[i]? with
  | none => rw [q] at h; cases h
  | some e =>
    rw [q] at h
    have h' := Option.some.inj h
    injection h' with h1 h2
    exact ⟨e, rfl, h1.symm, h2.symm⟩
theorem val_in {m : Bag} (hn : (m.map (·.1)).Nodup) {e : Row × Int} (he : e ∈ m) : valV (vk m) e.1 = some (.int e.2) := by
  rw [vk_val]
  have h1 := valI_some he
  have h2 := valI_tot hn e.1
  rw [tot_in hn he] at h2
  cases q : valI m e.1 with
  | none => rw [q] at h1; cases h1
  | some c =>
    rw [q] at h2
    rw [show c = e.2 from h2]
    rfl
/-- what the comprehension over the locked dict makes; si, sr: the slots of the dict and of the row -/
theorem nz_comp {K : PySem.W.Frag} {si sr : Nat} {σ : L2.St} {d : Addr} {od : Obj} {b : Bag} {H : Hp} (hl : b.length ≤ 1000) (hd : H d = some (.frz od (.dT (vk (tally b))))) (hsr : sr < σ.length) (hne : si ≠ sr) (hσ : σ[si]? = some (some (.ref d))) {D : Addr} (hD : H D = none) {Qd : Hp → Prop}
    (done : ∀ H', Same H H' → RowsAt H' D (nzRows b) → Qd H') :
    ∃ W : Nat → Nat → Hp → Prop, (∃ m, W 0 m (upd H D (.lst []))) ∧ ∀ i m H, W i m H →
      ((Itkt d od (vk (tally b))).stop i H ∧ Qd H) ∨ ((Itkt d od (vk (tally b))).go i H ∧ ∃ Nx : Hp → Prop, (∀ H', Nx H' → ∃ m', m' < m ∧ W (i + 1) m' H') ∧ ∀ x H', (Itkt d od (vk (tally b))).yld i H x H' → gName sr x (wipe σ [sr]) H' fun σ2 H2 => wipe σ2 [sr] = wipe σ [sr] ∧
        tTest (tOp rNe (tDGet (tVar si) (tVar sr)) (tC (.int 0))) σ2 H2 fun b H3 => if b = true then tVar sr σ2 H3 fun y H4 => ∃ acc, H4 D = some (.lst acc) ∧ acc.length < sizeLine ∧ Nx (upd H4 D (.lst (acc ++ [y]))) else Nx H3) := by
  have hlen : (tally b).length ≤ 1000 := Nat.le_trans (tally_len b) hl
  refine lc_same walk_keysT (tally b) (by rw [List.length_map]) (fun e => decide (e.2 ≠ 0)) (fun H v e => ∃ t, v = .ref t ∧ RowAt H t e.1) (fun _ _ _ _ k ⟨t, e, z⟩ => ⟨t, e, z.tk k⟩) hD (fun H' s' => s' _ _ hd) (by rw [List.length_map]; omega) ?_ ?_
  · rintro i x e H1 _ hi he s1 ⟨rfl, k, v, t, hk, rfl, ht⟩ Q' Qn k1 k2
    obtain ⟨e', he', rfl, rfl⟩ := vk_at hk
    obtain rfl : e = e' := Option.some.inj (he.symm.trans he')
    have hd1 := s1 _ _ hd
    have w1 : wipe ((wipe σ [sr]).set sr (some (.ref t))) [sr] = wipe σ [sr] := by
      show (((σ.set sr none).set sr (some (.ref t))).set sr none) = σ.set sr none
      rw [List.set_set, List.set_set]
    have g1 : ((wipe σ [sr]).set sr (some (.ref t)))[si]? = some (some (.ref d)) := by
      show ((σ.set sr none).set sr (some (.ref t)))[si]? = _
      rw [List.getElem?_set_ne (fun z => hne z.symm), List.getElem?_set_ne (fun z => hne z.symm)]
      exact hσ
    have g2 : ((wipe σ [sr]).set sr (some (.ref t)))[sr]? = some (some (.ref t)) := by
      show ((σ.set sr none).set sr (some (.ref t)))[sr]? = _
      rw [List.getElem?_set_self (by rw [List.length_set]; exact hsr)]
    have hv := val_in (tally_nodup b) (List.mem_of_getElem? he)
    refine ⟨w1, if_in (c := decide (e.2 ≠ 0)) (fun Q z => ⟨_, g1, _, g2, d, .int e.2, rfl, .inr ⟨_, e.1, t, .inr ⟨_, hd1⟩, rfl, ht, hv.symm⟩, rfl, _, rfl, ?_⟩) (fun hc => ⟨_, g2, k1 hc _ _ (Same.refl _) ⟨t, rfl, ht⟩⟩) fun hc => k2 hc _ (Same.refl _)⟩
    have e2 : (!decide (V.int e.2 = V.int 0)) = decide (e.2 ≠ 0) := by
      by_cases z : e.2 = 0 <;> simp [z]
    rw [e2]
    exact z
  · intro H1 acc s1 ha he
    obtain ⟨as, rfl, hp⟩ := each_list (P := fun t (e : Row × Int) => RowAt H1 t e.1) (fun v e z => z) he
    refine done H1 s1 ⟨as, ha, ?_⟩
    rw [← nz_filter]
    exact each_map_r (R := RowAt H1) (fun e : Row × Int => e.1) hp
end
end KA
set_option Elab.async false
set_option linter.all false
set_option maxRecDepth 100000
set_option maxHeartbeats 4000000
/-! make_bag, _law_canon, plus, minus, set_bag -/
namespace KA
open PySem PySem.Spec PyProof.Rows L2
open PySem.W (EachIs)
theorem mem_sorted {l : List Row} {r : Row} (h : r ∈ sortRows l) : r ∈ l := (sortRows_perm l).mem_iff.mp h
theorem nz_in {b : Bag} {r : Row} (h : r ∈ nzRows b) : ∃ e ∈ tally b, e.1 = r ∧ e.2 = tot b r := by
  unfold nzRows at h
  obtain ⟨h1, h2⟩ := List.mem_filter.mp h
  obtain ⟨e, he, rfl⟩ := List.mem_map.mp h1
  exact ⟨e, he, rfl, by rw [← tot_in (tally_nodup b) he, tally_tot]⟩
theorem tally_rows {b : Bag} {e : Row × Int} (h : e ∈ tally b) : ∃ e' ∈ b, e'.1 = e.1 := by
  have key : ∀ (ps m : Bag) (r : Row), r ∈ (ps.foldl (fun m e => putI m e.1 ((valI m e.1).getD 0 + e.2)) m).map (·.1) → r ∈ m.map (·.1) ∨ r ∈ ps.map (·.1) := by
    intro ps
    induction ps with
    | nil => exact fun m r h => .inl h
    | cons x t ih =>
      intro m r h
      rw [List.foldl_cons] at h
      rcases ih _ _ h with q | q
      · rcases putI_keys m x.1 ((valI m x.1).getD 0 + x.2) with ⟨_, e⟩ | ⟨_, e⟩
        · rw [e] at q; exact .inl q
        · rw [e] at q
          rcases List.mem_append.mp q with q | q
          · exact .inl q
          · exact .inr (by rw [List.mem_singleton.mp q]; exact List.mem_map.mpr ⟨x, List.mem_cons_self, rfl⟩)
      · exact .inr (by
          obtain ⟨y, hy, e⟩ := List.mem_map.mp q
          exact List.mem_map.mpr ⟨y, List.mem_cons_of_mem _ hy, e⟩)
  rcases key b [] e.1 (List.mem_map.mpr ⟨e, h, rfl⟩) with q | q
  · cases q
  · obtain ⟨y, hy, z⟩ := List.mem_map.mp q
    exact ⟨y, hy, z⟩
def RowB (n : Nat) (b : Bag) : Prop := ∀ e ∈ b, e.1.length ≤ n
theorem nz_len {n : Nat} {b : Bag} (h : RowB n b) : ∀ r ∈ nzRows b, r.length ≤ n := fun r hr => by
  obtain ⟨e, he, rfl, _⟩ := nz_in hr
  obtain ⟨e', he', z⟩ := tally_rows he
  rw [← z]
  exact h e' he'
theorem each_sorted {R : Addr → Row → Prop} {l : List Row} {as : List Addr} (h : EachIs R as (sortRows l)) : as.length = l.length := by rw [h.length, (sortRows_perm l).length_eq]
/-- the comprehension that makes the pairs of the sorted rows -/
theorem pair_comp {K : PySem.W.Frag} {sd sr : Nat} {σ : L2.St} {p d : Addr} {b : Bag} {H : Hp} (hl : b.length ≤ 1000) (hp : RowsAt H p (sortRows (nzRows b))) (hd : H d = some (.dT (vk (tally b)))) (hsr : sr < σ.length) (hne : sd ≠ sr) (hσ : σ[sd]? = some (some (.ref d)))
    {D : Addr} (hD : H D = none) {Qd : Hp → Prop} (done : ∀ H', Same H H' → BagAt H' D (mk b) → Qd H') :
    ∃ W : Nat → Nat → Hp → Prop, (∃ m, W 0 m (upd H D (.lst []))) ∧ ∀ i m H, W i m H →
      ((Itl K p).stop i H ∧ Qd H) ∨ ((Itl K p).go i H ∧ ∃ Nx : Hp → Prop, (∀ H', Nx H' → ∃ m', m' < m ∧ W (i + 1) m' H') ∧ ∀ x H', (Itl K p).yld i H x H' → gName sr x (wipe σ [sr]) H' fun σ2 H2 => wipe σ2 [sr] = wipe σ [sr] ∧
        tYes σ2 H2 fun b H3 => if b = true then tTup (tCons (tVar sr) (tCons (tDGet (tVar sd) (tVar sr)) tNil)) σ2 H3 fun y H4 => ∃ acc, H4 D = some (.lst acc) ∧ acc.length < sizeLine ∧ Nx (upd H4 D (.lst (acc ++ [y]))) else Nx H3) := by
  obtain ⟨as, h1, h2⟩ := id hp
  have hlen : as.length ≤ 1000 := by
    rw [each_sorted h2]
    unfold nzRows
    refine Nat.le_trans (List.length_filter_le ..) ?_
    rw [List.length_map]
    exact Nat.le_trans (tally_len b) hl
  refine lc_same (walk_list (xs := as.map V.ref)) (sortRows (nzRows b)) (by rw [List.length_map, h2.length]) (fun _ => true) (fun H v r => ∃ t, v = .ref t ∧ PairAt H t (r, tot b r)) (fun _ _ _ _ k ⟨t, e, z⟩ => ⟨t, e, z.tk k⟩) hD (fun H' s' => sq_l (s' _ _ h1)) (by rw [List.length_map]; omega) ?_ ?_
  · rintro i x r H1 _ hi he s1 ⟨rfl, hx⟩ Q' Qn k1 _
    obtain ⟨t, ht, rfl⟩ := ref_at hx
    have p2 := (each_get h2 ht he).mono s1
    have hd1 := s1 _ _ hd
    have w1 : wipe ((wipe σ [sr]).set sr (some (.ref t))) [sr] = wipe σ [sr] := by
      show (((σ.set sr none).set sr (some (.ref t))).set sr none) = σ.set sr none
      rw [List.set_set, List.set_set]
    have g1 : ((wipe σ [sr]).set sr (some (.ref t)))[sd]? = some (some (.ref d)) := by
      show ((σ.set sr none).set sr (some (.ref t)))[sd]? = _
      rw [List.getElem?_set_ne (fun z => hne z.symm), List.getElem?_set_ne (fun z => hne z.symm)]
      exact hσ
    have g2 : ((wipe σ [sr]).set sr (some (.ref t)))[sr]? = some (some (.ref t)) := by
      show ((σ.set sr none).set sr (some (.ref t)))[sr]? = _
      rw [List.getElem?_set_self (by rw [List.length_set]; exact hsr)]
    obtain ⟨e, hm, rfl, hc⟩ := nz_in (mem_sorted (List.mem_of_getElem? he))
    have hv := val_in (tally_nodup b) hm
    refine ⟨w1, yes_in ⟨_, g2, _, g1, _, g2, d, .int e.2, rfl, .inr ⟨_, e.1, t, .inl hd1, rfl, p2, hv.symm⟩, (by show 2 ≤ sizeLine; decide), fun q hq => ?_⟩⟩
    rw [hc]
    exact k1 rfl _ _ (same_new hq) ⟨q, rfl, pair_new hq p2⟩
  · intro H1 acc s1 ha he
    rw [filter_true] at he
    obtain ⟨cs, rfl, hc⟩ := each_list (P := fun t (r : Row) => PairAt H1 t (r, tot b r)) (fun v e z => z) he
    exact done H1 s1 ⟨cs, ha, each_map_r (R := PairAt H1) (fun r : Row => (r, tot b r)) hc⟩
section
variable {P : Program} {w : World} {K : PySem.W.Frag} {mg : Str → Option Value} {base : Heap} {f : Addr} {fd : FuncData}
def spMakeBag : Sp := fun vs H Q _ => ∃ (p : Addr) (b : Bag), vs = [.ref p] ∧ BagAt H p b ∧ b.length ≤ 1000 ∧ RowB 1000 b ∧ ∀ q H', Same H H' → BagAt H' q (mk b) → H q = none → Q (.ref q) H'
def spCanon : Sp := fun vs H Q _ => ∃ (d : Addr) (b : Bag), vs = [.ref d] ∧ H d = some (.dT (vk (tally b))) ∧ b.length ≤ 1000 ∧ RowB 1000 b ∧ ∀ q H', Same H H' → BagAt H' q (mk b) → H q = none → Q (.ref q) H'
theorem ok_canon (F : FnP K "_law_canon" s__law_canon f fd) (gS : mg "sorted" = none) (C : Cal P w K mg base "_law_key" 1 ["row"] (spLawKey K)) : FnOk P w K mg base CX0 4 f fd ["counts"] spCanon := by
  obtain ⟨fR, fdR, gR, kR, bR, GR0⟩ := C
  have GR : FnOk P w K mg base CX0 1 fR fdR ["row"] (spKey K lawRow) := GR0.imp fun vs H Q E ⟨q, r, e, h1, h2, h3⟩ => ⟨q, r, e, .inl h1, h2, h3⟩
  refine F.ok sc__law_canon (fun vs H Q E h => ?_) (fun cdv A outer s H vs Q E hr h => ?_)
  · obtain ⟨n, r, rfl, _⟩ := h
    rfl
  · obtain ⟨d, b, rfl, hd, hl, hrb, q⟩ := h
    have hcall : ∀ E0 : XK, KeyCall (cxOf CX0 P w K mg base ["counts", "rows", "row"] "_law_canon" (defScope s__law_canon) f cdv A outer s H E0).nox lawRow fR := fun _ => keyCall_of GR bR hr
    refine ⟨_, PSs.nox (pss_cons (ps_set (i := 1) sc__law_canon.nd rfl (Or.inl rfl)
      (pe_callBK (cr_sortKey tells_law (fun _ _ _ _ _ _ e u => sorts_law e u) (hcall _) hr.u64 rfl) (by rfl) gS (by decide +kernel)
        (pa_cons (pe_lock (pe_lc (own := [("row", 2)]) (g := gName 2) (tt := tTest (tOp rNe (tDGet (tVar 0) (tVar 2)) (tC (.int 0)))) (by rfl) sc__law_canon.nd (pi_keys (pv 0))
          (blkOk_by (own := [("row", 2)]) (N := ["counts", "rows", "row"]) (sc := defScope s__law_canon) (by decide +kernel)) (fun _ _ _ _ _ => pg_name (i := 2) sc__law_canon.nd rfl (Or.inl rfl))
          (fun _ _ _ _ _ => pts_one (pt_cmpR op_ne (pe_dget hr.u1 (pv 0) (pv 2) (fun _ _ => rfl)) pe_int (nomark _))) (fun _ _ _ _ _ => pv 2))) pa_nil)
        (pk_cons (pe_glob (v := .ref fR) rfl gR rfl) pk_nil)))
      (pss_one (ps_ret (pe_lc (own := [("row", 2)]) (g := gName 2) (tt := tYes) (by rfl) sc__law_canon.nd (pi_list (pv 1))
        (blkOk_by (own := [("row", 2)]) (N := ["counts", "rows", "row"]) (sc := defScope s__law_canon) (by decide +kernel)) (fun _ _ _ _ _ => pg_name (i := 2) sc__law_canon.nd rfl (Or.inl rfl)) (fun _ _ _ _ _ => pts_nil)
        (fun _ _ _ _ _ => pe_tup (pa_cons (pv 2) (pa_cons (pe_dget hr.u1 (pv 0) (pv 2) (fun _ _ => rfl)) pa_nil))))))), ?_⟩
    refine ⟨d, _, hd, trivial, fun od => ?_⟩
    refine ⟨_, rfl, d, od, rfl, .inr ⟨_, upd_same, fun D hD => ?_⟩⟩
    have nD : D ≠ d := fun z => by
      rw [z, upd_same] at hD
      cases hD
    refine nz_comp (K := K) (si := 0) (sr := 2) (b := b) hl upd_same (by show 2 < 3; decide) (by decide) rfl hD fun H2 s2 hrw => ?_
    refine ⟨s2 _ _ upd_same, ?_⟩
    have s3 : Same H (upd H2 d (.dT (vk (tally b)))) := fun c o hc => by
      by_cases nc : c = d
      · rw [nc, hd] at hc
        rw [nc, upd_same]
        exact hc
      · rw [upd_ne nc]
        refine s2 _ _ ?_
        rw [upd_ne nc]
        exact hc
    have hrw2 : RowsAt (upd H2 d (.dT (vk (tally b)))) D (nzRows b) := by
      obtain ⟨as, r1, r2⟩ := hrw
      have hdf := s2 _ _ (upd_same (H := H) (a := d) (o := .frz od (.dT (vk (tally b)))))
      have tk : TupKeep H2 (upd H2 d (.dT (vk (tally b)))) := tk_upd fun xs z => by
        rw [hdf] at z
        cases z
      exact ⟨as, by rw [upd_ne nD]; exact r1, r2.mono fun t r z => z.tk tk⟩
    obtain ⟨as, r1, r2⟩ := id hrw2
    refine ⟨D, as, nzRows b, rfl, rfl, sq_l r1, r2, nz_len hrb, fun c hc => s3.free hc, fun p H4 s4 hp4 hso => ?_⟩
    obtain ⟨cs, c1, c2⟩ := id hso
    refine ⟨_, rfl, p, rfl, ⟨_, sq_l c1⟩, fun D2 hD2 => ?_⟩
    exact pair_comp (K := K) (sd := 0) (sr := 2) hl hso (s4 _ _ upd_same) (by show 2 < 3; decide) (by decide) rfl hD2 fun H5 s5 hbag => q _ _ ((s3.trans s4).trans s5) hbag ((s3.trans s4).free hD2)
theorem bag_app {H : Hp} {p : Addr} {ts us : List Addr} {a b : Bag} (hp : H p = some (.lst (ts.map V.ref ++ us.map V.ref))) (h1 : EachIs (PairAt H) ts a) (h2 : EachIs (PairAt H) us b) : BagAt H p (a ++ b) := by
  refine ⟨ts ++ us, by rw [List.map_append]; exact hp, ?_⟩
  clear hp
  induction h1 with
  | nil => exact h2
  | cons h t ih => exact .cons h ih
theorem RowB.app {n : Nat} {a b : Bag} (h1 : RowB n a) (h2 : RowB n b) : RowB n (a ++ b) := fun e he => (List.mem_append.mp he).elim (h1 e) (h2 e)
theorem BdB.app {n : Nat} {a b : Bag} (h1 : BdB n a) (h2 : BdB n b) : BdB n (a ++ b) := fun e he => (List.mem_append.mp he).elim (h1 e) (h2 e)
theorem rowB_scale {n : Nat} {b : Bag} (h : RowB n b) (m : Int) : RowB n (scaleB b m) := fun e he => by
  unfold scaleB at he
  split at he
  · cases he
  · obtain ⟨x, hx, rfl⟩ := List.mem_map.mp he
    exact h x hx
theorem len_scale (b : Bag) (m : Int) : (scaleB b m).length ≤ b.length := by
  unfold scaleB
  split
  · exact Nat.zero_le _
  · rw [List.length_map]; exact Nat.le_refl _
def spPlus : Sp := fun vs H Q _ => ∃ (p t : Addr) (a b : Bag), vs = [.ref p, .ref t] ∧ BagAt H p a ∧ BagAt H t b ∧ a.length ≤ 400 ∧ b.length ≤ 400 ∧ RowB 1000 a ∧ RowB 1000 b ∧ ∀ q H', Same H H' → BagAt H' q (mk (a ++ b)) → Q (.ref q) H'
theorem cat_in {ts us : List Addr} {a b : Bag} {H : Hp} (h1 : EachIs (PairAt H) ts a) (h2 : EachIs (PairAt H) us b) (la : a.length ≤ 400) (lb : b.length ≤ 400) : (ts.map V.ref).length ≤ sizeLine ∧ (us.map V.ref).length ≤ sizeLine ∧ (ts.map V.ref).length + (us.map V.ref).length ≤ sizeLine := by
  rw [List.length_map, List.length_map, h1.length, h2.length]
  refine ⟨?_, ?_, ?_⟩ <;> exact Nat.le_trans (show _ ≤ 800 by omega) (by decide)
def spMinus : Sp := fun vs H Q _ => ∃ (p t : Addr) (a b : Bag), vs = [.ref p, .ref t] ∧ BagAt H p a ∧ BagAt H t b ∧ a.length ≤ 400 ∧ b.length ≤ 400 ∧ RowB 1000 a ∧ RowB 1000 b ∧ BdB (2 ^ 60) b ∧ ∀ q H', Same H H' → BagAt H' q (mk (a ++ scaleB b (-1))) → Q (.ref q) H'
def spSetBag : Sp := fun vs H Q _ => ∃ (p : Addr) (rs : List Row), vs = [.ref p] ∧ RowsAt H p rs ∧ rs.length ≤ 1000 ∧ (∀ r ∈ rs, r.length ≤ 1000) ∧ ∀ q H', Same H H' → BagAt H' q (onesB (posRows (mk (onesB rs)))) → Q (.ref q) H'
end
end KA
set_option Elab.async false
set_option linter.all false
set_option maxRecDepth 100000
set_option maxHeartbeats 4000000
/-! the law's own draws: a state of two lists that each draw changes -/
namespace KA
open PySem PySem.Spec PyProof.Rows L2
open PySem.W (EachIs)
/-- the state at st: its cells at cl, its seed -/
structure StateAt (H : Hp) (st cl : Addr) (cells : List Int) (seed th : Int) : Prop where
  hs : H st = some (.lst [.ref cl, .int seed, .int th])
  hc : H cl = some (.lst (cells.map V.int))
  lo : 0 ≤ seed
  hi : seed < 2147483648
  len : cells.length ≤ 63
  nn : ∀ c ∈ cells, 0 ≤ c
def StOk (H : Hp) (st cl : Addr) : Prop := ∃ cells seed th, StateAt H st cl cells seed th
theorem StateAt.ne {H : Hp} {st cl : Addr} {cells : List Int} {seed th : Int} (S : StateAt H st cl cells seed th) : st ≠ cl := fun e => by
  have h1 := S.hs
  have h2 := S.hc
  rw [e, h2] at h1
  have h3 : cells.map V.int = [V.ref cl, V.int seed, V.int th] := by injection (Option.some.inj h1)
  cases cells with
  | nil => cases h3
  | cons c t => injection h3 with h4 _; cases h4
/-- what a draw leaves: all objects but the state's two, a state, no cells if there were none -/
structure Drawn (st cl : Addr) (H H' : Hp) : Prop where
  but : ∀ a o, a ≠ st → a ≠ cl → H a = some o → H' a = some o
  ok : StOk H' st cl
  nil : H cl = some (.lst []) → H' cl = some (.lst [])
theorem Drawn.trans {st cl : Addr} {H H1 H2 : Hp} (a : Drawn st cl H H1) (b : Drawn st cl H1 H2) : Drawn st cl H H2 := ⟨fun x o h1 h2 h => b.but x o h1 h2 (a.but x o h1 h2 h), b.ok, fun h => b.nil (a.nil h)⟩
theorem Drawn.refl {st cl : Addr} {H : Hp} (h : StOk H st cl) : Drawn st cl H H := ⟨fun _ _ _ _ h => h, h, fun h => h⟩
theorem StOk.same {H H' : Hp} {st cl : Addr} (s : Same H H') (h : StOk H st cl) : StOk H' st cl := by
  obtain ⟨c, z, th, S⟩ := h
  exact ⟨c, z, th, s _ _ S.hs, s _ _ S.hc, S.lo, S.hi, S.len, S.nn⟩
theorem Drawn.of_same {H H' : Hp} {st cl : Addr} (s : Same H H') (h : StOk H st cl) : Drawn st cl H H' := ⟨fun _ _ _ _ q => s _ _ q, h.same s, fun q => s _ _ q⟩
theorem Drawn.tk {st cl : Addr} {H H' : Hp} (d : Drawn st cl H H') (h : StOk H st cl) : TupKeep H H' := .of fun a xs q => by
  obtain ⟨c, z, th, S⟩ := h
  refine d.but a _ (fun e => ?_) (fun e => ?_) q
  · rw [e, S.hs] at q; cases q
  · rw [e, S.hc] at q; cases q
/-- a list of objects is not one of the state's two, or it is empty as those cells are -/
theorem Drawn.refs {st cl : Addr} {H H' : Hp} (d : Drawn st cl H H') (h : StOk H st cl) {p : Addr} {ts : List Addr} (q : H p = some (.lst (ts.map V.ref))) : H' p = some (.lst (ts.map V.ref)) := by
  obtain ⟨c, z, th, S⟩ := h
  by_cases e1 : p = st
  · rw [e1, S.hs] at q
    have q' : [V.ref cl, V.int z, V.int th] = ts.map V.ref := by injection (Option.some.inj q)
    match ts, q' with
    | [], q' => cases q'
    | [_], q' => injection q' with _ q2; cases q2
    | _ :: _ :: _, q' =>
      injection q' with _ q2
      injection q2 with q3 _
      cases q3
  · by_cases e2 : p = cl
    · rw [e2, S.hc] at q
      have q' : c.map V.int = ts.map V.ref := by injection (Option.some.inj q)
      cases c with
      | nil =>
        cases ts with
        | nil => rw [e2]; exact d.nil S.hc
        | cons _ _ => cases q'
      | cons c t =>
        cases ts with
        | nil => cases q'
        | cons _ _ => injection q' with q3 _; cases q3
    · exact d.but p _ e1 e2 q
theorem BagAt.drawn {st cl : Addr} {H H' : Hp} (d : Drawn st cl H H') (h : StOk H st cl) {p : Addr} {b : Bag} (q : BagAt H p b) : BagAt H' p b := by
  obtain ⟨ts, h1, h2⟩ := q
  exact ⟨ts, d.refs h h1, h2.mono fun _ _ z => z.tk (d.tk h)⟩
theorem RowsAt.drawn {st cl : Addr} {H H' : Hp} (d : Drawn st cl H H') (h : StOk H st cl) {p : Addr} {b : List Row} (q : RowsAt H p b) : RowsAt H' p b := by
  obtain ⟨ts, h1, h2⟩ := q
  exact ⟨ts, d.refs h h1, h2.mono fun _ _ z => z.tk (d.tk h)⟩
section
variable {P : Program} {w : World} {K : PySem.W.Frag} {mg : Str → Option Value} {base : Heap} {f : Addr} {fd : FuncData}
def spState (K : PySem.W.Frag) : Sp := fun vs H Q _ => ∃ (a : Addr) (ns : List Int), vs = [.ref a] ∧ SqL K H a (ns.map V.int) ∧ ns.length ≤ 63 ∧ ∀ st cl H', Same H H' → StOk H' st cl → Q (.ref st) H'
theorem int_at {ns : List Int} {i : Nat} {v : V} (h : (ns.map V.int)[i]? = some v) : ∃ n, ns[i]? = some n ∧ v = .int n := map_at h
theorem ok_state (F : FnP K "_law_state" s__law_state f fd) (gI : mg "int" = none) (gA : mg "abs" = none) : FnOk P w K mg base CX0 1 f fd ["script"] (spState K) := by
  refine F.ok sc__law_state (fun vs H Q E h => ?_) (fun cdv A outer s H vs Q E hr h => ?_)
  · obtain ⟨n, r, rfl, _⟩ := h
    rfl
  · obtain ⟨a, ns, rfl, hS, hl, q⟩ := h
    refine ⟨_, PSs.nox (pss_cons (ps_set (i := 1) sc__law_state.nd rfl (Or.inl rfl) pe_int)
      (pss_cons (ps_for PassesOwn.never rfl (pi_list (pv 0)) (pg_name (i := 2) sc__law_state.nd rfl (Or.inl rfl))
        (pss_one (ps_set (i := 1) sc__law_state.nd rfl (Or.inl rfl) (pe_op op_mod (pe_callTy call_int1 (by rfl) gI (by decide +kernel) (pa_cons (pe_op op_add (pe_op op_mul (pv 1) pe_int) (pv 2)) pa_nil)) pe_int))))
      (pss_one (ps_ret (pe_lst (pa_cons (pe_lc (own := [("cell", 2)]) (g := gName 2) (tt := tYes) (by rfl) sc__law_state.nd (pi_list (pv 0))
        (blkOk_by (own := [("cell", 2)]) (N := ["script", "seed", "cell"]) (sc := defScope s__law_state) (by decide +kernel)) (fun _ _ _ _ _ => pg_name (i := 2) sc__law_state.nd rfl (Or.inl rfl)) (fun _ _ _ _ _ => pts_nil)
        (fun _ _ _ _ _ => pe_callB (id := "abs") (r := fun xs H Q => ∃ i, xs = [.int i] ∧ Q (.int (if i < 0 then -i else i)) H) call_abs (by rfl) gA (by decide +kernel) (pa_cons (pv 2) pa_nil))) (pa_cons (pe_op op_add (pv 1) pe_int) (pa_cons (pe_op op_mod (pe_callTy call_int1 (by rfl) gI (by decide +kernel) (pa_cons (pv 1) pa_nil)) pe_int) pa_nil)))))))), ?_⟩
    refine ⟨_, rfl, a, rfl, ⟨_, hS⟩, for_it (walk_list (xs := ns.map V.int)) (fun i σ H' => H' = H ∧ ∃ z v, σ = [some (.ref a), some (.int z), v] ∧ 0 ≤ z ∧ z < 1000003) ⟨rfl, 11, none, rfl, by decide, by decide⟩ (fun i σ H' _ z => by rw [z.1]; exact hS) ?_ ?_⟩
    · rintro i x σ H' _ hi ⟨rfl, z, v, rfl, z0, z1⟩ ⟨rfl, hx⟩
      obtain ⟨n, hn, rfl⟩ := int_at hx
      refine ⟨_, rfl, _, _, rfl, rfl, .inl ⟨by omega, by omega⟩, _, rfl, _, _, rfl, rfl, .inl ⟨_, rfl, _, _, rfl, rfl, (by show (0 : Int) < 1000003; decide), ?_⟩⟩
      exact ⟨rfl, _, _, rfl, Int.emod_nonneg _ (by decide), Int.emod_lt_of_pos _ (by decide)⟩
    · rintro σ H' ⟨rfl, z, v, rfl, z0, z1⟩
      refine ⟨_, rfl, a, rfl, ⟨_, hS⟩, fun D hD => ?_⟩
      refine lc_same (walk_list (xs := ns.map V.int)) ns (by rw [List.length_map]) (fun _ => true) (fun _ v n => ∃ m : Int, v = .int m ∧ 0 ≤ m) (fun _ _ _ _ _ z => z) hD (fun H' s' => s'.seq hS) (by rw [List.length_map]; omega) ?_ ?_
      · rintro i x n H1 _ hi hn s1 ⟨rfl, hx⟩ Q' Qn k1 _
        obtain ⟨n', hn', rfl⟩ := int_at hx
        refine ⟨rfl, yes_in ⟨_, rfl, _, rfl, k1 rfl _ _ (Same.refl _) ⟨_, rfl, ?_⟩⟩⟩
        split <;> omega
      · intro H1 acc s1 ha he
        rw [filter_true] at he
        obtain ⟨ms, rfl, hms, hml⟩ : ∃ ms : List Int, acc = ms.map V.int ∧ (∀ c ∈ ms, 0 ≤ c) ∧ ms.length = ns.length := by
          clear ha hl hS
          induction he with
          | nil => exact ⟨[], rfl, fun c hc => (List.not_mem_nil hc).elim, rfl⟩
          | cons h t ih =>
            obtain ⟨m, rfl, hm⟩ := h
            obtain ⟨ms, rfl, h1, h2⟩ := ih
            exact ⟨m :: ms, rfl, fun c hc => (List.mem_cons.mp hc).elim (fun e => by rw [e]; exact hm) (h1 c), by simp [h2]⟩
        refine ⟨_, rfl, _, _, rfl, rfl, _, rfl, .inl ⟨_, rfl, _, _, rfl, rfl, (by show (0 : Int) < 4; decide), (by show 3 ≤ sizeLine; decide), fun p hp => ?_⟩⟩
        have nDp : D ≠ p := ne_of_none ha hp
        exact q p D _ (s1.trans (same_new hp)) ⟨ms, z + 1, _, upd_same, by rw [upd_ne nDp]; exact ha, by omega, by omega, by omega, hms⟩
def spDraw : Sp := fun vs H Q _ => ∃ (st cl : Addr) (m : Int), vs = [.ref st, .int m] ∧ StOk H st cl ∧ 0 < m ∧ m < 2 ^ 40 ∧ ∀ v H', Drawn st cl H H' → 0 ≤ v → v < m → Q (.int v) H'
theorem at0 {c : Int} {t : List Int} : atI ((c :: t).map V.int) 0 = some (.int c) := atI_nat (j := 0) rfl
theorem ixN0 {n : Nat} (h : 0 < n) : ixN n 0 = some 0 := by
  unfold ixN
  rw [if_pos (by decide), if_pos (by omega)]
  rfl
theorem seqIx0 {n : Nat} (h : 0 < n) : seqIndex? 0 n = some 0 := (ixN_seq (ixN0 h)).1
theorem ok_draw (F : FnP K "_law_draw" s__law_draw f fd) (gI : mg "int" = none) (gL : mg "len" = none) (gR : mg "range" = none) : FnOk P w K mg base CX0 1 f fd ["state", "many"] spDraw := by
  refine F.ok sc__law_draw (fun vs H Q E h => ?_) (fun cdv A outer s H vs Q E hr h => ?_)
  · obtain ⟨n, r, m, rfl, _⟩ := h
    rfl
  · obtain ⟨st, cl, m, rfl, hS, m0, m1, q⟩ := h
    refine ⟨_, PSs.nox (pss_cons (ps_set (i := 2) sc__law_draw.nd rfl (Or.inl rfl) (pe_ix ix_list (pv 0) pe_int (fun _ _ => rfl)))
      (pss_cons (ps_for PassesOwn.never rfl (pi_range1 rfl gR (pa_cons (pe_callB call_len_seq (by rfl) gL PySem.boot_len (pa_cons (pv 2) pa_nil)) pa_nil)) (pg_name (i := 3) sc__law_draw.nd rfl (Or.inl rfl))
        (pss_one (ps_if (PW.pt (pw_and (pt_cmpR op_eq (pe_ix ix_list (pv 2) pe_int (fun _ _ => rfl)) pe_int (nomark _)) (pw_and1 (pt_cmpR op_gt (pe_callB call_len_seq (by rfl) gL PySem.boot_len (pa_cons (pv 2) pa_nil)) pe_int (nomark _)))))
          (pss_one (ps_expr (pe_bm PySem.F.plainAttrs_list PySem.F.slot_list_pop PySem.F.type_list_pop mt_popAt (pv 2) (pa_cons pe_int pa_nil)))) pss_nil)))
      (pss_cons (ps_if (PW.pt (pw_and (pt_cmpR op_gt (pe_callB call_len_seq (by rfl) gL PySem.boot_len (pa_cons (pv 2) pa_nil)) pe_int (nomark _)) (pw_and1 (pt_cmpR op_gt (pe_ix ix_list (pv 2) pe_int (fun _ _ => rfl)) pe_int (nomark _)))))
          (pss_cons (ps_set (i := 4) sc__law_draw.nd rfl (Or.inl rfl) (pe_ix ix_list (pv 2) pe_int (fun _ _ => rfl)))
            (pss_cons (ps_asg (pe_op op_fdivW (pv 4) (pv 1)) (pg_sub (pv 2) pe_int set_list (fun _ => rfl)))
            (pss_one (ps_ret (pe_op op_mod (pe_callTy call_int1 (by rfl) gI (by decide +kernel) (pa_cons (pv 4) pa_nil)) (pv 1)))))) pss_nil)
      (pss_cons (ps_set (i := 5) sc__law_draw.nd rfl (Or.inl rfl) (pe_op op_mod (pe_callTy call_int1 (by rfl) gI (by decide +kernel) (pa_cons (pe_op op_add (pe_op op_mul (pe_ix ix_list (pv 0) pe_int (fun _ _ => rfl)) pe_int) pe_int) pa_nil)) pe_int))
      (pss_cons (ps_asg (pv 5) (pg_sub (pv 0) pe_int set_list (fun _ => rfl)))
      (pss_one (ps_ret (pe_op op_mod (pe_callTy call_int1 (by rfl) gI (by decide +kernel) (pa_cons (pe_op op_fdiv (pv 5) pe_int) pa_nil)) (pv 1))))))))), ?_⟩
    obtain ⟨cells, seed, th, S⟩ := id hS
    have ne := S.ne
    refine ⟨_, rfl, st, _, 0, .ref cl, rfl, rfl, sq_l S.hs, atI_nat (j := 0) rfl, ?_⟩
    refine ⟨_, rfl, cl, _, rfl, .inl (sq_l S.hc), _, rfl, by omega, by rw [List.length_map]; have := S.len; omega, ?_⟩
    rw [List.length_map, Int.toNat_natCast]
    -- behind the loop, whatever was popped
    refine for_it walk_range (fun i σ H' => ∃ k cs, σ = [some (.ref st), some (.int m), some (.ref cl), k, none, none] ∧ StateAt H' st cl cs seed th ∧ (∀ a, a ≠ cl → H' a = H a) ∧ (cells = [] ↔ cs = [])) ⟨none, cells, rfl, S, fun _ _ => rfl, Iff.rfl⟩ (fun _ _ _ _ _ => trivial) ?_ ?_
    · rintro i x σ H' _ hi ⟨k, cs, rfl, S1, ot, nl⟩ ⟨rfl, rfl⟩
      have hne : cells ≠ [] := fun z => by rw [z] at hi; exact absurd hi (by simp)
      obtain ⟨c, t, rfl⟩ : ∃ c t, cs = c :: t := by
        cases cs with
        | nil => exact absurd (nl.mpr rfl) hne
        | cons c t => exact ⟨c, t, rfl⟩
      refine ⟨_, rfl, cl, _, 0, .int c, rfl, rfl, sq_l S1.hc, at0, rfl, _, rfl, ?_⟩
      by_cases hc : c = 0
      · rw [decide_eq_true (by rw [hc])]
        refine iteT ⟨_, rfl, cl, _, rfl, .inl (sq_l S1.hc), _, _, rfl, rfl, _, rfl, ?_⟩
        rw [List.length_map]
        by_cases hl : ((1 : Int) < ((c :: t).length : Nat))
        · rw [decide_eq_true hl]
          refine iteT ⟨_, rfl, .inl ⟨rfl, _, .inl (.inl S1.hc)⟩, cl, _, 0, 0, .int c, rfl, rfl, S1.hc, by decide, by decide, seqIx0 (by rw [List.length_map]; simp), rfl, ?_⟩
          have h2 : 0 < t.length := by
            simp only [List.length_cons] at hl
            omega
          refine ⟨_, t, rfl, ⟨by rw [upd_ne ne]; exact S1.hs, upd_same, S1.lo, S1.hi, ?_, fun z hz => S1.nn z (List.mem_cons_of_mem _ hz)⟩, fun a ha => by rw [upd_ne ha]; exact ot a ha, ?_⟩
          · have h3 := S1.len
            simp only [List.length_cons] at h3
            omega
          · exact ⟨fun z => absurd z hne, fun z => by rw [z] at h2; exact absurd h2 (by simp)⟩
        · rw [decide_eq_false hl]
          exact iteF ⟨_, _, rfl, S1, ot, nl⟩
      · rw [decide_eq_false fun z => hc (by injection z)]
        exact iteF (iteF ⟨_, _, rfl, S1, ot, nl⟩)
    · rintro σ H' ⟨k, cs, rfl, S1, ot, nl⟩
      have but : ∀ H2 : Hp, (∀ a, a ≠ cl → a ≠ st → H2 a = H' a) → ∀ a o, a ≠ st → a ≠ cl → H a = some o → H2 a = some o := fun H2 h a o h1 h2 h3 => by rw [h a h2 h1, ot a h2]; exact h3
      refine ⟨_, rfl, cl, _, rfl, .inl (sq_l S1.hc), _, _, rfl, rfl, _, rfl, ?_⟩
      rw [List.length_map]
      by_cases hl : (0 : Int) < (cs.length : Nat)
      · rw [decide_eq_true hl]
        obtain ⟨c, t, rfl⟩ : ∃ c t, cs = c :: t := by
          cases cs with
          | nil => exact absurd hl (by simp)
          | cons c t => exact ⟨c, t, rfl⟩
        refine iteT ⟨_, rfl, cl, _, 0, .int c, rfl, rfl, sq_l S1.hc, at0, _, _, rfl, rfl, _, rfl, ?_⟩
        have c0 : 0 ≤ c := S1.nn c List.mem_cons_self
        by_cases hc : (0 : Int) < c
        · rw [decide_eq_true hc]
          refine iteT ⟨_, rfl, cl, _, 0, .int c, rfl, rfl, sq_l S1.hc, at0, ?_⟩
          refine ⟨_, rfl, _, rfl, _, _, rfl, rfl, wide_div m0 (b := 40) (by omega) (by decide) (by decide), ?_⟩
          refine ⟨_, rfl, cl, _, 0, 0, rfl, rfl, S1.hc, ixN0 (by rw [List.length_map]; simp), ?_⟩
          refine ⟨_, rfl, .inl ⟨_, rfl, _, rfl, _, _, rfl, rfl, m0, ?_⟩⟩
          refine q _ _ ⟨but _ fun a h1 h2 => upd_ne h1, ⟨c / m :: t, seed, th, by rw [upd_ne ne]; exact S1.hs, upd_same, S1.lo, S1.hi, S1.len, fun z hz => ?_⟩, fun z => ?_⟩ (Int.emod_nonneg _ (by omega)) (Int.emod_lt_of_pos _ m0)
          · rcases List.mem_cons.mp hz with e | e
            · rw [e]; exact Int.ediv_nonneg c0 (by omega)
            · exact S1.nn z (List.mem_cons_of_mem _ e)
          · rw [S.hc] at z
            have z' : cells.map V.int = [] := by injection (Option.some.inj z)
            exact absurd (nl.mp (List.map_eq_nil_iff.mp z')) (by simp)
        · rw [decide_eq_false hc]
          refine iteF ?_
          have lo0 := S1.lo
          have hi0 := S1.hi
          refine ⟨_, rfl, st, _, 1, .int seed, rfl, rfl, sq_l S1.hs, atI_nat (j := 1) rfl, _, _, rfl, rfl, .inl ⟨by omega, by omega⟩, _, _, rfl, rfl, .inl ⟨_, rfl, _, _, rfl, rfl, (by show (0 : Int) < 2147483647; decide), ?_⟩⟩
          refine ⟨_, rfl, _, rfl, st, _, 1, 1, rfl, rfl, S1.hs, rfl, ?_⟩
          refine ⟨_, rfl, _, _, rfl, rfl, ⟨by decide, by decide⟩, .inl ⟨_, rfl, _, rfl, _, _, rfl, rfl, m0, ?_⟩⟩
          have lo := S1.lo
          have hi := S1.hi
          refine q _ _ ⟨but _ fun a h1 h2 => upd_ne h2, ⟨c :: t, _, th, upd_same, by rw [upd_ne ne.symm]; exact S1.hc, Int.emod_nonneg _ (by decide), Int.lt_trans (Int.emod_lt_of_pos _ (by decide)) (by decide), S1.len, S1.nn⟩, fun z => ?_⟩ (Int.emod_nonneg _ (by omega)) (Int.emod_lt_of_pos _ m0)
          rw [upd_ne ne.symm]
          rw [S.hc] at z
          have z' : cells.map V.int = [] := by injection (Option.some.inj z)
          rw [S1.hc, nl.mp (List.map_eq_nil_iff.mp z')]
          rfl
      · rw [decide_eq_false hl]
        refine iteF (iteF ?_)
        have lo0 := S1.lo
        have hi0 := S1.hi
        refine ⟨_, rfl, st, _, 1, .int seed, rfl, rfl, sq_l S1.hs, atI_nat (j := 1) rfl, _, _, rfl, rfl, .inl ⟨by omega, by omega⟩, _, _, rfl, rfl, .inl ⟨_, rfl, _, _, rfl, rfl, (by show (0 : Int) < 2147483647; decide), ?_⟩⟩
        refine ⟨_, rfl, _, rfl, st, _, 1, 1, rfl, rfl, S1.hs, rfl, ?_⟩
        refine ⟨_, rfl, _, _, rfl, rfl, ⟨by decide, by decide⟩, .inl ⟨_, rfl, _, rfl, _, _, rfl, rfl, m0, ?_⟩⟩
        have lo := S1.lo
        have hi := S1.hi
        refine q _ _ ⟨but _ fun a h1 h2 => upd_ne h2, ⟨cs, _, th, upd_same, by rw [upd_ne ne.symm]; exact S1.hc, Int.emod_nonneg _ (by decide), Int.lt_trans (Int.emod_lt_of_pos _ (by decide)) (by decide), S1.len, S1.nn⟩, fun z => ?_⟩ (Int.emod_nonneg _ (by omega)) (Int.emod_lt_of_pos _ m0)
        rw [upd_ne ne.symm]
        rw [S.hc] at z
        have z' : cells.map V.int = [] := by injection (Option.some.inj z)
        rw [S1.hc, nl.mp (List.map_eq_nil_iff.mp z')]
        rfl
end
end KA
set_option Elab.async false
set_option linter.all false
set_option maxRecDepth 100000
set_option maxHeartbeats 4000000
/-! values that have a written form; comprehensions that draw -/
namespace KA
open PySem PySem.Spec PyProof.Rows L2
open PySem.W (EachIs)
def VOk (k : Key) : Prop := okVl (vlOf k)
theorem dec_len : ∀ (k n : Nat), n < 10 ^ (k + 1) → (dec n).length ≤ k + 1
  | 0, n, h => by
    rw [dec_small (by omega)]
    simp
  | k + 1, n, h => by
    by_cases h10 : n < 10
    · rw [dec_small h10]
      simp
    · rw [dec_big h10, List.length_append]
      have := dec_len k (n / 10) (by rw [Nat.pow_succ] at h; omega)
      simp
      omega
theorem okInt_of {n : Int} (h : n.natAbs < 10 ^ 30) : okInt n := dec_len 29 _ h
theorem vok_int {n : Int} (h1 : -2147483648 ≤ n) (h2 : n < 2147483648) : VOk (.inl n) := ⟨okInt_of (by omega), h1, h2⟩
theorem vok_a : VOk (.inr "a") := ⟨by decide +kernel, by decide +kernel, by decide +kernel⟩
theorem vok_b : VOk (.inr "b") := ⟨by decide +kernel, by decide +kernel, by decide +kernel⟩
theorem vok_ab : VOk (.inr "ab") := ⟨by decide +kernel, by decide +kernel, by decide +kernel⟩
theorem vok_e : VOk (.inr "") := ⟨by decide +kernel, by decide +kernel, by decide +kernel⟩
theorem VOk.sm {k : Key} (h : VOk k) : smK k := by
  cases k with
  | inl n =>
    obtain ⟨_, h1, h2⟩ := h
    show n.natAbs < 2 ^ 120
    omega
  | inr z => exact trivial
theorem VOk.len {k : Key} (h : VOk k) : (fmtVl (vlOf k)).length ≤ 42 := by
  cases k with
  | inl n =>
    obtain ⟨h1, _, _⟩ := h
    show (fmtInt n).length ≤ 42
    unfold fmtInt
    unfold okInt at h1
    split
    · rw [List.length_cons]; omega
    · omega
  | inr z =>
    obtain ⟨h1, _, _⟩ := h
    show (34 :: (z.cps.toList ++ [34])).length ≤ 42
    rw [List.length_cons, List.length_append]
    simp
    have : z.cps.toList.length ≤ 40 := h1
    rw [Array.length_toList] at this
    omega
end KA
set_option Elab.async false
set_option linter.all false
set_option maxRecDepth 100000
set_option maxHeartbeats 4000000
/-! _law_parsed -/
namespace KA
open PySem PySem.Spec PyProof.Rows L2
open PySem.W (EachIs)
/-! ### what is read may be written again -/
theorem dec_lt : ∀ (k n : Nat), (dec n).length ≤ k → n < 10 ^ k
  | 0, n, h => absurd (List.length_eq_zero_iff.mp (Nat.le_zero.mp h)) (dec_ne n)
  | k + 1, n, h => by
    by_cases h10 : n < 10
    · have : 10 ≤ 10 ^ (k + 1) := by rw [Nat.pow_succ]; have := Nat.one_le_pow k 10 (by decide); omega
      omega
    · rw [dec_big h10, List.length_append] at h
      have := dec_lt k (n / 10) (by simp at h; omega)
      rw [Nat.pow_succ]
      omega
theorem okInt_sm {n : Int} (h : okInt n) : n.natAbs < 2 ^ 120 := Nat.lt_trans (dec_lt 30 _ h) (by decide)
theorem ok_smK {v : Vl} (h : okVl v) : smK (kOf v) := VOk.sm (k := kOf v) (by unfold VOk; rw [vlOf_kOf]; exact h)
theorem map_vk (vs : List Vl) : (vs.map kOf).map vlOf = vs := by
  rw [List.map_map, show vlOf ∘ kOf = id from funext vlOf_kOf, List.map_id]
theorem map_vp (b : List (List Vl × Int)) : (b.map kPair).map vPair = b := by
  rw [List.map_map, show vPair ∘ kPair = id from funext vPair_kPair, List.map_id]
theorem smE_of {p : List Vl × Int} (h : okPair p) : smE (kPair p) := by
  refine ⟨fun k hk => ?_, okInt_sm h.2.1⟩
  obtain ⟨v, hv, rfl⟩ := List.mem_map.mp hk
  exact ok_smK (h.1.1 v hv)
def kNamed (n : NBag) : Str × Bag := (⟨n.1.toArray⟩, n.2.map kPair)
theorem map_vn (c : List NBag) : (c.map kNamed).map vNamed = c := by
  rw [List.map_map]
  have : vNamed ∘ kNamed = id := funext fun n => by
    show ((⟨n.1.toArray⟩ : Str).cps.toList, (n.2.map kPair).map vPair) = n
    rw [map_vp]
  rw [this, List.map_id]
theorem namedS_at {H0 H : Hp} {v : V} {n : NBag} (h : NamedS BagS H0 H v n) : ∃ t, v = .ref t ∧ NamedAt H t (kNamed n) := by
  obtain ⟨t, z, bv, rfl, _, h1, hz, h2⟩ := h
  obtain ⟨l, rfl, h3⟩ := bagS_at h2
  have e : (kNamed n).1 = z := by
    show (⟨n.1.toArray⟩ : Str) = z
    rw [← hz]
  exact ⟨t, rfl, l, by rw [e]; exact h1, h3⟩
theorem chgS_at {H0 H : Hp} {v : V} {c : List NBag} (h : ChgS H0 H v c) : ∃ l, v = .ref l ∧ ChgAt H l (c.map kNamed) := by
  obtain ⟨l, ivs, rfl, _, h1, h2⟩ := h
  obtain ⟨ts, rfl, h3⟩ := each_list (P := fun t n => NamedAt H t (kNamed n)) (fun v n z => namedS_at z) h2
  exact ⟨l, rfl, ts, h1, each_map_r (R := NamedAt H) kNamed h3⟩
theorem str_eq {x z : Str} (h : z.cps.toList = x.cps.toList) : z = x := by
  cases x with
  | mk a =>
    cases z with
    | mk b =>
      have : b = a := by
        have h' : b.toList = a.toList := h
        exact Array.toList_inj.mp h'
      rw [this]
theorem filter_none {c : List Nat} : (c.filter fun x => !inChars x).length = 0 ↔ c.all inChars = true := by
  rw [List.length_eq_zero_iff, List.filter_eq_nil_iff, List.all_eq_true]
  constructor
  · intro h x hx
    have := h x hx
    simpa using this
  · intro h x hx
    simp [h x hx]
theorem bad_byte (x : Nat) : (!inChars x) = (decide ((x : Int) < 32) || (decide ((126 : Int) < (x : Int)) || decide (V.int (x : Int) = V.int 37))) := by
  unfold inChars
  have h3 : decide (V.int (x : Int) = V.int 37) = decide (x = 37) := by
    by_cases h : x = 37
    · subst h; rfl
    · rw [decide_eq_false h, decide_eq_false (fun z => h (by injection z with z; omega))]
  rw [h3]
  by_cases h1 : 32 ≤ x
  · have h1' : ¬ ((x : Int) < 32) := by omega
    by_cases h2 : x ≤ 126
    · have h2' : ¬ ((126 : Int) < (x : Int)) := by omega
      by_cases h4 : x = 37 <;> simp [h1, h1', h2, h2', h4]
    · have h2' : (126 : Int) < (x : Int) := by omega
      simp [h1, h1', h2, h2']
  · have h1' : (x : Int) < 32 := by omega
    simp [h1, h1']
section
variable {P : Program} {w : World} {K : PySem.W.Frag} {mg : Str → Option Value} {base : Heap} {f : Addr} {fd : FuncData} {FE : Addr}
def oneOf (c : List Nat) : List (List NBag) := match chgOf c with
  | some v => [v]
  | none => []
def spParsed (K : PySem.W.Frag) : Sp := fun vs H Q _ => ∃ (a : Addr) (c : List Nat), vs = [.ref a] ∧ SqL K H a (bV c) ∧ c.length ≤ 65535 ∧ ∀ v H', Same H H' → ListS ChgS H H' v (oneOf c) → Q v H'
theorem ok_parsed (F : FnP K "_law_parsed" s__law_parsed f fd) (gL : mg "len" = none) (gFE : mg "FormError" = some (.ref FE)) (e1 : PySem.W.exmOne K (.ref FE) (.ref FE) = some true) (CCh : Cal P w K mg base "_law_chars" 1 [] spChars)
    (PC : CalX P w K mg base "parse_change" 17 ["text"] (spParse FE ChgS (wChange asc))) (CC : Cal P w K mg base "_law_shown_change" 4 ["change"] spFmtChg) : FnOk P w K mg base CX0 18 f fd ["data"] (spParsed K) := by
  obtain ⟨f3, d3, m3, kp3, b3, G3⟩ := PC
  obtain ⟨f0, d0, m0, kp0, b0, G0⟩ := CCh
  refine F.ok sc__law_parsed (fun vs H Q E h => ?_) (fun cdv A outer s H vs Q E hr h => ?_)
  · obtain ⟨a, c, rfl, _⟩ := h
    rfl
  · obtain ⟨a, c, rfl, hS, hcl, q⟩ := h
    have nd := sc__law_parsed.nd
    have hr1 : Room 1 _ := hr.mono (show 1 ≤ 17 by decide)
    refine ⟨_, PSs.nox (pss_cons (ps_if (pt_cmpR op_gt (pe_callB call_len_seq (by rfl) gL PySem.boot_len (pa_cons (pe_lc (own := [("byte", 1)]) (g := gName 1) (by rfl) nd (pi_list (pv 0)) (blkOk_by (own := [("byte", 1)]) (N := ["data", "byte", "text", "found"]) (sc := defScope s__law_parsed) (by decide +kernel)) (fun _ _ _ _ _ => pg_name (i := 1) nd rfl (Or.inl rfl))
          (fun _ _ _ _ _ => pts_one (PW.pt (pw_or (pt_cmpR op_lt (pv 1) pe_int (nomark _)) (pw_or (pt_cmpR op_gt (pv 1) pe_int (nomark _)) (pw_or1 (pt_cmpR op_eq (pv 1) pe_int (nomark _))))))) (fun _ _ _ _ _ => pv 1)) pa_nil)) pe_int (nomark _)) (pss_one (ps_ret (pe_lst pa_nil))) pss_nil)
      (pss_cons (ps_set (i := 2) nd rfl (Or.inl rfl) (pe_join pe_str (pe_lc (own := [("byte", 1)]) (g := gName 1) (tt := tYes) (by rfl) nd (pi_list (pv 0)) (blkOk_by (own := [("byte", 1)]) (N := ["data", "byte", "text", "found"]) (sc := defScope s__law_parsed) (by decide +kernel)) (fun _ _ _ _ _ => pg_name (i := 1) nd rfl (Or.inl rfl)) (fun _ _ _ _ _ => pts_nil)
          (fun _ _ _ _ _ => pe_item_str (pe_call0 G0 hr1 (by rfl) m0 kp0 b0 .nil pass0) (pe_op op_sub (pv 1) pe_int) (fun _ _ => rfl)))))
      (pss_cons (ps_try_only rfl rfl ⟨rfl, by decide, .inl gFE⟩ takes0 (fun W pn xe tk _ =>
          pss_one (ps_set (i := 3) nd rfl (Or.inl rfl) (pe_callS G3 hr (by rfl) m3 kp3 b3 (fun τ => passAt tk τ) (pa_cons (pv 2) pa_nil)))) (fun a oe cls d pn hz hf => pss_one (ps_ret (pe_lst pa_nil))))
      (pss_one (ps_ret (pe_ifExp (pt_cmpR op_eq (pe_cal CC hr.lt (pa_cons (pv 3) pa_nil)) (pv 2) (nomark _)) (pe_lst (pa_cons (pv 3) pa_nil)) (pe_lst pa_nil))))))), ?_⟩
    refine ⟨_, rfl, a, rfl, ⟨_, hS⟩, fun D hD => ?_⟩
    refine lc_same (walk_list (xs := bV c)) c (by rw [bV_len]) (fun x => !inChars x) (fun _ _ _ => True) (fun _ _ _ _ _ z => z) hD (fun H' s' => s'.seq hS) (by rw [bV_len]; omega) ?_ ?_
    · rintro i x b H1 _ hi hb s1 ⟨rfl, hx⟩ Q' Qn k1 k2
      obtain ⟨b', hb', rfl⟩ := bV_at hx
      obtain rfl : b = b' := Option.some.inj (hb.symm.trans hb')
      refine ⟨rfl, if_in (c := !inChars b) (fun Q g => ?_) (fun hc => ⟨_, rfl, k1 hc _ _ (Same.refl _) trivial⟩) (fun hc => k2 hc _ (Same.refl _))⟩
      rw [bad_byte] at g
      refine ⟨_, rfl, _, _, rfl, rfl, _, rfl, ?_⟩
      by_cases h1 : ((b : Int) < 32)
      · refine (if_pos (decide_eq_true h1)).mpr ?_
        simpa [h1] using g
      · refine (if_neg (fun z => h1 (of_decide_eq_true z))).mpr ?_
        refine ⟨_, rfl, _, _, rfl, rfl, _, rfl, ?_⟩
        by_cases h2 : ((126 : Int) < (b : Int))
        · refine (if_pos (decide_eq_true h2)).mpr ?_
          simpa [h1, h2] using g
        · refine (if_neg (fun z => h2 (of_decide_eq_true z))).mpr ?_
          refine ⟨_, rfl, rfl, _, rfl, ?_⟩
          rw [decide_eq_false h1, decide_eq_false h2] at g
          exact g
    · intro H1 acc s1 ha he
      have hal := he.length
      refine ⟨D, _, rfl, .inl (sq_l ha), _, _, rfl, rfl, _, rfl, ?_⟩
      by_cases hc : c.all inChars = true
      · have h0 := filter_none.mpr hc
        refine (if_neg (fun z => by have := of_decide_eq_true z; omega)).mpr ?_
        have hcg : chgOf c = wChange asc c := by unfold chgOf; rw [if_pos hc]
        have hll := lch_len
        refine ⟨⟨_, rfl⟩, _, rfl, a, rfl, ⟨_, s1.seq hS⟩, fun D2 hD2 => ?_⟩
        refine lc_same (walk_list (xs := bV c)) c (by rw [bV_len]) (fun _ => true) (fun _ v x => ∃ z : Str, v = .str z ∧ z.cps.toList = [x]) (fun _ _ _ _ _ z => z) hD2 (fun H' s' => s'.seq (s1.seq hS)) (by rw [bV_len]; omega) ?_ ?_
        · rintro i x b H2 _ hi hb s2 ⟨rfl, hx⟩ Q' Qn k1 _
          obtain ⟨b', hb', rfl⟩ := bV_at hx
          obtain rfl : b = b' := Option.some.inj (hb.symm.trans hb')
          have hbc : inChars b = true := List.all_eq_true.mp hc b (List.mem_of_getElem? hb)
          unfold inChars at hbc
          simp only [Bool.and_eq_true, decide_eq_true_eq] at hbc
          have hat := lch_at (b - 32) (by omega) (by omega)
          rw [Array.getElem?_toList, show b - 32 + 32 = b by omega] at hat
          have ei : ((b : Int) - 32).toNat = b - 32 := by omega
          exact ⟨rfl, yes_in ⟨rfl, _, rfl, _, _, rfl, rfl, LCH, (b : Int) - 32, b, rfl, rfl, by omega, by omega, by omega, by rw [ei]; exact hat, k1 rfl _ _ (Same.refl _) ⟨_, rfl, rfl⟩⟩⟩
        · intro H2 acc2 s2 ha2 he2
          rw [filter_true] at he2
          obtain ⟨ys, rfl, hys⟩ := strs_of he2
          have e0 : (Str.ofString "").cps.toList = [] ∧ (Str.ofString "").length = 0 := by decide +kernel
          have hj : joined [] (c.map fun x => [x]) = c := by
            rw [joined_nil]
            clear hS hcl q ha he hal h0 hc hcg ha2 he2 hys
            induction c with
            | nil => rfl
            | cons x t ih => rw [List.map_cons, List.flatten_cons, ih]; rfl
          obtain ⟨j1, j2⟩ := join_fits (g := Str.ofString "") hys (by rw [e0.2]; decide) (by rw [e0.1, hj]; omega)
          rw [e0.1, hj] at j2
          refine ⟨_, D2, ys, rfl, rfl, .inl (sq_l ha2), j1, ?_⟩
          revert j2
          generalize Txt.join (Str.ofString "") ys = tx
          intro htx
          have htl : tx.length = c.length := by
            show tx.cps.toList.length = _
            rw [htx]
          refine ⟨_, rfl, tx, rfl, by omega, fun v tv H3 hw s3 st => ?_, fun hn H3 s3 => ?_⟩
          · rw [htx] at hw
            have hof : oneOf c = [v] := by unfold oneOf; rw [hcg, hw]
            obtain ⟨ew, okw⟩ := wChange_sound asc hw
            obtain ⟨lv, rfl, hcv⟩ := chgS_at st
            refine ⟨_, rfl, lv, v.map kNamed, rfl, hcv, fun n hn e he => ?_, by rw [map_vn, ← ew]; omega, fun z H4 s4 hz => ?_⟩
            · obtain ⟨y, hy, rfl⟩ := List.mem_map.mp hn
              obtain ⟨p, hp, rfl⟩ := List.mem_map.mp he
              exact smE_of ((okw y hy).2.1 p hp)
            · rw [map_vn, ← ew, ← htx] at hz
              obtain rfl : z = tx := str_eq hz
              refine ⟨_, rfl, rfl, _, rfl, (if_pos (by simp)).mpr ?_⟩
              refine ⟨_, rfl, (by show 1 ≤ sizeLine; decide), fun p hp => ?_⟩
              have s12 := s1.trans s2
              have s5 := s4.trans (same_new (o := HO.lst [.ref lv]) hp)
              refine q _ _ ((s12.trans s3).trans s5) ?_
              rw [hof]
              exact ⟨p, _, rfl, ((s12.trans s3).trans s4).free hp, upd_same, .cons ((stn_list (stn_named stn_bag)).weak _ _ _ _ _ s12 ((stn_list (stn_named stn_bag)).same s5 st)) .nil⟩
          · rw [htx] at hn
            have hof : oneOf c = [] := by unfold oneOf; rw [hcg, hn]
            refine ⟨true, e1, fun _ _ _ => ⟨Nat.zero_le _, fun p hp => ?_⟩, fun z => nomatch z⟩
            have sA := (s1.trans s2).trans s3
            refine q _ _ (sA.trans (same_new hp)) ?_
            rw [hof]
            exact ⟨p, [], rfl, sA.free hp, upd_same, .nil⟩
      · have h0 : ¬ (c.filter fun x => !inChars x).length = 0 := fun z => hc (filter_none.mp z)
        refine (if_pos (decide_eq_true (by omega))).mpr ?_
        refine ⟨Nat.zero_le _, fun p hp => q _ _ (s1.trans (same_new hp)) ?_⟩
        have : oneOf c = [] := by unfold oneOf chgOf; rw [if_neg hc]
        rw [this]
        exact ⟨p, [], rfl, s1.free hp, upd_same, .nil⟩
end
end KA
set_option Elab.async false
set_option linter.all false
set_option maxRecDepth 100000
set_option maxHeartbeats 4000000
/-! _law_readable -/
namespace KA
open PySem PySem.Spec PyProof.Rows L2
open PySem.W (EachIs)
theorem each_app2 {α β : Type} {R : α → β → Prop} : ∀ {as bs : List α} {xs ys : List β}, EachIs R as xs → EachIs R bs ys → EachIs R (as ++ bs) (xs ++ ys)
  | _, _, _, _, .nil, h => h
  | _, _, _, _, .cons a t, h => .cons a (each_app2 t h)
section
variable {P : Program} {w : World} {K : PySem.W.Frag} {mg : Str → Option Value} {base : Heap} {f : Addr} {fd : FuncData} {FE : Addr}
def spReadable (K : PySem.W.Frag) : Sp := fun vs H Q _ => ∃ (a : Addr) (d : List Nat), vs = [.ref a] ∧ SqL K H a (bV d) ∧ d.length ≤ 1000000 ∧ (∀ x ∈ d, x < 256) ∧ cnt d < 400 ∧
  ∀ t v H', Same H H' → H' t = some (.tup [v, .int ((d.length - (rdD d).2.length : Nat) : Int)]) → ListS ChgS H H' v (rdD d).1 → H t = none → Q (.ref t) H'
theorem drop_two {d : List Nat} {i : Nat} (h : i + 2 ≤ d.length) : ∃ x y, d.drop i = x :: y :: d.drop (i + 2) ∧ d[i]? = some x ∧ d[i + 1]? = some y := by
  match hh : d.drop i, (show 2 ≤ (d.drop i).length by rw [List.length_drop]; omega) with
  | x :: y :: t, _ =>
    refine ⟨x, y, ?_, ?_, ?_⟩
    · have : d.drop (i + 2) = (d.drop i).drop 2 := by rw [List.drop_drop]
      rw [this, hh]
      rfl
    · have := List.getElem?_drop (xs := d) (i := i) (j := 0)
      rw [hh] at this
      simpa using this.symm
    · have := List.getElem?_drop (xs := d) (i := i) (j := 1)
      rw [hh] at this
      simpa using this.symm
theorem ok_readable (F : FnP K "_law_readable" s__law_readable f fd) (gL : mg "len" = none) (gR : mg "range" = none) (CB : Cal P w K mg base "_law_bytes" 1 ["number", "size"] spLBytes) (CK : Cal P w K mg base "_law_check" 1 ["data"] (spCheck K)) (CP : Cal P w K mg base "_law_parsed" 18 ["data"] (spParsed K)) :
    FnOk P w K mg base CX0 19 f fd ["data"] (spReadable K) := by
  refine F.ok sc__law_readable (fun vs H Q E h => ?_) (fun cdv A outer s H vs Q E hr h => ?_)
  · obtain ⟨a, d, rfl, _⟩ := h
    rfl
  · obtain ⟨a, d, rfl, hS, hd, hb, hcn, q⟩ := h
    have nd := sc__law_readable.nd
    refine ⟨_, PSs.nox (pss_cons (ps_set (i := 1) nd rfl (Or.inl rfl) (pe_lst pa_nil))
      (pss_cons (ps_set (i := 2) nd rfl (Or.inl rfl) pe_int)
      (pss_cons (ps_for PassesOwn.never rfl (pi_range1 rfl gR (pa_cons pe_int pa_nil)) (pg_name (i := 3) nd rfl (Or.inl rfl))
        (pss_cons (ps_if (pt_cmpR op_gt (pe_op op_add (pv 2) pe_int) (pe_callB call_len_seq (by rfl) gL PySem.boot_len (pa_cons (pv 0) pa_nil)) (nomark _)) (pss_one ps_break) pss_nil)
        (pss_cons (ps_set (i := 4) nd rfl (Or.inl rfl) (pe_op op_add (pe_op op_mul (pe_ix ix_list (pv 0) (pv 2) (fun _ _ => rfl)) pe_int) (pe_ix ix_list (pv 0) (pe_op op_add (pv 2) pe_int) (fun _ _ => rfl))))
        (pss_cons (ps_set (i := 5) nd rfl (Or.inl rfl) (pe_op op_add (pe_op op_add (pv 2) pe_int) (pv 4)))
        (pss_cons (ps_if (PW.pt (pw_or (pt_cmpR op_gt (pe_op op_add (pv 5) pe_int) (pe_callB call_len_seq (by rfl) gL PySem.boot_len (pa_cons (pv 0) pa_nil)) (nomark _))
            (pw_or1 (pt_cmpR (op_neP hr.u64) (pe_slice sl_list (pv 0) (po_some (pv 5)) (po_some (pe_op op_add (pv 5) pe_int))) (pe_cal CB hr.lt (pa_cons (pe_cal CK hr.lt (pa_cons (pe_slice sl_list (pv 0) (po_some (pv 2)) (po_some (pv 5))) pa_nil)) (pa_cons pe_int pa_nil))) (nomark _))))) (pss_one ps_break) pss_nil)
        (pss_cons (ps_set (i := 6) nd rfl (Or.inl rfl) (pe_cal CP hr (pa_cons (pe_slice sl_list (pv 0) (po_some (pe_op op_add (pv 2) pe_int)) (po_some (pv 5))) pa_nil)))
        (pss_cons (ps_if (pt_cmpR op_eq (pe_callB call_len_seq (by rfl) gL PySem.boot_len (pa_cons (pv 6) pa_nil)) pe_int (nomark _)) (pss_one ps_break) pss_nil)
        (pss_cons (ps_set (i := 1) nd rfl (Or.inl rfl) (pe_op op_cat (pv 1) (pv 6)))
        (pss_one (ps_set (i := 2) nd rfl (Or.inl rfl) (pe_op op_add (pv 5) pe_int)))))))))))
      (pss_one (ps_ret (pe_tup (pa_cons (pv 1) (pa_cons (pv 2) pa_nil)))))))), ?_⟩
    have h2s : 2 ≤ sizeLine := by rw [sizeLine_eq]; decide
    refine ⟨Nat.zero_le _, fun l0 hl0 => ?_⟩
    have s0 := same_new (o := HO.lst []) hl0
    have fin : ∀ (i : Nat) (acc : List (List NBag)) (ivs : List V) (l : Addr) (G : Hp), Same H G → H l = none → G l = some (.lst ivs) → EachIs (ChgS H G) ivs acc → i ≤ d.length → rdD d = (acc ++ (rdD (d.drop i)).1, (rdD (d.drop i)).2) → rdD (d.drop i) = ([], d.drop i) → ∀ p, G p = none → Q (.ref p) (upd G p (.tup [.ref l, .int (i : Int)])) := by
      intro i acc ivs l G sG hlH hG he hi hrd hr0 p hp
      rw [hr0] at hrd
      dsimp only at hrd
      rw [List.append_nil] at hrd
      have sP := same_new (o := HO.tup [.ref l, .int (i : Int)]) hp
      refine q p (.ref l) _ (sG.trans sP) ?_ ?_ (sG.free hp)
      · rw [upd_same, hrd]
        have : d.length - (d.drop i).length = i := by rw [List.length_drop]; omega
        dsimp only
        rw [this]
      · rw [hrd]
        exact ⟨l, ivs, rfl, hlH, sP _ _ hG, he.mono fun y z k => (stn_list (stn_named stn_bag)).same sP k⟩
    have none_fin : ∀ {s : List Nat}, contS s = none → rdD s = ([], s) := fun {s} h => by rw [rdD_step, h]
    refine ⟨400, rfl, by decide, by decide, ?_⟩
    refine for_it walk_range (fun j σ G => ∃ (i : Nat) (acc : List (List NBag)) (ivs : List V) (l : Addr) (v3 v4 v5 v6 : Option V), σ = [some (.ref a), some (.ref l), some (.int (i : Int)), v3, v4, v5, v6] ∧ Same H G ∧ H l = none ∧ G l = some (.lst ivs) ∧ EachIs (ChgS H G) ivs acc ∧ i ≤ d.length ∧ acc.length = j ∧ rdD d = (acc ++ (rdD (d.drop i)).1, (rdD (d.drop i)).2))
      ⟨0, [], [], l0, _, _, _, _, rfl, s0, hl0, upd_same, .nil, Nat.zero_le _, rfl, by rw [List.drop_zero]; rfl⟩ (fun _ _ _ _ _ => trivial) ?_ ?_
    · rintro j x σ _ G hj ⟨i, acc, ivs, l, v3, v4, v5, v6, rfl, sG, hlH, hG, he, hi, haj, hr1⟩ ⟨rfl, rfl⟩
      have stop : rdD (d.drop i) = ([], d.drop i) → ∀ {G' : Hp}, Same G G' → ∀ p, G' p = none → Q (.ref p) (upd G' p (.tup [.ref l, .int (i : Int)])) := fun h0 {G'} s' => fin i acc ivs l G' (sG.trans s') hlH (s' _ _ hG) (he.mono fun y z k => (stn_list (stn_named stn_bag)).same s' k) hi hr1 h0
      refine ⟨_, rfl, _, _, rfl, rfl, _, rfl, a, _, rfl, .inl (sG.seq hS), _, _, rfl, rfl, _, rfl, ?_⟩
      rw [bV_len d]
      by_cases h6 : i + 6 ≤ d.length
      · refine (if_neg (fun z => by have := of_decide_eq_true z; omega)).mpr ?_
        obtain ⟨xx, yy, ht, hx, hy⟩ := drop_two (d := d) (i := i) (by omega)
        have hx' : atI (bV d) (i : Int) = some (.int (xx : Int)) := atI_nat (j := i) (by unfold bV; rw [List.getElem?_map, hx]; rfl)
        have hy' : atI (bV d) ((i : Int) + 1) = some (.int (yy : Int)) := atI_nat (j := i + 1) (by unfold bV; rw [List.getElem?_map, hy]; rfl)
        have hx256 := hb xx (List.mem_of_getElem? hx)
        have hy256 := hb yy (List.mem_of_getElem? hy)
        refine ⟨_, rfl, _, rfl, a, _, _, _, rfl, rfl, sG.seq hS, hx', _, _, rfl, rfl, .inl ⟨by omega, by omega⟩, _, rfl, _, rfl, _, _, rfl, rfl, a, _, _, _, rfl, rfl, sG.seq hS, hy', _, _, rfl, rfl, ?_⟩
        obtain ⟨z, hz⟩ : ∃ z, z = xx * 256 + yy := ⟨_, rfl⟩
        have eZ : ((xx : Int) * 256 + (yy : Int)) = (z : Int) := by omega
        dsimp only
        rw [eZ]
        refine ⟨_, rfl, _, _, rfl, rfl, _, rfl, _, _, rfl, rfl, ?_⟩
        have eE : ((i : Int) + 2 + (z : Int)) = ((i + 2 + z : Nat) : Int) := by omega
        dsimp only
        rw [eE]
        have hc := contS2 xx yy (d.drop (i + 2))
        rw [← ht, ← hz] at hc
        refine ⟨_, rfl, _, _, rfl, rfl, _, rfl, a, _, rfl, .inl (sG.seq hS), _, _, rfl, rfl, _, rfl, ?_⟩
        rw [bV_len d]
        by_cases h4 : i + 2 + z + 4 ≤ d.length
        · refine (if_neg (fun w => by have := of_decide_eq_true w; omega)).mpr ?_
          have e4 : (((i + 2 + z : Nat) : Int) + 4) = ((i + 2 + z + 4 : Nat) : Int) := by omega
          refine ⟨_, rfl, _, rfl, _, rfl, _, rfl, _, _, rfl, rfl, _, rfl, a, _, rfl, sG.seq hS, fun p1 hp1 => ?_⟩
          dsimp only
          rw [e4, cut_bytes, show i + 2 + z + 4 - (i + 2 + z) = 4 by omega]
          have s1 := same_new (o := HO.lst (bV ((d.drop (i + 2 + z)).take 4))) hp1
          refine ⟨_, rfl, _, rfl, _, rfl, _, rfl, _, rfl, a, _, rfl, s1.seq (sG.seq hS), fun p2 hp2 => ?_⟩
          dsimp only
          rw [cut_bytes]
          have s2 := same_new (o := HO.lst (bV ((d.drop i).take (i + 2 + z - i)))) hp2
          have hk := chk_lt ((d.drop i).take (i + 2 + z - i))
          refine ⟨p2, _, rfl, sq_l upd_same, fun x hx => by have := hb x (List.mem_of_mem_drop (List.mem_of_mem_take hx)); omega, _, 4, rfl, by omega, .inr rfl, fun l2 G2 s3 hl2 hL2 => ?_⟩
          rw [if_neg (by decide)] at hL2
          have hp1' := s3 _ _ (s2 _ _ (upd_same (H := G) (a := p1) (o := .lst (bV ((d.drop (i + 2 + z)).take 4)))))
          have sAll := s1.trans (s2.trans s3)
          refine ⟨_, _, dp_bytes (sq_l hp1'), dp_bytes (sq_l hL2), bytes_plain _, bytes_plain _, Nat.le_trans (bytes_depth _) (by decide), _, rfl, ?_⟩
          rw [eqv_bytes]
          have k1 : d.drop (i + 2 + z) = (d.drop (i + 2)).drop z := by rw [List.drop_drop]
          have k2 : (d.drop i).take (i + 2 + z - i) = xx :: yy :: (d.drop (i + 2)).take z := by
            rw [ht, show i + 2 + z - i = z + 1 + 1 by omega]
            rfl
          rw [← k1, ← k2] at hc
          by_cases hq : (d.drop (i + 2 + z)).take 4 = be4 (chk ((d.drop i).take (i + 2 + z - i)))
          · rw [if_pos hq] at hc
            refine (if_neg (by rw [decide_eq_true hq]; decide)).mpr ?_
            have e2 : ((i : Int) + 2) = ((i + 2 : Nat) : Int) := by omega
            refine ⟨_, rfl, _, rfl, _, _, rfl, rfl, _, rfl, _, rfl, _, rfl, a, _, rfl, sAll.seq (sG.seq hS), fun p3 hp3 => ?_⟩
            dsimp only
            rw [e2, cut_bytes, show i + 2 + z - (i + 2) = z by omega]
            have s4 := same_new (o := HO.lst (bV ((d.drop (i + 2)).take z))) hp3
            refine ⟨p3, _, rfl, sq_l upd_same, by rw [List.length_take]; omega, fun v G3 s5 hv => ?_⟩
            obtain ⟨lv, ivv, rfl, hlv0, hlv, hev⟩ := id hv
            have sB := sAll.trans (s4.trans s5)
            have hil := hev.length
            refine ⟨_, rfl, lv, _, rfl, .inl (sq_l hlv), rfl, _, rfl, ?_⟩
            cases hcg : chgOf ((d.drop (i + 2)).take z) with
            | none =>
              have hof : oneOf ((d.drop (i + 2)).take z) = [] := by unfold oneOf; rw [hcg]
              rw [hof] at hil
              refine (if_pos (by simp [hil])).mpr ?_
              refine ⟨_, rfl, _, rfl, h2s, stop ?_ sB⟩
              rw [rdD_step, hc]
              dsimp only
              rw [hcg]
            | some v =>
              have hof : oneOf ((d.drop (i + 2)).take z) = [v] := by unfold oneOf; rw [hcg]
              rw [hof] at hil hev
              refine (if_neg (by simp [hil])).mpr ?_
              have hal := he.length
              refine ⟨_, rfl, _, rfl, l, lv, _, _, rfl, rfl, sB _ _ hG, hlv, by rw [hil, sizeLine_eq]; have : (400 : Int).toNat = 400 := rfl; simp; omega, fun l3 hl3 => ?_⟩
              have s6 := same_new (o := HO.lst (ivs ++ ivv)) hl3
              have sC := sB.trans s6
              have hst := stn_list (stn_named stn_bag)
              refine ⟨_, rfl, _, _, rfl, rfl, i + 2 + z + 4, acc ++ [v], ivs ++ ivv, l3, some (.int (0 + (j : Int))), some (.int (z : Int)), some (.int ((i + 2 + z : Nat) : Int)), some (.ref lv), ?_, sG.trans sC, (sG.trans sB).free hl3, upd_same, ?_, h4, by rw [List.length_append, haj]; rfl, ?_⟩
              · rw [← e4]
                rfl
              · refine each_app2 (he.mono fun y z k => hst.same sC k) (hev.mono fun y z k => hst.weak _ _ _ _ _ (sG.trans (sAll.trans s4)) (hst.same s6 k))
              · have hr3 : (d.drop (i + 2)).drop (z + 4) = d.drop (i + 2 + z + 4) := by rw [List.drop_drop]; congr 1
                rw [hr1, rdD_step (d.drop i), hc]
                dsimp only
                rw [hcg]
                dsimp only
                rw [hr3, List.append_assoc]
                rfl
          · rw [if_neg hq] at hc
            refine (if_pos (by rw [decide_eq_false hq]; rfl)).mpr ?_
            exact ⟨_, rfl, _, rfl, h2s, stop (none_fin hc) sAll⟩
        · refine (if_pos (decide_eq_true (by omega))).mpr ?_
          have hn : contS (d.drop i) = none := by
            rw [hc, if_neg]
            intro w
            have := congrArg List.length w
            rw [List.length_take, List.length_drop, List.length_drop] at this
            have e4 : (be4 (chk (xx :: yy :: (d.drop (i + 2)).take z))).length = 4 := rfl
            omega
          exact ⟨_, rfl, _, rfl, h2s, stop (none_fin hn) (fun _ _ e => e)⟩
      · refine (if_pos (decide_eq_true (by omega))).mpr ?_
        have hn : contS (d.drop i) = none := by
          cases hcc : contS (d.drop i) with
          | none => rfl
          | some p =>
            obtain ⟨c, r⟩ := p
            have := contS_len hcc
            rw [List.length_drop] at this
            omega
        exact ⟨_, rfl, _, rfl, h2s, stop (none_fin hn) (fun _ _ e => e)⟩
    · rintro σ G ⟨i, acc, ivs, l, v3, v4, v5, v6, rfl, sG, hlH, hG, he, hi, haj, hr1⟩
      exfalso
      unfold cnt at hcn
      rw [hr1] at hcn
      dsimp only at hcn
      rw [List.length_append] at hcn
      have : (400 : Int).toNat = 400 := rfl
      omega
end
end KA
set_option Elab.async false
set_option linter.all false
set_option maxRecDepth 100000
set_option maxHeartbeats 4000000
/-! _law_one, _law_row, _law_bag -/
namespace KA
open PySem PySem.Spec PyProof.Rows L2
open PySem.W (EachIs)
/-- what the law draws as a value -/
def KeyOk (k : Key) : Prop := VOk k
def RowOk (r : Row) : Prop := r.length ≤ 3 ∧ ∀ x ∈ r, KeyOk x
theorem four {v : Int} (h0 : 0 ≤ v) (h1 : v < 4) : v = 0 ∨ v = 1 ∨ v = 2 ∨ v = 3 := by omega
theorem six {v : Int} (h0 : 0 ≤ v) (h1 : v < 6) : v = 0 ∨ v = 1 ∨ v = 2 ∨ v = 3 ∨ v = 4 ∨ v = 5 := by omega
theorem Drawn.new {st cl : Addr} {H H' : Hp} (d : Drawn st cl H H') (h : StOk H st cl) {p : Addr} {o : HO} (q : H p = some o) (h0 : ∀ c z th, StateAt H st cl c z th → p ≠ st ∧ p ≠ cl) : H' p = some o := by
  obtain ⟨c, z, th, S⟩ := h
  obtain ⟨h1, h2⟩ := h0 c z th S
  exact d.but p o h1 h2 q
theorem StateAt.away {H : Hp} {st cl : Addr} {c : List Int} {z th : Int} (S : StateAt H st cl c z th) {p : Addr} (h : H p = none) : p ≠ st ∧ p ≠ cl := ⟨fun e => (by rw [e, S.hs] at h; cases h), fun e => (by rw [e, S.hc] at h; cases h)⟩
theorem StOk.new {H : Hp} {st cl p : Addr} {o : HO} (h : StOk H st cl) (hp : H p = none) : StOk (upd H p o) st cl := h.same (same_new hp)
section
variable {P : Program} {w : World} {K : PySem.W.Frag} {mg : Str → Option Value} {base : Heap} {f : Addr} {fd : FuncData}
abbrev DrawC (P : Program) (w : World) (K : PySem.W.Frag) (mg : Str → Option Value) (base : Heap) : Prop := Cal P w K mg base "_law_draw" 1 ["state", "many"] spDraw
def spOne : Sp := fun vs H Q _ => ∃ (st cl : Addr), vs = [.ref st] ∧ StOk H st cl ∧ ∀ x H', Drawn st cl H H' → KeyOk x → Q (kV x) H'
theorem ok_one (F : FnP K "_law_one" s__law_one f fd) (C : DrawC P w K mg base) : FnOk P w K mg base CX0 2 f fd ["state"] spOne := by
  refine F.ok sc__law_one (fun vs H Q E h => ?_) (fun cdv A outer s H vs Q E hr h => ?_)
  · obtain ⟨n, r, rfl, _⟩ := h
    rfl
  · obtain ⟨st, cl, rfl, hS, q⟩ := h
    refine ⟨_, PSs.nox (pss_cons (ps_set (i := 1) sc__law_one.nd rfl (Or.inl rfl) (pe_cal C hr (pa_cons (pv 0) (pa_cons pe_int pa_nil))))
      (pss_cons (ps_if (pt_cmpR op_lt (pv 1) pe_int (nomark _)) (pss_one (ps_ret (pe_cal C hr (pa_cons (pv 0) (pa_cons pe_int pa_nil))))) pss_nil)
      (pss_cons (ps_if (pt_cmpR op_lt (pv 1) pe_int (nomark _)) (pss_one (ps_ret (pe_ix ix_list (pe_lst (pa_cons pe_str (pa_cons pe_str (pa_cons pe_str (pa_cons pe_str pa_nil))))) (pe_cal C hr (pa_cons (pv 0) (pa_cons pe_int pa_nil))) (fun _ _ => rfl)))) pss_nil)
      (pss_cons (ps_if (pt_cmpR op_eq (pv 1) pe_int (nomark _)) (pss_one (ps_ret (pe_ix ix_list (pe_lst (pa_cons (pe_un un_neg pe_int) (pa_cons (pe_un un_neg pe_int) (pa_cons pe_int (pa_cons pe_int (pa_cons pe_int (pa_cons (pe_un un_neg pe_int) pa_nil)))))))
        (pe_cal C hr (pa_cons (pv 0) (pa_cons pe_int pa_nil))) (fun _ _ => rfl)))) pss_nil)
      (pss_one (ps_ret (pe_op op_sub (pe_cal C hr (pa_cons (pv 0) (pa_cons pe_int pa_nil))) pe_int))))))), ?_⟩
    refine ⟨_, rfl, st, cl, 8, rfl, hS, by decide, by decide, fun k H1 d1 k0 k1 => ?_⟩
    refine ⟨_, rfl, _, _, rfl, rfl, _, rfl, ite2 (fun _ => ?_) fun _ => ?_⟩
    · exact ⟨_, rfl, st, cl, 4, rfl, d1.ok, by decide, by decide, fun v H2 d2 v0 v1 => q (.inl v) _ (d1.trans d2) (vok_int (by omega) (by omega))⟩
    refine ⟨_, rfl, _, _, rfl, rfl, _, rfl, ite2 (fun _ => ?_) fun _ => ?_⟩
    · refine ⟨(by show 4 ≤ sizeLine; decide), fun p hp => ?_⟩
      refine ⟨_, rfl, st, cl, 4, rfl, d1.ok.new hp, by decide, by decide, fun v H2 d2 v0 v1 => ?_⟩
      have hp2 : H2 p = some (.lst [.str "a", .str "b", .str "ab", .str ""]) := by
        obtain ⟨c, z, th, S⟩ := d1.ok
        obtain ⟨h1, h2⟩ := S.away hp
        exact d2.but p _ h1 h2 upd_same
      have d3 := (d1.trans (Drawn.of_same (same_new (o := .lst [.str "a", .str "b", .str "ab", .str ""]) hp) d1.ok)).trans d2
      rcases four v0 v1 with rfl | rfl | rfl | rfl
      · exact ⟨p, _, 0, .str "a", rfl, rfl, sq_l hp2, atI_nat (j := 0) rfl, q (.inr "a") _ d3 vok_a⟩
      · exact ⟨p, _, 1, .str "b", rfl, rfl, sq_l hp2, atI_nat (j := 1) rfl, q (.inr "b") _ d3 vok_b⟩
      · exact ⟨p, _, 2, .str "ab", rfl, rfl, sq_l hp2, atI_nat (j := 2) rfl, q (.inr "ab") _ d3 vok_ab⟩
      · exact ⟨p, _, 3, .str "", rfl, rfl, sq_l hp2, atI_nat (j := 3) rfl, q (.inr "") _ d3 vok_e⟩
    refine ⟨_, rfl, rfl, _, rfl, ?_⟩
    by_cases h6 : k = 6
    · rw [decide_eq_true (by rw [h6])]
      refine iteT ⟨_, rfl, _, rfl, _, rfl, (by show 6 ≤ sizeLine; decide), fun p hp => ?_⟩
      refine ⟨_, rfl, st, cl, 6, rfl, d1.ok.new hp, by decide, by decide, fun v H2 d2 v0 v1 => ?_⟩
      have hp2 : H2 p = some (.lst [.int (-1), .int (-2147483648), .int 2147483647, .int 46341, .int 65536, .int (-7)]) := by
        obtain ⟨c, z, th, S⟩ := d1.ok
        obtain ⟨h1, h2⟩ := S.away hp
        exact d2.but p _ h1 h2 upd_same
      have d3 := (d1.trans (Drawn.of_same (same_new (o := .lst [.int (-1), .int (-2147483648), .int 2147483647, .int 46341, .int 65536, .int (-7)]) hp) d1.ok)).trans d2
      rcases six v0 v1 with rfl | rfl | rfl | rfl | rfl | rfl
      · exact ⟨p, _, 0, .int (-1), rfl, rfl, sq_l hp2, atI_nat (j := 0) rfl, q (.inl (-1)) _ d3 (vok_int (by decide) (by decide))⟩
      · exact ⟨p, _, 1, .int (-2147483648), rfl, rfl, sq_l hp2, atI_nat (j := 1) rfl, q (.inl (-2147483648)) _ d3 (vok_int (by decide) (by decide))⟩
      · exact ⟨p, _, 2, .int 2147483647, rfl, rfl, sq_l hp2, atI_nat (j := 2) rfl, q (.inl 2147483647) _ d3 (vok_int (by decide) (by decide))⟩
      · exact ⟨p, _, 3, .int 46341, rfl, rfl, sq_l hp2, atI_nat (j := 3) rfl, q (.inl 46341) _ d3 (vok_int (by decide) (by decide))⟩
      · exact ⟨p, _, 4, .int 65536, rfl, rfl, sq_l hp2, atI_nat (j := 4) rfl, q (.inl 65536) _ d3 (vok_int (by decide) (by decide))⟩
      · exact ⟨p, _, 5, .int (-7), rfl, rfl, sq_l hp2, atI_nat (j := 5) rfl, q (.inl (-7)) _ d3 (vok_int (by decide) (by decide))⟩
    · rw [decide_eq_false fun z => h6 (by injection z)]
      refine iteF ⟨_, rfl, st, cl, 4000000000, rfl, d1.ok, by decide, by decide, fun v H2 d2 v0 v1 => ?_⟩
      exact ⟨_, _, rfl, rfl, q (.inl (v - 2000000000)) _ (d1.trans d2) (vok_int (by omega) (by omega))⟩
def spRow : Sp := fun vs H Q _ => ∃ (st cl : Addr), vs = [.ref st, .int 3] ∧ StOk H st cl ∧ ∀ p r H', Drawn st cl H H' → H p = none → RowAt H' p r → RowOk r → Q (.ref p) H'
theorem ok_row (F : FnP K "_law_row" s__law_row f fd) (gT : mg "tuple" = none) (gR : mg "range" = none) (C : DrawC P w K mg base) (CO : Cal P w K mg base "_law_one" 2 ["state"] spOne) : FnOk P w K mg base CX0 3 f fd ["state", "most"] spRow := by
  refine F.ok sc__law_row (fun vs H Q E h => ?_) (fun cdv A outer s H vs Q E hr h => ?_)
  · obtain ⟨n, r, rfl, _⟩ := h
    rfl
  · obtain ⟨st, cl, rfl, hS, q⟩ := h
    refine ⟨_, PSs.nox (pss_one (ps_ret (pe_callTy call_tuple_of (by rfl) gT (by decide +kernel) (pa_cons (pe_lc (own := [("k", 2)]) (g := gName 2) (tt := tYes) (by rfl) sc__law_row.nd
      (pi_range1 rfl gR (pa_cons (pe_cal C hr.lt (pa_cons (pv 0) (pa_cons (pe_op op_add (pv 1) pe_int) pa_nil))) pa_nil))
      (blkOk_by (own := [("k", 2)]) (N := ["state", "most", "k"]) (sc := defScope s__law_row) (by decide +kernel)) (fun _ _ _ _ _ => pg_name (i := 2) sc__law_row.nd rfl (Or.inl rfl)) (fun _ _ _ _ _ => pts_nil)
      (fun _ _ _ _ _ => pe_cal CO hr (pa_cons (pv 0) pa_nil))) pa_nil)))), ?_⟩
    refine ⟨_, rfl, _, rfl, _, _, rfl, rfl, st, cl, 4, rfl, hS, by decide, by decide, fun n H1 d1 n0 n1 => ?_⟩
    refine ⟨n, rfl, by omega, by omega, fun D hD => ?_⟩
    obtain ⟨c0, z0, th0, S0⟩ := d1.ok
    obtain ⟨Dst, Dcl⟩ := S0.away hD
    refine lc_go walk_range (List.range n.toNat) (by rw [List.length_range]) (fun _ => true) (fun _ v _ => ∃ x, v = kV x ∧ KeyOk x) (fun _ _ _ _ _ z => z) (fun H' => Drawn st cl H1 H') (Drawn.of_same (same_new hD) d1.ok) (fun _ _ => trivial) ?_ (by omega) ?_ ?_
    · intro H' acc d
      refine ⟨fun a o h1 h2 h3 => ?_, ?_, fun z => ?_⟩
      · rw [upd_ne (ne_of_none h3 hD)]
        exact d.but a o h1 h2 h3
      · obtain ⟨c, z, th, S⟩ := d.ok
        exact ⟨c, z, th, by rw [upd_ne Dst.symm]; exact S.hs, by rw [upd_ne Dcl.symm]; exact S.hc, S.lo, S.hi, S.len, S.nn⟩
      · rw [upd_ne Dcl.symm]
        exact d.nil z
    · rintro i x b H2 _ hi hb d2 ⟨acc, ha⟩ ⟨rfl, rfl⟩ Q' Qn k1 _
      refine ⟨rfl, yes_in ⟨_, rfl, st, cl, rfl, d2.ok, fun x H3 d3 hx => k1 rfl _ _ (d2.trans d3) ?_ (d3.tk d2.ok) ⟨x, rfl, hx⟩⟩⟩
      rw [ha]
      exact d3.but D _ Dst Dcl ha
    · intro H2 acc d2 ha he
      rw [filter_true] at he
      obtain ⟨r, rfl, hr1, hr2⟩ : ∃ r : Row, acc = r.map kV ∧ (∀ x ∈ r, KeyOk x) ∧ r.length = n.toNat := by
        have hl := he.length
        rw [List.length_range] at hl
        clear ha
        revert hl
        generalize n.toNat = m
        intro hl
        have : ∀ {vs : List V} {ns : List Nat}, EachIs (fun v (_ : Nat) => ∃ x, v = kV x ∧ KeyOk x) vs ns → ∃ r : Row, vs = r.map kV ∧ (∀ x ∈ r, KeyOk x) ∧ r.length = vs.length := by
          intro vs ns h
          induction h with
          | nil => exact ⟨[], rfl, fun x hx => (List.not_mem_nil hx).elim, rfl⟩
          | cons h t ih =>
            obtain ⟨x, rfl, hx⟩ := h
            obtain ⟨r, rfl, h1, h2⟩ := ih
            exact ⟨x :: r, rfl, fun y hy => (List.mem_cons.mp hy).elim (fun e => by rw [e]; exact hx) (h1 y), by simp⟩
        obtain ⟨r, e, h1, h2⟩ := this he
        exact ⟨r, e, h1, h2.trans hl⟩
      refine ⟨D, _, rfl, .inl ⟨sq_l ha, fun p hp => ?_⟩⟩
      have hp0 : H p = none := by
        cases e : H p with
        | none => rfl
        | some o =>
          exfalso
          obtain ⟨c, z, th, S⟩ := d2.ok
          have h1 : p ≠ st := fun e => by rw [e, S.hs] at hp; cases hp
          have h2 : p ≠ cl := fun e => by rw [e, S.hc] at hp; cases hp
          rw [(d1.trans d2).but p o h1 h2 e] at hp
          cases hp
      exact q p r _ ((d1.trans d2).trans (Drawn.of_same (same_new hp) d2.ok)) hp0 upd_same ⟨by omega, hr1⟩
end
end KA
set_option Elab.async false
set_option linter.all false
set_option maxRecDepth 100000
set_option maxHeartbeats 4000000
/-! _law_bag -/
namespace KA
open PySem PySem.Spec PyProof.Rows L2
open PySem.W (EachIs)
theorem tot_bd {n : Nat} {ps : Bag} (h : BdB n ps) (r : Row) : (tot ps r).natAbs ≤ ps.length * n := by
  induction ps with
  | nil => rw [tot_nil]; simp
  | cons e t ih =>
    have h1 := h e List.mem_cons_self
    have h2 := ih fun x hx => h x (List.mem_cons_of_mem _ hx)
    rw [tot_cons, List.length_cons, Nat.succ_mul]
    by_cases q : e.1 = r
    · rw [if_pos q]; omega
    · rw [if_neg q]; omega
theorem mk_rows {ps : Bag} {e : Row × Int} (h : e ∈ mk ps) : ∃ e' ∈ ps, e'.1 = e.1 := by
  obtain ⟨r, hr, rfl⟩ := List.mem_map.mp h
  obtain ⟨x, hx, e, _⟩ := nz_in (mem_sorted hr)
  obtain ⟨y, hy, z⟩ := tally_rows hx
  exact ⟨y, hy, z.trans e⟩
theorem mk_bd {n : Nat} {ps : Bag} (h : BdB n ps) : BdB (ps.length * n) (mk ps) := fun e he => by
  obtain ⟨r, hr, rfl⟩ := List.mem_map.mp he
  exact tot_bd h r
def RowsOk (b : Bag) : Prop := ∀ e ∈ b, RowOk e.1
theorem mk_rowsOk {ps : Bag} (h : RowsOk ps) : RowsOk (mk ps) := fun e he => by
  obtain ⟨e', h1, h2⟩ := mk_rows he
  rw [← h2]
  exact h e' h1
theorem RowsOk.rowB {b : Bag} (h : RowsOk b) : RowB 1000 b := fun e he => Nat.le_trans (h e he).1 (by decide)
theorem RowsOk.app {a b : Bag} (h1 : RowsOk a) (h2 : RowsOk b) : RowsOk (a ++ b) := fun e he => (List.mem_append.mp he).elim (h1 e) (h2 e)
structure GoodBag (b : Bag) : Prop where
  canon : Canon b
  len : b.length ≤ 12
  bd : BdB 12000000 b
  rows : RowsOk b
theorem good_mk {ps : Bag} (hl : ps.length ≤ 12) (hb : BdB 1000000 ps) (hr : RowsOk ps) : GoodBag (mk ps) :=
  ⟨mk_canon ps, Nat.le_trans (mk_len ps) hl, (mk_bd hb).mono (by omega), mk_rowsOk hr⟩
theorem Drawn.free {st cl : Addr} {H H' : Hp} (dr : Drawn st cl H H') {p : Addr} (hn : H' p = none) : H p = none := by
  cases e : H p with
  | none => rfl
  | some o =>
    exfalso
    obtain ⟨c, z, th, S⟩ := dr.ok
    have n1 : p ≠ st := fun e => by rw [e, S.hs] at hn; cases hn
    have n2 : p ≠ cl := fun e => by rw [e, S.hc] at hn; cases hn
    rw [dr.but p o n1 n2 e] at hn
    cases hn
section
variable {P : Program} {w : World} {K : PySem.W.Frag} {mg : Str → Option Value} {base : Heap} {f : Addr} {fd : FuncData}
abbrev RowC (P : Program) (w : World) (K : PySem.W.Frag) (mg : Str → Option Value) (base : Heap) : Prop := Cal P w K mg base "_law_row" 3 ["state", "most"] spRow
def spBag : Sp := fun vs H Q _ => ∃ (st cl : Addr) (m : Int), vs = [.ref st, .int m] ∧ 0 ≤ m ∧ m ≤ 12 ∧ StOk H st cl ∧ ∀ p b H', Drawn st cl H H' → BagAt H' p b → GoodBag b → H p = none → Q (.ref p) H'
theorem ok_bag (F : FnP K "_law_bag" s__law_bag f fd) (gR : mg "range" = none) (C : DrawC P w K mg base) (CR : RowC P w K mg base) (CC : Cal P w K mg base "_law_canon" 4 ["counts"] spCanon) : FnOk P w K mg base CX0 5 f fd ["state", "most"] spBag := by
  refine F.ok sc__law_bag (fun vs H Q E h => ?_) (fun cdv A outer s H vs Q E hr h => ?_)
  · obtain ⟨n, r, m, rfl, _⟩ := h
    rfl
  · obtain ⟨st, cl, m, rfl, m0, m1, hS, q⟩ := h
    refine ⟨_, PSs.nox (pss_cons (ps_set (i := 2) sc__law_bag.nd rfl (Or.inl rfl) pe_dnewT)
      (pss_cons (ps_for PassesOwn.never rfl (pi_range1 rfl gR (pa_cons (pe_cal C hr.lt (pa_cons (pv 0) (pa_cons (pe_op op_add (pv 1) pe_int) pa_nil))) pa_nil)) (pg_name (i := 3) sc__law_bag.nd rfl (Or.inl rfl))
        (pss_cons (ps_set (i := 4) sc__law_bag.nd rfl (Or.inl rfl) (pe_cal CR hr.lt (pa_cons (pv 0) (pa_cons pe_int pa_nil))))
        (pss_one (ps_dput hr.u1 (pv 2) (pv 4) (pe_op op_add (pe_dget2 hr.u1 (pv 2) (pv 4) pe_int ⟨rfl, rfl, rfl, rfl⟩)
          (pe_ix ix_list (pe_lst (pa_cons pe_int (pa_cons pe_int (pa_cons pe_int (pa_cons (pe_un un_neg pe_int) (pa_cons (pe_un un_neg pe_int) (pa_cons pe_int pa_nil))))))) (pe_cal C hr.lt (pa_cons (pv 0) (pa_cons pe_int pa_nil))) (fun _ _ => rfl))) rfl))))
      (pss_one (ps_ret (pe_cal CC hr (pa_cons (pv 2) pa_nil)))))), ?_⟩
    refine fun d hd => ?_
    obtain ⟨c0, z0, th0, S0⟩ := id hS
    obtain ⟨dst, dcl⟩ := S0.away hd
    refine ⟨_, rfl, _, rfl, _, _, rfl, rfl, st, cl, m + 1, rfl, hS.new hd, by omega, by omega, fun n H1 d1 n0 n1 => ?_⟩
    have upd_d : ∀ (H' : Hp) (o : HO), Drawn st cl H H' → Drawn st cl H (upd H' d o) := fun H' o D => by
      refine ⟨fun a x h1 h2 h3 => ?_, ?_, fun z => ?_⟩
      · rw [upd_ne (ne_of_none h3 hd)]
        exact D.but a x h1 h2 h3
      · obtain ⟨c, z, th, S⟩ := D.ok
        exact ⟨c, z, th, by rw [upd_ne dst.symm]; exact S.hs, by rw [upd_ne dcl.symm]; exact S.hc, S.lo, S.hi, S.len, S.nn⟩
      · rw [upd_ne dcl.symm]
        exact D.nil z
    refine ⟨n, rfl, by omega, by omega, ?_⟩
    refine for_it walk_range (fun i σ H' => (∃ k r, σ = [some (.ref st), some (.int m), some (.ref d), k, r]) ∧ Drawn st cl H H' ∧ ∃ ps, H' d = some (.dT (vk (tally ps))) ∧ ps.length ≤ i ∧ BdB 1000000 ps ∧ RowsOk ps)
      ⟨⟨_, _, rfl⟩, (Drawn.of_same (same_new hd) hS).trans d1, [], d1.but d _ dst dcl upd_same, Nat.le_refl _, (fun e he => (List.not_mem_nil he).elim), fun e he => (List.not_mem_nil he).elim⟩ (fun _ _ _ _ _ => trivial) ?_ ?_
    · rintro i x σ H2 _ hi ⟨⟨k, r, rfl⟩, D2, ps, hp, pl, pb, pr⟩ ⟨rfl, rfl⟩
      refine ⟨_, rfl, st, cl, rfl, D2.ok, fun t r H3 d3 ht hrow rok => ?_⟩
      have hp3 : H3 d = some (.dT (vk (tally ps))) := d3.but d _ dst dcl hp
      refine ⟨_, rfl, d, rfl, .inr ⟨_, .inl hp3⟩, _, rfl, _, DGet.t hp3 hrow, ?_⟩
      refine ⟨_, rfl, _, rfl, (by show 6 ≤ sizeLine; decide), fun p hpn => ?_⟩
      refine ⟨_, rfl, st, cl, 6, rfl, d3.ok.new hpn, by decide, by decide, fun v H4 d4 v0 v1 => ?_⟩
      have hpL : H4 p = some (.lst [.int 1, .int 1, .int 2, .int (-1), .int (-3), .int 1000000]) := by
        obtain ⟨c, z, th, S⟩ := d3.ok
        obtain ⟨h1, h2⟩ := S.away hpn
        exact d4.but p _ h1 h2 upd_same
      have s3 : Same H3 (upd H3 p (.lst [.int 1, .int 1, .int 2, .int (-1), .int (-3), .int 1000000])) := same_new hpn
      have D4 : Drawn st cl H H4 := ((D2.trans d3).trans (Drawn.of_same s3 d3.ok)).trans d4
      have hp4 : H4 d = some (.dT (vk (tally ps))) := d4.but d _ dst dcl (s3 _ _ hp3)
      have hrow4 : RowAt H4 t r := RowAt.tk (d4.tk (d3.ok.same s3)) (hrow.mono s3)
      have hlt : (vk (tally ps)).length < sizeLine := by
        rw [List.length_map]
        have := tally_len ps
        exact Nat.lt_of_lt_of_le (show _ < 2000 by omega) (by decide)
      obtain ⟨c, hc, hcb⟩ : ∃ c : Int, atI [V.int 1, .int 1, .int 2, .int (-1), .int (-3), .int 1000000] v = some (.int c) ∧ c.natAbs ≤ 1000000 := by
        rcases six v0 v1 with rfl | rfl | rfl | rfl | rfl | rfl
        · exact ⟨1, atI_nat (j := 0) rfl, by decide⟩
        · exact ⟨1, atI_nat (j := 1) rfl, by decide⟩
        · exact ⟨2, atI_nat (j := 2) rfl, by decide⟩
        · exact ⟨-1, atI_nat (j := 3) rfl, by decide⟩
        · exact ⟨-3, atI_nat (j := 4) rfl, by decide⟩
        · exact ⟨1000000, atI_nat (j := 5) rfl, by decide⟩
      refine ⟨p, _, v, .int c, rfl, rfl, sq_l hpL, hc, _, _, vk_getD _ _, rfl, ?_⟩
      refine ⟨_, rfl, _, rfl, d, _, rfl, DPut.t hp4 hrow4 hlt, ⟨_, _, rfl⟩, upd_d _ _ D4, ps ++ [(r, c)], ?_, by rw [List.length_append]; simp; omega, pb.app fun e he => ?_, pr.app fun e he => ?_⟩
      · rw [upd_same, vk_put, tally_snoc]
      · rw [List.mem_singleton.mp he]; exact hcb
      · rw [List.mem_singleton.mp he]; exact rok
    · rintro σ H2 ⟨⟨k, r, rfl⟩, D2, ps, hp, pl, pb, pr⟩
      refine ⟨_, rfl, d, ps, rfl, hp, by omega, pr.rowB, fun p H3 s3 hb hnew => ?_⟩
      exact q p _ _ (D2.trans (Drawn.of_same s3 D2.ok)) hb (good_mk (by omega) pb pr) (D2.free hnew)
end
section
variable {g : TG} {te : TE} {vs : List Nat} {σ : L2.St} {H1 : Hp} {D st cl : Addr} {Qd : Hp → Prop} {β : Type} {lo : Int} {n : Nat}
/-- a comprehension over a range whose turns draw -/
theorem lc_draw {j : Nat} (hok : StOk H1 st cl) (hD : H1 D = none) (hz : n ≤ 100000) (R : Hp → V → β → Prop) (hR : ∀ H H' v b, TupKeep H H' → R H v b → R H' v b) (hw : ∀ x, wipe ((wipe σ vs).set j (some x)) vs = wipe σ vs)
    (turn : ∀ i H, i < n → Drawn st cl H1 H → ∀ Q : VK, (∀ v b H', Drawn st cl H H' → R H' v b → Q v H') → te ((wipe σ vs).set j (some (.int (lo + i)))) H Q)
    (done : ∀ H acc bs, Drawn st cl H1 H → H D = some (.lst acc) → EachIs (R H) acc bs → bs.length = n → Qd H) :
    ∃ W : Nat → Nat → Hp → Prop, (∃ m, W 0 m (upd H1 D (.lst []))) ∧ ∀ i m H, W i m H →
      ((Itr lo n).stop i H ∧ Qd H) ∨ ((Itr lo n).go i H ∧ ∃ Nx : Hp → Prop, (∀ H', Nx H' → ∃ m', m' < m ∧ W (i + 1) m' H') ∧ ∀ x H', (Itr lo n).yld i H x H' → gName j x (wipe σ vs) H' fun σ2 H2 => wipe σ2 vs = wipe σ vs ∧ tYes σ2 H2 fun b H3 =>
        if b = true then te σ2 H3 fun y H4 => ∃ acc, H4 D = some (.lst acc) ∧ acc.length < sizeLine ∧ Nx (upd H4 D (.lst (acc ++ [y]))) else Nx H3) := by
  have Dne : D ≠ st ∧ D ≠ cl := by
    obtain ⟨c, z, th, S⟩ := hok
    exact S.away hD
  have updD : ∀ {H : Hp} {acc : List V}, Drawn st cl H1 H → Drawn st cl H1 (upd H D (.lst acc)) := fun {H acc} d => by
    refine ⟨fun a o h1 h2 h3 => ?_, ?_, fun z => ?_⟩
    · rw [upd_ne (ne_of_none h3 hD)]
      exact d.but a o h1 h2 h3
    · obtain ⟨c, z, th, S⟩ := d.ok
      exact ⟨c, z, th, by rw [upd_ne Dne.1.symm]; exact S.hs, by rw [upd_ne Dne.2.symm]; exact S.hc, S.lo, S.hi, S.len, S.nn⟩
    · rw [upd_ne Dne.2.symm]
      exact d.nil z
  refine lc_it walk_range (fun i H => Drawn st cl H1 H ∧ ∃ acc bs, H D = some (.lst acc) ∧ EachIs (R H) acc bs ∧ bs.length = i) ⟨updD (Drawn.refl hok), [], [], upd_same, .nil, rfl⟩ (fun _ _ _ _ => trivial) ?_ ?_
  · rintro i x H _ hi ⟨d, acc, bs, ha, he, hl⟩ ⟨rfl, rfl⟩
    refine ⟨hw _, yes_in (turn i _ hi d _ fun v b H' d' r => ?_)⟩
    have hd : H' D = some (.lst acc) := d'.but D _ Dne.1 Dne.2 ha
    have k2 : TupKeep H' (upd H' D (.lst (acc ++ [v]))) := tk_lst hd
    have hlen := he.length
    refine ⟨acc, hd, by rw [sizeLine_eq]; omega, updD (d.trans d'), acc ++ [v], bs ++ [b], upd_same, each_snoc1 (hR _ _ _ _ k2 r) (he.mono fun v b z => hR _ _ _ _ ((d'.tk d.ok).trans k2) z), by rw [List.length_append, hl]; rfl⟩
  · rintro H ⟨d, acc, bs, ha, he, hl⟩
    exact done H acc bs d ha he hl
end
end KA
set_option Elab.async false
set_option linter.all false
set_option maxRecDepth 100000
set_option maxHeartbeats 4000000
/-! _law_change -/
namespace KA
open PySem PySem.Spec PyProof.Rows L2
open PySem.W (EachIs)
theorem BagAt.off {H : Hp} {p D : Addr} {b : Bag} {ys : List V} {o : HO} (hD : H D = some (.lst ys)) (h : BagAt H p b) (ne : p ≠ D) : BagAt (upd H D o) p b := by
  obtain ⟨ts, h1, h2⟩ := h
  exact ⟨ts, by rw [upd_ne ne]; exact h1, h2.mono fun t e z => z.tk (tk_lst hD)⟩
theorem ChgAt.drawn {st cl : Addr} {H H' : Hp} (d : Drawn st cl H H') (h : StOk H st cl) {p : Addr} {c : Chg} (q : ChgAt H p c) : ChgAt H' p c := by
  obtain ⟨ts, h1, h2⟩ := q
  exact ⟨ts, d.refs h h1, h2.mono fun _ _ ⟨l, z1, z2⟩ => ⟨l, (d.tk h).at z1, z2.drawn d h⟩⟩
/-- a list written before a draw -/
theorem Drawn.lst {st cl p : Addr} {H H' : Hp} {xs : List V} (h : StOk H st cl) (hp : H p = none) (d : Drawn st cl (upd H p (.lst xs)) H') : Drawn st cl H H' ∧ H' p = some (.lst xs) := by
  refine ⟨(Drawn.of_same (same_new hp) h).trans d, ?_⟩
  obtain ⟨c, z, th, S⟩ := h
  obtain ⟨h1, h2⟩ := S.away hp
  exact d.but p _ h1 h2 upd_same
theorem Drawn.mut {st cl D : Addr} {H1 H : Hp} {o : HO} (hok : StOk H1 st cl) (hD : H1 D = none) (d : Drawn st cl H1 H) : Drawn st cl H1 (upd H D o) := by
  have Dne : D ≠ st ∧ D ≠ cl := by
    obtain ⟨c, z, th, S⟩ := hok
    exact S.away hD
  refine ⟨fun a o h1 h2 h3 => ?_, ?_, fun z => ?_⟩
  · rw [upd_ne (ne_of_none h3 hD)]
    exact d.but a o h1 h2 h3
  · obtain ⟨c, z, th, S⟩ := d.ok
    exact ⟨c, z, th, by rw [upd_ne Dne.1.symm]; exact S.hs, by rw [upd_ne Dne.2.symm]; exact S.hc, S.lo, S.hi, S.len, S.nn⟩
  · rw [upd_ne Dne.2.symm]
    exact d.nil z
theorem signs_of {L : List Nat} : ∀ {acc : List V} {bs : List Nat}, EachIs (fun v (c : Nat) => v = V.str ⟨#[c]⟩ ∧ c ∈ L) acc bs → acc = (bs.map fun c => (⟨#[c]⟩ : Str)).map V.str ∧ ∀ c ∈ bs, c ∈ L
  | _, _, .nil => ⟨rfl, fun c hc => by cases hc⟩
  | _, _, .cons ⟨h, h'⟩ t => by
    obtain ⟨e, e2⟩ := signs_of t
    refine ⟨by rw [h, e]; rfl, fun c hc => ?_⟩
    rcases List.mem_cons.mp hc with z | z
    · rw [z]; exact h'
    · exact e2 c z
theorem signs_sum (bs : List Nat) : ((bs.map fun c => (⟨#[c]⟩ : Str)).map (·.length)).sum = bs.length := by
  induction bs with
  | nil => rfl
  | cons c t ih =>
    rw [List.map_cons, List.map_cons, List.sum_cons, ih, List.length_cons]
    show 1 + t.length = _
    omega
theorem signs_join (bs : List Nat) : (Txt.join (Str.ofString "") (bs.map fun c => (⟨#[c]⟩ : Str))).cps.toList = bs := by
  have e0 : (Str.ofString "").cps.toList = [] := by decide +kernel
  rw [join_cps, e0, joined_nil, List.map_map]
  induction bs with
  | nil => rfl
  | cons c t ih =>
    rw [List.map_cons, List.flatten_cons, ih]
    rfl
theorem each_all {α β : Type} {A : α → β → Prop} {B : β → Prop} : ∀ {vs : List α} {es : List β}, EachIs (fun v e => A v e ∧ B e) vs es → ∀ n ∈ es, B n
  | _, _, .nil, n, hn => by cases hn
  | _, _, .cons h t, n, hn => by
    rcases List.mem_cons.mp hn with z | z
    · rw [z]; exact h.2
    · exact each_all t n z
def tMid (t u : TS) : TS := fun D σ H => ∃ Po : L2.St → Hp → Prop, t { D with nx := Po } σ H ∧ ∀ σ' H', Po σ' H' → u D σ' H'
/-- a statement with what holds behind it -/
theorem pss_mid {X : Cx} {st : Stmt} {rest : List Stmt} {t u : TS} (h1 : PS X st t) (h2 : PSs X rest u) : PSs X (st :: rest) (tMid t u) := by
  refine ⟨fun pins s σ H D I h => ?_⟩
  obtain ⟨Po, ht, hu⟩ := h
  refine wpAny_execs_cons (thn (h1.run pins s σ H { D with nx := Po } I ht) fun f s1 q => ?_)
  cases f with
  | next =>
    obtain ⟨σ', H', I', q⟩ := q
    exact h2.run pins s1 σ' H' D I' (hu _ _ q)
  | ret v => exact q
  | brk => exact q
  | cont => exact q
def WCh (c : Chg) : Prop := c.length ≤ 4 ∧ ∀ n ∈ c, okName n.1.cps.toList ∧ GoodBag n.2
/-- a named bag whose bag is not the list D -/
def NOff (H0 : Hp) (D : Addr) (H : Hp) (v : V) (e : Str × Bag) : Prop := ∃ t p, v = .ref t ∧ (p ≠ D ∧ H0 p = none) ∧ H t = some (.tup [.str e.1, .ref p]) ∧ BagAt H p e.2
/-- a named bag whose bag is new since H0; a change of such -/
def NamedF (H0 H : Hp) (t : Addr) (e : Str × Bag) : Prop := ∃ l, H t = some (.tup [.str e.1, .ref l]) ∧ H0 l = none ∧ BagAt H l e.2
def ChgF (H0 H : Hp) (p : Addr) (c : Chg) : Prop := ∃ ts : List Addr, H p = some (.lst (ts.map V.ref)) ∧ EachIs (NamedF H0 H) ts c
theorem ChgF.at {H0 H : Hp} {p : Addr} {c : Chg} (h : ChgF H0 H p c) : ChgAt H p c := by
  obtain ⟨ts, h1, h2⟩ := h
  exact ⟨ts, h1, h2.mono fun _ _ ⟨l, z1, _, z2⟩ => ⟨l, z1, z2⟩⟩
theorem NOff.drawn {H0 : Hp} {D st cl : Addr} {H H' : Hp} (h : StOk H st cl) (d : Drawn st cl H H') {v : V} {e : Str × Bag} (q : NOff H0 D H v e) : NOff H0 D H' v e := by
  obtain ⟨t, p, rfl, h1, h2, h3⟩ := q
  exact ⟨t, p, rfl, h1, (d.tk h).at h2, h3.drawn d h⟩
theorem NOff.off {H0 : Hp} {D : Addr} {H : Hp} {v : V} {e : Str × Bag} {xs : List V} {o : HO} (hD : H D = some (.lst xs)) (q : NOff H0 D H v e) : NOff H0 D (upd H D o) v e := by
  obtain ⟨t, p, rfl, h1, h2, h3⟩ := q
  exact ⟨t, p, rfl, h1, (tk_lst hD).at h2, h3.off hD h1.1⟩
theorem NOff.same {H0 : Hp} {D : Addr} {H H' : Hp} (s : Same H H') {v : V} {e : Str × Bag} (q : NOff H0 D H v e) : NOff H0 D H' v e := by
  obtain ⟨t, p, rfl, h1, h2, h3⟩ := q
  exact ⟨t, p, rfl, h1, s _ _ h2, h3.mono s⟩
theorem NOff.chg {H0 : Hp} {D : Addr} {H : Hp} : ∀ {vs : List V} {c : Chg}, EachIs (NOff H0 D H) vs c → ∃ ts : List Addr, vs = ts.map V.ref ∧ EachIs (NamedF H0 H) ts c
  | _, _, .nil => ⟨[], rfl, .nil⟩
  | _, _, .cons ⟨t, p, e, h1, h2, h3⟩ r => by
    obtain ⟨ts, rfl, q⟩ := NOff.chg r
    exact ⟨t :: ts, by rw [e]; rfl, .cons ⟨p, h2, h1.2, h3⟩ q⟩
section
variable {te : TE} {vs : List Nat} {σ : L2.St} {H1 : Hp} {D st cl : Addr} {Qd : Hp → Prop} {β : Type} {lo : Int} {n : Nat}
/-- as lc_draw, of things that are not tuples alone -/
theorem lc_draw2 {j : Nat} (hok : StOk H1 st cl) (hD : H1 D = none) (hz : n ≤ 100000) (R : Hp → V → β → Prop) (hR1 : ∀ H H' v b, StOk H st cl → Drawn st cl H H' → R H v b → R H' v b) (hR2 : ∀ H v b xs o, H D = some (.lst xs) → R H v b → R (upd H D o) v b) (hw : ∀ x, wipe ((wipe σ vs).set j (some x)) vs = wipe σ vs)
    (turn : ∀ i H acc, i < n → Drawn st cl H1 H → H D = some (.lst acc) → ∀ Q : VK, (∀ v b H', Drawn st cl H H' → R H' v b → Q v H') → te ((wipe σ vs).set j (some (.int (lo + i)))) H Q)
    (done : ∀ H acc bs, Drawn st cl H1 H → H D = some (.lst acc) → EachIs (R H) acc bs → bs.length = n → Qd H) :
    ∃ W : Nat → Nat → Hp → Prop, (∃ m, W 0 m (upd H1 D (.lst []))) ∧ ∀ i m H, W i m H →
      ((Itr lo n).stop i H ∧ Qd H) ∨ ((Itr lo n).go i H ∧ ∃ Nx : Hp → Prop, (∀ H', Nx H' → ∃ m', m' < m ∧ W (i + 1) m' H') ∧ ∀ x H', (Itr lo n).yld i H x H' → gName j x (wipe σ vs) H' fun σ2 H2 => wipe σ2 vs = wipe σ vs ∧ tYes σ2 H2 fun b H3 =>
        if b = true then te σ2 H3 fun y H4 => ∃ acc, H4 D = some (.lst acc) ∧ acc.length < sizeLine ∧ Nx (upd H4 D (.lst (acc ++ [y]))) else Nx H3) := by
  have Dne : D ≠ st ∧ D ≠ cl := by
    obtain ⟨c, z, th, S⟩ := hok
    exact S.away hD
  refine lc_it walk_range (fun i H => Drawn st cl H1 H ∧ ∃ acc bs, H D = some (.lst acc) ∧ EachIs (R H) acc bs ∧ bs.length = i) ⟨(Drawn.refl hok).mut hok hD, [], [], upd_same, .nil, rfl⟩ (fun _ _ _ _ => trivial) ?_ ?_
  · rintro i x H _ hi ⟨d, acc, bs, ha, he, hl⟩ ⟨rfl, rfl⟩
    refine ⟨hw _, yes_in (turn i _ acc hi d ha _ fun v b H' d' r => ?_)⟩
    have hd : H' D = some (.lst acc) := d'.but D _ Dne.1 Dne.2 ha
    have hlen := he.length
    refine ⟨acc, hd, by rw [sizeLine_eq]; omega, (d.trans d').mut hok hD, acc ++ [v], bs ++ [b], upd_same, each_snoc1 (hR2 _ _ _ _ _ hd r) (he.mono fun v b z => hR2 _ _ _ _ _ hd (hR1 _ _ _ _ d.ok d' z)), by rw [List.length_append, hl]; rfl⟩
  · rintro H ⟨d, acc, bs, ha, he, hl⟩
    exact done H acc bs d ha he hl
end
theorem lch_ok : ∀ c ∈ LCH.cps.toList.filter (fun c => decide (c ≠ 34)), printable c = true ∧ c ≠ 34 := by decide +kernel
theorem lch_flen : (LCH.cps.toList.filter (fun c => decide (c ≠ 34))).length = 94 := by decide +kernel
theorem three {v : Int} (h0 : 0 ≤ v) (h1 : v < 3) : v = 0 ∨ v = 1 ∨ v = 2 := by omega
theorem ok_b : okName (Str.ofString "b").cps.toList := ⟨by decide +kernel, by decide +kernel, by decide +kernel⟩
theorem ok_c : okName (Str.ofString "c").cps.toList := ⟨by decide +kernel, by decide +kernel, by decide +kernel⟩
theorem text_good {z : Str} (h : VOk (.inr z)) : GoodBag [([.inr z], 1)] :=
  ⟨⟨List.pairwise_singleton _ _, fun e he => by rw [List.mem_singleton.mp he]; show (1 : Int) ≠ 0; decide⟩, (by show 1 ≤ 12; decide), fun e he => by rw [List.mem_singleton.mp he]; show (1 : Nat) ≤ 12000000; decide, fun e he => by
    rw [List.mem_singleton.mp he]
    exact ⟨(by show 1 ≤ 3; decide), fun x hx => by rw [List.mem_singleton.mp hx]; exact h⟩⟩
section
variable {P : Program} {w : World} {K : PySem.W.Frag} {mg : Str → Option Value} {base : Heap} {f : Addr} {fd : FuncData}
def spLChange : Sp := fun vs H Q _ => ∃ (st cl : Addr), vs = [.ref st] ∧ StOk H st cl ∧ ∀ p c H', Drawn st cl H H' → ChgF H H' p c → WCh c → H p = none → Q (.ref p) H'
theorem ok_lchange (F : FnP K "_law_change" s__law_change f fd) (gL : mg "len" = none) (gR : mg "range" = none) (C : DrawC P w K mg base) (CB : Cal P w K mg base "_law_bag" 5 ["state", "most"] spBag) (CCh : Cal P w K mg base "_law_chars" 1 [] spChars) : FnOk P w K mg base CX0 6 f fd ["state"] spLChange := by
  obtain ⟨f0, d0, m0, kp0, b0, G0⟩ := CCh
  refine F.ok sc__law_change (fun vs H Q E h => ?_) (fun cdv A outer s H vs Q E hr h => ?_)
  · obtain ⟨st, cl, rfl, _⟩ := h
    rfl
  · obtain ⟨st, cl, rfl, hS, q⟩ := h
    have nd := sc__law_change.nd
    have hr1 : Room 1 _ := hr.mono (show 1 ≤ 5 by decide)
    refine ⟨_, PSs.nox (pss_cons (ps_set (i := 1) nd rfl (Or.inr rfl) (pe_lst (pa_cons pe_str (pa_cons pe_str (pa_cons pe_str pa_nil)))))
      (pss_cons (ps_setLc (i := 2) (own := [("k", 3)]) (g := gName 3) (tt := tYes) (te := tTup (tCons (tOp (rIxL K) (tVar 1) (tCall spDraw [] E0 (tCons (tVar 0) (tCons (tC (.int 3)) tNil)))) (tCons (tCall spBag [] E0 (tCons (tVar 0) (tCons (tC (.int 2)) tNil))) tNil))) (by rfl) nd rfl rfl (sw_true rfl rfl rfl (by decide +kernel)) (pi_range1 rfl gR (pa_cons (pe_cal C hr.lt (pa_cons (pv 0) (pa_cons pe_int pa_nil))) pa_nil))
        (blkOk_by (own := [("k", 3)]) (N := ["state", "names", "change", "k", "chars", "char", "text"]) (sc := defScope s__law_change) (by decide +kernel)) (fun _ _ _ _ _ => pg_name (i := 3) nd rfl (Or.inl rfl)) (fun _ _ _ _ _ => pts_nil)
        (fun _ _ _ _ _ => pe_tup (pa_cons (pe_ix ix_list (pv 1) (pe_cal C hr.lt (pa_cons (pv 0) (pa_cons pe_int pa_nil))) (fun _ _ => rfl)) (pa_cons (pe_cal CB hr (pa_cons (pv 0) (pa_cons pe_int pa_nil))) pa_nil))))
      (pss_mid (ps_if (pt_cmpR op_eq (pe_cal C hr.lt (pa_cons (pv 0) (pa_cons pe_int pa_nil))) pe_int (nomark _))
        (pss_one (ps_expr (pe_bm PySem.F.plainAttrs_list PySem.F.slot_list_append PySem.F.type_list_append mt_append (pv 2) (pa_cons (pe_tup (pa_cons pe_str (pa_cons (pe_cal CB hr (pa_cons (pv 0) (pa_cons pe_int pa_nil))) pa_nil))) pa_nil)))) pss_nil)
      (pss_mid (ps_if (pt_cmpR op_eq (pe_cal C hr.lt (pa_cons (pv 0) (pa_cons pe_int pa_nil))) pe_int (nomark _))
        (pss_cons (ps_asg (pe_lc (own := [("char", 5)]) (g := gName 5) (by rfl) nd (pi_str (pe_call0 G0 hr1 (by rfl) m0 kp0 b0 .nil pass0)) (blkOk_by (own := [("char", 5)]) (N := ["state", "names", "change", "k", "chars", "char", "text"]) (sc := defScope s__law_change) (by decide +kernel)) (fun _ _ _ _ _ => pg_name (i := 5) nd rfl (Or.inl rfl)) (fun _ _ _ _ _ => pts_one (pt_cmpR op_ne (pv 5) pe_str (nomark _))) (fun _ _ _ _ _ => pv 5)) (pg_name (i := 4) nd rfl (Or.inr rfl)))
        (pss_cons (ps_set (i := 6) nd rfl (Or.inl rfl) (pe_join pe_str (pe_lc (own := [("k", 3)]) (g := gName 3) (tt := tYes) (te := tOp (rIxL K) (tVar 4) (tCall spDraw [] E0 (tCons (tVar 0) (tCons (tCB (fun xs H Q => ∃ p ys, xs = [V.ref p] ∧ (SqL K H p ys ∨ SqT K H p ys) ∧ Q (.int ys.length) H) (tCons (tVar 4) tNil)) tNil)))) (by rfl) nd (pi_range1 rfl gR (pa_cons (pe_cal C hr.lt (pa_cons (pv 0) (pa_cons pe_int pa_nil))) pa_nil))
          (blkOk_by (own := [("k", 3)]) (N := ["state", "names", "change", "k", "chars", "char", "text"]) (sc := defScope s__law_change) (by decide +kernel)) (fun _ _ _ _ _ => pg_name (i := 3) nd rfl (Or.inl rfl)) (fun _ _ _ _ _ => pts_nil)
          (fun _ _ _ _ _ => pe_ix ix_list (pv 4) (pe_cal C hr.lt (pa_cons (pv 0) (pa_cons (pe_callB call_len_seq (by rfl) gL PySem.boot_len (pa_cons (pv 4) pa_nil)) pa_nil))) (fun _ _ => rfl)))))
        (pss_one (ps_expr (pe_bm PySem.F.plainAttrs_list PySem.F.slot_list_append PySem.F.type_list_append mt_append (pv 2) (pa_cons (pe_tup (pa_cons pe_str (pa_cons (pe_lst (pa_cons (pe_tup (pa_cons (pe_tup (pa_cons (pv 6) pa_nil)) (pa_cons pe_int pa_nil))) pa_nil)) pa_nil))) pa_nil)))))) pss_nil)
      (pss_one (ps_ret (pv 2))))))), ?_⟩
    refine ⟨(by show 3 ≤ sizeLine; decide), fun ln hln => ?_⟩
    have d0 : Drawn st cl H (upd H ln (.lst [.str "a", .str "b", .str "weft"])) := Drawn.of_same (same_new hln) hS
    refine ⟨_, rfl, st, cl, 3, rfl, d0.ok, by decide, by decide, fun n H1 d1 n0 n1 => ⟨n, rfl, by omega, by omega, fun D hD => ?_⟩⟩
    have D1 := d0.trans d1
    obtain ⟨lst, lcl⟩ : ln ≠ st ∧ ln ≠ cl := by
      obtain ⟨c, z, th, S⟩ := hS
      exact S.away hln
    obtain ⟨Dst, Dcl⟩ : D ≠ st ∧ D ≠ cl := by
      obtain ⟨c, z, th, S⟩ := d1.ok
      exact S.away hD
    have hln1 : H1 ln = some (.lst [.str "a", .str "b", .str "weft"]) := d1.but ln _ lst lcl upd_same
    have nD : ln ≠ D := fun z => by rw [z, hD] at hln1; cases hln1
    have names : ∀ v : Int, 0 ≤ v → v < 3 → ∃ nm : Str, atI [V.str "a", .str "b", .str "weft"] v = some (.str nm) ∧ okName nm.cps.toList := fun v v0 v1 => by
      rcases three v0 v1 with rfl | rfl | rfl
      · exact ⟨"a", atI_nat (j := 0) rfl, by decide +kernel, by decide +kernel, by decide +kernel⟩
      · exact ⟨"b", atI_nat (j := 1) rfl, by decide +kernel, by decide +kernel, by decide +kernel⟩
      · exact ⟨"weft", atI_nat (j := 2) rfl, by decide +kernel, by decide +kernel, by decide +kernel⟩
    refine lc_draw2 (st := st) (cl := cl) (j := 3) d1.ok hD (by omega) (fun G v e => NOff H D G v e ∧ okName e.1.cps.toList ∧ GoodBag e.2) (fun _ _ _ _ ok d z => ⟨z.1.drawn ok d, z.2⟩) (fun _ _ _ _ _ hx z => ⟨z.1.off hx, z.2⟩) (fun _ => rfl) ?_ ?_
    · intro i G acc hi d2 hG Q2 k
      have hln2 := d2.but ln _ lst lcl hln1
      refine ⟨_, rfl, _, rfl, st, cl, 3, rfl, d2.ok, by decide, by decide, fun v G3 d3 v0 v1 => ?_⟩
      have hln3 := d3.but ln _ lst lcl hln2
      obtain ⟨nm, hat, hok⟩ := names v v0 v1
      refine ⟨ln, _, v, .str nm, rfl, rfl, sq_l hln3, hat, _, rfl, st, cl, 2, rfl, by decide, by decide, d3.ok, fun p b G4 d4 hb gb hn => ⟨(by show 2 ≤ sizeLine; decide), fun t ht => ?_⟩⟩
      have hG3 := d3.but D _ Dst Dcl hG
      have npD : p ≠ D ∧ H p = none := ⟨(fun z => by rw [z, hG3] at hn; cases hn), ((D1.trans d2).trans d3).free hn⟩
      have sT := same_new (o := HO.tup [.str nm, .ref p]) ht
      exact k _ (nm, b) _ ((d3.trans d4).trans (Drawn.of_same sT d4.ok)) ⟨⟨t, p, rfl, npD, upd_same, hb.mono sT⟩, hok, gb⟩
    intro H2 acc cs d2 ha he hl
    have D2 := D1.trans d2
    have hDH : H D = none := D1.free hD
    let Po : Nat → L2.St → Hp → Prop := fun m σ G => (∃ v3 v4 v5 v6, σ = [some (.ref st), some (.ref ln), some (.ref D), v3, v4, v5, v6]) ∧ Drawn st cl H G ∧ ∃ vs es, G D = some (.lst vs) ∧ EachIs (fun v e => NOff H D G v e ∧ okName e.1.cps.toList ∧ GoodBag e.2) vs es ∧ es.length ≤ m
    refine ⟨Po 3, ?_, ?_⟩
    · refine ⟨_, rfl, st, cl, 5, rfl, D2.ok, by decide, by decide, fun v G1 e1 v0 v1 => ⟨rfl, _, rfl, ?_⟩⟩
      have ha1 := e1.but D _ Dst Dcl ha
      have he1 := he.mono fun y z k => (⟨k.1.drawn D2.ok e1, k.2⟩ : NOff H D G1 y z ∧ okName z.1.cps.toList ∧ GoodBag z.2)
      by_cases hv : v = 0
      · refine (if_pos (by rw [hv]; exact decide_eq_true rfl)).mpr ?_
        refine ⟨_, rfl, .inl ⟨rfl, _, sq_l ha1⟩, _, rfl, st, cl, 12, rfl, by decide, by decide, e1.ok, fun p b G2 e2 hb gb hn => ⟨(by show 2 ≤ sizeLine; decide), fun t ht => ?_⟩⟩
        have ha2 := e2.but D _ Dst Dcl ha1
        have npD : p ≠ D ∧ H p = none := ⟨(fun z => by rw [z, ha1] at hn; cases hn), (D2.trans e1).free hn⟩
        have sT := same_new (o := HO.tup [.str "b", .ref p]) ht
        have hal := he.length
        refine ⟨D, _, _, rfl, rfl, sT _ _ ha2, by rw [sizeLine_eq]; omega, ?_⟩
        refine ⟨⟨_, _, _, _, rfl⟩, (((D2.trans e1).trans e2).trans (Drawn.of_same sT e2.ok)).mut hS hDH, acc ++ [.ref t], cs ++ [(("b" : Str), b)], upd_same, ?_, by rw [List.length_append]; simp; omega⟩
        refine each_snoc1 ⟨NOff.off (sT _ _ ha2) ⟨t, p, rfl, npD, upd_same, hb.mono sT⟩, ok_b, gb⟩ (he1.mono fun y z k => ⟨NOff.off (sT _ _ ha2) ((k.1.drawn e1.ok e2).same sT), k.2⟩)
      · refine (if_neg (fun z => hv (by have := of_decide_eq_true z; injection this))).mpr ?_
        exact ⟨⟨_, _, _, _, rfl⟩, D2.trans e1, acc, cs, ha1, he1, by omega⟩
    rintro σ G ⟨⟨v3, v4, v5, v6, rfl⟩, DG, vs, es, hG, hes, hel⟩
    refine ⟨Po 4, ?_, ?_⟩
    · refine ⟨_, rfl, st, cl, 3, rfl, DG.ok, by decide, by decide, fun v G1 e1 v0 v1 => ⟨rfl, _, rfl, ?_⟩⟩
      have hG1 := e1.but D _ Dst Dcl hG
      have hes1 := hes.mono fun y z k => (⟨k.1.drawn DG.ok e1, k.2⟩ : NOff H D G1 y z ∧ okName z.1.cps.toList ∧ GoodBag z.2)
      by_cases hv : v = 0
      · refine (if_pos (by rw [hv]; exact decide_eq_true rfl)).mpr ?_
        refine ⟨rfl, LCH, rfl, fun D4 hD4 => ?_⟩
        have eq34 : (Str.ofString "\"") = ⟨#[34]⟩ := by decide +kernel
        have lch95 := lch_len
        refine lc_same (walk_str (z := LCH)) LCH.cps.toList (by rw [Array.length_toList]) (fun c => decide (c ≠ 34)) (fun _ v (c : Nat) => v = .str ⟨#[c]⟩) (fun _ _ _ _ _ z => z) hD4 (fun _ _ => trivial) (by have : LCH.cps.size = LCH.length := rfl; omega) ?_ ?_
        · rintro m y c G2 _ hm hc s2 ⟨rfl, c', hc', rfl⟩ Q' Qn k1 k2
          rw [Array.getElem?_toList, hc'] at hc
          obtain rfl : c' = c := Option.some.inj hc
          refine ⟨rfl, if_in (c := decide (c' ≠ 34)) (fun Q g => ?_) (fun hk => ⟨_, rfl, k1 hk _ _ (Same.refl _) rfl⟩) (fun hk => k2 hk _ (Same.refl _))⟩
          refine ⟨_, rfl, rfl, _, rfl, ?_⟩
          have ev : (!decide (V.str ⟨#[c']⟩ = V.str (Str.ofString "\""))) = decide (c' ≠ 34) := by
            rw [eq34]
            by_cases h : c' = 34
            · subst h; rfl
            · rw [decide_eq_true h, decide_eq_false (fun z => h (by injection z with z; injection z with z; simpa using z))]; rfl
          rw [ev]
          exact g
        intro G2 acc4 s2 ha4 he4
        have hacc4 : acc4 = (LCH.cps.toList.filter (fun c => decide (c ≠ 34))).map fun c => V.str ⟨#[c]⟩ := by
          clear ha4
          revert he4
          generalize LCH.cps.toList.filter (fun c => decide (c ≠ 34)) = L
          intro he4
          induction he4 with
          | nil => rfl
          | cons h t ih => rw [h, ih]; rfl
        have ok2 := e1.ok.same s2
        refine ⟨⟨_, rfl⟩, _, rfl, st, cl, 41, rfl, ok2, by decide, by decide, fun m G3 e3 m0 m1 => ⟨m, rfl, by omega, by omega, fun D5 hD5 => ?_⟩⟩
        obtain ⟨D4s, D4c⟩ : D4 ≠ st ∧ D4 ≠ cl := by
          obtain ⟨c, z, th, S⟩ := e1.ok
          exact S.away hD4
        have ha43 := e3.but D4 _ D4s D4c ha4
        refine lc_draw (st := st) (cl := cl) (j := 3) e3.ok hD5 (by omega) (fun _ v (c : Nat) => v = .str ⟨#[c]⟩ ∧ c ∈ LCH.cps.toList.filter (fun c => decide (c ≠ 34))) (fun _ _ _ _ _ z => z) (fun _ => rfl) ?_ ?_
        · intro i G4 hi e4 Q2 k2
          have ha44 := e4.but D4 _ D4s D4c ha43
          have hlen : acc4.length = 94 := by rw [hacc4, List.length_map, lch_flen]
          refine ⟨_, rfl, _, rfl, _, rfl, D4, _, rfl, .inl (sq_l ha44), st, cl, _, rfl, e4.ok, by omega, by omega, fun z G5 e5 z0 z1 => ?_⟩
          have ha45 := e5.but D4 _ D4s D4c ha44
          have hz : z.toNat < (LCH.cps.toList.filter (fun c => decide (c ≠ 34))).length := by rw [lch_flen]; omega
          have ez : ((z.toNat : Nat) : Int) = z := by omega
          have hat : atI acc4 ((z.toNat : Nat) : Int) = some (.str ⟨#[(LCH.cps.toList.filter (fun c => decide (c ≠ 34)))[z.toNat]'hz]⟩) := by
            refine atI_nat ?_
            rw [hacc4, List.getElem?_map, List.getElem?_eq_getElem hz]
            rfl
          rw [ez] at hat
          exact ⟨D4, _, z, _, rfl, rfl, sq_l ha45, hat, k2 _ _ G5 e5 ⟨rfl, List.getElem_mem _⟩⟩
        intro G4 acc5 bs e4 ha5 he5 hbl
        obtain ⟨hacc5, hmem⟩ := signs_of he5
        have e0 : (Str.ofString "").length = 0 := by decide +kernel
        refine ⟨_, D5, bs.map fun c => (⟨#[c]⟩ : Str), rfl, rfl, .inl (sq_l (by rw [← hacc5]; exact ha5)), by rw [signs_sum, e0]; omega, ?_⟩
        have htx : VOk (.inr (Txt.join (Str.ofString "") (bs.map fun c => (⟨#[c]⟩ : Str)))) := by
          show okText _
          rw [signs_join]
          exact ⟨by omega, fun c hc => (lch_ok c (hmem c hc)).1, fun c hc => (lch_ok c (hmem c hc)).2⟩
        revert htx
        generalize Txt.join (Str.ofString "") (bs.map fun c => (⟨#[c]⟩ : Str)) = tx
        intro htx
        have e34 := e3.trans e4
        have hG2 : G2 D = some (.lst vs) := s2 _ _ hG1
        have hG4 : G4 D = some (.lst vs) := e34.but D _ Dst Dcl hG2
        refine ⟨_, rfl, .inl ⟨rfl, _, sq_l hG4⟩, _, rfl, (by show 1 ≤ sizeLine; decide), fun t1 ht1 => ⟨(by show 2 ≤ sizeLine; decide), fun t2 ht2 => ⟨(by show 1 ≤ sizeLine; decide), fun p3 hp3 => ⟨(by show 2 ≤ sizeLine; decide), fun t4 ht4 => ?_⟩⟩⟩⟩
        have u1 := same_new (o := HO.tup [.str tx]) ht1
        have u2 := same_new (o := HO.tup [.ref t1, .int 1]) ht2
        have u3 := same_new (o := HO.lst [.ref t2]) hp3
        have u4 := same_new (o := HO.tup [.str "c", .ref p3]) ht4
        have hD3 := u2 _ _ (u1 _ _ hG4)
        have npD : p3 ≠ D ∧ H p3 = none := ⟨(fun z => by rw [z, hD3] at hp3; cases hp3), (((DG.trans e1).trans (Drawn.of_same s2 e1.ok)).trans e34).free (u1.free (u2.free hp3))⟩
        have hDf := u4 _ _ (u3 _ _ hD3)
        have hel' := hes1.length
        refine ⟨D, _, _, rfl, rfl, hDf, by rw [sizeLine_eq]; omega, ?_⟩
        have uAll := ((u1.trans u2).trans u3).trans u4
        have hb3 : BagAt (upd (upd (upd (upd G4 t1 (.tup [.str tx])) t2 (.tup [.ref t1, .int 1])) p3 (.lst [.ref t2])) t4 (.tup [.str "c", .ref p3])) p3 [([.inr tx], 1)] :=
          ⟨[t2], u4 _ _ upd_same, .cons ⟨t1, u4 _ _ (u3 _ _ upd_same), u4 _ _ (u3 _ _ (u2 _ _ upd_same))⟩ .nil⟩
        refine ⟨⟨_, _, _, _, rfl⟩, (((DG.trans e1).trans (Drawn.of_same s2 e1.ok)).trans (e34.trans (Drawn.of_same uAll e4.ok))).mut hS hDH, vs ++ [.ref t4], es ++ [(("c" : Str), [([.inr tx], 1)])], upd_same, ?_, by rw [List.length_append]; simp; omega⟩
        refine each_snoc1 ⟨NOff.off hDf ⟨t4, p3, rfl, npD, upd_same, hb3⟩, ok_c, text_good htx⟩ (hes1.mono fun y z k => ⟨NOff.off hDf (((k.1.same s2).drawn ok2 e34).same uAll), k.2⟩)
      · refine (if_neg (fun z => hv (by have := of_decide_eq_true z; injection this))).mpr ?_
        exact ⟨⟨_, _, _, _, rfl⟩, DG.trans e1, vs, es, hG1, hes1, by omega⟩
    rintro σ G2 ⟨⟨w3, w4, w5, w6, rfl⟩, DG2, vs2, es2, hG2, hes2, hel2⟩
    have hall := each_all hes2
    obtain ⟨ts, rfl, hts⟩ := NOff.chg (hes2.mono fun y z k => k.1)
    exact ⟨_, rfl, q D es2 G2 DG2 ⟨ts, hG2, hts⟩ ⟨hel2, hall⟩ hDH⟩
end
end KA
set_option Elab.async false
set_option linter.all false
set_option maxRecDepth 100000
set_option maxHeartbeats 4000000
/-! what is drawn may be written -/
namespace KA
open PySem PySem.Spec PyProof.Rows L2
open PySem.W (EachIs)
theorem map_kv (r : Row) : (r.map vlOf).map kOf = r := by
  rw [List.map_map, show kOf ∘ vlOf = id from funext kOf_vlOf, List.map_id]
theorem map_pv (b : Bag) : (b.map vPair).map kPair = b := by
  rw [List.map_map, show kPair ∘ vPair = id from funext kPair_vPair, List.map_id]
theorem map_nv (c : Chg) : (c.map vNamed).map kNamed = c := by
  rw [List.map_map]
  have : kNamed ∘ vNamed = id := funext fun e => by
    obtain ⟨z, b⟩ := e
    show ((⟨z.cps.toList.toArray⟩ : Str), (b.map vPair).map kPair) = (z, b)
    rw [map_pv]
  rw [this, List.map_id]
theorem asc_of : ∀ {b : Bag}, (b.Pairwise fun x y => rowLt x.1 y.1 = true) → asc (b.map vPair) = true
  | [], _ => rfl
  | [_], _ => rfl
  | a :: b :: t, h => by
    obtain ⟨h1, h2⟩ := List.pairwise_cons.mp h
    show (rowLt ((a.1.map vlOf).map kOf) ((b.1.map vlOf).map kOf) && asc ((b :: t).map vPair)) = true
    rw [map_kv, map_kv, h1 b List.mem_cons_self, asc_of h2]
    rfl
theorem joined_le {sep : List Nat} {m : Nat} : ∀ ts : List (List Nat), (∀ t ∈ ts, t.length ≤ m) → (joined sep ts).length ≤ ts.length * (m + sep.length)
  | [], _ => by simp [joined]
  | [a], h => by
    have := h a List.mem_cons_self
    show a.length ≤ 1 * (m + sep.length)
    omega
  | a :: b :: t, h => by
    have h1 := h a List.mem_cons_self
    have h2 := joined_le (sep := sep) (m := m) (b :: t) (fun x hx => h x (List.mem_cons_of_mem _ hx))
    have e : joined sep (a :: b :: t) = a ++ (sep ++ joined sep (b :: t)) := rfl
    rw [e, List.length_append, List.length_append, List.length_cons (a := a), Nat.add_mul, Nat.one_mul]
    omega
theorem row_len {r : Row} (h : ∀ k ∈ r, VOk k) : (fmtRow (r.map vlOf)).length ≤ r.length * 44 + 2 := by
  have h1 := joined_le (sep := comma) (m := 42) ((r.map vlOf).map fmtVl) (fun t ht => by
    obtain ⟨v, hv, rfl⟩ := List.mem_map.mp ht
    obtain ⟨k, hk, rfl⟩ := List.mem_map.mp hv
    exact (h k hk).len)
  rw [List.length_map, List.length_map] at h1
  have e : comma.length = 2 := rfl
  rw [e] at h1
  show (40 :: (joined comma ((r.map vlOf).map fmtVl) ++ [41])).length ≤ _
  rw [List.length_cons, List.length_append]
  simp only [List.length_cons, List.length_nil]
  omega
theorem int_le {n : Int} (h : n.natAbs < 10 ^ 20) : (fmtInt n).length ≤ 21 := by
  have := dec_len 19 n.natAbs h
  unfold fmtInt
  split
  · rw [List.length_cons]; omega
  · omega
theorem rowOk_ok {r : Row} (h : RowOk r) : okRow (r.map vlOf) := ⟨fun v hv => by
  obtain ⟨k, hk, rfl⟩ := List.mem_map.mp hv
  exact h.2 k hk, by rw [List.length_map]; have := h.1; omega⟩
theorem good_ok {b : Bag} (h : GoodBag b) : okBag asc (b.map vPair) := ⟨fun p hp => by
  obtain ⟨e, he, rfl⟩ := List.mem_map.mp hp
  have h2 := h.bd e he
  exact ⟨rowOk_ok (h.rows e he), okInt_of (n := e.2) (by omega), h.canon.nz e he⟩, asc_of h.canon.srt⟩
theorem wch_ok {c : Chg} (h : WCh c) : okChange asc (c.map vNamed) := fun p hp => by
  obtain ⟨e, he, rfl⟩ := List.mem_map.mp hp
  obtain ⟨h1, h2⟩ := h.2 e he
  exact ⟨h1, good_ok h2⟩
theorem wch_sm {c : Chg} (h : WCh c) : ∀ n ∈ c, ∀ e ∈ n.2, smE e := fun n hn e he => by
  have gb := (h.2 n hn).2
  have h2 := gb.bd e he
  exact ⟨fun k hk => VOk.sm ((gb.rows e he).2 k hk), by omega⟩
theorem good_len {b : Bag} (h : GoodBag b) : (fmtBag (b.map vPair)).length ≤ 1910 := by
  have h1 := joined_le (sep := comma) (m := 157) ((b.map vPair).map fmtPair) (fun t ht => by
    obtain ⟨p, hp, rfl⟩ := List.mem_map.mp ht
    obtain ⟨e, he, rfl⟩ := List.mem_map.mp hp
    have r1 := h.rows e he
    have h2 := h.bd e he
    rw [pair_part]
    have := row_len r1.2
    have := r1.1
    have := int_le (n := e.2) (by omega)
    omega)
  rw [List.length_map, List.length_map] at h1
  have e : comma.length = 2 := rfl
  have h3 := h.len
  rw [e] at h1
  show (123 :: (joined comma ((b.map vPair).map fmtPair) ++ [125])).length ≤ _
  rw [List.length_cons, List.length_append]
  simp only [List.length_cons, List.length_nil]
  omega
theorem wch_len {c : Chg} (h : WCh c) : (fmtChange (c.map vNamed)).length ≤ 7700 := by
  have h1 := joined_le (sep := semi) (m := 1923) ((c.map vNamed).map fmtNamed) (fun t ht => by
    obtain ⟨p, hp, rfl⟩ := List.mem_map.mp ht
    obtain ⟨e, he, rfl⟩ := List.mem_map.mp hp
    obtain ⟨r1, r2⟩ := h.2 e he
    rw [named_part]
    have := good_len r2
    have : e.1.length ≤ 12 := r1.2.2
    omega)
  rw [List.length_map, List.length_map] at h1
  have e : semi.length = 2 := rfl
  have h3 := h.1
  rw [e] at h1
  show (joined semi ((c.map vNamed).map fmtNamed)).length ≤ _
  omega
/-! ### all their signs may be read from bytes -/
theorem inC_joined {sep : List Nat} (hs : ∀ x ∈ sep, inChars x = true) : ∀ ts : List (List Nat), (∀ t ∈ ts, ∀ x ∈ t, inChars x = true) → ∀ x ∈ joined sep ts, inChars x = true
  | [], _, x, hx => by cases hx
  | [a], h, x, hx => h a List.mem_cons_self x hx
  | a :: b :: t, h, x, hx => by
    have e : joined sep (a :: b :: t) = a ++ (sep ++ joined sep (b :: t)) := rfl
    rw [e] at hx
    rcases List.mem_append.mp hx with z | z
    · exact h a List.mem_cons_self x z
    · rcases List.mem_append.mp z with z | z
      · exact hs x z
      · exact inC_joined hs (b :: t) (fun y hy => h y (List.mem_cons_of_mem _ hy)) x z
theorem inC_dig {c : Nat} (h : isDig c = true) : inChars c = true := by
  unfold isDig at h
  unfold inChars
  simp only [Bool.and_eq_true, decide_eq_true_eq] at h ⊢
  omega
theorem inC_int (n : Int) : ∀ x ∈ fmtInt n, inChars x = true := fun x hx => by
  unfold fmtInt at hx
  split at hx
  · rcases List.mem_cons.mp hx with z | z
    · rw [z]; rfl
    · exact inC_dig (dec_digs _ x z)
  · exact inC_dig (dec_digs _ x hx)
theorem inC_vl {v : Vl} (h : okVl v) : ∀ x ∈ fmtVl v, inChars x = true := fun x hx => by
  cases v with
  | i n => exact inC_int n x hx
  | s y =>
    have hx' : x ∈ 34 :: (y ++ [34]) := hx
    rcases List.mem_cons.mp hx' with z | z
    · rw [z]; rfl
    · rcases List.mem_append.mp z with z | z
      · exact h.2.1 x z
      · rw [List.mem_singleton.mp z]; rfl
theorem inC_encl {o c : Nat} {α : Type} {fmt : α → List Nat} {vs : List α} (ho : inChars o = true) (hc : inChars c = true) (h : ∀ v ∈ vs, ∀ x ∈ fmt v, inChars x = true) : ∀ x ∈ fmtEncl o c comma fmt vs, inChars x = true := fun x hx => by
  have hx' : x ∈ o :: (joined comma (vs.map fmt) ++ [c]) := hx
  rcases List.mem_cons.mp hx' with z | z
  · rw [z]; exact ho
  · rcases List.mem_append.mp z with z | z
    · exact inC_joined (by decide) (vs.map fmt) (fun t ht y hy => by
        obtain ⟨v, hv, rfl⟩ := List.mem_map.mp ht
        exact h v hv y hy) x z
    · rw [List.mem_singleton.mp z]; exact hc
theorem inC_bag {b : List (List Vl × Int)} (h : okBag asc b) : ∀ x ∈ fmtBag b, inChars x = true := inC_encl rfl rfl fun p hp x hx => by
  have hx' : x ∈ fmtRow p.1 ++ (58 :: 32 :: fmtInt p.2) := hx
  rcases List.mem_append.mp hx' with z | z
  · exact inC_encl rfl rfl (fun v hv => inC_vl ((h.1 p hp).1.1 v hv)) x z
  · rcases List.mem_cons.mp z with z | z
    · rw [z]; rfl
    · rcases List.mem_cons.mp z with z | z
      · rw [z]; rfl
      · exact inC_int _ x z
theorem inC_chg {c : List NBag} (h : okChange asc c) : ∀ x ∈ fmtChange c, inChars x = true := inC_joined (by decide) _ fun t ht x hx => by
  obtain ⟨p, hp, rfl⟩ := List.mem_map.mp ht
  have hx' : x ∈ p.1 ++ (32 :: fmtBag p.2) := hx
  obtain ⟨h1, h2⟩ := h p hp
  rcases List.mem_append.mp hx' with z | z
  · have := h1.1 x z
    unfold isLow at this
    unfold inChars
    simp only [Bool.and_eq_true, decide_eq_true_eq] at this ⊢
    omega
  · rcases List.mem_cons.mp z with z | z
    · rw [z]; rfl
    · exact inC_bag h2 x z
theorem inC_lt {x : Nat} (h : inChars x = true) : x < 256 := by
  unfold inChars at h
  simp only [Bool.and_eq_true, decide_eq_true_eq] at h
  omega
theorem wch_chr {c : Chg} (h : WCh c) : chrsOk c := fun x hx => inC_lt (inC_chg (wch_ok h) x hx)
theorem chgOf_fmt {c : List NBag} (h : okChange asc c) : chgOf (fmtChange c) = some c := by
  unfold chgOf
  rw [if_pos (List.all_eq_true.mpr (inC_chg h)), wChange_full asc h]
theorem chgOf_sound {s : List Nat} {v : List NBag} (h : chgOf s = some v) : s = fmtChange v ∧ okChange asc v := by
  unfold chgOf at h
  split at h
  · exact wChange_sound asc h
  · cases h
end KA
set_option linter.all false
set_option maxRecDepth 100000
set_option maxHeartbeats 4000000
/-! what a disk holds: records, a cut of them, what is read of it -/
namespace KA
open L2
abbrev Vn : Type := List NBag
def okv (v : Vn) : Prop := okChange asc v ∧ (fmtChange v).length ≤ 65535
def rcN (v : Vn) : List Nat := recd (fmtChange v)
def recsN (vs : List Vn) : List Nat := (vs.map rcN).flatten
def endsN : Nat → List Vn → List Nat
  | _, [] => []
  | a, v :: t => (a + (rcN v).length) :: endsN (a + (rcN v).length) t
theorem recsN_cons (v : Vn) (t : List Vn) : recsN (v :: t) = rcN v ++ recsN t := rfl
theorem recsN_snoc (vs : List Vn) (v : Vn) : recsN (vs ++ [v]) = recsN vs ++ rcN v := by
  unfold recsN
  simp
theorem endsN_snoc : ∀ (a : Nat) (vs : List Vn) (v : Vn), endsN a (vs ++ [v]) = endsN a vs ++ [a + (recsN (vs ++ [v])).length]
  | a, [], v => by
    show [a + (rcN v).length] = [] ++ [a + (rcN v ++ []).length]
    rw [List.append_nil]
    rfl
  | a, u :: t, v => by
    show (a + (rcN u).length) :: endsN (a + (rcN u).length) (t ++ [v]) = (a + (rcN u).length) :: (endsN (a + (rcN u).length) t ++ [a + (rcN u ++ recsN (t ++ [v])).length])
    rw [endsN_snoc (a + (rcN u).length) t v, List.length_append, Nat.add_assoc]
theorem rdD_rec {v : Vn} {r : List Nat} (h : okv v) : rdD (rcN v ++ r) = (v :: (rdD r).1, (rdD r).2) := by
  rw [rdD_step]
  unfold rcN
  rw [contS_recd h.2]
  dsimp only
  rw [chgOf_fmt h.1]
theorem rdD_nil : rdD [] = ([], []) := rfl
theorem rdD_recs : ∀ (vs : List Vn) (r : List Nat), (∀ v ∈ vs, okv v) → rdD (recsN vs ++ r) = (vs ++ (rdD r).1, (rdD r).2)
  | [], r, _ => rfl
  | v :: t, r, h => by
    rw [recsN_cons, List.append_assoc, rdD_rec (h v List.mem_cons_self), rdD_recs t r fun x hx => h x (List.mem_cons_of_mem _ hx)]
    rfl
theorem rdD_whole {vs : List Vn} (h : ∀ v ∈ vs, okv v) : rdD (recsN vs) = (vs, []) := by
  have := rdD_recs vs [] h
  rw [List.append_nil, rdD_nil, List.append_nil] at this
  exact this
theorem rdAll_sound : ∀ (k : Nat) (d : List Nat), (∀ x ∈ d, x < 256) → d = recsN (rdAll k d).1 ++ (rdAll k d).2 ∧ ∀ v ∈ (rdAll k d).1, okv v
  | 0, d, _ => ⟨rfl, fun v hv => by cases hv⟩
  | k + 1, d, hb => by
    unfold rdAll
    cases hc : contS d with
    | none => exact ⟨rfl, fun v hv => by cases hv⟩
    | some p =>
      obtain ⟨c, r⟩ := p
      dsimp only
      cases hg : chgOf c with
      | none => exact ⟨rfl, fun v hv => by cases hv⟩
      | some v =>
        dsimp only
        obtain ⟨e1, l1⟩ := contS_bytes hc hb
        obtain ⟨e2, o2⟩ := chgOf_sound hg
        have hbr : ∀ x ∈ r, x < 256 := fun x hx => hb x (by rw [e1]; exact List.mem_append_right _ hx)
        obtain ⟨e3, o3⟩ := rdAll_sound k r hbr
        refine ⟨?_, fun y hy => ?_⟩
        · rw [recsN_cons, List.append_assoc, ← e3, e1]
          unfold rcN
          rw [← e2]
        · rcases List.mem_cons.mp hy with z | z
          · rw [z]; exact ⟨o2, by rw [← e2]; exact l1⟩
          · exact o3 y z
theorem rdD_sound {d : List Nat} (hb : ∀ x ∈ d, x < 256) : d = recsN (rdD d).1 ++ (rdD d).2 ∧ ∀ v ∈ (rdD d).1, okv v := rdAll_sound _ d hb
theorem rdD_take {d : List Nat} (hb : ∀ x ∈ d, x < 256) : d.take (d.length - (rdD d).2.length) = recsN (rdD d).1 := by
  obtain ⟨e, _⟩ := rdD_sound hb
  have hl := congrArg List.length e
  rw [List.length_append] at hl
  rw [show d.length - (rdD d).2.length = (recsN (rdD d).1).length by omega]
  generalize recsN (rdD d).1 = A at e
  generalize (rdD d).2 = B at e
  rw [e, List.take_left]
theorem rcN_lt {v : Vn} (h : okv v) : ∀ x ∈ rcN v, x < 256 := fun x hx => by
  unfold rcN recd at hx
  rcases List.mem_append.mp hx with z | z
  · rcases List.mem_append.mp z with z | z
    · exact be2_lt _ x z
    · exact inC_lt (inC_chg h.1 x z)
  · exact be4_lt _ x z
theorem contS_cut {s : List Nat} {k : Nat} (h : s.length ≤ 65535) (hk : k < (recd s).length) : contS ((recd s).take k) = none := by
  cases hc : contS ((recd s).take k) with
  | none => rfl
  | some p =>
    exfalso
    obtain ⟨c, r⟩ := p
    obtain ⟨a, b, e, hl⟩ := contS_some hc
    have hlen := contS_len hc
    rw [List.length_take, recd_len] at hlen
    rw [recd_len] at hk
    have e2 := recd_eq s
    have h2 : 2 ≤ k := by omega
    obtain ⟨k', rfl⟩ : ∃ k', k = k' + 1 + 1 := ⟨k - 2, by omega⟩
    rw [e2] at e
    injection e with e3 e4
    injection e4 with e5 _
    omega
theorem ends_ge : ∀ (a : Nat) (vs : List Vn), ∀ e ∈ endsN a vs, a ≤ e
  | a, [], e, he => by cases he
  | a, v :: t, e, he => by
    rcases List.mem_cons.mp he with z | z
    · omega
    · have := ends_ge _ t e z
      omega
/-- what is read of a cut -/
theorem rdD_cut : ∀ (vs : List Vn) (k a : Nat), (∀ v ∈ vs, okv v) → ∃ j, (rdD ((recsN vs).take k)).1 = vs.take j ∧ j ≤ vs.length ∧ ∀ S, S ≤ ((recsN vs).take k).length → ((endsN a vs).filter fun e => decide (e ≤ a + S)).length ≤ j
  | [], k, a, _ => ⟨0, by
      have : (recsN []).take k = [] := by simp [recsN]
      rw [this, rdD_nil]
      rfl, Nat.le_refl _, fun S _ => by simp [endsN]⟩
  | v :: t, k, a, h => by
    have hv := h v List.mem_cons_self
    by_cases hk : (rcN v).length ≤ k
    · obtain ⟨j, e1, j1, hj⟩ := rdD_cut t (k - (rcN v).length) (a + (rcN v).length) (fun x hx => h x (List.mem_cons_of_mem _ hx))
      have et : (recsN (v :: t)).take k = rcN v ++ (recsN t).take (k - (rcN v).length) := by
        rw [recsN_cons, List.take_append, List.take_of_length_le hk]
      refine ⟨j + 1, ?_, by rw [List.length_cons]; omega, fun S hS => ?_⟩
      · rw [et, rdD_rec hv, e1]
        rfl
      · rw [et, List.length_append] at hS
        show (((a + (rcN v).length) :: endsN (a + (rcN v).length) t).filter fun e => decide (e ≤ a + S)).length ≤ j + 1
        by_cases hs : (rcN v).length ≤ S
        · have := hj (S - (rcN v).length) (by omega)
          have e2 : a + (rcN v).length + (S - (rcN v).length) = a + S := by omega
          rw [e2] at this
          rw [List.filter_cons]
          split
          · rw [List.length_cons]; omega
          · omega
        · have : (((a + (rcN v).length) :: endsN (a + (rcN v).length) t).filter fun e => decide (e ≤ a + S)) = [] := by
            rw [List.filter_eq_nil_iff]
            intro e he
            have : a + (rcN v).length ≤ e := by
              rcases List.mem_cons.mp he with z | z
              · omega
              · exact ends_ge _ t e z
            simp only [decide_eq_true_eq]
            omega
          rw [this]
          exact Nat.zero_le _
    · have et : (recsN (v :: t)).take k = (rcN v).take k := by
        rw [recsN_cons, List.take_append_of_le_length (by omega)]
      have hc : contS ((rcN v).take k) = none := contS_cut hv.2 (by unfold rcN at hk; omega)
      refine ⟨0, ?_, Nat.zero_le _, fun S hS => ?_⟩
      · rw [et, rdD_step, hc]
        rfl
      · rw [et, List.length_take] at hS
        have : ((endsN a (v :: t)).filter fun e => decide (e ≤ a + S)) = [] := by
          rw [List.filter_eq_nil_iff]
          intro e he
          have : a + (rcN v).length ≤ e := by
            rcases List.mem_cons.mp he with z | z
            · omega
            · exact ends_ge _ t e z
          simp only [decide_eq_true_eq]
          omega
        rw [this]
        exact Nat.le_refl _
/-- the law's model and the disk, behind n deeds -/
structure Dk (D : List Nat) (S : Nat) (C : List Vn) (b4 b5 : Bool) (n : Nat) : Prop where
  ok : ∀ v ∈ C, okv v
  bytes : ∀ x ∈ D, x < 256
  sd : S ≤ D.length
  whole : b4 = false → D = recsN C
  pre : b5 = false → ∃ k, D = (recsN C).take k
  b45 : b4 = false → b5 = false
  cn : cnt D ≤ 31 * n
  len : D.length ≤ 8000 * (n + 1)
  few : C.length ≤ 31 * n
theorem Dk.start : Dk [] 0 [] false false 0 := ⟨(fun v hv => by cases hv), (fun x hx => by cases hx), Nat.le_refl _, fun _ => rfl, fun _ => ⟨0, rfl⟩, fun _ => rfl, Nat.le_refl _, Nat.zero_le _, Nat.le_refl _⟩
theorem Dk.more {D : List Nat} {S : Nat} {C : List Vn} {b4 b5 : Bool} {n m : Nat} (h : Dk D S C b4 b5 n) (hm : n ≤ m) : Dk D S C b4 b5 m :=
  ⟨h.ok, h.bytes, h.sd, h.whole, h.pre, h.b45, by have := h.cn; omega, by have := h.len; omega, by have := h.few; omega⟩
theorem Dk.sync {D : List Nat} {S : Nat} {C : List Vn} {b4 b5 : Bool} {n : Nat} (h : Dk D S C b4 b5 n) : Dk D D.length C b4 b5 n :=
  ⟨h.ok, h.bytes, Nat.le_refl _, h.whole, h.pre, h.b45, h.cn, h.len, h.few⟩
theorem cnt_recs {vs : List Vn} (h : ∀ v ∈ vs, okv v) : cnt (recsN vs) = vs.length := by
  unfold cnt
  rw [rdD_whole h]
theorem Dk.append {D : List Nat} {S : Nat} {C : List Vn} {b5 : Bool} {n : Nat} {v : Vn} (h : Dk D S C false b5 n) (hv : okv v) (hl : (fmtChange v).length ≤ 7700) : Dk (D ++ rcN v) S (C ++ [v]) false b5 (n + 1) := by
  have hD := h.whole rfl
  have ok' : ∀ x ∈ C ++ [v], okv x := fun x hx => by
    rcases List.mem_append.mp hx with z | z
    · exact h.ok x z
    · rw [List.mem_singleton.mp z]; exact hv
  have eD : D ++ rcN v = recsN (C ++ [v]) := by rw [recsN_snoc, hD]
  have hrl : (rcN v).length = (fmtChange v).length + 6 := recd_len _
  refine ⟨ok', fun x hx => ?_, ?_, fun _ => eD, fun _ => ⟨(recsN (C ++ [v])).length, by rw [List.take_length, eD]⟩, h.b45, ?_, ?_, ?_⟩
  · rcases List.mem_append.mp hx with z | z
    · exact h.bytes x z
    · exact rcN_lt hv x z
  · rw [List.length_append]; have := h.sd; omega
  · rw [eD, cnt_recs ok']
    have := h.cn
    rw [hD, cnt_recs h.ok] at this
    rw [List.length_append]
    simp
    omega
  · rw [List.length_append]; have := h.len; omega
  · rw [List.length_append]
    have := h.few
    simp
    omega
theorem Dk.crash {D : List Nat} {S : Nat} {C : List Vn} {b4 b5 : Bool} {n k : Nat} {j : List Nat} (h : Dk D S C b4 b5 n) (hj : j.length ≤ 30) (hb : ∀ x ∈ j, x < 256) : Dk (D.take (S + k) ++ j) S C true (b5 || decide (0 < j.length)) (n + 1) := by
  refine ⟨h.ok, fun x hx => ?_, ?_, (fun z => by cases z), fun z => ?_, (fun z => by cases z), ?_, ?_, by have := h.few; omega⟩
  · rcases List.mem_append.mp hx with z | z
    · exact h.bytes x (List.mem_of_mem_take z)
    · exact hb x z
  · rw [List.length_append, List.length_take]; have := h.sd; omega
  · simp only [Bool.or_eq_false_iff, decide_eq_false_iff_not] at z
    obtain ⟨k0, e⟩ := h.pre z.1
    have : j = [] := List.length_eq_zero_iff.mp (by omega)
    rw [this, List.append_nil, e, List.take_take]
    exact ⟨_, rfl⟩
  · have := cnt_cut j D.length D (S + k) (Nat.le_refl _)
    have := h.cn
    omega
  · rw [List.length_append, List.length_take]; have := h.len; omega
theorem Dk.recover {D : List Nat} {S : Nat} {C : List Vn} {b4 b5 : Bool} {n : Nat} (h : Dk D S C b4 b5 n) : Dk (D.take (D.length - (rdD D).2.length)) (D.length - (rdD D).2.length) (rdD D).1 false false n := by
  obtain ⟨e, ok⟩ := rdD_sound h.bytes
  have et := rdD_take h.bytes
  have hl := congrArg List.length e
  rw [List.length_append] at hl
  refine ⟨ok, fun x hx => h.bytes x (List.mem_of_mem_take hx), ?_, fun _ => et, fun _ => ⟨(recsN (rdD D).1).length, by rw [List.take_length, et]⟩, fun _ => rfl, ?_, ?_, h.cn⟩
  · rw [List.length_take]; omega
  · rw [et, cnt_recs ok]; exact h.cn
  · rw [List.length_take]; have := h.len; omega
/-- what a recovery finds where no bytes were added -/
theorem Dk.found {D : List Nat} {S : Nat} {C : List Vn} {b4 : Bool} {n : Nat} (h : Dk D S C b4 false n) : (rdD D).1 = C.take (rdD D).1.length ∧ ((endsN 0 C).filter fun e => decide (e ≤ S)).length ≤ (rdD D).1.length := by
  obtain ⟨k, e⟩ := h.pre rfl
  obtain ⟨j, e1, j1, hj⟩ := rdD_cut C k 0 h.ok
  rw [← e] at e1 hj
  have hl : (rdD D).1.length = j := by rw [e1, List.length_take]; omega
  refine ⟨by rw [hl]; exact e1, ?_⟩
  have := hj S h.sd
  rw [Nat.zero_add] at this
  omega
end KA
set_option Elab.async false
set_option linter.all false
set_option maxRecDepth 100000
set_option maxHeartbeats 4000000
/-! _law_junk, _law_ends -/
namespace KA
open PySem PySem.Spec PyProof.Rows L2
open PySem.W (EachIs)
def smallC : Chg := [(("a" : Str), [([.inl 1], 1)])]
theorem ok_a : okName (Str.ofString "a").cps.toList := ⟨by decide +kernel, by decide +kernel, by decide +kernel⟩
theorem small_ok : WCh smallC := ⟨by decide, fun n hn => by
  rw [show n = (("a" : Str), [([.inl 1], 1)]) from List.mem_singleton.mp hn]
  exact ⟨ok_a, ⟨List.pairwise_singleton _ _, fun e he => by rw [List.mem_singleton.mp he]; show (1 : Int) ≠ 0; decide⟩, (by show 1 ≤ 12; decide), fun e he => by rw [List.mem_singleton.mp he]; show (1 : Nat) ≤ 12000000; decide, fun e he => by
    rw [List.mem_singleton.mp he]
    exact ⟨(by show 1 ≤ 3; decide), fun x hx => by rw [List.mem_singleton.mp hx]; exact vok_int (by decide) (by decide)⟩⟩⟩
theorem wch_rec {c : Chg} (h : WCh c) : ∀ x ∈ recd (fmtChange (c.map vNamed)), x < 256 := rcN_lt (v := c.map vNamed) ⟨wch_ok h, Nat.le_trans (wch_len h) (by decide)⟩
theorem Drawn.fresh {st cl p : Addr} {H H' : Hp} {o : HO} (h : StOk H st cl) (hp : H p = none) (d : Drawn st cl (upd H p o) H') : Drawn st cl H H' ∧ H' p = some o := by
  refine ⟨(Drawn.of_same (same_new hp) h).trans d, ?_⟩
  obtain ⟨c, z, th, S⟩ := h
  obtain ⟨h1, h2⟩ := S.away hp
  exact d.but p _ h1 h2 upd_same
theorem fourJ {v : Int} (h0 : 0 ≤ v) (h1 : v < 4) : v = 0 ∨ v = 1 ∨ v = 2 ∨ v = 3 := by omega
theorem bV_of {acc : List V} : ∀ {bs : List Nat}, EachIs (fun v (b : Nat) => v = V.int (b : Int) ∧ b < 256) acc bs → acc = bV bs ∧ ∀ b ∈ bs, b < 256 := by
  intro bs h
  induction h with
  | nil => exact ⟨rfl, fun c hc => by cases hc⟩
  | cons h t ih =>
    refine ⟨by rw [h.1, ih.1]; rfl, fun c hc => ?_⟩
    rcases List.mem_cons.mp hc with z | z
    · rw [z]; exact h.2
    · exact ih.2 c z
section
variable {P : Program} {w : World} {K : PySem.W.Frag} {mg : Str → Option Value} {base : Heap} {f : Addr} {fd : FuncData}
def spJunk : Sp := fun vs H Q _ => ∃ (st cl : Addr), vs = [.ref st] ∧ StOk H st cl ∧ ∀ l j H', Drawn st cl H H' → H l = none → H' l = some (.lst (bV j)) → j.length ≤ 30 → (∀ x ∈ j, x < 256) → Q (.ref l) H'
theorem ok_junk (F : FnP K "_law_junk" s__law_junk f fd) (gL : mg "len" = none) (gR : mg "range" = none) (C : DrawC P w K mg base) (CR : Cal P w K mg base "_law_record" 5 ["change"] spRecord) (CB : Cal P w K mg base "_law_bytes" 1 ["number", "size"] spLBytes) (CK : Cal P w K mg base "_law_check" 1 ["data"] (spCheck K)) : FnOk P w K mg base CX0 6 f fd ["state"] spJunk := by
  refine F.ok sc__law_junk (fun vs H Q E h => ?_) (fun cdv A outer s H vs Q E hr h => ?_)
  · obtain ⟨st, cl, rfl, _⟩ := h
    rfl
  · obtain ⟨st, cl, rfl, hS, q⟩ := h
    have nd := sc__law_junk.nd
    have hr1 : Room 1 _ := hr.mono (show 1 ≤ 5 by decide)
    refine ⟨_, PSs.nox (pss_cons (ps_if (pt_cmpR op_eq (pe_cal C hr1.lt (pa_cons (pv 0) (pa_cons pe_int pa_nil))) pe_int (nomark _)) (pss_one (ps_ret (pe_lst pa_nil))) pss_nil)
      (pss_cons (ps_if (pt_cmpR op_eq (pe_cal C hr1.lt (pa_cons (pv 0) (pa_cons pe_int pa_nil))) pe_int (nomark _))
        (pss_one (ps_ret (pe_slice sl_list (pe_cal CR hr (pa_cons (pe_lst (pa_cons (pe_tup (pa_cons pe_str (pa_cons (pe_lst (pa_cons (pe_tup (pa_cons (pe_tup (pa_cons pe_int pa_nil)) (pa_cons pe_int pa_nil))) pa_nil)) pa_nil))) pa_nil)) pa_nil)) po_none (po_some (pe_cal C hr1.lt (pa_cons (pv 0) (pa_cons pe_int pa_nil))))))) pss_nil)
      (pss_cons (ps_if (pt_cmpR op_eq (pe_cal C hr1.lt (pa_cons (pv 0) (pa_cons pe_int pa_nil))) pe_int (nomark _))
        (pss_cons (ps_set (i := 1) nd rfl (Or.inl rfl) (pe_ix ix_list (pe_lst (pa_cons (pe_lst (pa_cons pe_int (pa_cons pe_int pa_nil))) (pa_cons (pe_lst (pa_cons pe_int pa_nil)) (pa_cons (pe_lst pa_nil) (pa_cons (pe_lst (pa_cons pe_int (pa_cons pe_int (pa_cons pe_int (pa_cons pe_int (pa_cons pe_int (pa_cons pe_int (pa_cons pe_int (pa_cons pe_int (pa_cons pe_int (pa_cons pe_int (pa_cons pe_int (pa_cons pe_int pa_nil))))))))))))) pa_nil)))))
            (pe_cal C hr1.lt (pa_cons (pv 0) (pa_cons pe_int pa_nil))) (fun _ _ => rfl)))
        (pss_cons (ps_set (i := 2) nd rfl (Or.inl rfl) (pe_op op_cat (pe_lst (pa_cons pe_int (pa_cons (pe_callB call_len_seq (by rfl) gL PySem.boot_len (pa_cons (pv 1) pa_nil)) pa_nil))) (pv 1)))
        (pss_one (ps_ret (pe_op op_cat (pv 2) (pe_cal CB hr1.lt (pa_cons (pe_cal CK hr1.lt (pa_cons (pv 2) pa_nil)) (pa_cons pe_int pa_nil)))))))) pss_nil)
      (pss_one (ps_ret (pe_lc (own := [("k", 3)]) (g := gName 3) (tt := tYes) (te := tCall spDraw [] E0 (tCons (tVar 0) (tCons (tC (.int 256)) tNil))) (by rfl) nd (pi_range1 rfl gR (pa_cons (pe_cal C hr1.lt (pa_cons (pv 0) (pa_cons pe_int pa_nil))) pa_nil))
        (blkOk_by (own := [("k", 3)]) (N := ["state", "text", "data", "k"]) (sc := defScope s__law_junk) (by decide +kernel)) (fun _ _ _ _ _ => pg_name (i := 3) nd rfl (Or.inl rfl)) (fun _ _ _ _ _ => pts_nil)
        (fun _ _ _ _ _ => pe_cal C hr1.lt (pa_cons (pv 0) (pa_cons pe_int pa_nil))))))))), ?_⟩
    refine ⟨_, rfl, st, cl, 2, rfl, hS, by decide, by decide, fun v G1 e1 v0 v1 => ⟨rfl, _, rfl, ?_⟩⟩
    by_cases hv : v = 0
    · refine (if_pos (by rw [hv]; exact decide_eq_true rfl)).mpr ?_
      refine ⟨Nat.zero_le _, fun l hl => ?_⟩
      exact q l [] _ (e1.trans (Drawn.of_same (same_new hl) e1.ok)) (e1.free hl) upd_same (Nat.zero_le _) (fun x hx => by cases hx)
    refine (if_neg (fun z => hv (by have := of_decide_eq_true z; injection this))).mpr ?_
    refine ⟨_, rfl, st, cl, 4, rfl, e1.ok, by decide, by decide, fun v G2 e2 v0 v1 => ⟨rfl, _, rfl, ?_⟩⟩
    have E2 := e1.trans e2
    by_cases hv : v = 0
    · refine (if_pos (by rw [hv]; exact decide_eq_true rfl)).mpr ?_
      refine ⟨(by show 1 ≤ sizeLine; decide), fun t1 ht1 => ⟨(by show 2 ≤ sizeLine; decide), fun t2 ht2 => ⟨(by show 1 ≤ sizeLine; decide), fun p3 hp3 => ⟨(by show 2 ≤ sizeLine; decide), fun t4 ht4 => ⟨(by show 1 ≤ sizeLine; decide), fun p5 hp5 => ?_⟩⟩⟩⟩⟩
      have u1 := same_new (o := HO.tup [.int 1]) ht1
      have u2 := same_new (o := HO.tup [.ref t1, .int 1]) ht2
      have u3 := same_new (o := HO.lst [.ref t2]) hp3
      have u4 := same_new (o := HO.tup [.str "a", .ref p3]) ht4
      have u5 := same_new (o := HO.lst [.ref t4]) hp5
      have uAll := (((u1.trans u2).trans u3).trans u4).trans u5
      refine ⟨p5, smallC, rfl, ⟨[t4], upd_same, .cons ⟨p3, u5 _ _ upd_same, [t2], u5 _ _ (u4 _ _ upd_same), .cons ⟨t1, u5 _ _ (u4 _ _ (u3 _ _ upd_same)), u5 _ _ (u4 _ _ (u3 _ _ (u2 _ _ upd_same)))⟩ .nil⟩ .nil⟩, wch_sm small_ok, Nat.le_trans (wch_len small_ok) (by decide), wch_chr small_ok, fun l G3 s3 hl hL => ?_⟩
      have E3 := E2.trans (Drawn.of_same (uAll.trans s3) e2.ok)
      refine ⟨_, rfl, st, cl, 30, rfl, E3.ok, by decide, by decide, fun k G4 e4 k0 k1 => ?_⟩
      obtain ⟨k, rfl⟩ : ∃ n : Nat, k = (n : Int) := ⟨k.toNat, by omega⟩
      have hlG2 : G2 l = none := uAll.free hl
      have hL4 : G4 l = some (.lst (bV (recd (fmtChange (smallC.map vNamed))))) := by
        obtain ⟨c, z, th, S⟩ := e2.ok
        obtain ⟨h1, h2⟩ := S.away hlG2
        exact e4.but l _ h1 h2 hL
      refine ⟨_, rfl, l, _, rfl, sq_l hL4, fun p6 hp6 => ?_⟩
      dsimp only
      rw [cut_none]
      have E4 := E3.trans e4
      refine q p6 _ _ (E4.trans (Drawn.of_same (same_new hp6) e4.ok)) (E4.free hp6) upd_same ?_ (fun x hx => wch_rec small_ok x (List.mem_of_mem_take hx))
      rw [List.length_take]
      omega
    refine (if_neg (fun z => hv (by have := of_decide_eq_true z; injection this))).mpr ?_
    refine ⟨_, rfl, st, cl, 3, rfl, e2.ok, by decide, by decide, fun v G3 e3 v0 v1 => ⟨rfl, _, rfl, ?_⟩⟩
    have E3 := E2.trans e3
    by_cases hv : v = 0
    · refine (if_pos (by rw [hv]; exact decide_eq_true rfl)).mpr ?_
      refine ⟨(by show 2 ≤ sizeLine; decide), fun a1 ha1 => ⟨(by show 1 ≤ sizeLine; decide), fun a2 ha2 => ⟨(by show 0 ≤ sizeLine; decide), fun a3 ha3 => ⟨(by show 12 ≤ sizeLine; decide), fun a4 ha4 => ⟨(by show 4 ≤ sizeLine; decide), fun a5 ha5 => ?_⟩⟩⟩⟩⟩
      have u1 := same_new (o := HO.lst [.int 97, .int 98]) ha1
      have u2 := same_new (o := HO.lst [.int 200]) ha2
      have u3 := same_new (o := HO.lst []) ha3
      have u4 := same_new (o := HO.lst [.int 97, .int 32, .int 123, .int 40, .int 34, .int 37, .int 34, .int 41, .int 58, .int 32, .int 49, .int 125]) ha4
      have u5 := same_new (o := HO.lst [.ref a1, .ref a2, .ref a3, .ref a4]) ha5
      have uAll := (((u1.trans u2).trans u3).trans u4).trans u5
      have eu := Drawn.of_same uAll e3.ok
      have E4 := E3.trans eu
      have fr : ∀ a, (a = a1 ∨ a = a2 ∨ a = a3 ∨ a = a4 ∨ a = a5) → G3 a = none := fun a ha => by
        rcases ha with rfl | rfl | rfl | rfl | rfl
        · exact ha1
        · exact u1.free ha2
        · exact u1.free (u2.free ha3)
        · exact u1.free (u2.free (u3.free ha4))
        · exact u1.free (u2.free (u3.free (u4.free ha5)))
      refine ⟨_, rfl, st, cl, 4, rfl, E4.ok, by decide, by decide, fun v G4 e4 v0 v1 => ?_⟩
      have up : ∀ {a : Addr} {o : HO} {H : Hp}, H = upd (upd (upd (upd (upd G3 a1 (.lst [.int 97, .int 98])) a2 (.lst [.int 200])) a3 (.lst [])) a4 (.lst [.int 97, .int 32, .int 123, .int 40, .int 34, .int 37, .int 34, .int 41, .int 58, .int 32, .int 49, .int 125])) a5 (.lst [.ref a1, .ref a2, .ref a3, .ref a4]) → (a = a1 ∨ a = a2 ∨ a = a3 ∨ a = a4 ∨ a = a5) → H a = some o → G4 a = some o := fun {a o H} hH ha h => by
        obtain ⟨c, z, th, S⟩ := e3.ok
        obtain ⟨h1, h2⟩ := S.away (fr a ha)
        subst hH
        exact e4.but a _ h1 h2 h
      have g1 := up (a := a1) rfl (.inl rfl) (u5 _ _ (u4 _ _ (u3 _ _ (u2 _ _ upd_same))))
      have g2 := up (a := a2) rfl (.inr (.inl rfl)) (u5 _ _ (u4 _ _ (u3 _ _ upd_same)))
      have g3 := up (a := a3) rfl (.inr (.inr (.inl rfl))) (u5 _ _ (u4 _ _ upd_same))
      have g4 := up (a := a4) rfl (.inr (.inr (.inr (.inl rfl)))) (u5 _ _ upd_same)
      have g5 := up (a := a5) rfl (.inr (.inr (.inr (.inr rfl)))) upd_same
      have pick : ∃ a tx, atI [V.ref a1, .ref a2, .ref a3, .ref a4] v = some (.ref a) ∧ G4 a = some (.lst (bV tx)) ∧ tx.length ≤ 12 ∧ ∀ x ∈ tx, x < 256 := by
        rcases fourJ v0 v1 with rfl | rfl | rfl | rfl
        · exact ⟨a1, [97, 98], atI_nat (j := 0) rfl, g1, by decide, by decide⟩
        · exact ⟨a2, [200], atI_nat (j := 1) rfl, g2, by decide, by decide⟩
        · exact ⟨a3, [], atI_nat (j := 2) rfl, g3, by decide, by decide⟩
        · exact ⟨a4, [97, 32, 123, 40, 34, 37, 34, 41, 58, 32, 49, 125], atI_nat (j := 3) rfl, g4, by decide, by decide⟩
      obtain ⟨a, tx, hat, hG, htl, htb⟩ := pick
      refine ⟨a5, _, v, _, rfl, rfl, sq_l g5, hat, ?_⟩
      refine ⟨_, rfl, a, _, rfl, .inl (sq_l hG), (by show 2 ≤ sizeLine; decide), fun b1 hb1 => ?_⟩
      rw [bV_len]
      have w1 := same_new (o := HO.lst [V.int 0, .int (tx.length : Int)]) hb1
      have e2l : (HO.lst [V.int 0, .int (tx.length : Int)]) = .lst (bV [0, tx.length]) := rfl
      refine ⟨_, rfl, b1, a, bV [0, tx.length], bV tx, rfl, rfl, upd_same, w1 _ _ hG, by rw [bV_len, bV_len, sizeLine_eq]; simp; omega, fun b2 hb2 => ?_⟩
      have ec : bV [0, tx.length] ++ bV tx = bV ([0, tx.length] ++ tx) := by unfold bV; rw [List.map_append]
      rw [ec]
      have w2 := same_new (o := HO.lst (bV ([0, tx.length] ++ tx))) hb2
      have hdb : ∀ x ∈ [0, tx.length] ++ tx, x < 256 := fun x hx => by
        rcases List.mem_append.mp hx with z | z
        · rcases List.mem_cons.mp z with z | z
          · omega
          · have := List.mem_singleton.mp z
            omega
        · exact htb x z
      have hk := chk_lt ([0, tx.length] ++ tx)
      refine ⟨_, rfl, _, rfl, b2, _, rfl, sq_l upd_same, (fun x hx => by have := hdb x hx; omega), chk ([0, tx.length] ++ tx), 4, rfl, by omega, .inr rfl, fun l3 G5 s5 hl3 hL3 => ?_⟩
      rw [if_neg (by decide)] at hL3
      refine ⟨b2, l3, _, _, rfl, rfl, s5 _ _ upd_same, hL3, ?_, fun l4 hl4 => ?_⟩
      · rw [bV_len, bV_len, sizeLine_eq, List.length_append]
        have h4 : (be4 (chk ([0, tx.length] ++ tx))).length = 4 := rfl
        have h2 : ([0, tx.length] : List Nat).length = 2 := rfl
        omega
      have ec2 : bV ([0, tx.length] ++ tx) ++ bV (be4 (chk ([0, tx.length] ++ tx))) = bV (([0, tx.length] ++ tx) ++ be4 (chk ([0, tx.length] ++ tx))) := by unfold bV; simp only [List.map_append]
      rw [ec2]
      have sAll := ((w1.trans w2).trans s5).trans (same_new (o := HO.lst (bV (([0, tx.length] ++ tx) ++ be4 (chk ([0, tx.length] ++ tx))))) hl4)
      have E5 := E4.trans e4
      refine q l4 _ _ (E5.trans (Drawn.of_same sAll e4.ok)) (E5.free (((w1.trans w2).trans s5).free hl4)) upd_same ?_ (fun x hx => ?_)
      · rw [List.length_append, List.length_append]
        have h4 : (be4 (chk ([0, tx.length] ++ tx))).length = 4 := rfl
        have h2 : ([0, tx.length] : List Nat).length = 2 := rfl
        omega
      · rcases List.mem_append.mp hx with z | z
        · exact hdb x z
        · exact be4_lt _ x z
    refine (if_neg (fun z => hv (by have := of_decide_eq_true z; injection this))).mpr ?_
    refine ⟨_, rfl, st, cl, 13, rfl, e3.ok, by decide, by decide, fun n G4 e4 n0 n1 => ⟨n, rfl, by omega, by omega, fun D hD => ?_⟩⟩
    have E4 := E3.trans e4
    refine lc_draw (st := st) (cl := cl) (j := 3) e4.ok hD (by omega) (fun _ v (b : Nat) => v = V.int (b : Int) ∧ b < 256) (fun _ _ _ _ _ z => z) (fun _ => rfl) ?_ ?_
    · intro i G hi d Q2 k
      refine ⟨_, rfl, st, cl, 256, rfl, d.ok, by decide, by decide, fun v H' d' v0 v1 => ?_⟩
      exact k _ v.toNat _ d' ⟨by congr 1; omega, by omega⟩
    · intro G acc bs d ha he hl
      obtain ⟨rfl, hb⟩ := bV_of he
      exact q D bs G (E4.trans d) (E4.free hD) ha (by omega) hb
end
end KA
set_option Elab.async false
set_option linter.all false
set_option maxRecDepth 100000
set_option maxHeartbeats 4000000
/-! lists of changes; _law_ends -/
namespace KA
open PySem PySem.Spec PyProof.Rows L2
open PySem.W (EachIs)
theorem okv_sm {v : Vn} (h : okv v) : ∀ n ∈ v.map kNamed, ∀ e ∈ n.2, smE e := fun n hn e he => by
  obtain ⟨m, hm, rfl⟩ := List.mem_map.mp hn
  obtain ⟨p, hp, rfl⟩ := List.mem_map.mp he
  exact smE_of ((h.1 m hm).2.1 p hp)
theorem okv_len {v : Vn} (h : okv v) : (fmtChange ((v.map kNamed).map vNamed)).length ≤ 65535 := by
  rw [map_vn]
  exact h.2
theorem okv_chr {v : Vn} (h : okv v) : chrsOk (v.map kNamed) := fun x hx => by
  rw [map_vn] at hx
  exact inC_lt (inC_chg h.1 x hx)
theorem ends_len : ∀ (a : Nat) (vs : List Vn), (endsN a vs).length = vs.length
  | _, [] => rfl
  | a, v :: t => by
    show (endsN _ t).length + 1 = t.length + 1
    rw [ends_len]
/-- a change of a list -/
def ChAt (H : Hp) (v : V) (x : Vn) : Prop := ∃ p, v = .ref p ∧ ChgAt H p (x.map kNamed)
theorem ChAt.mono {H H' : Hp} {v : V} {x : Vn} (s : Same H H') (h : ChAt H v x) : ChAt H' v x := by
  obtain ⟨p, e, h⟩ := h
  exact ⟨p, e, h.mono s⟩
def LChAt (H : Hp) (l : Addr) (vs : List Vn) : Prop := ∃ xs, H l = some (.lst xs) ∧ EachIs (ChAt H) xs vs
theorem LChAt.mono {H H' : Hp} {l : Addr} {vs : List Vn} (s : Same H H') (h : LChAt H l vs) : LChAt H' l vs := by
  obtain ⟨xs, h1, h2⟩ := h
  exact ⟨xs, s _ _ h1, h2.mono fun _ _ z => z.mono s⟩
theorem LChAt.of {H0 H : Hp} {v : V} {vs : List Vn} (h : ListS ChgS H0 H v vs) : ∃ l, v = .ref l ∧ H0 l = none ∧ LChAt H l vs := by
  obtain ⟨l, ivs, e, h0, h1, h2⟩ := h
  exact ⟨l, e, h0, ivs, h1, h2.mono fun x y z => chgS_at z⟩
section
variable {P : Program} {w : World} {K : PySem.W.Frag} {mg : Str → Option Value} {base : Heap} {f : Addr} {fd : FuncData}
def spEnds : Sp := fun vs H Q _ => ∃ (a : Addr) (xs : List Vn), vs = [.ref a] ∧ LChAt H a xs ∧ (∀ v ∈ xs, okv v) ∧ xs.length ≤ 100000 ∧ ∀ l H', Same H H' → H l = none → H' l = some (.lst (bV (endsN 0 xs))) → Q (.ref l) H'
theorem ok_ends (F : FnP K "_law_ends" s__law_ends f fd) (gL : mg "len" = none) (CR : Cal P w K mg base "_law_record" 5 ["change"] spRecord) : FnOk P w K mg base CX0 6 f fd ["changes"] spEnds := by
  refine F.ok sc__law_ends (fun vs H Q E h => ?_) (fun cdv A outer s H vs Q E hr h => ?_)
  · obtain ⟨st, cl, rfl, _⟩ := h
    rfl
  · obtain ⟨a, xs, rfl, hx, hok, hn, q⟩ := h
    have nd := sc__law_ends.nd
    obtain ⟨ys, h1, h2⟩ := id hx
    have hl := h2.length
    refine ⟨_, PSs.nox (pss_cons (ps_set (i := 1) nd rfl (Or.inl rfl) (pe_lst pa_nil))
      (pss_cons (ps_set (i := 2) nd rfl (Or.inl rfl) pe_int)
      (pss_cons (ps_for PassesOwn.never rfl (pi_list (pv 0)) (pg_name (i := 3) nd rfl (Or.inl rfl))
        (pss_cons (ps_set (i := 2) nd rfl (Or.inl rfl) (pe_op op_add (pv 2) (pe_callB call_len_seq (by rfl) gL PySem.boot_len (pa_cons (pe_cal CR hr (pa_cons (pv 3) pa_nil)) pa_nil))))
        (pss_one (ps_expr (pe_bm PySem.F.plainAttrs_list PySem.F.slot_list_append PySem.F.type_list_append mt_append (pv 1) (pa_cons (pv 2) pa_nil))))))
      (pss_one (ps_ret (pv 1)))))), ?_⟩
    refine ⟨Nat.zero_le _, fun l hl0 => ?_⟩
    have s0 := same_new (o := HO.lst []) hl0
    refine ⟨_, rfl, a, rfl, ⟨_, sq_l (s0 _ _ h1)⟩, for_it (walk_list (xs := ys)) (fun i σ G => (∃ v, σ = [some (.ref a), some (.ref l), some (.int ((recsN (xs.take i)).length : Int)), v]) ∧ Same H G ∧ G l = some (.lst (bV (endsN 0 (xs.take i))))) ⟨⟨none, rfl⟩, s0, upd_same⟩ (fun i σ G _ z => sq_l (z.2.1 _ _ h1)) ?_ ?_⟩
    · rintro i x σ _ G hi ⟨⟨v, rfl⟩, sG, hG⟩ ⟨rfl, hx⟩
      have hxi : xs[i]? = some (xs[i]'(by omega)) := List.getElem?_eq_getElem (by omega)
      revert hxi
      generalize xs[i]'(by omega) = u
      intro hxi
      obtain ⟨p, rfl, hp⟩ := (each_get h2 hx hxi).mono sG
      have hu := hok u (List.mem_of_getElem? hxi)
      have hul := okv_len hu
      refine ⟨_, rfl, _, rfl, p, _, rfl, hp, okv_sm hu, by omega, okv_chr hu, fun r H1 s1 hr0 hR => ?_⟩
      rw [map_vn] at hR
      refine ⟨r, _, rfl, .inl (sq_l hR), _, _, rfl, rfl, ?_⟩
      have hG1 := s1 _ _ hG
      rw [bV_len]
      have et : xs.take (i + 1) = xs.take i ++ [u] := by rw [List.take_add_one, hxi]; rfl
      have ea : ((recsN (xs.take i)).length : Int) + ((recd (fmtChange u)).length : Int) = ((recsN (xs.take (i + 1))).length : Int) := by
        rw [et, recsN_snoc, List.length_append]
        unfold rcN
        omega
      dsimp only
      rw [ea]
      refine ⟨_, rfl, .inl ⟨rfl, _, sq_l hG1⟩, _, rfl, l, _, _, rfl, rfl, hG1, ?_, ⟨some (.ref p), rfl⟩, same_mut (sG.trans s1) hl0, ?_⟩
      · rw [bV_len, ends_len, List.length_take, sizeLine_eq]; omega
      · rw [upd_same, et, endsN_snoc]
        show _ = some (HO.lst (List.map _ _))
        rw [List.map_append, ← et]
        have e0 : 0 + (recsN (xs.take (i + 1))).length = (recsN (xs.take (i + 1))).length := Nat.zero_add _
        rw [e0]
        rfl
    · rintro σ G ⟨⟨v, rfl⟩, sG, hG⟩
      rw [hl, List.take_length] at hG
      exact ⟨_, rfl, q l G sG hl0 hG⟩
end
end KA
set_option Elab.async false
set_option linter.all false
set_option maxRecDepth 100000
set_option maxHeartbeats 4000000
/-! the longest change -/
namespace KA
open PySem PySem.Spec PyProof.Rows L2
open PySem.W (EachIs)
def prE (k : Nat) : Row × Int := ([.inl ((10000 : Int) + (k : Int))], 1)
def longB (z : Str) : Bag := (List.range 5460).map prE ++ [([.inr z], 1)]
def longC (z : Str) : Chg := [(("a" : Str), longB z)]
theorem sum_const {α : Type} {f : α → Nat} {c : Nat} : ∀ l : List α, (∀ x ∈ l, f x = c) → (l.map f).sum = l.length * c
  | [], _ => by simp
  | a :: t, h => by
    rw [List.map_cons, List.sum_cons, sum_const t fun x hx => h x (List.mem_cons_of_mem _ hx), h a List.mem_cons_self, List.length_cons, Nat.succ_mul]
    omega
theorem flat_len (sep : List Nat) : ∀ t : List (List Nat), ((t.map fun b => sep ++ b).flatten).length = (t.map List.length).sum + t.length * sep.length
  | [] => by simp
  | a :: t => by
    rw [List.map_cons, List.flatten_cons, List.length_append, List.length_append, flat_len sep t, List.map_cons, List.sum_cons, List.length_cons, Nat.succ_mul]
    omega
theorem joined_total (sep : List Nat) : ∀ ts : List (List Nat), ts ≠ [] → (joined sep ts).length + sep.length = (ts.map List.length).sum + ts.length * sep.length
  | [], h => absurd rfl h
  | a :: t, _ => by
    rw [joined_cons, List.length_append, flat_len, List.map_cons, List.sum_cons, List.length_cons, Nat.succ_mul]
    omega
theorem dec_five {n : Nat} (h1 : 10000 ≤ n) (h2 : n < 100000) : (dec n).length = 5 := by
  have a1 := dec_len 4 n h2
  have a2 : ¬ (dec n).length ≤ 4 := fun h => by
    have := dec_lt 4 n h
    omega
  omega
theorem pr_len {k : Nat} (h : k < 5460) : (fmtPair (vPair (prE k))).length = 10 := by
  rw [pair_part]
  have e1 : (fmtRow ((prE k).1.map vlOf)).length = 7 := by
    show (40 :: (joined comma [fmtInt ((10000 : Int) + (k : Int))] ++ [41])).length = 7
    rw [List.length_cons, List.length_append, joined_cons]
    have : (fmtInt ((10000 : Int) + (k : Int))).length = 5 := by
      unfold fmtInt
      rw [if_neg (by omega)]
      exact dec_five (by omega) (by omega)
    rw [List.length_append, this]
    rfl
  have e2 : (fmtInt (prE k).2).length = 1 := by
    show (fmtInt 1).length = 1
    unfold fmtInt
    rw [if_neg (by decide)]
    show (dec 1).length = 1
    rw [dec_small (by decide)]
    rfl
  rw [e1, e2]
theorem tx_len (z : Str) : (fmtPair (vPair (([.inr z], 1) : Row × Int))).length = z.length + 7 := by
  rw [pair_part]
  have e1 : (fmtRow (([.inr z] : Row).map vlOf)).length = z.length + 4 := by
    show (40 :: (joined comma [34 :: (z.cps.toList ++ [34])] ++ [41])).length = _
    rw [List.length_cons, List.length_append, joined_cons]
    show ((34 :: (z.cps.toList ++ [34])) ++ []).length + 1 + 1 = _
    rw [List.append_nil, List.length_cons, List.length_append]
    show z.length + 1 + 1 + 1 + 1 = _
    omega
  have e2 : (fmtInt 1).length = 1 := by
    unfold fmtInt
    rw [if_neg (by decide)]
    show (dec 1).length = 1
    rw [dec_small (by decide)]
    rfl
  show (fmtRow (([.inr z] : Row).map vlOf)).length + 2 + (fmtInt 1).length = _
  rw [e1, e2]
theorem long_len (z : Str) : (fmtChange ((longC z).map vNamed)).length = 65531 + z.length := by
  show (joined semi [fmtNamed (vNamed (("a" : Str), longB z))]).length = _
  rw [joined_cons, List.length_append]
  show _ + 0 = _
  rw [Nat.add_zero, named_part]
  show (1 : Nat) + 1 + (123 :: (joined comma (((longB z).map vPair).map fmtPair) ++ [125])).length = _
  rw [List.length_cons, List.length_append]
  have h := joined_total comma (((longB z).map vPair).map fmtPair) (by unfold longB; simp)
  have hc : comma.length = 2 := rfl
  have hn : (((longB z).map vPair).map fmtPair).length = 5461 := by
    rw [List.length_map, List.length_map]
    unfold longB
    rw [List.length_append, List.length_map, List.length_range]
    rfl
  have hs : ((((longB z).map vPair).map fmtPair).map List.length).sum = 54600 + (z.length + 7) := by
    unfold longB
    rw [List.map_append, List.map_append, List.map_append, List.sum_append, List.map_map, List.map_map, List.map_map, sum_const (c := 10)]
    · rw [List.length_range]
      show 5460 * 10 + ([(fmtPair (vPair (([.inr z], 1) : Row × Int))).length]).sum = _
      rw [tx_len]
      simp
    · intro k hk
      exact pr_len (List.mem_range.mp hk)
  rw [hs, hn, hc] at h
  have h125 : ([125] : List Nat).length = 1 := rfl
  rw [h125]
  omega
theorem pr_ok {k : Nat} (h : k < 5460) : RowOk (prE k).1 := ⟨(by show 1 ≤ 3; decide), fun x hx => by
  rw [show x = .inl ((10000 : Int) + (k : Int)) from List.mem_singleton.mp hx]
  exact vok_int (by omega) (by omega)⟩
theorem long_srt (z : Str) : (longB z).Pairwise fun x y => rowLt x.1 y.1 = true := by
  unfold longB
  rw [List.pairwise_append]
  refine ⟨?_, List.pairwise_singleton _ _, ?_⟩
  · rw [List.pairwise_map]
    refine List.pairwise_lt_range.imp fun {a b} h => ?_
    have ne : ¬ ((.inl ((10000 : Int) + (a : Int)) : Key) = .inl ((10000 : Int) + (b : Int))) := fun z => by
      injection z with z
      omega
    show rowLt [.inl ((10000 : Int) + (a : Int))] [.inl ((10000 : Int) + (b : Int))] = true
    unfold rowLt
    rw [if_neg ne]
    exact decide_eq_true (by omega)
  · intro x hx y hy
    obtain ⟨k, _, rfl⟩ := List.mem_map.mp hx
    rw [List.mem_singleton.mp hy]
    show rowLt [.inl ((10000 : Int) + (k : Int))] [.inr z] = true
    unfold rowLt
    rw [if_neg (fun h => by cases h)]
    rfl
theorem long_row {z : Str} (h : VOk (.inr z)) : ∀ e ∈ longB z, RowOk e.1 ∧ e.2 = 1 := fun e he => by
  rcases List.mem_append.mp he with y | y
  · obtain ⟨k, hk, rfl⟩ := List.mem_map.mp y
    exact ⟨pr_ok (List.mem_range.mp hk), rfl⟩
  · rw [List.mem_singleton.mp y]
    exact ⟨⟨(by show 1 ≤ 3; decide), fun x hx => by rw [List.mem_singleton.mp hx]; exact h⟩, rfl⟩
theorem long_ok {z : Str} (h : VOk (.inr z)) : okChange asc ((longC z).map vNamed) := fun p hp => by
  rw [show p = vNamed (("a" : Str), longB z) from List.mem_singleton.mp hp]
  refine ⟨ok_a, fun q hq => ?_, asc_of (long_srt z)⟩
  obtain ⟨e, he, rfl⟩ := List.mem_map.mp hq
  obtain ⟨h1, h2⟩ := long_row h e he
  exact ⟨rowOk_ok h1, okInt_of (n := e.2) (by rw [h2]; decide), by show e.2 ≠ 0; rw [h2]; decide⟩
theorem long_sm {z : Str} (h : VOk (.inr z)) : ∀ n ∈ longC z, ∀ e ∈ n.2, smE e := fun n hn e he => by
  rw [show n = (("a" : Str), longB z) from List.mem_singleton.mp hn] at he
  obtain ⟨h1, h2⟩ := long_row h e he
  exact ⟨fun k hk => VOk.sm (h1.2 k hk), by rw [h2]; decide⟩
theorem long_chr {z : Str} (h : VOk (.inr z)) : chrsOk (longC z) := fun x hx => inC_lt (inC_chg (long_ok h) x hx)
def txL (o : Nat) : Str := Txt.mul "x" (4 + (o : Int))
theorem tx0 : VOk (.inr (txL 0)) := ⟨by decide +kernel, by decide +kernel, by decide +kernel⟩
theorem tx1 : VOk (.inr (txL 1)) := ⟨by decide +kernel, by decide +kernel, by decide +kernel⟩
theorem tx0_len : (txL 0).length = 4 := by decide +kernel
theorem tx1_len : (txL 1).length = 5 := by decide +kernel
end KA
set_option Elab.async false
set_option linter.all false
set_option maxRecDepth 100000
set_option maxHeartbeats 4000000
/-! _law_long -/
namespace KA
open PySem PySem.Spec PyProof.Rows L2
open PySem.W (EachIs)
theorem op_mulS {X : Cx} : OpR X (binaryOp .Mult) (fun x y H Q => ∃ z n, x = V.str z ∧ y = V.int n ∧ MulOk z n ∧ Q (.str (Txt.mul z n)) H) := by
  intro pins s σ H x y v u Q I rx ry h
  obtain ⟨z, n, rfl, rfl, ok, q⟩ := h
  obtain ⟨t, rfl⟩ := rx
  obtain ⟨t', rfl⟩ := ry
  exact PySem.SB.mul ok fun t' k => ⟨.str _, H, I.tok _, ⟨_, rfl⟩, q⟩
theorem mul_ok0 : MulOk "x" ((4 : Int) + ((0 : Nat) : Int)) := ⟨by decide, fun _ _ => by decide +kernel, fun _ _ => by decide +kernel⟩
theorem mul_ok1 : MulOk "x" ((4 : Int) + ((1 : Nat) : Int)) := ⟨by decide, fun _ _ => by decide +kernel, fun _ _ => by decide +kernel⟩
section
variable {P : Program} {w : World} {K : PySem.W.Frag} {mg : Str → Option Value} {base : Heap} {f : Addr} {fd : FuncData}
def spLong : Sp := fun vs H Q _ => ∃ o : Nat, vs = [.int o] ∧ o ≤ 1 ∧ ∀ p H', Same H H' → ChgAt H' p (longC (txL o)) → Q (.ref p) H'
theorem ok_long (F : FnP K "_law_long" s__law_long f fd) (gR : mg "range" = none) : FnOk P w K mg base CX0 1 f fd ["over"] spLong := by
  refine F.ok sc__law_long (fun vs H Q E h => ?_) (fun cdv A outer s H vs Q E hr h => ?_)
  · obtain ⟨o, rfl, _⟩ := h
    rfl
  · obtain ⟨o, rfl, ho, q⟩ := h
    have nd := sc__law_long.nd
    refine ⟨_, PSs.nox (pss_cons (ps_setLc (i := 1) (own := [("k", 2)]) (g := gName 2) (tt := tYes) (by rfl) nd rfl rfl (sw_true rfl rfl rfl (by decide +kernel)) (pi_range1 rfl gR (pa_cons pe_int pa_nil))
        (blkOk_by (own := [("k", 2)]) (N := ["over", "pairs", "k"]) (sc := defScope s__law_long) (by decide +kernel)) (fun _ _ _ _ _ => pg_name (i := 2) nd rfl (Or.inl rfl)) (fun _ _ _ _ _ => pts_nil)
        (fun _ _ _ _ _ => pe_tup (pa_cons (pe_tup (pa_cons (pe_op op_add pe_int (pv 2)) pa_nil)) (pa_cons pe_int pa_nil))))
      (pss_one (ps_ret (pe_lst (pa_cons (pe_tup (pa_cons pe_str (pa_cons (pe_op op_cat (pv 1) (pe_lst (pa_cons (pe_tup (pa_cons (pe_tup (pa_cons (pe_op op_mulS pe_str (pe_op op_add pe_int (pv 0))) pa_nil)) (pa_cons pe_int pa_nil))) pa_nil))) pa_nil))) pa_nil))))), ?_⟩
    refine ⟨5460, rfl, by decide, by decide, fun D hD => ?_⟩
    refine lc_same walk_range (List.range 5460) (by rw [List.length_range]; rfl) (fun _ => true) (fun H v k => ∃ t, v = .ref t ∧ PairAt H t (prE k)) (fun H H' v b s ⟨t, e, z⟩ => ⟨t, e, z.tk s⟩) hD (fun _ _ => trivial) (by decide) ?_ ?_
    · rintro i x b H1 _ hi hb s1 ⟨rfl, rfl⟩ Q' Qn k1 _
      have hi5 : i < 5460 := hi
      obtain rfl : i = b := by
        rw [List.getElem?_range hi5] at hb
        exact Option.some.inj hb
      refine ⟨rfl, yes_in ⟨_, rfl, _, _, rfl, rfl, (by show 1 ≤ sizeLine; decide), fun t1 ht1 => ⟨(by show 2 ≤ sizeLine; decide), fun t2 ht2 => ?_⟩⟩⟩
      have u1 := same_new (o := HO.tup [.int ((10000 : Int) + (0 + (i : Int)))]) ht1
      have u2 := same_new (o := HO.tup [.ref t1, .int 1]) ht2
      have e0 : (10000 : Int) + (0 + (i : Int)) = (10000 : Int) + (i : Int) := by omega
      refine k1 rfl _ _ (u1.trans u2) ⟨t2, rfl, t1, upd_same, ?_⟩
      show _ = some (HO.tup [V.int ((10000 : Int) + (i : Int))])
      rw [← e0]
      exact u2 _ _ upd_same
    · intro H1 acc s1 ha he
      rw [filter_true] at he
      obtain ⟨ts, rfl, hts⟩ := each_list (P := fun t k => PairAt H1 t (prE k)) (fun v n z => z) he
      have hl := hts.length
      rw [List.length_range] at hl
      have hm : MulOk "x" ((4 : Int) + (o : Int)) := by
        match o, ho with
        | 0, _ => exact mul_ok0
        | 1, _ => exact mul_ok1
      refine ⟨_, rfl, _, rfl, _, _, rfl, rfl, _, _, rfl, rfl, hm, (by show 1 ≤ sizeLine; decide), fun t1 ht1 => ⟨(by show 2 ≤ sizeLine; decide), fun t2 ht2 => ⟨(by show 1 ≤ sizeLine; decide), fun p3 hp3 => ?_⟩⟩⟩
      have u1 := same_new (o := HO.tup [.str (txL o)]) ht1
      have u2 := same_new (o := HO.tup [.ref t1, .int 1]) ht2
      have u3 := same_new (o := HO.lst [.ref t2]) hp3
      have ha3 := u3 _ _ (u2 _ _ (u1 _ _ ha))
      refine ⟨D, p3, _, _, rfl, rfl, ha3, upd_same, ?_, fun p4 hp4 => ⟨(by show 2 ≤ sizeLine; decide), fun t5 ht5 => ⟨(by show 1 ≤ sizeLine; decide), fun p6 hp6 => ?_⟩⟩⟩
      · rw [List.length_map, hl, sizeLine_eq]
        exact (by decide : 5460 + 1 ≤ 16777216)
      have u4 := same_new (o := HO.lst (ts.map V.ref ++ [.ref t2])) hp4
      have u5 := same_new (o := HO.tup [.str "a", .ref p4]) ht5
      have u6 := same_new (o := HO.lst [.ref t5]) hp6
      have u46 := (u4.trans u5).trans u6
      have u16 := ((u1.trans u2).trans u3).trans u46
      refine q p6 _ (s1.trans u16) ⟨[t5], upd_same, .cons ⟨p4, u6 _ _ upd_same, ts ++ [t2], ?_, ?_⟩ .nil⟩
      · rw [List.map_append]
        exact u6 _ _ (u5 _ _ upd_same)
      · exact each_app2 (each_map_r (R := PairAt _) prE (hts.mono fun t k z => z.mono u16)) (.cons ⟨t1, u46 _ _ (u3 _ _ upd_same), u46 _ _ (u3 _ _ (u2 _ _ upd_same))⟩ .nil)
end
end KA
set_option Elab.async false
set_option linter.all false
set_option maxRecDepth 100000
set_option maxHeartbeats 4000000
/-! data: changes, lists of changes -/
namespace KA
open PySem PySem.Spec PyProof.Rows L2
open PySem.W (EachIs)
theorem pair_plain (e : Row × Int) : (pairD e).plain = true := by
  have h := row_plain e.1
  simp only [pairD, PyData.plain, PyData.plainAll, h, Bool.and_self]
theorem bag_plain (b : Bag) : (bagD b).plain = true := by
  show PyData.plainAll (b.map pairD) = true
  induction b with
  | nil => rfl
  | cons e t ih => simp [PyData.plainAll, pair_plain e, ih]
theorem pair_depth (e : Row × Int) : (pairD e).depth ≤ 4 := by
  have h := row_depth e.1
  simp only [pairD, PyData.depth, PyData.depthAll]
  omega
theorem bag_depth (b : Bag) : (bagD b).depth ≤ 5 := by
  have key : ∀ b : Bag, PyData.depthAll (b.map pairD) ≤ 4 := fun b => by
    induction b with
    | nil => simp [PyData.depthAll]
    | cons e t ih =>
      have h := pair_depth e
      simp only [List.map_cons, PyData.depthAll]
      omega
  have h := key b
  simp only [bagD, PyData.depth]
  omega
def namedD (e : Str × Bag) : PyData := .tuple [.str e.1, bagD e.2]
def chgD (c : Chg) : PyData := .list (c.map namedD)
theorem dp_named {K : PySem.W.Frag} {H : Hp} {t : Addr} {e : Str × Bag} (h : NamedAt H t e) : Dp K H (.ref t) (namedD e) := by
  obtain ⟨l, h1, h2⟩ := h
  exact .tup (sq_t h1) (.cons (.str _) (.cons (dp_bag h2) .nil))
theorem dp_chg {K : PySem.W.Frag} {H : Hp} {p : Addr} {c : Chg} (h : ChgAt H p c) : Dp K H (.ref p) (chgD c) := by
  obtain ⟨ts, h1, h2⟩ := h
  exact .lst (sq_l h1) (dp_each (D := namedD) (fun _ _ q => dp_named q) h2)
theorem chg_plain (c : Chg) : (chgD c).plain = true := by
  unfold chgD
  simp only [PyData.plain]
  induction c with
  | nil => simp [PyData.plainAll]
  | cons e t ih =>
    have := bag_plain e.2
    simp [PyData.plainAll, namedD, PyData.plain, this, ih]
theorem chg_depth (c : Chg) : (chgD c).depth ≤ 7 := by
  have key : ∀ c : Chg, PyData.depthAll (c.map namedD) ≤ 6 := fun c => by
    induction c with
    | nil => simp [PyData.depthAll]
    | cons e t ih =>
      have h := bag_depth e.2
      simp only [List.map_cons, PyData.depthAll, namedD, PyData.depth]
      omega
  have h := key c
  simp only [chgD, PyData.depth]
  omega
def lchD (vs : List Vn) : PyData := .list (vs.map fun v => chgD (v.map kNamed))
theorem dp_lch {K : PySem.W.Frag} {H : Hp} {l : Addr} {vs : List Vn} (h : LChAt H l vs) : Dp K H (.ref l) (lchD vs) := by
  obtain ⟨xs, h1, h2⟩ := h
  refine .lst (sq_l h1) ?_
  clear h1
  induction h2 with
  | nil => exact .nil
  | cons a t ih =>
    obtain ⟨p, rfl, hp⟩ := a
    exact .cons (dp_chg hp) ih
theorem lch_plain (vs : List Vn) : (lchD vs).plain = true := by
  unfold lchD
  simp only [PyData.plain]
  induction vs with
  | nil => simp [PyData.plainAll]
  | cons e t ih =>
    have := chg_plain (e.map kNamed)
    simp only [List.map_cons, PyData.plainAll, this, ih, Bool.and_self]
theorem lch_depth (vs : List Vn) : (lchD vs).depth ≤ 8 := by
  have key : ∀ vs : List Vn, PyData.depthAll (vs.map fun v => chgD (v.map kNamed)) ≤ 7 := fun vs => by
    induction vs with
    | nil => simp [PyData.depthAll]
    | cons e t ih =>
      have h := chg_depth (e.map kNamed)
      simp only [List.map_cons, PyData.depthAll]
      omega
  have h := key vs
  simp only [lchD, PyData.depth]
  omega
def foundD (vs : List Vn) (n : Nat) : PyData := .tuple [lchD vs, .int (n : Int)]
theorem dp_found {K : PySem.W.Frag} {H : Hp} {t l : Addr} {vs : List Vn} {n : Nat} (h : H t = some (.tup [.ref l, .int (n : Int)])) (hl : LChAt H l vs) : Dp K H (.ref t) (foundD vs n) :=
  .tup (sq_t h) (.cons (dp_lch hl) (.cons (.int _) .nil))
theorem found_plain (vs : List Vn) (n : Nat) : (foundD vs n).plain = true := by
  have := lch_plain vs
  simp only [foundD, PyData.plain, PyData.plainAll, this, Bool.and_self]
theorem found_depth (vs : List Vn) (n : Nat) : (foundD vs n).depth ≤ 9 := by
  have := lch_depth vs
  simp only [foundD, PyData.depth, PyData.depthAll]
  omega
theorem ne_of_dp {K : PySem.W.Frag} {H : Hp} {x y : V} {d : PyData} {Q : VK} (hx : Dp K H x d) (hy : Dp K H y d) (hp : d.plain = true) (hd : d.depth ≤ 60) (h : Q (.bl false) H) : rNeP K x y H Q := by
  refine ⟨_, _, hx, hy, hp, hp, hd, ?_⟩
  rw [SeqAt.eqv_refl_plain _ hp]
  exact h
theorem eq_of_dp {K : PySem.W.Frag} {H : Hp} {x y : V} {d : PyData} {Q : VK} (hx : Dp K H x d) (hy : Dp K H y d) (hp : d.plain = true) (hd : d.depth ≤ 60) (h : Q (.bl true) H) : rEqP K x y H Q := by
  refine ⟨_, _, hx, hy, hp, hp, hd, ?_⟩
  rw [SeqAt.eqv_refl_plain _ hp]
  exact h
theorem ne_bytes {K : PySem.W.Frag} {H : Hp} {a b : Addr} {d e : List Nat} {Q : VK} (ha : SqL K H a (bV d)) (hb : SqL K H b (bV e)) (z : d = e) (h : Q (.bl false) H) : rNeP K (.ref a) (.ref b) H Q := by
  subst z
  exact ne_of_dp (dp_bytes ha) (dp_bytes hb) (bytes_plain d) (Nat.le_trans (bytes_depth d) (by decide)) h
theorem ne_lch {K : PySem.W.Frag} {H : Hp} {a b : Addr} {d e : List Vn} {Q : VK} (ha : LChAt H a d) (hb : LChAt H b e) (z : d = e) (h : Q (.bl false) H) : rNeP K (.ref a) (.ref b) H Q := by
  subst z
  exact ne_of_dp (dp_lch ha) (dp_lch hb) (lch_plain d) (Nat.le_trans (lch_depth d) (by decide)) h
theorem ne_found {K : PySem.W.Frag} {H : Hp} {s t a b : Addr} {d e : List Vn} {n m : Nat} {Q : VK} (hs : H s = some (.tup [.ref a, .int (n : Int)])) (ha : LChAt H a d) (ht : H t = some (.tup [.ref b, .int (m : Int)])) (hb : LChAt H b e) (z : d = e) (zn : n = m) (h : Q (.bl false) H) : rNeP K (.ref s) (.ref t) H Q := by
  subst z zn
  exact ne_of_dp (dp_found hs ha) (dp_found ht hb) (found_plain d n) (Nat.le_trans (found_depth d n) (by decide)) h
end KA
set_option Elab.async false
set_option linter.all false
set_option maxRecDepth 100000
set_option maxHeartbeats 4000000
/-! _law_sizes_right -/
namespace KA
open PySem PySem.Spec PyProof.Rows L2
open PySem.W (EachIs)
def tMethW (C : Addr) (m : Str) (sp : Sp) (E : L2.St → XK) (to : TE) (t : TA) : TE := fun τ H Q => to τ H fun x G => ∃ (a dx : Addr) (fs : List (Str × V)), x = .ref a ∧ G a = some (.ins C dx fs) ∧ fs.lookup m = none ∧ t τ G fun vs G2 => sp (x :: vs) G2 Q (E τ)
theorem pe_methW {X : Cx} {CX : CXT} {k : Nat} {g C : Addr} {fd : FuncData} {ps : List Str} {sp : Sp} {E : L2.St → XK} {m : Str} {apos pos : Pos} {e o : Expr} {es : List Expr} {to : TE} {t : TA} {pl : Sem Bool} (ho : PE X o to) (c : Cls X.K C) (hm : Meth X.K C m g) (F : FnOk X.prog X.w X.K X.mg X.base CX k g fd ps sp)
    (hr : Room k X.A) (hb : Binds X.K fd ps []) (way : ∀ τ, PassesAt CX X τ (E τ)) (ha : PA X (e :: es) t) (star : starEach (e :: es) X.env = (false, eval e X.env) :: starEach es X.env := by rfl) (plain : (backTo pos (starEach es X.env)).any (·.1) = false := by rfl)
    (tree : eval (.Call (.Attribute o m apos) (e :: es) [] pos) X.env = (do
      let v0 ← eval o X.env
      standAt apos.atName
      let (fn, one) ← holding [v0] (getMethod v0 m pl)
      callWith pos fn one (backTo pos (starEach (e :: es) X.env)) (backToKw pos (keywordEach [] X.env))) := by rfl) :
    PE X (.Call (.Attribute o m apos) (e :: es) [] pos) (tMethW C m sp E to t) := by
  refine ⟨fun pins s τ H Q I h => ?_⟩
  refine PySem.W.methodCall_KW (pl := pl) (thn (ho.run pins s τ H _ I h) fun u s1 got => ?_) tree
  obtain ⟨x, G, J, rx, a, dx, fs, ex, ea, none, q⟩ := got
  subst ex
  obtain rfl : u = Value.ref a := rx
  refine getmeth_ok J ea c hm none ?_
  refine PySem.W.callWith_K (first := [.ref a]) (h₀ := X.base) J.ok.mod.kin hm.kp (thn (ha.run pos pins s1 τ G _ J q) fun us s2 args => ?_) star plain
  obtain ⟨vs, G2, J2, r2, q2⟩ := args
  exact ⟨J2.kIn, run_fnS (us := .ref a :: us) (vs := .ref a :: vs) F hr hb (way τ) J2 (.cons rfl r2) q2⟩
def rIsN (K : PySem.W.Frag) (cls : Value) (d : Option Addr) (a : Addr) : List V → Hp → VK → Prop := fun xs H Q => ∃ (D : Addr) (c : V) (cv : Value) (b : Bool), cls = .ref D ∧ d = none ∧ ExcC K D ∧ xs = [.ref a, c] ∧ (∀ u, RelV c u → u = cv) ∧ PySem.W.kitOne K (.ref D) cv = some b ∧ Q (.bl b) H
theorem call_isN {X : Cx} {a : Addr} {cls : Value} {d : Option Addr} {oe : Obj} {pn : List (Addr × Obj)} (hz : Zc cls d oe) (hf : ∃ vs, oe.data = .fields vs) : CallR (X.suite a ((a, oe) :: pn)) (.builtin "isinstance") (rIsN X.K cls d a) := by
  intro pins s σ H xs us Q I r h
  obtain ⟨D, c, cv, b, rfl, rfl, hC, hxs, hcv, hk, q⟩ := h
  exact call_isE hC hz hf pins s σ H xs us Q I r ⟨c, cv, b, hxs, hcv, hk, q⟩
theorem rdD_single {v : Vn} (h : okv v) : rdD (rcN v ++ [1]) = ([v], [1]) := by
  rw [rdD_rec h]
  rfl
theorem long_okv : okv ((longC (txL 0)).map vNamed) := ⟨long_ok tx0, by rw [long_len, tx0_len]; exact Nat.le_refl _⟩
section
variable {P : Program} {w : World} {K : PySem.W.Frag} {mg : Str → Option Value} {base : Heap} {f : Addr} {fd : FuncData} {C SE LE : Addr}
theorem scSizes : FnScope ["disk", "data", "e"] [] (defScope s__law_sizes_right) := ⟨rfl, rfl, rfl, by decide +kernel, rfl, by decide +kernel, by decide +kernel⟩
def tSay (K : PySem.W.Frag) (LE : Addr) : Addr → Value → Option Addr → TS := fun a cls d => tRet (tAndV (tCB (rIsN K cls d a) (tCons (tVar 2) (tCons (tC (V.ref LE)) tNil))) (tAndV (tOp (rEqP K) (tFld K (tVar 0) "data") (tLst tNil)) (tOp rEq (tFld K (tVar 0) "safe") (tC (.int 0)))))
def spSizes : Sp := fun vs H Q _ => vs = [] ∧ ∀ H', Same H H' → Q (.bl true) H'
theorem ok_sizes (F : FnP K "_law_sizes_right" s__law_sizes_right f fd) (T : DskC K mg C) (SC : SizeC K mg SE) (gL : mg "len" = none) (gI : mg "isinstance" = none) (gLE : mg "LoomError" = some (.ref LE)) (XC : ExcC K SE) (e1 : PySem.W.exmOne K (.ref SE) (.ref SE) = some true) (e2 : PySem.W.kitOne K (.ref SE) (.ref LE) = some true)
    (MI : MakeG P w K mg base CX0 C 1 ["self"] (spDInit C)) (MA : MethG P w K mg base (L2.CX P w) C "append" 6 ["self", "change"] (spDAppend C SE))
    (CE : CalX P w K mg base "encode_change" 5 ["change"] (spEncode SE)) (CLg : Cal P w K mg base "_law_long" 1 ["over"] spLong) (FC : Cal P w K mg base "format_change" 4 ["change"] spFmtChg) (CR : Cal P w K mg base "read_changes" 19 ["data"] (spReadChanges K)) : FnOk P w K mg base CX0 20 f fd [] spSizes := by
  obtain ⟨f1, d1, M1, G1, b1⟩ := MI.ex
  obtain ⟨f2, d2, m2, G2, b2⟩ := MA.ex
  refine F.ok scSizes (fun vs H Q E h => ?_) (fun cdv A outer s H vs Q E hr h => ?_)
  · obtain ⟨rfl, _⟩ := h
    rfl
  · obtain ⟨rfl, q⟩ := h
    have nd := scSizes.nd
    refine ⟨_, PSs.nox (pss_cons (ps_set (i := 0) nd rfl (Or.inl rfl) (pe_make0 M1 G1 hr.lt (by rfl) T.mgC b1 .nil pass0))
      (pss_cons (ps_set (i := 1) nd rfl (Or.inl rfl) (pe_calX (E := E0) CE hr.lt passL (pa_cons (pe_cal CLg hr.lt (pa_cons pe_int pa_nil)) pa_nil)))
      (pss_cons (ps_if (PW.pt (pw_or (pt_cmpR op_ne (pe_callB call_len_str (by rfl) gL PySem.boot_len (pa_cons (pe_cal FC hr.lt (pa_cons (pe_cal CLg hr.lt (pa_cons pe_int pa_nil)) pa_nil)) pa_nil)) pe_int (nomark _))
          (pw_or1 (pt_cmpR (op_neP hr.u64) (pe_slice sl_list (pv 1) po_none (po_some pe_int)) (pe_lst (pa_cons pe_int (pa_cons pe_int pa_nil))) (nomark _))))) (pss_one (ps_ret pe_bl)) pss_nil)
      (pss_cons (ps_if (pt_cmpR (op_neP hr.u64) (pe_cal CR hr (pa_cons (pe_op op_cat (pv 1) (pe_lst (pa_cons pe_int pa_nil))) pa_nil)) (pe_tup (pa_cons (pe_lst (pa_cons (pe_cal CLg hr.lt (pa_cons pe_int pa_nil)) pa_nil)) (pa_cons (pe_callB call_len_seq (by rfl) gL PySem.boot_len (pa_cons (pv 1) pa_nil)) pa_nil))) (nomark _)) (pss_one (ps_ret pe_bl)) pss_nil)
      (pss_cons (ps_try_as (i := 2) (n := "e") (ts := tSay K LE) rfl rfl nd rfl rfl ⟨rfl, by decide, .inl SC.gF⟩ takes0 (fun W pn xe tk _ => pss_one (ps_expr (pe_methW (pv 0) T.cl m2 G2 hr.lt b2 (fun τ => passAt tk τ) (pa_cons (pe_cal CLg hr.lt (pa_cons pe_int pa_nil)) pa_nil))))
        (fun a oe cls d pn hz hf => pss_one (ps_ret (pe_and (pe_callB (call_isN hz hf) (by rfl) gI (by decide +kernel) (pa_cons (pv 2) (pa_cons (pe_glob (v := .ref LE) rfl gLE rfl) pa_nil)))
          (pe_and (pe_cmpR (op_eqP hr.u64) (pe_fld (pv 0) rfl) (pe_lst pa_nil) (nomark _)) (pe_one (pe_cmpR op_eq (pe_fld (pv 0) rfl) pe_int (nomark _))))))))
      (pss_one (ps_ret pe_bl))))))), ?_⟩
    have big : (100 : Nat) ≤ sizeLine := by rw [sizeLine_eq]; decide
    have l0 : (fmtChange ((longC (txL 0)).map vNamed)).length = 65535 := by rw [long_len, tx0_len]
    have l1 : (fmtChange ((longC (txL 1)).map vNamed)).length = 65536 := by rw [long_len, tx1_len]
    refine fun x dx hx hdx ne => ⟨x, dx, rfl, upd_same, fun l G1 hl hbut hD => ⟨rfl, ?_⟩⟩
    have sM : Same H G1 := fun a o h => hbut a o (ne_of_none h hx) (by rw [upd_ne (ne_of_none h hx), upd_ne (ne_of_none h hdx)]; exact h)
    refine ⟨0, rfl, Nat.zero_le _, fun p2 G2 s2 hc2 => ⟨p2, longC (txL 0), rfl, hc2, long_sm tx0, by omega, long_chr tx0, fun _ l3 G3 s3 hl3 hL3 => ?_, fun h6 => absurd (by omega) h6⟩⟩
    obtain ⟨R, hR⟩ : ∃ R, R = recd (fmtChange ((longC (txL 0)).map vNamed)) := ⟨_, rfl⟩
    have hRl : R.length = 65541 := by rw [hR, recd_len, l0]
    have hRt : R.take 2 = [255, 255] := by
      rw [hR, recd_eq, l0]
      rfl
    have hR256 : ∀ y ∈ R, y < 256 := fun y hy => by
      rw [hR] at hy
      exact rcN_lt long_okv y hy
    have hRr : rdD (R ++ [1]) = ([(longC (txL 0)).map vNamed], [1]) := by
      rw [hR]
      exact rdD_single long_okv
    rw [← hR] at hL3
    refine ⟨0, rfl, Nat.zero_le _, fun p4 G4 s4 hc4 => ⟨p4, longC (txL 0), rfl, hc4, long_sm tx0, by omega, fun z G5 s5 hz => ?_⟩⟩
    have hzl : z.length = 65535 := by
      show z.cps.toList.length = _
      rw [hz, l0]
    refine ⟨z, rfl, by rw [hzl, sizeLine_eq]; decide, rfl, _, rfl, ?_⟩
    rw [hzl]
    refine (if_neg (by decide)).mpr ?_
    have s35 := s4.trans s5
    refine ⟨_, rfl, _, rfl, l3, _, rfl, sq_l (s35 _ _ hL3), fun p6 hp6 => ?_⟩
    dsimp only
    rw [show cutV (bV R) none (some 2) = bV (R.take 2) from cut_none R 2, hRt]
    have s6 := same_new (o := HO.lst (bV [255, 255])) hp6
    refine ⟨Nat.le_trans (by decide) big, fun p7 hp7 => ?_⟩
    have s7 := same_new (o := HO.lst [V.int 255, .int 255]) hp7
    refine ne_bytes (d := [255, 255]) (e := [255, 255]) (sq_l (s7 _ _ upd_same)) (sq_l upd_same) rfl ⟨_, rfl, ?_⟩
    refine (if_neg (by decide)).mpr ?_
    have s37 := s35.trans (s6.trans s7)
    refine ⟨_, rfl, Nat.le_trans (by decide) big, fun p8 hp8 => ?_⟩
    have s8 := same_new (o := HO.lst [V.int 1]) hp8
    have s38 := s37.trans s8
    refine ⟨l3, p8, _, _, rfl, rfl, s38 _ _ hL3, upd_same, by rw [bV_len, hRl, sizeLine_eq]; decide, fun p9 hp9 => ?_⟩
    have ecat : bV R ++ [V.int 1] = bV (R ++ [1]) := by unfold bV; rw [List.map_append]; rfl
    rw [ecat]
    have s9 := same_new (o := HO.lst (bV (R ++ [1]))) hp9
    refine ⟨p9, R ++ [1], rfl, sq_l upd_same, by rw [List.length_append, hRl]; decide, fun y hy => ?_, fun t v G10 s10 ht hv _ => ?_⟩
    · rcases List.mem_append.mp hy with k | k
      · exact hR256 y k
      · rw [List.mem_singleton.mp k]; decide
    rw [hRr] at ht hv
    dsimp only at ht hv
    obtain ⟨lv, rfl, _, hlv⟩ := LChAt.of hv
    have e65 : (R ++ [1]).length - ([1] : List Nat).length = 65541 := by rw [List.length_append, hRl]; rfl
    rw [e65] at ht
    have s310 := s38.trans (s9.trans s10)
    refine ⟨0, rfl, Nat.zero_le _, fun p11 G11 s11 hc11 => ⟨Nat.le_trans (show 1 ≤ 100 by decide) big, fun p12 hp12 => ?_⟩⟩
    have s12 := same_new (o := HO.lst [V.ref p11]) hp12
    have s312 := s310.trans (s11.trans s12)
    refine ⟨_, rfl, l3, _, rfl, .inl (sq_l (s312 _ _ hL3)), Nat.le_trans (show 2 ≤ 100 by decide) big, fun p13 hp13 => ?_⟩
    rw [bV_len, hRl]
    have s13 := same_new (o := HO.tup [V.ref p12, .int ((65541 : Nat) : Int)]) hp13
    refine ne_found (d := [(longC (txL 0)).map vNamed]) (e := [(longC (txL 0)).map vNamed]) (n := 65541) (m := 65541) ((s11.trans (s12.trans s13)) _ _ ht) (hlv.mono (s11.trans (s12.trans s13))) upd_same ⟨[.ref p11], s13 _ _ upd_same, .cons ⟨p11, rfl, by rw [map_nv]; exact hc11.mono (s12.trans s13)⟩ .nil⟩ rfl rfl ⟨_, rfl, ?_⟩
    refine (if_neg (by decide)).mpr ?_
    have s213 := (s2.trans s3).trans (s312.trans s13)
    have hD2 := hD.mono s213
    refine ⟨_, rfl, x, dx, _, rfl, hD2.hp, rfl, 1, rfl, Nat.le_refl _, fun p14 G14 s14 hc14 => ?_⟩
    have hD3 := hD2.mono s14
    refine ⟨x, dx, l, p14, 0, [], longC (txL 1), rfl, hD3, hc14, long_sm tx1, by omega, long_chr tx1, Nat.zero_le _, fun h6 => absurd h6 (by omega), fun _ G15 s15 => ?_⟩
    have hD4 := hD3.mono s15
    refine ⟨true, e1, fun _ a ha => ?_, fun z => nomatch z⟩
    refine ⟨_, rfl, SE, .ref LE, _, true, rfl, rfl, XC, rfl, (fun u z => z), e2, true, rfl, ?_⟩
    refine (if_pos rfl).mpr ?_
    refine ⟨_, rfl, x, C, dx, _, _, rfl, hD4.hp, T.cl, T.nD, rfl, Nat.zero_le _, fun p16 hp16 => ?_⟩
    have s16 := same_new (o := HO.lst []) hp16
    refine eq_of_dp (dp_bytes (d := []) (sq_l (s16 _ _ hD4.hl))) (dp_bytes (d := []) (sq_l upd_same)) (bytes_plain _) (Nat.le_trans (bytes_depth _) (by decide)) ⟨true, rfl, ?_⟩
    refine (if_pos rfl).mpr ?_
    refine ⟨_, rfl, x, C, dx, _, _, rfl, s16 _ _ hD4.hp, T.cl, T.nS, rfl, rfl, ?_⟩
    exact q _ ((((sM.trans s213).trans s14).trans s15).trans s16)
end
end KA
set_option Elab.async false
set_option linter.all false
set_option maxRecDepth 100000
set_option maxHeartbeats 4000000
/-! the law's own picture of a disk -/
namespace KA
open PySem PySem.Spec PyProof.Rows L2
open PySem.W (EachIs)
/-! ### a heap without some addresses -/
def away (H : Hp) (A : List Addr) : Hp := fun a => if a ∈ A then none else H a
theorem away_sub (H : Hp) (A : List Addr) : Same (away H A) H := fun a o h => by
  unfold away at h
  split at h
  · cases h
  · exact h
theorem away_at {H : Hp} {A : List Addr} {a : Addr} {o : HO} (n : a ∉ A) (h : H a = some o) : away H A a = some o := by
  unfold away
  rw [if_neg n]
  exact h
theorem away_of {H H' : Hp} {A A' : List Addr} (k : ∀ b o, b ∉ A → H b = some o → H' b = some o) (hA : ∀ a ∈ A', a ∈ A ∨ H a = none) : Same (away H A) (away H' A') := fun b o h => by
  unfold away at h
  split at h
  · cases h
  · rename_i n
    refine away_at (fun z => ?_) (k b o n h)
    rcases hA b z with y | y
    · exact n y
    · rw [y] at h; cases h
theorem away_same {H H' : Hp} (s : Same H H') (A : List Addr) : Same (away H A) (away H' A) := away_of (fun b o _ h => s b o h) fun a ha => .inl ha
theorem away_store {H : Hp} {A : List Addr} {m : Addr} (o : HO) (hm : m ∈ A) : Same (away H A) (away (upd H m o) A) := away_of (fun b o' n h => by rw [upd_ne (fun z => n (by rw [z]; exact hm))]; exact h) fun a ha => .inl ha
theorem away_new {H : Hp} {A : List Addr} {q : Addr} {o : HO} (live : ∀ a ∈ A, H a ≠ none) (hq : H q = none) : away (upd H q o) A q = some o := away_at (fun z => live q z hq) upd_same
structure MGeo where
  p : Addr
  dx : Addr
  m : Addr
  st : Addr
  cl : Addr
abbrev AL (g : MGeo) (l : Addr) : List Addr := [g.p, l, g.m, g.st, g.cl]
structure Fr (H : Hp) (g : MGeo) (l : Addr) : Prop where
  ok : StOk H g.st g.cl
  mp : g.m ≠ g.p
  ml : g.m ≠ l
  ms : g.m ≠ g.st
  mc : g.m ≠ g.cl
  ps : g.p ≠ g.st
  pc : g.p ≠ g.cl
  ls : l ≠ g.st
  lc : l ≠ g.cl
/-- the model at m stands with the disk at p -/
structure MAt (C : Addr) (H : Hp) (g : MGeo) (l : Addr) (D : List Nat) (S : Nat) (Cs : List Vn) (b4 b5 : Bool) : Prop where
  fr : Fr H g l
  dk : DskAt C H g.p g.dx l S D
  ex : ∃ mb mc me, H g.m = some (.lst [.ref mb, .int (S : Int), .ref mc, .ref me, .bl b4, .bl b5]) ∧ away H (AL g l) mb = some (.lst (bV D)) ∧ LChAt (away H (AL g l)) mc Cs ∧ away H (AL g l) me = some (.lst (bV (endsN 0 Cs)))
theorem StOk.store {H : Hp} {st cl m : Addr} {o : HO} (h : StOk H st cl) (h1 : m ≠ st) (h2 : m ≠ cl) : StOk (upd H m o) st cl := by
  obtain ⟨c, z, th, S⟩ := h
  exact ⟨c, z, th, by rw [upd_ne h1.symm]; exact S.hs, by rw [upd_ne h2.symm]; exact S.hc, S.lo, S.hi, S.len, S.nn⟩
theorem StOk.but {H H' : Hp} {st cl p : Addr} (h : StOk H st cl) (b : But p H H') (h1 : p ≠ st) (h2 : p ≠ cl) : StOk H' st cl := by
  obtain ⟨c, z, th, S⟩ := h
  exact ⟨c, z, th, b _ _ h1.symm S.hs, b _ _ h2.symm S.hc, S.lo, S.hi, S.len, S.nn⟩
theorem live_of {C : Addr} {H : Hp} {g : MGeo} {l : Addr} {S : Nat} {D : List Nat} {o : HO} (ok : StOk H g.st g.cl) (dk : DskAt C H g.p g.dx l S D) (hm : H g.m = some o) : ∀ a ∈ AL g l, H a ≠ none := fun a ha z => by
  obtain ⟨c, x, th, X⟩ := ok
  simp only [AL, List.mem_cons, List.not_mem_nil, or_false] at ha
  rcases ha with rfl | rfl | rfl | rfl | rfl
  · rw [dk.hp] at z; cases z
  · rw [dk.hl] at z; cases z
  · rw [hm] at z; cases z
  · rw [X.hs] at z; cases z
  · rw [X.hc] at z; cases z
theorem live_same {H H' : Hp} {A : List Addr} (s : Same H H') (h : ∀ a ∈ A, H a ≠ none) : ∀ a ∈ A, H' a ≠ none := fun a ha z => h a ha (s.free z)
theorem LChAt.away {H0 H : Hp} {v : V} {vs : List Vn} {A : List Addr} (live : ∀ a ∈ A, H0 a ≠ none) (h : ListS ChgS H0 H v vs) : ∃ l, v = .ref l ∧ H0 l = none ∧ LChAt (KA.away H A) l vs :=
  LChAt.of ((stn_list (stn_list (stn_named stn_bag))).mono _ _ _ _ _ (fun b o h0 e => away_at (fun z => live b z h0) e) h)
theorem each_take {α β : Type} {R : α → β → Prop} : ∀ {xs : List α} {ys : List β} (n : Nat), EachIs R xs ys → EachIs R (xs.take n) (ys.take n)
  | _, _, 0, _ => by simp only [List.take_zero]; exact .nil
  | _, _, n + 1, .nil => .nil
  | _, _, n + 1, .cons h t => .cons h (each_take n t)
theorem cut_noneV (xs : List V) (k : Nat) : cutV xs none (some (k : Int)) = xs.take k := by
  unfold cutV
  rw [HT.sIx_none, HT.sIx_nat, List.drop_zero, Nat.sub_zero]
  by_cases h : k ≤ xs.length
  · rw [Nat.min_eq_left h]
  · rw [Nat.min_eq_right (by omega), List.take_length, List.take_of_length_le (by omega)]
theorem filt_int (d : List Nat) (S : Nat) : (d.filter fun e => decide (((e : Nat) : Int) ≤ (S : Int))) = d.filter fun e => decide (e ≤ S) := by
  congr 1
  funext e
  by_cases h : e ≤ S
  · rw [decide_eq_true h, decide_eq_true (by omega)]
  · rw [decide_eq_false h, decide_eq_false (by omega)]
/-- the model's list, the state and the disk -/
structure Md (C : Addr) (H : Hp) (g : MGeo) (l : Addr) (S : Nat) (D : List Nat) (vs : List V) : Prop where
  hm : H g.m = some (.lst vs)
  ok : StOk H g.st g.cl
  dk : DskAt C H g.p g.dx l S D
theorem Md.same {C : Addr} {H H' : Hp} {g : MGeo} {l : Addr} {S : Nat} {D : List Nat} {vs : List V} (h : Md C H g l S D vs) (s : Same H H') : Md C H' g l S D vs := ⟨s _ _ h.hm, h.ok.same s, h.dk.mono s⟩
theorem Md.store {C : Addr} {H : Hp} {g : MGeo} {l : Addr} {S : Nat} {D : List Nat} {vs ws : List V} (f : Fr H g l) (h : Md C H g l S D vs) : Md C (upd H g.m (.lst ws)) g l S D ws :=
  ⟨upd_same, h.ok.store f.ms f.mc, by rw [upd_ne f.mp.symm]; exact h.dk.hp, by rw [upd_ne f.ml.symm]; exact h.dk.hl⟩
theorem Md.live {C : Addr} {H : Hp} {g : MGeo} {l : Addr} {S : Nat} {D : List Nat} {vs : List V} (h : Md C H g l S D vs) : ∀ a ∈ AL g l, H a ≠ none := live_of h.ok h.dk h.hm
theorem Fr.ok' {H H' : Hp} {g : MGeo} {l : Addr} (f : Fr H g l) (o : StOk H' g.st g.cl) : Fr H' g l := ⟨o, f.mp, f.ml, f.ms, f.mc, f.ps, f.pc, f.ls, f.lc⟩
theorem mem_m (g : MGeo) (l : Addr) : g.m ∈ AL g l := by simp [AL]
theorem Fr.move {H H' : Hp} {g : MGeo} {l l' : Addr} {o : HO} (f : Fr H g l) (ok : StOk H g.st g.cl) (hm : H g.m = some o) (hl : H l' = none) (o' : StOk H' g.st g.cl) : Fr H' g l' := by
  obtain ⟨c, z, th, S⟩ := ok
  exact ⟨o', f.mp, (fun z => by rw [← z, hm] at hl; cases hl), f.ms, f.mc, f.ps, f.pc, (fun z => by rw [z, S.hs] at hl; cases hl), (fun z => by rw [z, S.hc] at hl; cases hl)⟩
theorem set_md {C : Addr} {H : Hp} {g : MGeo} {l : Addr} {S : Nat} {D : List Nat} {xs ws : List V} {k : Int} {j : Nat} {v : V} {Q : Hp → Prop} (f : Fr H g l) (M : Md C H g l S D xs) (hj : ixN xs.length k = some j) (hw : xs.set j v = ws) (q : ∀ H', Md C H' g l S D ws → Same (away H (AL g l)) (away H' (AL g l)) → Q H') : rSetL (.ref g.m) (.int k) v H Q :=
  ⟨g.m, xs, k, j, rfl, rfl, M.hm, hj, by rw [hw]; exact q _ (M.store f) (away_store _ (mem_m g l))⟩
section
variable {P : Program} {w : World} {K : PySem.W.Frag} {mg : Str → Option Value} {base : Heap} {f : Addr} {fd : FuncData} {C : Addr}
def spRecovered (C : Addr) : Sp := fun vs H Q _ => ∃ (g : MGeo) (l : Addr) (D : List Nat) (S : Nat) (Cs : List Vn) (b4 b5 : Bool) (n : Nat), vs = [.ref g.p, .ref g.m] ∧ MAt C H g l D S Cs b4 b5 ∧ Dk D S Cs b4 b5 n ∧ n ≤ 12 ∧
  ∀ l' H', MAt C H' g l' (D.take (D.length - (rdD D).2.length)) (D.length - (rdD D).2.length) (rdD D).1 false false → Same (away H (AL g l)) (away H' (AL g l')) → Q (.bl true) H'
theorem ok_recovered (F : FnP K "_law_recovered" s__law_recovered f fd) (T : DskC K mg C) (gL : mg "len" = none) (gI : mg "isinstance" = none) (gLi : mg "list" = none)
    (MR : MethG P w K mg base CX0 C "recover" 20 ["self"] (spDRecover C)) (CRd : Cal P w K mg base "_law_readable" 19 ["data"] (spReadable K)) (CEn : Cal P w K mg base "_law_ends" 6 ["changes"] spEnds) : FnOk P w K mg base CX0 21 f fd ["disk", "m"] (spRecovered C) := by
  obtain ⟨f1, d1, m1, G1, b1⟩ := MR.ex
  refine F.ok sc__law_recovered (fun vs H Q E h => ?_) (fun cdv A outer s H vs Q E hr h => ?_)
  · obtain ⟨g, l, D, S, Cs, b4, b5, n, rfl, _⟩ := h
    rfl
  · obtain ⟨g, l, D, S, Cs, b4, b5, n, rfl, hM, hK, hn, q⟩ := h
    have nd := sc__law_recovered.nd
    refine ⟨_, PSs.nox (pss_cons (ps_asg (pe_cal CRd hr.lt (pa_cons (pe_ix ix_list (pv 1) pe_int (fun _ _ => rfl)) pa_nil)) (pg_tup (by rfl) (pgs_cons (pg_name (i := 2) nd rfl (Or.inl rfl)) (pgs_cons (pg_name (i := 3) nd rfl (Or.inl rfl)) pgs_nil))))
      (pss_cons (ps_set (i := 4) nd rfl (Or.inl rfl) (pe_meth0 (pv 0) T.cl m1 G1 hr b1 .nil pass0 rfl))
      (pss_cons (ps_if (PW.pt (pw_or (pt_not (pt_val (pe_callB call_isi (by rfl) gI (by decide +kernel) (pa_cons (pv 4) (pa_cons (pe_bltn (v := .ty "list") (by rfl) gLi (by decide +kernel) rfl) pa_nil))))) (pw_or1 (pt_cmpR (op_neP hr.u64) (pv 4) (pv 2) (nomark _))))) (pss_one (ps_ret pe_bl)) pss_nil)
      (pss_mid (ps_if (PW.pt (pw_and (pt_not (pt_val (pe_ix ix_list (pv 1) pe_int (fun _ _ => rfl)))) (pw_and1 (PW.pt (pw_or (pt_cmpR (op_neP hr.u64) (pv 2) (pe_slice sl_list (pe_ix ix_list (pv 1) pe_int (fun _ _ => rfl)) po_none (po_some (pe_callB call_len_seq (by rfl) gL PySem.boot_len (pa_cons (pv 2) pa_nil)))) (nomark _))
          (pw_or1 (pt_cmpR op_lt (pe_callB call_len_seq (by rfl) gL PySem.boot_len (pa_cons (pv 2) pa_nil)) (pe_callB call_len_seq (by rfl) gL PySem.boot_len (pa_cons (pe_lc (own := [("one", 5)]) (g := gName 5) (tt := tTest (tOp (rI0 fun i j => .bl (decide (i ≤ j))) (tVar 5) (tOp (rIxL K) (tVar 1) (tC (.int 1))))) (te := tVar 5) (by rfl) nd (pi_list (pe_ix ix_list (pv 1) pe_int (fun _ _ => rfl)))
            (blkOk_by (own := [("one", 5)]) (N := ["disk", "m", "found", "end", "told", "one"]) (sc := defScope s__law_recovered) (by decide +kernel)) (fun _ _ _ _ _ => pg_name (i := 5) nd rfl (Or.inl rfl)) (fun _ _ _ _ _ => pts_one (pt_cmpR op_le (pv 5) (pe_ix ix_list (pv 1) pe_int (fun _ _ => rfl)) (nomark _))) (fun _ _ _ _ _ => pv 5)) pa_nil)) (nomark _)))))))) (pss_one (ps_ret pe_bl)) pss_nil)
      (pss_cons (ps_asg (pe_slice sl_list (pe_ix ix_list (pv 1) pe_int (fun _ _ => rfl)) po_none (po_some (pv 3))) (pg_sub (pv 1) pe_int set_list (fun _ => rfl)))
      (pss_cons (ps_asg (pv 3) (pg_sub (pv 1) pe_int set_list (fun _ => rfl)))
      (pss_cons (ps_asg (pe_callTy (T := "list") call_list_of (by rfl) gLi (by decide +kernel) (pa_cons (pv 2) pa_nil)) (pg_sub (pv 1) pe_int set_list (fun _ => rfl)))
      (pss_cons (ps_asg (pe_cal CEn hr.lt (pa_cons (pv 2) pa_nil)) (pg_sub (pv 1) pe_int set_list (fun _ => rfl)))
      (pss_cons (ps_asg pe_bl (pg_sub (pv 1) pe_int set_list (fun _ => rfl)))
      (pss_cons (ps_asg pe_bl (pg_sub (pv 1) pe_int set_list (fun _ => rfl)))
      (pss_one (ps_ret pe_bl)))))))))))), ?_⟩
    obtain ⟨hF, hDk, mb, mc, me, hm, hmb, hmc, hme⟩ := id hM
    have lv := live_of hF.ok hDk hm
    have sub := away_sub H (AL g l)
    have hcn : cnt D < 400 := by have := hK.cn; omega
    have hDl : D.length ≤ 1000000 := by have := hK.len; omega
    refine ⟨_, rfl, g.m, _, 0, .ref mb, rfl, rfl, sq_l hm, atI_nat (j := 0) rfl, mb, D, rfl, sq_l (sub _ _ hmb), hDl, hK.bytes, hcn, fun t v H1 s1 ht hv _ => ?_⟩
    obtain ⟨e, he⟩ : ∃ e, e = D.length - (rdD D).2.length := ⟨_, rfl⟩
    obtain ⟨Fs, hFs⟩ : ∃ Fs, Fs = (rdD D).1 := ⟨_, rfl⟩
    have heD : e ≤ D.length := by omega
    have hrec := hK.recover
    have hfnd : b5 = false → Fs = Cs.take Fs.length ∧ ((endsN 0 Cs).filter fun e => decide (e ≤ S)).length ≤ Fs.length := fun z => by
      subst z
      rw [hFs]
      exact hK.found
    have hlen : Fs.length ≤ 400 := by
      rw [hFs]
      exact Nat.le_of_lt hcn
    have hokF : ∀ y ∈ Fs, okv y := by
      rw [hFs]
      exact hrec.ok
    rw [← he] at ht q
    rw [← hFs] at hv q
    obtain ⟨lf, rfl, hlf0, hLf⟩ := LChAt.away lv hv
    refine ⟨t, _, rfl, sq_t ht, rfl, _, _, rfl, _, _, rfl, rfl, ?_⟩
    have hDk1 := hDk.mono s1
    refine ⟨_, rfl, g.p, g.dx, _, rfl, hDk1.hp, rfl, g.p, g.dx, l, S, D, rfl, hDk1, hDl, hK.bytes, fun v2 l' H2 hl' hbut hv2 hDk2 _ => ?_⟩
    rw [← he] at hDk2
    rw [← hFs] at hv2
    have sA12 : Same (away H1 (AL g l)) (away H2 (AL g l')) := away_of (fun b o nb h => hbut b o (fun z => nb (by rw [z]; simp)) h) (fun a ha => by
      simp only [AL, List.mem_cons, List.not_mem_nil, or_false] at ha ⊢
      rcases ha with rfl | rfl | rfl | rfl | rfl
      · exact .inl (.inl rfl)
      · exact .inr hl'
      · exact .inl (.inr (.inr (.inl rfl)))
      · exact .inl (.inr (.inr (.inr (.inl rfl))))
      · exact .inl (.inr (.inr (.inr (.inr rfl)))))
    have ok2 : StOk H2 g.st g.cl := (hF.ok.same s1).but hbut hF.ps hF.pc
    have hm2 := hbut _ _ hF.mp (s1 _ _ hm)
    have lv2 := live_of ok2 hDk2 hm2
    have sub2 := away_sub H2 (AL g l')
    have hLf2 : LChAt (away H2 (AL g l')) lf Fs := hLf.mono sA12
    have sA02 : Same (away H (AL g l)) (away H2 (AL g l')) := (away_same s1 _).trans sA12
    have hmb2 := sA02 _ _ hmb
    have hmc2 := hmc.mono sA02
    have hme2 := sA02 _ _ hme
    obtain ⟨l2, rfl, _, hL2⟩ := LChAt.of hv2
    obtain ⟨xs2, hx2, _⟩ := id hL2
    obtain ⟨xsf, hxf, hef⟩ := id hLf2
    have hfl := hef.length
    refine ⟨_, rfl, _, _, .type "list", .type "list", true, rfl, .ty "list", .base (.lst hx2), kit_ty (by decide +kernel), _, rfl, ?_⟩
    refine (if_neg (by decide)).mpr ?_
    refine ⟨_, rfl, _, rfl, ne_lch hL2 (hLf2.mono sub2) rfl ⟨_, rfl, ?_⟩⟩
    refine (if_neg (by decide)).mpr ?_
    let Po : L2.St → Hp → Prop := fun σ G => (∃ v5, σ = [some (.ref g.p), some (.ref g.m), some (.ref lf), some (.int (e : Int)), some (.ref l2), v5]) ∧ Same H2 G
    refine ⟨Po, ?_, ?_⟩
    · refine ⟨_, rfl, g.m, _, 5, .bl b5, rfl, rfl, sq_l hm2, atI_nat (j := 5) rfl, b5, rfl, ?_⟩
      by_cases hb5 : b5 = false
      · subst hb5
        refine (if_pos rfl).mpr ?_
        obtain ⟨fd1, fd2⟩ := hfnd rfl
        obtain ⟨xsc, hxc, hec⟩ := id hmc2
        refine ⟨_, rfl, _, rfl, g.m, _, 2, .ref mc, rfl, rfl, sq_l hm2, atI_nat (j := 2) rfl, _, rfl, lf, _, rfl, .inl (sq_l (sub2 _ _ hxf)), _, rfl, mc, _, rfl, sq_l (sub2 _ _ hxc), fun p3 hp3 => ?_⟩
        dsimp only
        rw [cut_noneV, hfl]
        have s3 := same_new (o := HO.lst (xsc.take Fs.length)) hp3
        have hL3 : LChAt (upd H2 p3 (.lst (xsc.take Fs.length))) p3 Fs := ⟨_, upd_same, by
          have := (each_take Fs.length hec).mono fun _ _ z => ChAt.mono (sub2.trans s3) z
          rw [← fd1] at this
          exact this⟩
        refine ne_lch ((hLf2.mono sub2).mono s3) hL3 rfl ⟨_, rfl, ?_⟩
        refine (if_neg (by decide)).mpr ?_
        refine ⟨_, rfl, lf, _, rfl, .inl (sq_l (s3 _ _ (sub2 _ _ hxf))), ?_⟩
        refine ⟨_, rfl, g.m, _, 3, .ref me, rfl, rfl, sq_l (s3 _ _ hm2), atI_nat (j := 3) rfl, me, rfl, ⟨_, sq_l (s3 _ _ (sub2 _ _ hme2))⟩, fun D5 hD5 => ?_⟩
        have hsz : (bV (endsN 0 Cs)).length ≤ 100000 := by rw [bV_len, ends_len]; have := hK.few; omega
        refine lc_same (walk_list (xs := bV (endsN 0 Cs))) (endsN 0 Cs) (by rw [bV_len]) (fun x => decide (((x : Nat) : Int) ≤ (S : Int))) (fun _ v (x : Nat) => v = V.int (x : Int)) (fun _ _ _ _ _ z => z) hD5 (fun H' s' => sq_l (s' _ _ (s3 _ _ (sub2 _ _ hme2)))) hsz ?_ ?_
        · rintro i x b G _ hi hb sG ⟨rfl, hx⟩ Q' Qn k1 k2
          obtain ⟨y, hy, rfl⟩ := bV_at hx
          obtain rfl : b = y := Option.some.inj (hb.symm.trans hy)
          refine ⟨rfl, ?_⟩
          refine ⟨_, rfl, _, rfl, g.m, _, 1, .int (S : Int), rfl, rfl, sq_l (sG _ _ (s3 _ _ hm2)), atI_nat (j := 1) rfl, _, _, rfl, rfl, _, rfl, ?_⟩
          by_cases hbS : (b : Int) ≤ (S : Int)
          · refine (if_pos (decide_eq_true hbS)).mpr ?_
            exact ⟨_, rfl, k1 (decide_eq_true hbS) _ _ (Same.refl _) rfl⟩
          · refine (if_neg (by rw [decide_eq_false hbS]; decide)).mpr ?_
            exact k2 (decide_eq_false hbS) _ (Same.refl _)
        · intro G acc sG ha hea
          have hacl := hea.length
          rw [filt_int] at hacl
          refine ⟨D5, _, rfl, .inl (sq_l ha), _, _, rfl, rfl, _, rfl, ?_⟩
          refine (if_neg (fun z => by have := of_decide_eq_true z; omega)).mpr ?_
          exact ⟨⟨_, rfl⟩, s3.trans sG⟩
      · have hb5' : b5 = true := by cases b5; exact absurd rfl hb5; rfl
        subst hb5'
        refine (if_neg (by decide)).mpr ?_
        refine (if_neg (by decide)).mpr ?_
        exact ⟨⟨_, rfl⟩, Same.refl _⟩
    rintro σ G ⟨⟨v5, rfl⟩, sG⟩
    have M0 : Md C G g l' e (D.take e) [.ref mb, .int (S : Int), .ref mc, .ref me, .bl b4, .bl b5] := ⟨sG _ _ hm2, ok2.same sG, hDk2.mono sG⟩
    have fr : Fr G g l' := hF.move hF.ok hm (s1.free hl') M0.ok
    refine ⟨_, rfl, g.m, _, 0, .ref mb, rfl, rfl, sq_l M0.hm, atI_nat (j := 0) rfl, _, rfl, _, rfl, mb, _, rfl, sq_l (sG _ _ (sub2 _ _ hmb2)), fun p4 hp4 => ?_⟩
    dsimp only
    rw [cut_none]
    have s4 := same_new (o := HO.lst (bV (D.take e))) hp4
    have a4 := away_new (o := HO.lst (bV (D.take e))) M0.live hp4
    have M4 := M0.same s4
    refine ⟨_, rfl, set_md (ws := [.ref p4, .int (S : Int), .ref mc, .ref me, .bl b4, .bl b5]) (fr.ok' M4.ok) M4 rfl rfl fun G5 M5 t5 => ?_⟩
    refine ⟨_, rfl, _, rfl, set_md (ws := [.ref p4, .int (e : Int), .ref mc, .ref me, .bl b4, .bl b5]) (fr.ok' M5.ok) M5 rfl rfl fun G6 M6 t6 => ?_⟩
    have k6 := (((away_same sG (AL g l')).trans (away_same s4 (AL g l'))).trans t5).trans t6
    have b6 := t6 _ _ (t5 _ _ a4)
    have sub6 := away_sub G6 (AL g l')
    refine ⟨_, rfl, lf, xsf, rfl, .inl (sq_l (sub6 _ _ (k6 _ _ hxf))), fun p6 hp6 => ?_⟩
    have s7 := same_new (o := HO.lst xsf) hp6
    have a7 := away_new (o := HO.lst xsf) M6.live hp6
    refine ⟨_, rfl, set_md (ws := [.ref p4, .int (e : Int), .ref p6, .ref me, .bl b4, .bl b5]) (fr.ok' (M6.same s7).ok) (M6.same s7) rfl rfl fun G7 M7 t7 => ?_⟩
    have k67 := (away_same s7 (AL g l')).trans t7
    have sub7 := away_sub G7 (AL g l')
    refine ⟨_, rfl, lf, Fs, rfl, ((hLf2.mono k6).mono k67).mono sub7, hokF, by omega, fun p7 G8 s8 hp7 hP7 => ?_⟩
    have a8 : away G8 (AL g l') p7 = some (.lst (bV (endsN 0 Fs))) := away_at (fun z => M7.live p7 z hp7) hP7
    refine ⟨_, rfl, set_md (ws := [.ref p4, .int (e : Int), .ref p6, .ref p7, .bl b4, .bl b5]) (fr.ok' (M7.same s8).ok) (M7.same s8) rfl rfl fun G9 M9 t9 => ?_⟩
    have k89 := (away_same s8 (AL g l')).trans t9
    refine ⟨_, rfl, set_md (ws := [.ref p4, .int (e : Int), .ref p6, .ref p7, .bl false, .bl b5]) (fr.ok' M9.ok) M9 rfl rfl fun G10 M10 t10 => ?_⟩
    refine ⟨_, rfl, set_md (ws := [.ref p4, .int (e : Int), .ref p6, .ref p7, .bl false, .bl false]) (fr.ok' M10.ok) M10 rfl rfl fun G11 M11 t11 => ?_⟩
    have t911 := t10.trans t11
    refine q l' G11 ⟨fr.ok' M11.ok, M11.dk, p4, p6, p7, M11.hm, t911 _ _ (k89 _ _ (k67 _ _ b6)), ⟨xsf, t911 _ _ (k89 _ _ (t7 _ _ a7)), ((((hef.mono fun _ _ z => z.mono k6).mono fun _ _ z => z.mono k67).mono fun _ _ z => z.mono k89).mono fun _ _ z => z.mono t911)⟩, t911 _ _ (t9 _ _ a8)⟩ ((((sA02.trans k6).trans k67).trans k89).trans t911)
end
end KA
set_option Elab.async false
set_option linter.all false
set_option maxRecDepth 100000
set_option maxHeartbeats 4000000
/-! _law_appended -/
namespace KA
open PySem PySem.Spec PyProof.Rows L2
open PySem.W (EachIs)
theorem cut_some (d : List Nat) (lo hi : Option Int) : ∃ d9, cutV (bV d) lo hi = bV d9 ∧ ∀ x ∈ d9, x ∈ d := by
  refine ⟨(d.drop (HT.sIx (bV d).length 0 lo)).take (HT.sIx (bV d).length (bV d).length hi - HT.sIx (bV d).length 0 lo), ?_, fun x hx => List.mem_of_mem_drop (List.mem_of_mem_take hx)⟩
  unfold cutV
  unfold bV
  rw [List.map_take, List.map_drop]
theorem MAt.same {C : Addr} {H H' : Hp} {g : MGeo} {l : Addr} {D : List Nat} {S : Nat} {Cs : List Vn} {b4 b5 : Bool} (h : MAt C H g l D S Cs b4 b5) (s : Same H H') : MAt C H' g l D S Cs b4 b5 := by
  obtain ⟨fr, dk, mb, mc, me, h1, h2, h3, h4⟩ := h
  exact ⟨fr.ok' (fr.ok.same s), dk.mono s, mb, mc, me, s _ _ h1, away_same s _ _ _ h2, h3.mono (away_same s _), away_same s _ _ _ h4⟩
section
variable {P : Program} {w : World} {K : PySem.W.Frag} {mg : Str → Option Value} {base : Heap} {f : Addr} {fd : FuncData} {C SE : Addr}
def spAppended (C : Addr) : Sp := fun vs H Q _ => ∃ (g : MGeo) (l : Addr) (D : List Nat) (S : Nat) (Cs : List Vn) (b4 b5 : Bool) (n : Nat) (pc : Addr) (c : Chg), vs = [.ref g.p, .ref g.m, .ref pc] ∧ MAt C H g l D S Cs b4 b5 ∧ Dk D S Cs b4 b5 n ∧ n ≤ 11 ∧ ChgAt (away H (AL g l)) pc c ∧ WCh c ∧
  ∀ l' H' D' S' Cs' b5', MAt C H' g l' D' S' Cs' false b5' → Dk D' S' Cs' false b5' (n + 1) → Q (.bl true) H'
theorem ok_appended (F : FnP K "_law_appended" s__law_appended f fd) (T : DskC K mg C) (gL : mg "len" = none)
    (MA : MethG P w K mg base (L2.CX P w) C "append" 6 ["self", "change"] (spDAppend C SE)) (CE : CalX P w K mg base "encode_change" 5 ["change"] (spEncode SE)) (CR : Cal P w K mg base "_law_record" 5 ["change"] spRecord) (CN : Cal P w K mg base "check_number" 1 ["data"] (spCheck K)) (CK : Cal P w K mg base "_law_check" 1 ["data"] (spCheck K)) (CRec : Cal P w K mg base "_law_recovered" 21 ["disk", "m"] (spRecovered C)) : FnOk P w K mg base CX0 22 f fd ["disk", "m", "change"] (spAppended C) := by
  obtain ⟨f1, d1, m1, G1, b1⟩ := MA.ex
  refine F.ok sc__law_appended (fun vs H Q E h => ?_) (fun cdv A outer s H vs Q E hr h => ?_)
  · obtain ⟨g, l, D, S, Cs, b4, b5, n, pc, c, rfl, _⟩ := h
    rfl
  · obtain ⟨g, l, D, S, Cs, b4, b5, n, pc, c, rfl, hM, hK, hn, hc, hw, q⟩ := h
    have nd := sc__law_appended.nd
    refine ⟨_, PSs.nox (pss_cons (ps_if (PW.pt (pw_or (pt_cmpR (op_neP hr.u64) (pe_calX (E := E0) CE hr.lt passL (pa_cons (pv 2) pa_nil)) (pe_cal CR hr.lt (pa_cons (pv 2) pa_nil)) (nomark _))
        (pw_or1 (pt_cmpR op_ne (pe_cal CN hr.lt (pa_cons (pe_slice sl_list (pe_ix ix_list (pv 1) pe_int (fun _ _ => rfl)) (po_some (pe_un un_neg pe_int)) po_none) pa_nil)) (pe_cal CK hr.lt (pa_cons (pe_slice sl_list (pe_ix ix_list (pv 1) pe_int (fun _ _ => rfl)) (po_some (pe_un un_neg pe_int)) po_none) pa_nil)) (nomark _))))) (pss_one (ps_ret pe_bl)) pss_nil)
      (pss_mid (ps_if (PW.pt (pw_and (pt_val (pe_ix ix_list (pv 1) pe_int (fun _ _ => rfl))) (pw_and1 (pt_not (pt_val (pe_cal CRec hr (pa_cons (pv 0) (pa_cons (pv 1) pa_nil)))))))) (pss_one (ps_ret pe_bl)) pss_nil)
      (pss_cons (ps_expr (pe_meth (E := E0) (pv 0) T.cl m1 G1 hr.lt b1 .nil passL (pa_cons (pv 2) pa_nil) rfl rfl rfl))
      (pss_cons (ps_asg (pe_op op_cat (pe_ix ix_list (pv 1) pe_int (fun _ _ => rfl)) (pe_cal CR hr.lt (pa_cons (pv 2) pa_nil))) (pg_sub (pv 1) pe_int set_list (fun _ => rfl)))
      (pss_cons (ps_asg (pe_op op_cat (pe_ix ix_list (pv 1) pe_int (fun _ _ => rfl)) (pe_lst (pa_cons (pv 2) pa_nil))) (pg_sub (pv 1) pe_int set_list (fun _ => rfl)))
      (pss_cons (ps_asg (pe_op op_cat (pe_ix ix_list (pv 1) pe_int (fun _ _ => rfl)) (pe_lst (pa_cons (pe_callB call_len_seq (by rfl) gL PySem.boot_len (pa_cons (pe_ix ix_list (pv 1) pe_int (fun _ _ => rfl)) pa_nil)) pa_nil))) (pg_sub (pv 1) pe_int set_list (fun _ => rfl)))
      (pss_one (ps_ret pe_bl)))))))), ?_⟩
    have sub := away_sub H (AL g l)
    have hl77 := wch_len hw
    have hsm := wch_sm hw
    have hch := wch_chr hw
    have hok : okv (c.map vNamed) := ⟨wch_ok hw, by omega⟩
    obtain ⟨fr, dk, mb, mc, me, hm, hmb, hmc, hme⟩ := id hM
    refine ⟨_, rfl, pc, c, rfl, hc.mono sub, hsm, by omega, hch, fun _ r1 H1 s1 hr1 hR1 => ?_, fun h6 => absurd (by omega) h6⟩
    refine ⟨_, rfl, pc, c, rfl, (hc.mono sub).mono s1, hsm, by omega, hch, fun r2 H2 s2 hr2 hR2 => ?_⟩
    refine ne_bytes (sq_l (s2 _ _ hR1)) (sq_l hR2) rfl ⟨_, rfl, ?_⟩
    refine (if_neg (by decide)).mpr ?_
    have s02 := s1.trans s2
    obtain ⟨d9, e9, h9⟩ := cut_some D (some (-9)) none
    have hd9 : ∀ x ∈ d9, x < 2 ^ 40 := fun x hx => by have := hK.bytes x (h9 x hx); omega
    refine ⟨_, rfl, g.m, _, 0, .ref mb, rfl, rfl, sq_l (s02 _ _ hm), atI_nat (j := 0) rfl, 9, rfl, _, rfl, mb, _, rfl, sq_l (s02 _ _ (sub _ _ hmb)), fun p3 hp3 => ?_⟩
    dsimp only
    rw [e9]
    have s3 := same_new (o := HO.lst (bV d9)) hp3
    refine ⟨p3, d9, rfl, sq_l upd_same, hd9, ?_⟩
    have s03 := s02.trans s3
    refine ⟨_, rfl, g.m, _, 0, .ref mb, rfl, rfl, sq_l (s03 _ _ hm), atI_nat (j := 0) rfl, 9, rfl, _, rfl, mb, _, rfl, sq_l (s03 _ _ (sub _ _ hmb)), fun p4 hp4 => ?_⟩
    dsimp only
    rw [e9]
    have s4 := same_new (o := HO.lst (bV d9)) hp4
    refine ⟨p4, d9, rfl, sq_l upd_same, hd9, rfl, _, rfl, ?_⟩
    refine (if_neg (by simp)).mpr ?_
    have s04 := s03.trans s4
    let Po : L2.St → Hp → Prop := fun σ G => σ = [some (.ref g.p), some (.ref g.m), some (.ref pc)] ∧ ∃ l' D' S' Cs' b5', MAt C G g l' D' S' Cs' false b5' ∧ Dk D' S' Cs' false b5' n ∧ ChgAt (away G (AL g l')) pc c
    refine ⟨Po, ?_, ?_⟩
    · refine ⟨_, rfl, g.m, _, 4, .bl b4, rfl, rfl, sq_l (s04 _ _ hm), atI_nat (j := 4) rfl, b4, rfl, ?_⟩
      have hM4 := hM.same s04
      have hc4 := hc.mono (away_same s04 (AL g l))
      cases b4 with
      | false =>
        refine (if_neg (by decide)).mpr ?_
        refine (if_neg (by decide)).mpr ?_
        exact ⟨rfl, l, D, S, Cs, b5, hM4, hK, hc4⟩
      | true =>
        refine (if_pos rfl).mpr ?_
        refine ⟨_, rfl, _, rfl, g, l, D, S, Cs, true, b5, n, rfl, hM4, hK, by omega, fun l' G hM5 sA => ⟨true, rfl, ?_⟩⟩
        refine (if_neg (by decide)).mpr ?_
        exact ⟨rfl, l', _, _, _, false, hM5, hK.recover, hc4.mono sA⟩
    rintro σ G ⟨rfl, l', D', S', Cs', b5', hM5, hK5, hc5⟩
    clear hM hK hc hm hmb hmc hme dk fr sub e9 h9 hd9
    obtain ⟨fr, dk, mb, mc, me, hm, hmb, hmc, hme⟩ := id hM5
    have hDl : D'.length ≤ 100000 := by have := hK5.len; omega
    have hfew : Cs'.length ≤ 400 := by have := hK5.few; omega
    have sub5 := away_sub G (AL g l')
    refine ⟨_, rfl, g.p, g.dx, _, rfl, dk.hp, rfl, _, rfl, g.p, g.dx, l', pc, S', D', c, rfl, dk, hc5.mono sub5, hsm, by omega, hch, by omega, fun _ G6 hbut hD6 => ?_, fun h6 => absurd (by omega) h6⟩
    have M6 : Md C G6 g l' S' (D' ++ recd (fmtChange (c.map vNamed))) [.ref mb, .int (S' : Int), .ref mc, .ref me, .bl false, .bl b5'] := ⟨hbut _ _ fr.ml hm, fr.ok.but hbut fr.ls fr.lc, hD6⟩
    have k6 : Same (away G (AL g l')) (away G6 (AL g l')) := away_of (fun b o nb h => hbut b o (fun z => nb (by rw [z]; simp [AL])) h) fun a ha => .inl ha
    have sub6 := away_sub G6 (AL g l')
    have fr6 := fr.ok' M6.ok
    have hk7 := hK5.append hok hl77
    have hwh := hK5.whole rfl
    have sR : (recd (fmtChange (c.map vNamed))).length ≤ 8000 := by rw [recd_len]; omega
    have hmb6 := k6 _ _ hmb
    refine ⟨_, rfl, g.m, _, 0, .ref mb, rfl, rfl, sq_l M6.hm, atI_nat (j := 0) rfl, _, rfl, pc, c, rfl, (hc5.mono k6).mono sub6, hsm, by omega, hch, fun r G7 s7 hr0 hR => ?_⟩
    refine ⟨mb, r, _, _, rfl, rfl, s7 _ _ (sub6 _ _ hmb6), hR, by rw [bV_len, bV_len, sizeLine_eq]; omega, fun p8 hp8 => ?_⟩
    have e8 : bV D' ++ bV (recd (fmtChange (c.map vNamed))) = bV (D' ++ recd (fmtChange (c.map vNamed))) := by unfold bV; rw [List.map_append]
    rw [e8]
    have s8 := same_new (o := HO.lst (bV (D' ++ recd (fmtChange (c.map vNamed))))) hp8
    have M7 := M6.same s7
    have a8 := away_new (o := HO.lst (bV (D' ++ recd (fmtChange (c.map vNamed))))) M7.live hp8
    have M8 := M7.same s8
    refine ⟨_, rfl, set_md (ws := [.ref p8, .int (S' : Int), .ref mc, .ref me, .bl false, .bl b5']) (fr.ok' M8.ok) M8 rfl rfl fun G9 M9 t9 => ?_⟩
    have k9 := (k6.trans ((away_same s7 (AL g l')).trans (away_same s8 (AL g l')))).trans t9
    have a9 := t9 _ _ a8
    have sub9 := away_sub G9 (AL g l')
    have hmc9 := hmc.mono k9
    obtain ⟨xsc, hxc, hec⟩ := id hmc9
    have hcl := hec.length
    refine ⟨_, rfl, g.m, _, 2, .ref mc, rfl, rfl, sq_l M9.hm, atI_nat (j := 2) rfl, _, rfl, (by show 1 ≤ sizeLine; decide), fun p10 hp10 => ?_⟩
    have s10 := same_new (o := HO.lst [V.ref pc]) hp10
    refine ⟨mc, p10, _, _, rfl, rfl, s10 _ _ (sub9 _ _ hxc), upd_same, by rw [hcl, sizeLine_eq]; show Cs'.length + 1 ≤ _; omega, fun p11 hp11 => ?_⟩
    have s11 := same_new (o := HO.lst (xsc ++ [V.ref pc])) hp11
    have M10 := M9.same s10
    have a11 := away_new (o := HO.lst (xsc ++ [V.ref pc])) M10.live hp11
    have M11 := M10.same s11
    refine ⟨_, rfl, set_md (ws := [.ref p8, .int (S' : Int), .ref p11, .ref me, .bl false, .bl b5']) (fr.ok' M11.ok) M11 rfl rfl fun G12 M12 t12 => ?_⟩
    have k12 := ((away_same s10 (AL g l')).trans (away_same s11 (AL g l'))).trans t12
    have a12 := k12 _ _ a9
    have c12 := t12 _ _ a11
    have sub12 := away_sub G12 (AL g l')
    have hme12 := k12 _ _ (k9 _ _ hme)
    refine ⟨_, rfl, g.m, _, 3, .ref me, rfl, rfl, sq_l M12.hm, atI_nat (j := 3) rfl, _, rfl, g.m, _, 0, .ref p8, rfl, rfl, sq_l M12.hm, atI_nat (j := 0) rfl, p8, _, rfl, .inl (sq_l (sub12 _ _ a12)), (by show 1 ≤ sizeLine; decide), fun p13 hp13 => ?_⟩
    rw [bV_len]
    have s13 := same_new (o := HO.lst [V.int ((D' ++ recd (fmtChange (c.map vNamed))).length : Nat)]) hp13
    refine ⟨me, p13, _, _, rfl, rfl, s13 _ _ (sub12 _ _ hme12), upd_same, by rw [bV_len, ends_len, sizeLine_eq]; show Cs'.length + 1 ≤ _; omega, fun p14 hp14 => ?_⟩
    have e14 : bV (endsN 0 Cs') ++ [V.int ((D' ++ recd (fmtChange (c.map vNamed))).length : Nat)] = bV (endsN 0 (Cs' ++ [c.map vNamed])) := by
      rw [endsN_snoc, recsN_snoc, ← hwh, Nat.zero_add]
      unfold bV
      rw [List.map_append]
      rfl
    rw [e14]
    have s14 := same_new (o := HO.lst (bV (endsN 0 (Cs' ++ [c.map vNamed])))) hp14
    have M13 := M12.same s13
    have a14 := away_new (o := HO.lst (bV (endsN 0 (Cs' ++ [c.map vNamed])))) M13.live hp14
    have M14 := M13.same s14
    refine ⟨_, rfl, set_md (ws := [.ref p8, .int (S' : Int), .ref p11, .ref p14, .bl false, .bl b5']) (fr.ok' M14.ok) M14 rfl rfl fun G15 M15 t15 => ?_⟩
    have k15 := ((away_same s13 (AL g l')).trans (away_same s14 (AL g l'))).trans t15
    refine q l' G15 _ S' (Cs' ++ [c.map vNamed]) b5' ⟨fr.ok' M15.ok, M15.dk, p8, p11, p14, M15.hm, k15 _ _ a12, ⟨_, k15 _ _ c12, ?_⟩, t15 _ _ a14⟩ hk7
    exact each_app2 (hec.mono fun _ _ z => (z.mono k12).mono k15) (.cons ⟨pc, rfl, by rw [map_nv]; exact (((hc5.mono k6).mono (((away_same s7 (AL g l')).trans (away_same s8 (AL g l'))).trans t9)).mono k12).mono k15⟩ .nil)
end
end KA
set_option Elab.async false
set_option linter.all false
set_option maxRecDepth 100000
set_option maxHeartbeats 4000000
/-! the law itself -/
namespace KA
open PySem PySem.Spec PyProof.Rows L2
open PySem.W (EachIs)
theorem MAt.drawn {C : Addr} {H H' : Hp} {g : MGeo} {l : Addr} {D : List Nat} {S : Nat} {Cs : List Vn} {b4 b5 : Bool} (h : MAt C H g l D S Cs b4 b5) (d : Drawn g.st g.cl H H') : MAt C H' g l D S Cs b4 b5 ∧ Same (away H (AL g l)) (away H' (AL g l)) := by
  obtain ⟨fr, dk, mb, mc, me, h1, h2, h3, h4⟩ := h
  have s : Same (away H (AL g l)) (away H' (AL g l)) := away_of (fun b o nb e => d.but b o (fun z => nb (by rw [z]; simp [AL])) (fun z => nb (by rw [z]; simp [AL])) e) fun a ha => .inl ha
  exact ⟨⟨fr.ok' d.ok, ⟨d.but _ _ fr.ps fr.pc dk.hp, d.but _ _ fr.ls fr.lc dk.hl⟩, mb, mc, me, d.but _ _ fr.ms fr.mc h1, s _ _ h2, h3.mono s, s _ _ h4⟩, s⟩
/-- a change that was drawn, off the law's own objects -/
theorem ChgF.away {H H' : Hp} {p : Addr} {c : Chg} {A : List Addr} (live : ∀ a ∈ A, H a ≠ none) (nt : ∀ a ∈ A, ∀ xs, H' a ≠ some (.tup xs)) (hp : H p = none) (h : ChgF H H' p c) : ChgAt (KA.away H' A) p c := by
  have tup : ∀ {t : Addr} {xs : List V}, H' t = some (.tup xs) → KA.away H' A t = some (.tup xs) := fun {t xs} e => away_at (fun z => nt t z xs e) e
  obtain ⟨ts, h1, h2⟩ := h
  refine ⟨ts, away_at (fun z => live p z hp) h1, h2.mono fun t e z => ?_⟩
  obtain ⟨l, z1, z0, us, z2, z3⟩ := z
  refine ⟨l, tup z1, us, away_at (fun y => live l y z0) z2, z3.mono fun u x y => ?_⟩
  obtain ⟨r, y1, y2⟩ := y
  exact ⟨r, tup y1, tup y2⟩
theorem ntup_of {C : Addr} {H : Hp} {g : MGeo} {l : Addr} {S : Nat} {D : List Nat} {vs : List V} (M : Md C H g l S D vs) : ∀ a ∈ AL g l, ∀ xs, H a ≠ some (.tup xs) := fun a ha xs z => by
  obtain ⟨c, x, th, X⟩ := M.ok
  simp only [AL, List.mem_cons, List.not_mem_nil, or_false] at ha
  rcases ha with rfl | rfl | rfl | rfl | rfl
  · rw [M.dk.hp] at z; cases z
  · rw [M.dk.hl] at z; cases z
  · rw [M.hm] at z; cases z
  · rw [X.hs] at z; cases z
  · rw [X.hc] at z; cases z
theorem MAt.md {C : Addr} {H : Hp} {g : MGeo} {l : Addr} {D : List Nat} {S : Nat} {Cs : List Vn} {b4 b5 : Bool} (h : MAt C H g l D S Cs b4 b5) : ∃ vs, Md C H g l S D vs := by
  obtain ⟨fr, dk, mb, mc, me, h1, _⟩ := h
  exact ⟨_, h1, fr.ok, dk⟩
section
variable {P : Program} {w : World} {K : PySem.W.Frag} {mg : Str → Option Value} {base : Heap} {f : Addr} {fd : FuncData} {C : Addr}
def spLaw (K : PySem.W.Frag) : Sp := fun vs H Q _ => ∃ (a : Addr) (ns : List Int), vs = [.ref a] ∧ SqL K H a (ns.map V.int) ∧ ns.length ≤ 63 ∧ ∀ H', Q (.bl true) H'
theorem ok_law (F : FnP K "law" s_law f fd) (T : DskC K mg C) (gL : mg "len" = none) (gR : mg "range" = none) (gLi : mg "list" = none)
    (MI : MakeG P w K mg base CX0 C 1 ["self"] (spDInit C)) (MS : MethG P w K mg base CX0 C "sync" 1 ["self"] (spDSync C)) (MC : MethG P w K mg base CX0 C "crash" 1 ["self", "kept", "junk"] (spDCrash C))
    (CS : Cal P w K mg base "_law_state" 1 ["script"] (spState K)) (CD : DrawC P w K mg base) (CZ : Cal P w K mg base "_law_sizes_right" 20 [] spSizes) (CC : Cal P w K mg base "_law_change" 6 ["state"] spLChange) (CJ : Cal P w K mg base "_law_junk" 6 ["state"] spJunk)
    (CA : Cal P w K mg base "_law_appended" 22 ["disk", "m", "change"] (spAppended C)) (CRec : Cal P w K mg base "_law_recovered" 21 ["disk", "m"] (spRecovered C)) (CR : Cal P w K mg base "read_changes" 19 ["data"] (spReadChanges K)) (CRd : Cal P w K mg base "_law_readable" 19 ["data"] (spReadable K)) :
    FnOk P w K mg base CX0 23 f fd ["script"] (spLaw K) := by
  obtain ⟨f1, d1, M1, G1, b1⟩ := MI.ex
  obtain ⟨f2, d2, m2, G2, b2⟩ := MS.ex
  obtain ⟨f3, d3, m3, G3, b3⟩ := MC.ex
  obtain ⟨f0, d0, m0, kp0, b0, G0⟩ := CZ
  refine F.ok sc_law (fun vs H Q E h => ?_) (fun cdv A outer s H vs Q E hr h => ?_)
  · obtain ⟨a, ns, rfl, _⟩ := h
    rfl
  · obtain ⟨a, ns, rfl, hS, few, q⟩ := h
    have nd := sc_law.nd
    refine ⟨_, PSs.nox (pss_cons (ps_set (i := 1) nd rfl (Or.inl rfl) (pe_cal CS hr.lt (pa_cons (pv 0) pa_nil)))
      (pss_cons (ps_set (i := 2) nd rfl (Or.inl rfl) (pe_make0 M1 G1 hr.lt (by rfl) T.mgC b1 .nil pass0))
      (pss_cons (ps_set (i := 3) nd rfl (Or.inl rfl) (pe_lst (pa_cons (pe_lst pa_nil) (pa_cons pe_int (pa_cons (pe_lst pa_nil) (pa_cons (pe_lst pa_nil) (pa_cons pe_bl (pa_cons pe_bl pa_nil))))))))
      (pss_mid (ps_if (PW.pt (pw_and (pt_cmpR op_eq (pe_cal CD hr.lt (pa_cons (pv 1) (pa_cons pe_int pa_nil))) pe_int (nomark _)) (pw_and1 (pt_not (pt_val (pe_call0 G0 hr.lt (by rfl) m0 kp0 b0 .nil pass0)))))) (pss_one (ps_ret pe_bl)) pss_nil)
      (pss_cons (ps_for PassesOwn.never rfl (pi_range1 rfl gR (pa_cons (pe_cal CD hr.lt (pa_cons (pv 1) (pa_cons pe_int pa_nil))) pa_nil)) (pg_name (i := 4) nd rfl (Or.inl rfl))
        (pss_cons (ps_set (i := 5) nd rfl (Or.inl rfl) (pe_cal CD hr.lt (pa_cons (pv 1) (pa_cons pe_int pa_nil))))
        (pss_mid (ps_if (pt_cmpR op_lt (pv 5) pe_int (nomark _))
            (pss_one (ps_if (pt_not (pt_val (pe_cal CA hr (pa_cons (pv 2) (pa_cons (pv 3) (pa_cons (pe_cal CC hr.lt (pa_cons (pv 1) pa_nil)) pa_nil)))))) (pss_one (ps_ret pe_bl)) pss_nil))
            (pss_one (ps_if (pt_cmpR op_eq (pv 5) pe_int (nomark _))
              (pss_cons (ps_expr (pe_meth0 (pv 2) T.cl m2 G2 hr.lt b2 .nil pass0 rfl))
              (pss_one (ps_asg (pe_callB call_len_seq (by rfl) gL PySem.boot_len (pa_cons (pe_ix ix_list (pv 3) pe_int (fun _ _ => rfl)) pa_nil)) (pg_sub (pv 3) pe_int set_list (fun _ => rfl)))))
              (pss_one (ps_if (pt_cmpR op_eq (pv 5) pe_int (nomark _))
                (pss_cons (ps_set (i := 6) nd rfl (Or.inl rfl) (pe_cal CD hr.lt (pa_cons (pv 1) (pa_cons (pe_ix ix_list (pe_lst (pa_cons pe_int (pa_cons pe_int (pa_cons pe_int pa_nil)))) (pe_cal CD hr.lt (pa_cons (pv 1) (pa_cons pe_int pa_nil))) (fun _ _ => rfl)) pa_nil))))
                (pss_cons (ps_set (i := 7) nd rfl (Or.inl rfl) (pe_cal CJ hr.lt (pa_cons (pv 1) pa_nil)))
                (pss_cons (ps_set (i := 8) nd rfl (Or.inl rfl) (pe_callTy (T := "list") call_list_of (by rfl) gLi (by decide +kernel) (pa_cons (pv 7) pa_nil)))
                (pss_cons (ps_expr (pe_meth (pv 2) T.cl m3 G3 hr.lt b3 .nil pass0 (pa_cons (pv 6) (pa_cons (pv 8) pa_nil)) rfl rfl rfl))
                (pss_cons (ps_if (pt_cmpR (op_neP hr.u64) (pv 8) (pv 7) (nomark _)) (pss_one (ps_ret pe_bl)) pss_nil)
                (pss_cons (ps_expr (pe_bm PySem.F.plainAttrs_list PySem.F.slot_list_append PySem.F.type_list_append mt_append (pv 8) (pa_cons pe_int pa_nil)))
                (pss_cons (ps_asg (pe_op op_cat (pe_slice sl_list (pe_ix ix_list (pv 3) pe_int (fun _ _ => rfl)) po_none (po_some (pe_op op_add (pe_ix ix_list (pv 3) pe_int (fun _ _ => rfl)) (pv 6)))) (pv 7)) (pg_sub (pv 3) pe_int set_list (fun _ => rfl)))
                (pss_cons (ps_asg pe_bl (pg_sub (pv 3) pe_int set_list (fun _ => rfl)))
                (pss_one (ps_asg (pe_or (pe_ix ix_list (pv 3) pe_int (fun _ _ => rfl)) (pe_one (pe_cmpR op_gt (pe_callB call_len_seq (by rfl) gL PySem.boot_len (pa_cons (pv 7) pa_nil)) pe_int (nomark _)))) (pg_sub (pv 3) pe_int set_list (fun _ => rfl))))))))))))
                (pss_one (ps_if (pt_not (pt_val (pe_cal CRec hr.lt (pa_cons (pv 2) (pa_cons (pv 3) pa_nil))))) (pss_one (ps_ret pe_bl)) pss_nil)))))))
        (pss_one (ps_if (PW.pt (pw_or (pt_cmpR (op_neP hr.u64) (pe_fld (pv 2) rfl) (pe_ix ix_list (pv 3) pe_int (fun _ _ => rfl)) (nomark _)) (pw_or (pt_cmpR op_ne (pe_fld (pv 2) rfl) (pe_ix ix_list (pv 3) pe_int (fun _ _ => rfl)) (nomark _))
          (pw_or1 (pt_cmpR (op_neP hr.u64) (pe_cal CR hr.lt (pa_cons (pe_callTy (T := "list") call_list_of (by rfl) gLi (by decide +kernel) (pa_cons (pe_ix ix_list (pv 3) pe_int (fun _ _ => rfl)) pa_nil)) pa_nil)) (pe_cal CRd hr.lt (pa_cons (pe_ix ix_list (pv 3) pe_int (fun _ _ => rfl)) pa_nil)) (nomark _)))))) (pss_one (ps_ret pe_bl)) pss_nil)))))
      (pss_one (ps_ret (pe_cal CRec hr.lt (pa_cons (pv 2) (pa_cons (pv 3) pa_nil)))))))))), ?_⟩
    refine ⟨_, rfl, a, ns, rfl, hS, few, fun st cl H1 s1 ok1 => ?_⟩
    refine fun x dx hx hdx ne => ⟨x, dx, rfl, upd_same, fun l HD hl hbut hD => ⟨rfl, ?_⟩⟩
    obtain ⟨c0, z0, th0, X0⟩ := id ok1
    have sM : Same H1 HD := fun a o h => hbut a o (ne_of_none h hx) (by rw [upd_ne (ne_of_none h hx), upd_ne (ne_of_none h hdx)]; exact h)
    have lst : l ≠ st := fun z => by rw [z, upd_ne (ne_of_none X0.hs hx), upd_ne (ne_of_none X0.hs hdx), X0.hs] at hl; cases hl
    have lcl : l ≠ cl := fun z => by rw [z, upd_ne (ne_of_none X0.hc hx), upd_ne (ne_of_none X0.hc hdx), X0.hc] at hl; cases hl
    refine ⟨Nat.zero_le _, fun a1 h1 => ⟨Nat.zero_le _, fun a2 h2 => ⟨Nat.zero_le _, fun a3 h3 => ⟨(by show 6 ≤ sizeLine; decide), fun m hm => ?_⟩⟩⟩⟩
    have u1 := same_new (o := HO.lst []) h1
    have u2 := same_new (o := HO.lst []) h2
    have u3 := same_new (o := HO.lst []) h3
    have u4 := same_new (o := HO.lst [V.ref a1, .int 0, .ref a2, .ref a3, .bl false, .bl false]) hm
    have u13 := (u1.trans u2).trans u3
    have u14 := u13.trans u4
    have hsD := sM _ _ X0.hs
    have hcD := sM _ _ X0.hc
    have hmD : HD m = none := u13.free hm
    let g : MGeo := ⟨x, dx, m, st, cl⟩
    have nin : ∀ a, HD a = none → a ≠ m → a ∉ AL g l := fun a ha hne z => by
      simp only [AL, g, List.mem_cons, List.not_mem_nil, or_false] at z
      rcases z with rfl | rfl | rfl | rfl | rfl
      · rw [hD.hp] at ha; cases ha
      · rw [hD.hl] at ha; cases ha
      · exact hne rfl
      · rw [hsD] at ha; cases ha
      · rw [hcD] at ha; cases ha
    have fr0 : ∀ {G : Hp}, StOk G st cl → Fr G g l := fun {G} o => ⟨o, (fun z => by rw [show x = m from z.symm] at hD; rw [hD.hp] at hmD; cases hmD), (fun z => by rw [show l = m from z.symm] at hD; rw [hD.hl] at hmD; cases hmD), (fun z => by rw [show st = m from z.symm] at hsD; rw [hsD] at hmD; cases hmD), (fun z => by rw [show cl = m from z.symm] at hcD; rw [hcD] at hmD; cases hmD), (ne_of_none X0.hs hx).symm, (ne_of_none X0.hc hx).symm, lst, lcl⟩
    have v1 := u3 _ _ (u2 _ _ (upd_same (H := HD) (a := a1) (o := .lst [])))
    have v2 := u3 _ _ (upd_same (H := upd HD a1 (.lst [])) (a := a2) (o := .lst []))
    have v3 := upd_same (H := upd (upd HD a1 (.lst [])) a2 (.lst [])) (a := a3) (o := .lst [])
    have hM0 : MAt C (upd (upd (upd (upd HD a1 (.lst [])) a2 (.lst [])) a3 (.lst [])) m (.lst [V.ref a1, .int 0, .ref a2, .ref a3, .bl false, .bl false])) g l [] 0 [] false false :=
      ⟨fr0 (ok1.same (sM.trans u14)), hD.mono u14, a1, a2, a3, upd_same, away_at (nin a1 h1 (ne_of_none v1 hm)) (u4 _ _ v1), ⟨[], away_at (nin a2 (u1.free h2) (ne_of_none v2 hm)) (u4 _ _ v2), .nil⟩, away_at (nin a3 (u1.free (u2.free h3)) (ne_of_none v3 hm)) (u4 _ _ v3)⟩
    revert hM0
    generalize upd (upd (upd (upd HD a1 (.lst [])) a2 (.lst [])) a3 (.lst [])) m (.lst [V.ref a1, .int 0, .ref a2, .ref a3, .bl false, .bl false]) = HM
    intro hM0
    let Po : L2.St → Hp → Prop := fun σ G => (∃ v4 v5 v6 v7 v8, σ = [some (.ref a), some (.ref g.st), some (.ref g.p), some (.ref g.m), v4, v5, v6, v7, v8]) ∧ MAt C G g l [] 0 [] false false
    refine ⟨Po, ?_, ?_⟩
    · refine ⟨_, rfl, g.st, g.cl, 25, rfl, hM0.fr.ok, by decide, by decide, fun v G d v0 v1 => ⟨rfl, _, rfl, ?_⟩⟩
      have hM1 := (hM0.drawn d).1
      by_cases hv : v = 0
      · refine (if_pos (by rw [hv]; exact decide_eq_true rfl)).mpr ?_
        refine ⟨rfl, fun G' s' => ⟨true, rfl, ?_⟩⟩
        refine (if_neg (by decide)).mpr ?_
        exact ⟨⟨_, _, _, _, _, rfl⟩, hM1.same s'⟩
      · refine (if_neg (fun z => hv (by have := of_decide_eq_true z; injection this))).mpr ?_
        refine (if_neg (by decide)).mpr ?_
        exact ⟨⟨_, _, _, _, _, rfl⟩, hM1⟩
    rintro σ G ⟨⟨v4, v5, v6, v7, v8, rfl⟩, hMG⟩
    refine ⟨_, rfl, g.st, g.cl, 13, rfl, hMG.fr.ok, by decide, by decide, fun n Gn dn n0 n1 => ⟨n, rfl, by omega, by omega, ?_⟩⟩
    refine for_it walk_range (fun i σ G => (∃ v4 v5 v6 v7 v8, σ = [some (.ref a), some (.ref g.st), some (.ref g.p), some (.ref g.m), v4, v5, v6, v7, v8]) ∧ ∃ l D S Cs b4 b5, MAt C G g l D S Cs b4 b5 ∧ Dk D S Cs b4 b5 i) ⟨⟨_, _, _, _, _, rfl⟩, l, [], 0, [], false, false, (hMG.drawn dn).1, Dk.start⟩ (fun _ _ _ _ _ => trivial) ?_ ?_
    · clear hM0 hMG fr0 nin
      rintro i y σ _ G hi ⟨⟨v4, v5, v6, v7, v8, rfl⟩, l, D, S, Cs, b4, b5, hM, hK⟩ ⟨rfl, rfl⟩
      have hi12 : i < 12 := by omega
      refine ⟨_, rfl, g.st, g.cl, 6, rfl, hM.fr.ok, by decide, by decide, fun kd G1 d1 k0 k1 => ?_⟩
      have hM1 := (hM.drawn d1).1
      let Pi : L2.St → Hp → Prop := fun σ G => (∃ v4 v5 v6 v7 v8, σ = [some (.ref a), some (.ref g.st), some (.ref g.p), some (.ref g.m), v4, v5, v6, v7, v8]) ∧ ∃ l D S Cs b4 b5, MAt C G g l D S Cs b4 b5 ∧ Dk D S Cs b4 b5 (i + 1)
      refine ⟨Pi, ?_, ?_⟩
      · refine ⟨_, rfl, _, _, rfl, rfl, _, rfl, ?_⟩
        obtain ⟨vs1, Md1⟩ := hM1.md
        by_cases h3 : kd < 3
        · refine (if_pos (decide_eq_true h3)).mpr ?_
          refine ⟨_, rfl, _, rfl, _, rfl, g.st, g.cl, rfl, hM1.fr.ok, fun pc c G2 d2 hc hw hp => ?_⟩
          obtain ⟨hM2, sA2⟩ := hM1.drawn d2
          obtain ⟨vs2, Md2⟩ := hM2.md
          refine ⟨g, l, D, S, Cs, b4, b5, i, pc, c, rfl, hM2, hK, by omega, hc.away Md1.live (ntup_of Md2) hp, hw, fun l' G3 D' S' Cs' b5' hM3 hK3 => ⟨true, rfl, ?_⟩⟩
          refine (if_neg (by decide)).mpr ?_
          exact ⟨⟨_, _, _, _, _, rfl⟩, l', D', S', Cs', false, b5', hM3, hK3⟩
        refine (if_neg (by rw [decide_eq_false h3]; decide)).mpr ?_
        refine ⟨_, rfl, rfl, _, rfl, ?_⟩
        by_cases h4 : kd = 3
        · refine (if_pos (by rw [h4]; exact decide_eq_true rfl)).mpr ?_
          obtain ⟨fr, dk, mb, mc, me, hm, hmb, hmc, hme⟩ := id hM1
          refine ⟨_, rfl, g.p, g.dx, _, rfl, dk.hp, rfl, g.p, g.dx, l, S, D, rfl, dk, fun G2 hbut2 hD2 => ?_⟩
          have k2 : Same (away G1 (AL g l)) (away G2 (AL g l)) := away_of (fun b o nb e => hbut2 b o (fun z => nb (by rw [z]; simp [AL])) e) fun a ha => .inl ha
          have M2 : Md C G2 g l D.length D [.ref mb, .int (S : Int), .ref mc, .ref me, .bl b4, .bl b5] := ⟨hbut2 _ _ fr.mp hm, fr.ok.but hbut2 fr.ps fr.pc, hD2⟩
          have sub2 := away_sub G2 (AL g l)
          refine ⟨_, rfl, g.m, _, 0, .ref mb, rfl, rfl, sq_l M2.hm, atI_nat (j := 0) rfl, mb, _, rfl, .inl (sq_l (sub2 _ _ (k2 _ _ hmb))), ?_⟩
          rw [bV_len]
          refine ⟨_, rfl, set_md (ws := [.ref mb, .int (D.length : Int), .ref mc, .ref me, .bl b4, .bl b5]) (fr.ok' M2.ok) M2 rfl rfl fun G3 M3 t3 => ?_⟩
          have k3 := k2.trans t3
          exact ⟨⟨_, _, _, _, _, rfl⟩, l, D, D.length, Cs, b4, b5, ⟨fr.ok' M3.ok, M3.dk, mb, mc, me, M3.hm, k3 _ _ hmb, hmc.mono k3, k3 _ _ hme⟩, hK.sync.more (by omega)⟩
        refine (if_neg (fun z => h4 (by have := of_decide_eq_true z; injection this))).mpr ?_
        refine ⟨_, rfl, rfl, _, rfl, ?_⟩
        by_cases h5 : kd = 4
        · refine (if_pos (by rw [h5]; exact decide_eq_true rfl)).mpr ?_
          obtain ⟨fr, dk, mb, mc, me, hm, hmb, hmc, hme⟩ := id hM1
          refine ⟨_, rfl, (by show 3 ≤ sizeLine; decide), fun pl hpl => ⟨_, rfl, g.st, g.cl, 3, rfl, fr.ok.same (same_new hpl), by decide, by decide, fun v G2 d2 v0 v1 => ?_⟩⟩
          obtain ⟨d2', hpl2⟩ := Drawn.fresh fr.ok hpl d2
          have pick : ∃ kk : Int, atI [V.int 40, .int 40, .int 900] v = some (.int kk) ∧ 0 < kk ∧ kk < 2 ^ 40 := by
            rcases three v0 v1 with rfl | rfl | rfl
            · exact ⟨40, atI_nat (j := 0) rfl, by decide, by decide⟩
            · exact ⟨40, atI_nat (j := 1) rfl, by decide, by decide⟩
            · exact ⟨900, atI_nat (j := 2) rfl, by decide, by decide⟩
          obtain ⟨kk, hat, kk0, kk1⟩ := pick
          refine ⟨pl, _, v, .int kk, rfl, rfl, sq_l hpl2, hat, g.st, g.cl, kk, rfl, d2'.ok, kk0, kk1, fun kept G3 d3 kp0 kp1 => ?_⟩
          obtain ⟨kp, rfl⟩ : ∃ n : Nat, kept = (n : Int) := ⟨kept.toNat, by omega⟩
          have d13 := d2'.trans d3
          obtain ⟨vs3, Md3⟩ := (hM1.drawn d13).1.md
          refine ⟨_, rfl, g.st, g.cl, rfl, d3.ok, fun lj j G4 d4 hlj0 hlj hjl hjb => ?_⟩
          obtain ⟨hM4, sA4⟩ := hM1.drawn (d13.trans d4)
          clear hmb hmc hme hm dk fr
          obtain ⟨fr, dk, mb, mc, me, hm, hmb, hmc, hme⟩ := id hM4
          have aj : away G4 (AL g l) lj = some (.lst (bV j)) := away_at (fun z => Md3.live lj z hlj0) hlj
          refine ⟨_, rfl, lj, _, rfl, .inl (sq_l hlj), fun lg hlg => ?_⟩
          have s5 := same_new (o := HO.lst (bV j)) hlg
          have hDl : D.length ≤ 200000 := by have := hK.len; omega
          have hg5 : upd G4 lg (.lst (bV j)) lg = some (.lst (bV j)) := upd_same
          refine ⟨_, rfl, g.p, g.dx, _, rfl, (dk.mono s5).hp, rfl, _, rfl, _, rfl, g.p, g.dx, l, lg, S, kp, D, j, rfl, dk.mono s5, hg5, by omega, fun l' G6 hl' hbut6 hD6 => ?_⟩
          have npg : g.p ≠ lg := ne_of_none dk.hp hlg
          have hg6 := hbut6 _ _ npg.symm hg5
          have hj6 := hbut6 lj _ (fun z => by rw [z, dk.hp] at hlj; cases hlj) (s5 _ _ hlj)
          refine ⟨_, rfl, _, rfl, ne_bytes (sq_l hg6) (sq_l hj6) rfl ⟨_, rfl, ?_⟩⟩
          refine (if_neg (by decide)).mpr ?_
          refine ⟨_, rfl, .inl ⟨rfl, _, sq_l hg6⟩, lg, _, _, rfl, rfl, hg6, by rw [bV_len, sizeLine_eq]; omega, ?_⟩
          have k7 : Same (away G4 (AL g l)) (away (upd G6 lg (.lst (bV j ++ [V.int 7]))) (AL g l')) := away_of (fun b o nb e => by
            rw [upd_ne (ne_of_none e hlg)]
            exact hbut6 b o (fun z => nb (by rw [z]; simp [AL])) (s5 _ _ e)) (fun b hb => by
            simp only [AL, List.mem_cons, List.not_mem_nil, or_false] at hb ⊢
            rcases hb with rfl | rfl | rfl | rfl | rfl
            · exact .inl (.inl rfl)
            · exact .inr (s5.free hl')
            · exact .inl (.inr (.inr (.inl rfl)))
            · exact .inl (.inr (.inr (.inr (.inl rfl))))
            · exact .inl (.inr (.inr (.inr (.inr rfl)))))
          obtain ⟨c4, z4, th4, X4⟩ := id fr.ok
          have M7 : Md C (upd G6 lg (.lst (bV j ++ [V.int 7]))) g l' S (D.take (S + kp) ++ j) [.ref mb, .int (S : Int), .ref mc, .ref me, .bl b4, .bl b5] :=
            ⟨by rw [upd_ne (ne_of_none hm hlg)]; exact hbut6 _ _ fr.mp (s5 _ _ hm), ((fr.ok.same s5).but hbut6 fr.ps fr.pc).store (ne_of_none X4.hs hlg).symm (ne_of_none X4.hc hlg).symm, by rw [upd_ne npg]; exact hD6.hp, by rw [upd_ne (fun z => by rw [z, hg5] at hl'; cases hl')]; exact hD6.hl⟩
          have fr7 : Fr (upd G6 lg (.lst (bV j ++ [V.int 7]))) g l' := fr.move fr.ok hm (s5.free hl') M7.ok
          revert k7 M7 fr7
          generalize upd G6 lg (.lst (bV j ++ [V.int 7])) = G7
          intro k7 M7 fr7
          have sub7 := away_sub G7 (AL g l')
          refine ⟨_, rfl, g.m, _, 0, .ref mb, rfl, rfl, sq_l M7.hm, atI_nat (j := 0) rfl, _, rfl, g.m, _, 1, .int (S : Int), rfl, rfl, sq_l M7.hm, atI_nat (j := 1) rfl, _, rfl, _, _, rfl, rfl, _, rfl, mb, _, rfl, sq_l (sub7 _ _ (k7 _ _ hmb)), fun p8 hp8 => ?_⟩
          have eS : ((S : Int) + (kp : Int)) = ((S + kp : Nat) : Int) := by omega
          dsimp only
          rw [eS, cut_none]
          have s8 := same_new (o := HO.lst (bV (D.take (S + kp)))) hp8
          refine ⟨_, rfl, p8, lj, _, _, rfl, rfl, upd_same, s8 _ _ (sub7 _ _ (k7 _ _ aj)), by rw [bV_len, bV_len, sizeLine_eq, List.length_take]; omega, fun p9 hp9 => ?_⟩
          have e9 : bV (D.take (S + kp)) ++ bV j = bV (D.take (S + kp) ++ j) := by unfold bV; rw [List.map_append]
          rw [e9]
          have s9 := same_new (o := HO.lst (bV (D.take (S + kp) ++ j))) hp9
          have M8 := M7.same s8
          have a9 := away_new (o := HO.lst (bV (D.take (S + kp) ++ j))) M8.live hp9
          have M9 := M8.same s9
          refine ⟨_, rfl, set_md (ws := [.ref p9, .int (S : Int), .ref mc, .ref me, .bl b4, .bl b5]) (fr7.ok' M9.ok) M9 rfl rfl fun Ga Ma ta => ?_⟩
          have ka := (k7.trans ((away_same s8 (AL g l')).trans (away_same s9 (AL g l')))).trans ta
          refine ⟨_, rfl, set_md (ws := [.ref p9, .int (S : Int), .ref mc, .ref me, .bl true, .bl b5]) (fr7.ok' Ma.ok) Ma rfl rfl fun Gb Mb tb => ?_⟩
          have subb := away_sub Gb (AL g l')
          have fin : ∀ Gc, Md C Gc g l' S (D.take (S + kp) ++ j) [.ref p9, .int (S : Int), .ref mc, .ref me, .bl true, .bl (b5 || decide (0 < j.length))] → Same (away Gb (AL g l')) (away Gc (AL g l')) → MAt C Gc g l' (D.take (S + kp) ++ j) S Cs true (b5 || decide (0 < j.length)) := fun Gc Mc tc =>
            ⟨fr7.ok' Mc.ok, Mc.dk, p9, mc, me, Mc.hm, tc _ _ (tb _ _ (ta _ _ a9)), ((hmc.mono ka).mono tb).mono tc, tc _ _ (tb _ _ (ka _ _ hme))⟩
          have hKc := hK.crash (k := kp) (j := j) hjl hjb
          refine ⟨_, rfl, g.m, _, 5, .bl b5, rfl, rfl, sq_l Mb.hm, atI_nat (j := 5) rfl, b5, rfl, ?_⟩
          cases b5 with
          | true =>
            refine (if_pos rfl).mpr ?_
            refine ⟨_, rfl, set_md (ws := [.ref p9, .int (S : Int), .ref mc, .ref me, .bl true, .bl (true || decide (0 < j.length))]) (fr7.ok' Mb.ok) Mb rfl (by rw [Bool.true_or]; rfl) fun Gc Mc tc => ?_⟩
            exact ⟨⟨_, _, _, _, _, rfl⟩, l', _, S, Cs, true, _, fin Gc Mc tc, hKc⟩
          | false =>
            refine (if_neg (by decide)).mpr ?_
            refine ⟨_, rfl, lj, _, rfl, .inl (sq_l (subb _ _ (tb _ _ (ka _ _ aj)))), _, _, rfl, rfl, ?_⟩
            have eb : decide ((0 : Int) < ((bV j).length : Nat)) = (false || decide (0 < j.length)) := by
              rw [bV_len, Bool.false_or]
              by_cases h : 0 < j.length
              · rw [decide_eq_true h, decide_eq_true (by omega)]
              · rw [decide_eq_false h, decide_eq_false (by omega)]
            dsimp only
            rw [eb]
            refine ⟨_, rfl, set_md (ws := [.ref p9, .int (S : Int), .ref mc, .ref me, .bl true, .bl (false || decide (0 < j.length))]) (fr7.ok' Mb.ok) Mb rfl rfl fun Gc Mc tc => ?_⟩
            exact ⟨⟨_, _, _, _, _, rfl⟩, l', _, S, Cs, true, _, fin Gc Mc tc, hKc⟩
        refine (if_neg (fun z => h5 (by have := of_decide_eq_true z; injection this))).mpr ?_
        refine ⟨_, rfl, _, rfl, g, l, D, S, Cs, b4, b5, i, rfl, hM1, hK, by omega, fun l' G2 hM2 _ => ⟨true, rfl, ?_⟩⟩
        refine (if_neg (by decide)).mpr ?_
        exact ⟨⟨_, _, _, _, _, rfl⟩, l', _, _, _, false, false, hM2, hK.recover.more (by omega)⟩
      rintro σ G2 ⟨⟨v4, v5, v6, v7, v8, rfl⟩, l, D, S, Cs, b4, b5, hM2, hK2⟩
      obtain ⟨fr, dk, mb, mc, me, hm, hmb, hmc, hme⟩ := id hM2
      have sub2 := away_sub G2 (AL g l)
      have hDl : D.length ≤ 1000000 := by have := hK2.len; omega
      have hcn : cnt D < 400 := by have := hK2.cn; omega
      refine ⟨_, rfl, g.p, C, g.dx, _, _, rfl, dk.hp, T.cl, T.nD, rfl, _, rfl, g.m, _, 0, .ref mb, rfl, rfl, sq_l hm, atI_nat (j := 0) rfl, ne_bytes (sq_l dk.hl) (sq_l (sub2 _ _ hmb)) rfl ⟨_, rfl, ?_⟩⟩
      refine (if_neg (by decide)).mpr ?_
      refine ⟨_, rfl, g.p, C, g.dx, _, _, rfl, dk.hp, T.cl, T.nS, rfl, _, rfl, g.m, _, 1, .int (S : Int), rfl, rfl, sq_l hm, atI_nat (j := 1) rfl, rfl, _, rfl, ?_⟩
      refine (if_neg (by simp)).mpr ?_
      refine ⟨_, rfl, g.m, _, 0, .ref mb, rfl, rfl, sq_l hm, atI_nat (j := 0) rfl, mb, _, rfl, .inl (sq_l (sub2 _ _ hmb)), fun q1 hq1 => ?_⟩
      have s3 := same_new (o := HO.lst (bV D)) hq1
      refine ⟨q1, D, rfl, sq_l upd_same, hDl, hK2.bytes, fun t3 v3 G3 s4 ht3 hv3 _ => ?_⟩
      obtain ⟨l3, rfl, _, hl3⟩ := LChAt.of hv3
      have s34 := s3.trans s4
      refine ⟨_, rfl, g.m, _, 0, .ref mb, rfl, rfl, sq_l (s34 _ _ hm), atI_nat (j := 0) rfl, mb, D, rfl, sq_l (s34 _ _ (sub2 _ _ hmb)), hDl, hK2.bytes, hcn, fun t5 v5 G5 s5 ht5 hv5 _ => ?_⟩
      obtain ⟨l5, rfl, _, hl5⟩ := LChAt.of hv5
      refine ne_found (s5 _ _ ht3) (hl3.mono s5) ht5 hl5 rfl rfl ⟨_, rfl, ?_⟩
      refine (if_neg (by decide)).mpr ?_
      exact ⟨⟨_, _, _, _, _, rfl⟩, l, D, S, Cs, b4, b5, hM2.same (s34.trans s5), hK2⟩
    · rintro σ G ⟨⟨v4, v5, v6, v7, v8, rfl⟩, l, D, S, Cs, b4, b5, hM, hK⟩
      exact ⟨_, rfl, _, rfl, g, l, D, S, Cs, b4, b5, n.toNat, rfl, hM, hK, by omega, fun l' G' _ _ => q G'⟩
end
end KA
set_option Elab.async false
set_option linter.all false
set_option maxRecDepth 100000
set_option maxHeartbeats 0
/-! the head's run: besides the defs, the classes of errors and the two tuples -/
namespace KA
open PySem PySem.Spec PyProof.Rows L2
abbrev R : PySem.W.OpenRow := PySem.W.OpenLaw.row PySem.Challenge.rw_deltaloom_k11_whole_disks_after_crashes
def ts : List He.Tab := []
def fa2 : List He.Fa := fa ++ [.glo "TWO_BYTES", .glo "FOUR_BYTES"]
abbrev eqO (a b : Option (Option Value)) : Bool := decide (a = b)
def isT (a : Option Bool) : Bool := decide (a = some true)
def clsFs (K : PySem.W.Frag) (C : Addr) : List Bool :=
  [PySem.W.excIn K C [.type "ValueError", .type "Exception", .type "BaseException", .type "object"] "ValueError.__new__", PySem.W.keepIn K (.ref C), isT (PySem.W.subIn K (.ref C) (.type "BaseException")), decide (PySem.W.typeIn K (.ref C) = some (.type "type")),
   eqO (PySem.W.findIn K (.ref C) "__getattribute__") (some (some (.builtin "BaseException.__getattribute__"))), eqO (PySem.W.findIn K (.ref C) "__getattr__") (some none), PySem.W.hasDictIn K C, eqO (PySem.W.findIn K (.ref C) "__class__") (some (some (.builtin "object.__class__"))),
   eqO (PySem.W.specialIn K (.builtin "object.__class__") "__get__") (some (some (.builtin "getset_descriptor.__get__"))), isT (PySem.W.takesIn K (.builtin "object.__class__")), isT (PySem.W.mroIn K C (.type "object")), isT (PySem.W.kitOne K (.ref C) (.ref (He.ga K "LoomError"))), isT (PySem.W.exmOne K (.ref C) (.ref C))]
def exB (K : PySem.W.Frag) : Bool := (clsFs K (He.ga K "FormError")).all id && ((clsFs K (He.ga K "SizeError")).all id && (He.tupB K "TWO_BYTES" [.int 8, .int 0] && He.tupB K "FOUR_BYTES" [.int 24, .int 16, .int 8, .int 0]))
def KK (g : Addr → Option PySem.Obj) : PySem.W.Frag := He.frT g (PySem.cStatics :: He.asD g 4)
abbrev AlK : Type := He.AlT × Bool
def obK (g : Addr → Option PySem.Obj) : AlK := (He.obsT fa2 fn ts (KK g), exB (KK g))
def vaK (w : World) : AlK := (He.valT fn ts w, true)
structure SaysK (w : World) (K : PySem.W.Frag) : Prop where
  t : He.SaysT fa2 fn ts w K
  ex : exB K = true
abbrev hk : PySem.W.Hook where
  α := AlK
  obs := fun s => obK s.heap.get?
  val := fun w => vaK w
  says := fun w h => ∃ K : PySem.W.Frag, K.In h ∧ SaysK w K
  of := fun w s e => ⟨KK s.heap.get?, He.frT_in, ⟨congrArg (fun z : AlK => z.1) e, congrArg (fun z : AlK => z.2) e⟩⟩
  keeps := fun w h h' ⟨K, hK, c⟩ k => ⟨K, PySem.W.Frag.In.keeps hK k, c⟩
def ob (s : PySem.W.SharedT) : AlK := obK (HandSHeadRun.getT s)
theorem ob_eq (s : PySem.W.SharedT) : ob s = hk.obs s.abs := by
  have e : HandSHeadRun.getT s = s.abs.heap.get? := funext (HandSHeadRun.getT_eq s)
  unfold ob
  rw [e]
def loose : List PySem.Str := (["LoomError", "FormError", "SizeError", "SPAN", "LOWEST", "LONGEST_TEXT", "LONGEST_ROW", "wrap", "rank", "row_rank", "DIGITS", "MOST_DIGITS", "LONGEST_NAME", "PERCENT_SIGN", "format_value", "format_row", "format_bag", "format_change", "parse_change", "all_of", "require", "behind", "read_series", "read_enclosed", "read_integer"] : List PySem.Str) ++ (["read_text", "read_value", "read_row", "read_pair", "read_bag", "read_name", "read_named_bag", "read_change", "MODULUS", "MOST_CHARACTERS", "TWO_BYTES", "FOUR_BYTES", "CHARACTERS", "check_number", "encode_change", "read_changes", "in_bytes", "content_at", "change_of", "Disk", "_law_state", "_law_draw", "_law_one", "_law_row", "_law_key"] : List PySem.Str) ++ (["_law_canon", "_law_bag", "_law_change", "_law_check", "_law_bytes", "_law_shown", "_law_shown_bag", "_law_shown_change", "_law_record", "_law_chars", "_law_parsed", "_law_readable", "_law_junk", "_law_ends", "_law_long", "_law_sizes_right", "_law_appended", "_law_recovered"] : List PySem.Str)
theorem run (w : World) : HandSHeadRun.RunEq R (PySem.W.view R.prog [73]) hk ob 8000 loose w := by
  intro os
  kernel_rfl
end KA
set_option Elab.async false
set_option linter.all false
set_option maxRecDepth 100000
set_option maxHeartbeats 4000000
/-! the facts of the top -/
namespace KA
open PySem PySem.Spec PyProof.Rows L2
section
variable {P : Program} {w : World} {K : PySem.W.Frag} {mg : Str → Option Value} {h : Heap}
theorem isT_ok {a : Option Bool} (h : isT a = true) : a = some true := of_decide_eq_true h
theorem eqO_is {a b : Option (Option Value)} (h : eqO a b = true) : a = b := of_decide_eq_true h
theorem cal_of {x : Str} {st : Stmt} {f : Addr} {fd : FuncData} {base : Heap} {j k : Nat} {ps : List Str} {sp : Sp} (F : FnP K x st f fd) (g : mg x = some (.ref f)) (b : Binds K fd ps []) (G : FnOk P w K mg base CX0 j f fd ps sp) (h : j ≤ k := by decide) : Cal P w K mg base x k ps sp := ⟨f, fd, g, F.kp, b, G.mono h⟩
theorem calX_of {x : Str} {st : Stmt} {f : Addr} {fd : FuncData} {base : Heap} {j k : Nat} {ps : List Str} {sp : Sp} (F : FnP K x st f fd) (g : mg x = some (.ref f)) (b : Binds K fd ps []) (G : FnOk P w K mg base (L2.CX P w) j f fd ps sp) (h : j ≤ k := by decide) : CalX P w K mg base x k ps sp := ⟨f, fd, g, F.kp, b, G.mono h⟩
theorem top_facts (X : K.In h) (G : h.Ns mainGlobals mg) {f : Addr} (gf : mg ("law" : Str) = some (.ref f)) (cx : SaysK w K) :
    ∃ (fd : FuncData), (∀ (s : Shared) (u : Value), BindsTo s fd ⟨[u], []⟩ [("script", u)]) ∧ ∀ base : Heap, FnOk P w K mg base CX0 23 f fd ["script"] (spLaw K) := by
  have c : He.SaysD fa2 fn K := cx.t.d
  obtain ⟨fd_wrap, E_wrap⟩ := c.def_ 0 (d := d_wrap) rfl
  have F_wrap : FnP K "wrap" s_wrap (He.ga K "wrap") fd_wrap := E_wrap
  have g_wrap := He.glo_ok X G (c.fact 0 (f := .glo "wrap") rfl)
  have b_wrap : Binds K fd_wrap ["n"] [] := FunD.bindsN (ps := ["n"]) F_wrap fun _ _ _ _ _ _ us hl => match us, hl with | [_], _ => rfl
  obtain ⟨fd_rank, E_rank⟩ := c.def_ 1 (d := d_rank) rfl
  have F_rank : FnP K "rank" s_rank (He.ga K "rank") fd_rank := E_rank
  have g_rank := He.glo_ok X G (c.fact 1 (f := .glo "rank") rfl)
  have b_rank : Binds K fd_rank ["value"] [] := FunD.bindsN (ps := ["value"]) F_rank fun _ _ _ _ _ _ us hl => match us, hl with | [_], _ => rfl
  obtain ⟨fd_row_rank, E_row_rank⟩ := c.def_ 2 (d := d_row_rank) rfl
  have F_row_rank : FnP K "row_rank" s_row_rank (He.ga K "row_rank") fd_row_rank := E_row_rank
  have g_row_rank := He.glo_ok X G (c.fact 2 (f := .glo "row_rank") rfl)
  have b_row_rank : Binds K fd_row_rank ["row"] [] := FunD.bindsN (ps := ["row"]) F_row_rank fun _ _ _ _ _ _ us hl => match us, hl with | [_], _ => rfl
  obtain ⟨fd_format_value, E_format_value⟩ := c.def_ 3 (d := d_format_value) rfl
  have F_format_value : FnP K "format_value" s_format_value (He.ga K "format_value") fd_format_value := E_format_value
  have g_format_value := He.glo_ok X G (c.fact 3 (f := .glo "format_value") rfl)
  have b_format_value : Binds K fd_format_value ["value"] [] := FunD.bindsN (ps := ["value"]) F_format_value fun _ _ _ _ _ _ us hl => match us, hl with | [_], _ => rfl
  obtain ⟨fd_format_row, E_format_row⟩ := c.def_ 4 (d := d_format_row) rfl
  have F_format_row : FnP K "format_row" s_format_row (He.ga K "format_row") fd_format_row := E_format_row
  have g_format_row := He.glo_ok X G (c.fact 4 (f := .glo "format_row") rfl)
  have b_format_row : Binds K fd_format_row ["row"] [] := FunD.bindsN (ps := ["row"]) F_format_row fun _ _ _ _ _ _ us hl => match us, hl with | [_], _ => rfl
  obtain ⟨fd_format_bag, E_format_bag⟩ := c.def_ 5 (d := d_format_bag) rfl
  have F_format_bag : FnP K "format_bag" s_format_bag (He.ga K "format_bag") fd_format_bag := E_format_bag
  have g_format_bag := He.glo_ok X G (c.fact 5 (f := .glo "format_bag") rfl)
  have b_format_bag : Binds K fd_format_bag ["bag"] [] := FunD.bindsN (ps := ["bag"]) F_format_bag fun _ _ _ _ _ _ us hl => match us, hl with | [_], _ => rfl
  obtain ⟨fd_format_change, E_format_change⟩ := c.def_ 6 (d := d_format_change) rfl
  have F_format_change : FnP K "format_change" s_format_change (He.ga K "format_change") fd_format_change := E_format_change
  have g_format_change := He.glo_ok X G (c.fact 6 (f := .glo "format_change") rfl)
  have b_format_change : Binds K fd_format_change ["change"] [] := FunD.bindsN (ps := ["change"]) F_format_change fun _ _ _ _ _ _ us hl => match us, hl with | [_], _ => rfl
  obtain ⟨fd_parse_change, E_parse_change⟩ := c.def_ 7 (d := d_parse_change) rfl
  have F_parse_change : FnP K "parse_change" s_parse_change (He.ga K "parse_change") fd_parse_change := E_parse_change
  have g_parse_change := He.glo_ok X G (c.fact 7 (f := .glo "parse_change") rfl)
  have b_parse_change : Binds K fd_parse_change ["text"] [] := FunD.bindsN (ps := ["text"]) F_parse_change fun _ _ _ _ _ _ us hl => match us, hl with | [_], _ => rfl
  obtain ⟨fd_all_of, E_all_of⟩ := c.def_ 8 (d := d_all_of) rfl
  have F_all_of : FnP K "all_of" s_all_of (He.ga K "all_of") fd_all_of := E_all_of
  have g_all_of := He.glo_ok X G (c.fact 8 (f := .glo "all_of") rfl)
  have b_all_of : Binds K fd_all_of ["text", "read_thing"] [] := FunD.bindsN (ps := ["text", "read_thing"]) F_all_of fun _ _ _ _ _ _ us hl => match us, hl with | [_, _], _ => rfl
  obtain ⟨fd_require, E_require⟩ := c.def_ 9 (d := d_require) rfl
  have F_require : FnP K "require" s_require (He.ga K "require") fd_require := E_require
  have g_require := He.glo_ok X G (c.fact 9 (f := .glo "require") rfl)
  have b_require : Binds K fd_require ["right", "at"] [] := FunD.bindsN (ps := ["right", "at"]) F_require fun _ _ _ _ _ _ us hl => match us, hl with | [_, _], _ => rfl
  obtain ⟨fd_behind, E_behind⟩ := c.def_ 10 (d := d_behind) rfl
  have F_behind : FnP K "behind" s_behind (He.ga K "behind") fd_behind := E_behind
  have g_behind := He.glo_ok X G (c.fact 10 (f := .glo "behind") rfl)
  have b_behind : Binds K fd_behind ["text", "at", "word"] [] := FunD.bindsN (ps := ["text", "at", "word"]) F_behind fun _ _ _ _ _ _ us hl => match us, hl with | [_, _, _], _ => rfl
  obtain ⟨fd_read_series, E_read_series⟩ := c.def_ 11 (d := d_read_series) rfl
  have F_read_series : FnP K "read_series" s_read_series (He.ga K "read_series") fd_read_series := E_read_series
  have g_read_series := He.glo_ok X G (c.fact 11 (f := .glo "read_series") rfl)
  have b_read_series : Binds K fd_read_series ["text", "at", "separator", "read_item"] [] := FunD.bindsN (ps := ["text", "at", "separator", "read_item"]) F_read_series fun _ _ _ _ _ _ us hl => match us, hl with | [_, _, _, _], _ => rfl
  obtain ⟨fd_read_enclosed, E_read_enclosed⟩ := c.def_ 12 (d := d_read_enclosed) rfl
  have F_read_enclosed : FnP K "read_enclosed" s_read_enclosed (He.ga K "read_enclosed") fd_read_enclosed := E_read_enclosed
  have g_read_enclosed := He.glo_ok X G (c.fact 12 (f := .glo "read_enclosed") rfl)
  have b_read_enclosed : Binds K fd_read_enclosed ["text", "at", "ends", "read_item"] [] := FunD.bindsN (ps := ["text", "at", "ends", "read_item"]) F_read_enclosed fun _ _ _ _ _ _ us hl => match us, hl with | [_, _, _, _], _ => rfl
  obtain ⟨fd_read_integer, E_read_integer⟩ := c.def_ 13 (d := d_read_integer) rfl
  have F_read_integer : FnP K "read_integer" s_read_integer (He.ga K "read_integer") fd_read_integer := E_read_integer
  have g_read_integer := He.glo_ok X G (c.fact 13 (f := .glo "read_integer") rfl)
  have b_read_integer : Binds K fd_read_integer ["text", "at"] [] := FunD.bindsN (ps := ["text", "at"]) F_read_integer fun _ _ _ _ _ _ us hl => match us, hl with | [_, _], _ => rfl
  obtain ⟨fd_read_text, E_read_text⟩ := c.def_ 14 (d := d_read_text) rfl
  have F_read_text : FnP K "read_text" s_read_text (He.ga K "read_text") fd_read_text := E_read_text
  have g_read_text := He.glo_ok X G (c.fact 14 (f := .glo "read_text") rfl)
  have b_read_text : Binds K fd_read_text ["text", "at"] [] := FunD.bindsN (ps := ["text", "at"]) F_read_text fun _ _ _ _ _ _ us hl => match us, hl with | [_, _], _ => rfl
  obtain ⟨fd_read_value, E_read_value⟩ := c.def_ 15 (d := d_read_value) rfl
  have F_read_value : FnP K "read_value" s_read_value (He.ga K "read_value") fd_read_value := E_read_value
  have g_read_value := He.glo_ok X G (c.fact 15 (f := .glo "read_value") rfl)
  have b_read_value : Binds K fd_read_value ["text", "at"] [] := FunD.bindsN (ps := ["text", "at"]) F_read_value fun _ _ _ _ _ _ us hl => match us, hl with | [_, _], _ => rfl
  obtain ⟨fd_read_row, E_read_row⟩ := c.def_ 16 (d := d_read_row) rfl
  have F_read_row : FnP K "read_row" s_read_row (He.ga K "read_row") fd_read_row := E_read_row
  have g_read_row := He.glo_ok X G (c.fact 16 (f := .glo "read_row") rfl)
  have b_read_row : Binds K fd_read_row ["text", "at"] [] := FunD.bindsN (ps := ["text", "at"]) F_read_row fun _ _ _ _ _ _ us hl => match us, hl with | [_, _], _ => rfl
  obtain ⟨fd_read_pair, E_read_pair⟩ := c.def_ 17 (d := d_read_pair) rfl
  have F_read_pair : FnP K "read_pair" s_read_pair (He.ga K "read_pair") fd_read_pair := E_read_pair
  have g_read_pair := He.glo_ok X G (c.fact 17 (f := .glo "read_pair") rfl)
  have b_read_pair : Binds K fd_read_pair ["text", "at"] [] := FunD.bindsN (ps := ["text", "at"]) F_read_pair fun _ _ _ _ _ _ us hl => match us, hl with | [_, _], _ => rfl
  obtain ⟨fd_read_bag, E_read_bag⟩ := c.def_ 18 (d := d_read_bag) rfl
  have F_read_bag : FnP K "read_bag" s_read_bag (He.ga K "read_bag") fd_read_bag := E_read_bag
  have g_read_bag := He.glo_ok X G (c.fact 18 (f := .glo "read_bag") rfl)
  have b_read_bag : Binds K fd_read_bag ["text", "at"] [] := FunD.bindsN (ps := ["text", "at"]) F_read_bag fun _ _ _ _ _ _ us hl => match us, hl with | [_, _], _ => rfl
  obtain ⟨fd_read_name, E_read_name⟩ := c.def_ 19 (d := d_read_name) rfl
  have F_read_name : FnP K "read_name" s_read_name (He.ga K "read_name") fd_read_name := E_read_name
  have g_read_name := He.glo_ok X G (c.fact 19 (f := .glo "read_name") rfl)
  have b_read_name : Binds K fd_read_name ["text", "at"] [] := FunD.bindsN (ps := ["text", "at"]) F_read_name fun _ _ _ _ _ _ us hl => match us, hl with | [_, _], _ => rfl
  obtain ⟨fd_read_named_bag, E_read_named_bag⟩ := c.def_ 20 (d := d_read_named_bag) rfl
  have F_read_named_bag : FnP K "read_named_bag" s_read_named_bag (He.ga K "read_named_bag") fd_read_named_bag := E_read_named_bag
  have g_read_named_bag := He.glo_ok X G (c.fact 20 (f := .glo "read_named_bag") rfl)
  have b_read_named_bag : Binds K fd_read_named_bag ["text", "at"] [] := FunD.bindsN (ps := ["text", "at"]) F_read_named_bag fun _ _ _ _ _ _ us hl => match us, hl with | [_, _], _ => rfl
  obtain ⟨fd_read_change, E_read_change⟩ := c.def_ 21 (d := d_read_change) rfl
  have F_read_change : FnP K "read_change" s_read_change (He.ga K "read_change") fd_read_change := E_read_change
  have g_read_change := He.glo_ok X G (c.fact 21 (f := .glo "read_change") rfl)
  have b_read_change : Binds K fd_read_change ["text", "at"] [] := FunD.bindsN (ps := ["text", "at"]) F_read_change fun _ _ _ _ _ _ us hl => match us, hl with | [_, _], _ => rfl
  obtain ⟨fd_check_number, E_check_number⟩ := c.def_ 22 (d := d_check_number) rfl
  have F_check_number : FnP K "check_number" s_check_number (He.ga K "check_number") fd_check_number := E_check_number
  have g_check_number := He.glo_ok X G (c.fact 22 (f := .glo "check_number") rfl)
  have b_check_number : Binds K fd_check_number ["data"] [] := FunD.bindsN (ps := ["data"]) F_check_number fun _ _ _ _ _ _ us hl => match us, hl with | [_], _ => rfl
  obtain ⟨fd_encode_change, E_encode_change⟩ := c.def_ 23 (d := d_encode_change) rfl
  have F_encode_change : FnP K "encode_change" s_encode_change (He.ga K "encode_change") fd_encode_change := E_encode_change
  have g_encode_change := He.glo_ok X G (c.fact 23 (f := .glo "encode_change") rfl)
  have b_encode_change : Binds K fd_encode_change ["change"] [] := FunD.bindsN (ps := ["change"]) F_encode_change fun _ _ _ _ _ _ us hl => match us, hl with | [_], _ => rfl
  obtain ⟨fd_read_changes, E_read_changes⟩ := c.def_ 24 (d := d_read_changes) rfl
  have F_read_changes : FnP K "read_changes" s_read_changes (He.ga K "read_changes") fd_read_changes := E_read_changes
  have g_read_changes := He.glo_ok X G (c.fact 24 (f := .glo "read_changes") rfl)
  have b_read_changes : Binds K fd_read_changes ["data"] [] := FunD.bindsN (ps := ["data"]) F_read_changes fun _ _ _ _ _ _ us hl => match us, hl with | [_], _ => rfl
  obtain ⟨fd_in_bytes, E_in_bytes⟩ := c.def_ 25 (d := d_in_bytes) rfl
  have F_in_bytes : FnP K "in_bytes" s_in_bytes (He.ga K "in_bytes") fd_in_bytes := E_in_bytes
  have g_in_bytes := He.glo_ok X G (c.fact 25 (f := .glo "in_bytes") rfl)
  have b_in_bytes : Binds K fd_in_bytes ["number", "shifts"] [] := FunD.bindsN (ps := ["number", "shifts"]) F_in_bytes fun _ _ _ _ _ _ us hl => match us, hl with | [_, _], _ => rfl
  obtain ⟨fd_content_at, E_content_at⟩ := c.def_ 26 (d := d_content_at) rfl
  have F_content_at : FnP K "content_at" s_content_at (He.ga K "content_at") fd_content_at := E_content_at
  have g_content_at := He.glo_ok X G (c.fact 26 (f := .glo "content_at") rfl)
  have b_content_at : Binds K fd_content_at ["data", "at"] [] := FunD.bindsN (ps := ["data", "at"]) F_content_at fun _ _ _ _ _ _ us hl => match us, hl with | [_, _], _ => rfl
  obtain ⟨fd_change_of, E_change_of⟩ := c.def_ 27 (d := d_change_of) rfl
  have F_change_of : FnP K "change_of" s_change_of (He.ga K "change_of") fd_change_of := E_change_of
  have g_change_of := He.glo_ok X G (c.fact 27 (f := .glo "change_of") rfl)
  have b_change_of : Binds K fd_change_of ["content", "characters"] [] := FunD.bindsN (ps := ["content", "characters"]) F_change_of fun _ _ _ _ _ _ us hl => match us, hl with | [_, _], _ => rfl
  obtain ⟨fd__law_state, E__law_state⟩ := c.def_ 28 (d := d__law_state) rfl
  have F__law_state : FnP K "_law_state" s__law_state (He.ga K "_law_state") fd__law_state := E__law_state
  have g__law_state := He.glo_ok X G (c.fact 28 (f := .glo "_law_state") rfl)
  have b__law_state : Binds K fd__law_state ["script"] [] := FunD.bindsN (ps := ["script"]) F__law_state fun _ _ _ _ _ _ us hl => match us, hl with | [_], _ => rfl
  obtain ⟨fd__law_draw, E__law_draw⟩ := c.def_ 29 (d := d__law_draw) rfl
  have F__law_draw : FnP K "_law_draw" s__law_draw (He.ga K "_law_draw") fd__law_draw := E__law_draw
  have g__law_draw := He.glo_ok X G (c.fact 29 (f := .glo "_law_draw") rfl)
  have b__law_draw : Binds K fd__law_draw ["state", "many"] [] := FunD.bindsN (ps := ["state", "many"]) F__law_draw fun _ _ _ _ _ _ us hl => match us, hl with | [_, _], _ => rfl
  obtain ⟨fd__law_one, E__law_one⟩ := c.def_ 30 (d := d__law_one) rfl
  have F__law_one : FnP K "_law_one" s__law_one (He.ga K "_law_one") fd__law_one := E__law_one
  have g__law_one := He.glo_ok X G (c.fact 30 (f := .glo "_law_one") rfl)
  have b__law_one : Binds K fd__law_one ["state"] [] := FunD.bindsN (ps := ["state"]) F__law_one fun _ _ _ _ _ _ us hl => match us, hl with | [_], _ => rfl
  obtain ⟨fd__law_row, E__law_row⟩ := c.def_ 31 (d := d__law_row) rfl
  have F__law_row : FnP K "_law_row" s__law_row (He.ga K "_law_row") fd__law_row := E__law_row
  have g__law_row := He.glo_ok X G (c.fact 31 (f := .glo "_law_row") rfl)
  have b__law_row : Binds K fd__law_row ["state", "most"] [] := FunD.bindsN (ps := ["state", "most"]) F__law_row fun _ _ _ _ _ _ us hl => match us, hl with | [_, _], _ => rfl
  obtain ⟨fd__law_key, E__law_key⟩ := c.def_ 32 (d := d__law_key) rfl
  have F__law_key : FnP K "_law_key" s__law_key (He.ga K "_law_key") fd__law_key := E__law_key
  have g__law_key := He.glo_ok X G (c.fact 32 (f := .glo "_law_key") rfl)
  have b__law_key : Binds K fd__law_key ["row"] [] := FunD.bindsN (ps := ["row"]) F__law_key fun _ _ _ _ _ _ us hl => match us, hl with | [_], _ => rfl
  obtain ⟨fd__law_canon, E__law_canon⟩ := c.def_ 33 (d := d__law_canon) rfl
  have F__law_canon : FnP K "_law_canon" s__law_canon (He.ga K "_law_canon") fd__law_canon := E__law_canon
  have g__law_canon := He.glo_ok X G (c.fact 33 (f := .glo "_law_canon") rfl)
  have b__law_canon : Binds K fd__law_canon ["counts"] [] := FunD.bindsN (ps := ["counts"]) F__law_canon fun _ _ _ _ _ _ us hl => match us, hl with | [_], _ => rfl
  obtain ⟨fd__law_bag, E__law_bag⟩ := c.def_ 34 (d := d__law_bag) rfl
  have F__law_bag : FnP K "_law_bag" s__law_bag (He.ga K "_law_bag") fd__law_bag := E__law_bag
  have g__law_bag := He.glo_ok X G (c.fact 34 (f := .glo "_law_bag") rfl)
  have b__law_bag : Binds K fd__law_bag ["state", "most"] [] := FunD.bindsN (ps := ["state", "most"]) F__law_bag fun _ _ _ _ _ _ us hl => match us, hl with | [_, _], _ => rfl
  obtain ⟨fd__law_change, E__law_change⟩ := c.def_ 35 (d := d__law_change) rfl
  have F__law_change : FnP K "_law_change" s__law_change (He.ga K "_law_change") fd__law_change := E__law_change
  have g__law_change := He.glo_ok X G (c.fact 35 (f := .glo "_law_change") rfl)
  have b__law_change : Binds K fd__law_change ["state"] [] := FunD.bindsN (ps := ["state"]) F__law_change fun _ _ _ _ _ _ us hl => match us, hl with | [_], _ => rfl
  obtain ⟨fd__law_check, E__law_check⟩ := c.def_ 36 (d := d__law_check) rfl
  have F__law_check : FnP K "_law_check" s__law_check (He.ga K "_law_check") fd__law_check := E__law_check
  have g__law_check := He.glo_ok X G (c.fact 36 (f := .glo "_law_check") rfl)
  have b__law_check : Binds K fd__law_check ["data"] [] := FunD.bindsN (ps := ["data"]) F__law_check fun _ _ _ _ _ _ us hl => match us, hl with | [_], _ => rfl
  obtain ⟨fd__law_bytes, E__law_bytes⟩ := c.def_ 37 (d := d__law_bytes) rfl
  have F__law_bytes : FnP K "_law_bytes" s__law_bytes (He.ga K "_law_bytes") fd__law_bytes := E__law_bytes
  have g__law_bytes := He.glo_ok X G (c.fact 37 (f := .glo "_law_bytes") rfl)
  have b__law_bytes : Binds K fd__law_bytes ["number", "size"] [] := FunD.bindsN (ps := ["number", "size"]) F__law_bytes fun _ _ _ _ _ _ us hl => match us, hl with | [_, _], _ => rfl
  obtain ⟨fd__law_shown, E__law_shown⟩ := c.def_ 38 (d := d__law_shown) rfl
  have F__law_shown : FnP K "_law_shown" s__law_shown (He.ga K "_law_shown") fd__law_shown := E__law_shown
  have g__law_shown := He.glo_ok X G (c.fact 38 (f := .glo "_law_shown") rfl)
  have b__law_shown : Binds K fd__law_shown ["one"] [] := FunD.bindsN (ps := ["one"]) F__law_shown fun _ _ _ _ _ _ us hl => match us, hl with | [_], _ => rfl
  obtain ⟨fd__law_shown_bag, E__law_shown_bag⟩ := c.def_ 39 (d := d__law_shown_bag) rfl
  have F__law_shown_bag : FnP K "_law_shown_bag" s__law_shown_bag (He.ga K "_law_shown_bag") fd__law_shown_bag := E__law_shown_bag
  have g__law_shown_bag := He.glo_ok X G (c.fact 39 (f := .glo "_law_shown_bag") rfl)
  have b__law_shown_bag : Binds K fd__law_shown_bag ["bag"] [] := FunD.bindsN (ps := ["bag"]) F__law_shown_bag fun _ _ _ _ _ _ us hl => match us, hl with | [_], _ => rfl
  obtain ⟨fd__law_shown_change, E__law_shown_change⟩ := c.def_ 40 (d := d__law_shown_change) rfl
  have F__law_shown_change : FnP K "_law_shown_change" s__law_shown_change (He.ga K "_law_shown_change") fd__law_shown_change := E__law_shown_change
  have g__law_shown_change := He.glo_ok X G (c.fact 40 (f := .glo "_law_shown_change") rfl)
  have b__law_shown_change : Binds K fd__law_shown_change ["change"] [] := FunD.bindsN (ps := ["change"]) F__law_shown_change fun _ _ _ _ _ _ us hl => match us, hl with | [_], _ => rfl
  obtain ⟨fd__law_record, E__law_record⟩ := c.def_ 41 (d := d__law_record) rfl
  have F__law_record : FnP K "_law_record" s__law_record (He.ga K "_law_record") fd__law_record := E__law_record
  have g__law_record := He.glo_ok X G (c.fact 41 (f := .glo "_law_record") rfl)
  have b__law_record : Binds K fd__law_record ["change"] [] := FunD.bindsN (ps := ["change"]) F__law_record fun _ _ _ _ _ _ us hl => match us, hl with | [_], _ => rfl
  obtain ⟨fd__law_chars, E__law_chars⟩ := c.def_ 42 (d := d__law_chars) rfl
  have F__law_chars : FnP K "_law_chars" s__law_chars (He.ga K "_law_chars") fd__law_chars := E__law_chars
  have g__law_chars := He.glo_ok X G (c.fact 42 (f := .glo "_law_chars") rfl)
  have b__law_chars : Binds K fd__law_chars [] [] := FunD.bindsN (ps := []) F__law_chars fun _ _ _ _ _ _ us hl => match us, hl with | [], _ => rfl
  obtain ⟨fd__law_parsed, E__law_parsed⟩ := c.def_ 43 (d := d__law_parsed) rfl
  have F__law_parsed : FnP K "_law_parsed" s__law_parsed (He.ga K "_law_parsed") fd__law_parsed := E__law_parsed
  have g__law_parsed := He.glo_ok X G (c.fact 43 (f := .glo "_law_parsed") rfl)
  have b__law_parsed : Binds K fd__law_parsed ["data"] [] := FunD.bindsN (ps := ["data"]) F__law_parsed fun _ _ _ _ _ _ us hl => match us, hl with | [_], _ => rfl
  obtain ⟨fd__law_readable, E__law_readable⟩ := c.def_ 44 (d := d__law_readable) rfl
  have F__law_readable : FnP K "_law_readable" s__law_readable (He.ga K "_law_readable") fd__law_readable := E__law_readable
  have g__law_readable := He.glo_ok X G (c.fact 44 (f := .glo "_law_readable") rfl)
  have b__law_readable : Binds K fd__law_readable ["data"] [] := FunD.bindsN (ps := ["data"]) F__law_readable fun _ _ _ _ _ _ us hl => match us, hl with | [_], _ => rfl
  obtain ⟨fd__law_junk, E__law_junk⟩ := c.def_ 45 (d := d__law_junk) rfl
  have F__law_junk : FnP K "_law_junk" s__law_junk (He.ga K "_law_junk") fd__law_junk := E__law_junk
  have g__law_junk := He.glo_ok X G (c.fact 45 (f := .glo "_law_junk") rfl)
  have b__law_junk : Binds K fd__law_junk ["state"] [] := FunD.bindsN (ps := ["state"]) F__law_junk fun _ _ _ _ _ _ us hl => match us, hl with | [_], _ => rfl
  obtain ⟨fd__law_ends, E__law_ends⟩ := c.def_ 46 (d := d__law_ends) rfl
  have F__law_ends : FnP K "_law_ends" s__law_ends (He.ga K "_law_ends") fd__law_ends := E__law_ends
  have g__law_ends := He.glo_ok X G (c.fact 46 (f := .glo "_law_ends") rfl)
  have b__law_ends : Binds K fd__law_ends ["changes"] [] := FunD.bindsN (ps := ["changes"]) F__law_ends fun _ _ _ _ _ _ us hl => match us, hl with | [_], _ => rfl
  obtain ⟨fd__law_long, E__law_long⟩ := c.def_ 47 (d := d__law_long) rfl
  have F__law_long : FnP K "_law_long" s__law_long (He.ga K "_law_long") fd__law_long := E__law_long
  have g__law_long := He.glo_ok X G (c.fact 47 (f := .glo "_law_long") rfl)
  have b__law_long : Binds K fd__law_long ["over"] [] := FunD.bindsN (ps := ["over"]) F__law_long fun _ _ _ _ _ _ us hl => match us, hl with | [_], _ => rfl
  obtain ⟨fd__law_sizes_right, E__law_sizes_right⟩ := c.def_ 48 (d := d__law_sizes_right) rfl
  have F__law_sizes_right : FnP K "_law_sizes_right" s__law_sizes_right (He.ga K "_law_sizes_right") fd__law_sizes_right := E__law_sizes_right
  have g__law_sizes_right := He.glo_ok X G (c.fact 48 (f := .glo "_law_sizes_right") rfl)
  have b__law_sizes_right : Binds K fd__law_sizes_right [] [] := FunD.bindsN (ps := []) F__law_sizes_right fun _ _ _ _ _ _ us hl => match us, hl with | [], _ => rfl
  obtain ⟨fd__law_appended, E__law_appended⟩ := c.def_ 49 (d := d__law_appended) rfl
  have F__law_appended : FnP K "_law_appended" s__law_appended (He.ga K "_law_appended") fd__law_appended := E__law_appended
  have g__law_appended := He.glo_ok X G (c.fact 49 (f := .glo "_law_appended") rfl)
  have b__law_appended : Binds K fd__law_appended ["disk", "m", "change"] [] := FunD.bindsN (ps := ["disk", "m", "change"]) F__law_appended fun _ _ _ _ _ _ us hl => match us, hl with | [_, _, _], _ => rfl
  obtain ⟨fd__law_recovered, E__law_recovered⟩ := c.def_ 50 (d := d__law_recovered) rfl
  have F__law_recovered : FnP K "_law_recovered" s__law_recovered (He.ga K "_law_recovered") fd__law_recovered := E__law_recovered
  have g__law_recovered := He.glo_ok X G (c.fact 50 (f := .glo "_law_recovered") rfl)
  have b__law_recovered : Binds K fd__law_recovered ["disk", "m"] [] := FunD.bindsN (ps := ["disk", "m"]) F__law_recovered fun _ _ _ _ _ _ us hl => match us, hl with | [_, _], _ => rfl
  obtain ⟨fd_law, E_law⟩ := c.def_ 51 (d := d_law) rfl
  have F_law : FnP K "law" s_law (He.ga K "law") fd_law := E_law
  have g_law := He.glo_ok X G (c.fact 51 (f := .glo "law") rfl)
  obtain ⟨t_SPAN, i_SPAN⟩ := He.int_ok X G (c.fact 52 (f := .int "SPAN" (4294967296)) rfl)
  obtain ⟨t_LOWEST, i_LOWEST⟩ := He.int_ok X G (c.fact 53 (f := .int "LOWEST" (-2147483648)) rfl)
  obtain ⟨t_LONGEST_TEXT, i_LONGEST_TEXT⟩ := He.int_ok X G (c.fact 54 (f := .int "LONGEST_TEXT" (40)) rfl)
  obtain ⟨t_LONGEST_ROW, i_LONGEST_ROW⟩ := He.int_ok X G (c.fact 55 (f := .int "LONGEST_ROW" (8)) rfl)
  obtain ⟨t_DIGITS, i_DIGITS⟩ := He.str_ok X G (c.fact 56 (f := .str "DIGITS" "0123456789") rfl)
  obtain ⟨t_MOST_DIGITS, i_MOST_DIGITS⟩ := He.int_ok X G (c.fact 57 (f := .int "MOST_DIGITS" (30)) rfl)
  obtain ⟨t_LONGEST_NAME, i_LONGEST_NAME⟩ := He.int_ok X G (c.fact 58 (f := .int "LONGEST_NAME" (12)) rfl)
  obtain ⟨t_PERCENT_SIGN, i_PERCENT_SIGN⟩ := He.int_ok X G (c.fact 59 (f := .int "PERCENT_SIGN" (37)) rfl)
  obtain ⟨t_MODULUS, i_MODULUS⟩ := He.int_ok X G (c.fact 60 (f := .int "MODULUS" (4294967291)) rfl)
  obtain ⟨t_MOST_CHARACTERS, i_MOST_CHARACTERS⟩ := He.int_ok X G (c.fact 61 (f := .int "MOST_CHARACTERS" (65535)) rfl)
  obtain ⟨t_CHARACTERS, i_CHARACTERS⟩ := He.str_ok X G (c.fact 62 (f := .str "CHARACTERS" CHARS) rfl)
  have n_len := He.free_ok X G (c.fact 63 (f := .free "len") rfl)
  have n_range := He.free_ok X G (c.fact 64 (f := .free "range") rfl)
  have n_int := He.free_ok X G (c.fact 65 (f := .free "int") rfl)
  have n_abs := He.free_ok X G (c.fact 66 (f := .free "abs") rfl)
  have n_isinstance := He.free_ok X G (c.fact 67 (f := .free "isinstance") rfl)
  have n_tuple := He.free_ok X G (c.fact 68 (f := .free "tuple") rfl)
  have n_sorted := He.free_ok X G (c.fact 69 (f := .free "sorted") rfl)
  have n_list := He.free_ok X G (c.fact 70 (f := .free "list") rfl)
  have n_str := He.free_ok X G (c.fact 71 (f := .free "str") rfl)
  have n_zip := He.free_ok X G (c.fact 72 (f := .free "zip") rfl)
  have n_all := He.free_ok X G (c.fact 73 (f := .free "all") rfl)
  have n_ord := He.free_ok X G (c.fact 74 (f := .free "ord") rfl)
  obtain ⟨fd_Dinit, E_Dinit⟩ := c.def_ 52 (d := d_Disk___init__) rfl
  have F_Dinit : FnM K "__init__" "Disk.__init__" s_Disk___init__ (He.ma K (He.ga K "Disk") "__init__") fd_Dinit := E_Dinit
  have b_Dinit : Binds K fd_Dinit ["self"] [] := FunD.bindsN (ps := ["self"]) F_Dinit fun _ _ _ _ _ _ us hl => match us, hl with | [_], _ => rfl
  obtain ⟨fd_Dappend, E_Dappend⟩ := c.def_ 53 (d := d_Disk_append) rfl
  have F_Dappend : FnM K "append" "Disk.append" s_Disk_append (He.ma K (He.ga K "Disk") "append") fd_Dappend := E_Dappend
  have b_Dappend : Binds K fd_Dappend ["self", "change"] [] := FunD.bindsN (ps := ["self", "change"]) F_Dappend fun _ _ _ _ _ _ us hl => match us, hl with | [_, _], _ => rfl
  obtain ⟨fd_Dsync, E_Dsync⟩ := c.def_ 54 (d := d_Disk_sync) rfl
  have F_Dsync : FnM K "sync" "Disk.sync" s_Disk_sync (He.ma K (He.ga K "Disk") "sync") fd_Dsync := E_Dsync
  have b_Dsync : Binds K fd_Dsync ["self"] [] := FunD.bindsN (ps := ["self"]) F_Dsync fun _ _ _ _ _ _ us hl => match us, hl with | [_], _ => rfl
  obtain ⟨fd_Dcrash, E_Dcrash⟩ := c.def_ 55 (d := d_Disk_crash) rfl
  have F_Dcrash : FnM K "crash" "Disk.crash" s_Disk_crash (He.ma K (He.ga K "Disk") "crash") fd_Dcrash := E_Dcrash
  have b_Dcrash : Binds K fd_Dcrash ["self", "kept", "junk"] [] := FunD.bindsN (ps := ["self", "kept", "junk"]) F_Dcrash fun _ _ _ _ _ _ us hl => match us, hl with | [_, _, _], _ => rfl
  obtain ⟨fd_Drecover, E_Drecover⟩ := c.def_ 56 (d := d_Disk_recover) rfl
  have F_Drecover : FnM K "recover" "Disk.recover" s_Disk_recover (He.ma K (He.ga K "Disk") "recover") fd_Drecover := E_Drecover
  have b_Drecover : Binds K fd_Drecover ["self"] [] := FunD.bindsN (ps := ["self"]) F_Drecover fun _ _ _ _ _ _ us hl => match us, hl with | [_], _ => rfl
  have m_Dappend := He.meth_ok (c.fact 83 (f := .meth "Disk" "append") rfl)
  have m_Dsync := He.meth_ok (c.fact 84 (f := .meth "Disk" "sync") rfl)
  have m_Dcrash := He.meth_ok (c.fact 85 (f := .meth "Disk" "crash") rfl)
  have m_Drecover := He.meth_ok (c.fact 86 (f := .meth "Disk" "recover") rfl)
  have mk_D := He.mkr_ok (c.fact 82 (f := .mkr "Disk") rfl)
  have g_LE := He.glo_ok X G (c.fact 75 (f := .glo "LoomError") rfl)
  have g_FE := He.glo_ok X G (c.fact 76 (f := .glo "FormError") rfl)
  have g_SE := He.glo_ok X G (c.fact 77 (f := .glo "SizeError") rfl)
  have g_T2 := He.glo_ok X G (c.fact 87 (f := .glo "TWO_BYTES") rfl)
  have g_T4 := He.glo_ok X G (c.fact 88 (f := .glo "FOUR_BYTES") rfl)
  have T : DskC K mg (He.ga K "Disk") := ⟨He.cls_ok (c.fact 79 (f := .cls "Disk") rfl), He.noat_ok (c.fact 80 (f := .noat "Disk" "data") rfl), He.noat_ok (c.fact 81 (f := .noat "Disk" "safe") rfl), He.glo_ok X G (c.fact 78 (f := .glo "Disk") rfl)⟩
  have hx := cx.ex
  simp only [exB, clsFs, List.all_cons, List.all_nil, Bool.and_eq_true, id] at hx
  obtain ⟨⟨x1, x2, x3, x4, x5, x6, x7, x8, x9, x10, x11, x12, x13, _⟩, ⟨y1, y2, y3, y4, y5, y6, y7, y8, y9, y10, y11, y12, y13, _⟩, z2, z4⟩ := hx
  have FCx : FormC K mg (He.ga K "FormError") := ⟨g_FE, x1, x2, isT_ok x3, of_decide_eq_true x4⟩
  have SCx : SizeC K mg (He.ga K "SizeError") := ⟨g_SE, y1, y2, isT_ok y3, of_decide_eq_true y4⟩
  have XCs : ExcC K (He.ga K "SizeError") := ⟨eqO_is y5, eqO_is y6, isT_ok y3, y7, eqO_is y8, eqO_is y9, isT_ok y10, isT_ok y11⟩
  have T2 : TupC K mg "TWO_BYTES" [8, 0] := ⟨_, g_T2, fun H => He.tupB_ok z2 H⟩
  have T4 : TupC K mg "FOUR_BYTES" [24, 16, 8, 0] := ⟨_, g_T4, fun H => He.tupB_ok z4 H⟩
  have e := gf.symm.trans g_law
  cases e
  have bd := FunD.bindsA (ps := ["script"]) F_law fun _ _ _ _ _ _ us hl => match us, hl with | [_], _ => rfl
  refine ⟨fd_law, fun s u => bd s [u] rfl, fun base => ?_⟩
  generalize eD : He.ga K "Disk" = CD at T mk_D m_Dappend m_Dsync m_Dcrash m_Drecover F_Dinit F_Dappend F_Dsync F_Dcrash F_Drecover
  have Gq : FnOk P w K mg base (L2.CX P w) 1 _ fd_require _ _ := ok_require F_require FCx
  have CQ := calX_of F_require g_require b_require Gq (k := 1)
  have CB := calX_of F_behind g_behind b_behind (ok_behind F_behind g_require F_require.kp b_require Gq n_len) (k := 2)
  have CI := calX_of F_read_integer g_read_integer b_read_integer (ok_read_integer F_read_integer CQ n_len n_int i_DIGITS i_MOST_DIGITS) (k := 3)
  have CN := calX_of F_read_name g_read_name b_read_name (ok_read_name F_read_name CQ n_len i_LONGEST_NAME) (k := 3)
  have CT := calX_of F_read_text g_read_text b_read_text (ok_read_text F_read_text CQ CB n_all n_ord i_LONGEST_TEXT i_PERCENT_SIGN) (k := 3)
  have CW := cal_of F_wrap g_wrap b_wrap (ok_wrap (P := P) (w := w) (base := base) F_wrap i_SPAN i_LOWEST) (k := 1)
  have Gv : FnOk P w K mg base (L2.CX P w) 4 _ fd_read_value _ (spRead (He.ga K "FormError") VlS rVl) := ok_read_value F_read_value CQ CW CI CT
  have CSv := calX_of F_read_series g_read_series b_read_series (ok_read_series (sep := ", ") stn_vl (by decide +kernel) (by decide +kernel) F_read_series n_len Gv F_read_value.kp b_read_value) (k := 5)
  have CEv := calX_of F_read_enclosed g_read_enclosed b_read_enclosed (ok_read_enclosed (o := 40) (c := 41) (k := 5) (by decide) stn_vl F_read_enclosed CB CSv) (k := 6)
  have Gr := ok_read_row F_read_row CQ CEv g_read_value n_len n_tuple i_LONGEST_ROW
  have CRow := calX_of F_read_row g_read_row b_read_row Gr (k := 8)
  have Gp := ok_read_pair stn_row F_read_pair CQ CB CI CRow
  have CSp := calX_of F_read_series g_read_series b_read_series (ok_read_series (sep := ", ") (stn_pair stn_row) (by decide +kernel) (by decide +kernel) F_read_series n_len Gp F_read_pair.kp b_read_pair) (k := 10)
  have CEp := calX_of F_read_enclosed g_read_enclosed b_read_enclosed (ok_read_enclosed (o := 123) (c := 125) (k := 10) (by decide) (stn_pair stn_row) F_read_enclosed CB CSp) (k := 11)
  have CRk := cal_of F_rank g_rank b_rank (ok_rank (P := P) (w := w) (base := base) F_rank n_isinstance n_str) (k := 1)
  have Gk := ok_row_rankT F_row_rank n_tuple CRk
  have CKT := cal_of F_row_rank g_row_rank b_row_rank Gk (k := 2)
  have CK : Cal P w K mg base "row_rank" 2 ["row"] (spKey K rankRow) := cal_of F_row_rank g_row_rank b_row_rank (Gk.imp fun vs H Q E ⟨q0, r, e1, e2, e3, e4⟩ => ⟨q0, r, e1, e2, e3, fun v H' s' d => e4 v H' s' d.dp⟩) (k := 2)
  have Gb := ok_read_bag F_read_bag CQ CEp CKT g_read_pair n_all n_zip
  have CBag := calX_of F_read_bag g_read_bag b_read_bag Gb (k := 12)
  have Gn := ok_read_named_bag stn_bag F_read_named_bag CB CN CBag
  have CSn := calX_of F_read_series g_read_series b_read_series (ok_read_series (sep := "; ") (stn_named stn_bag) (by decide +kernel) (by decide +kernel) F_read_series n_len Gn F_read_named_bag.kp b_read_named_bag) (k := 14)
  have Gc := ok_read_change F_read_change CSn g_read_named_bag
  have CAc := calX_of F_all_of g_all_of b_all_of (ok_all_of (k := 15) (by decide) (stn_list (stn_named stn_bag)) F_all_of CQ n_len Gc F_read_change.kp b_read_change) (k := 16)
  have PC := calX_of F_parse_change g_parse_change b_parse_change (ok_parse_change F_parse_change CAc g_read_change) (k := 17)
  have FV := cal_of F_format_value g_format_value b_format_value (ok_format_value (P := P) (w := w) (base := base) F_format_value n_isinstance n_str) (k := 1)
  have FR := cal_of F_format_row g_format_row b_format_row (ok_format_row F_format_row FV) (k := 2)
  have FB := cal_of F_format_bag g_format_bag b_format_bag (ok_format_bag F_format_bag FR) (k := 3)
  have FC := cal_of F_format_change g_format_change b_format_change (ok_format_change F_format_change FB) (k := 4)
  have CIb := cal_of F_in_bytes g_in_bytes b_in_bytes (ok_in_bytes (P := P) (w := w) (base := base) F_in_bytes) (k := 1)
  have CNb := cal_of F_check_number g_check_number b_check_number (ok_check_number (P := P) (w := w) (base := base) F_check_number i_MODULUS) (k := 1)
  have CEc := calX_of F_encode_change g_encode_change b_encode_change (ok_encode_change F_encode_change SCx n_len n_ord i_MOST_CHARACTERS T2 T4 FC CIb CNb) (k := 5)
  have CAt := cal_of F_content_at g_content_at b_content_at (ok_content_at F_content_at n_len T2 T4 CIb CNb) (k := 2)
  have COf := cal_of F_change_of g_change_of b_change_of (ok_change_of F_change_of n_all g_FE (isT_ok x13) PC) (k := 18)
  have CRc := cal_of F_read_changes g_read_changes b_read_changes (ok_read_changes F_read_changes n_len n_ord i_CHARACTERS T2 T4 CAt COf) (k := 19)
  have K_disk : MakeG P w K mg base CX0 CD 1 ["self"] (spDInit CD) := ⟨_, fd_Dinit, mk_D, ok_dinit F_Dinit T, b_Dinit⟩
  have M_append : MethG P w K mg base (L2.CX P w) CD "append" 6 ["self", "change"] (spDAppend CD (He.ga K "SizeError")) := ⟨_, fd_Dappend, m_Dappend, ok_dappend F_Dappend T CEc, b_Dappend⟩
  have M_sync : MethG P w K mg base CX0 CD "sync" 1 ["self"] (spDSync CD) := ⟨_, fd_Dsync, m_Dsync, ok_dsync F_Dsync T n_len, b_Dsync⟩
  have M_crash : MethG P w K mg base CX0 CD "crash" 1 ["self", "kept", "junk"] (spDCrash CD) := ⟨_, fd_Dcrash, m_Dcrash, ok_dcrash F_Dcrash T, b_Dcrash⟩
  have M_recover : MethG P w K mg base CX0 CD "recover" 20 ["self"] (spDRecover CD) := ⟨_, fd_Drecover, m_Drecover, ok_drecover F_Drecover T CRc, b_Drecover⟩
  -- the law's
  have l_state := cal_of F__law_state g__law_state b__law_state (ok_state (P := P) (w := w) (base := base) F__law_state n_int n_abs) (k := 1)
  have l_draw : DrawC P w K mg base := cal_of F__law_draw g__law_draw b__law_draw (ok_draw F__law_draw n_int n_len n_range)
  have l_one : Cal P w K mg base "_law_one" 2 ["state"] spOne := cal_of F__law_one g__law_one b__law_one (ok_one F__law_one l_draw)
  have l_row : RowC P w K mg base := cal_of F__law_row g__law_row b__law_row (ok_row F__law_row n_tuple n_range l_draw l_one)
  have l_key : Cal P w K mg base "_law_key" 1 ["row"] (spLawKey K) := cal_of F__law_key g__law_key b__law_key (ok_law_key F__law_key n_isinstance n_int)
  have l_canon : Cal P w K mg base "_law_canon" 4 ["counts"] spCanon := cal_of F__law_canon g__law_canon b__law_canon (ok_canon F__law_canon n_sorted l_key)
  have l_bag : Cal P w K mg base "_law_bag" 5 ["state", "most"] spBag := cal_of F__law_bag g__law_bag b__law_bag (ok_bag F__law_bag n_range l_draw l_row l_canon)
  have l_chars := cal_of F__law_chars g__law_chars b__law_chars (ok_chars (P := P) (w := w) (base := base) F__law_chars) (k := 1)
  have l_check := cal_of F__law_check g__law_check b__law_check (ok_lcheck (P := P) (w := w) (base := base) F__law_check n_int) (k := 1)
  have l_bytes := cal_of F__law_bytes g__law_bytes b__law_bytes (ok_lbytes (P := P) (w := w) (base := base) F__law_bytes n_int n_range) (k := 1)
  have l_shown := cal_of F__law_shown g__law_shown b__law_shown (ok_shown (P := P) (w := w) (base := base) F__law_shown n_isinstance n_str n_int) (k := 1)
  have l_sbag := cal_of F__law_shown_bag g__law_shown_bag b__law_shown_bag (ok_shown_bag F__law_shown_bag n_str l_shown) (k := 3)
  have l_schg := cal_of F__law_shown_change g__law_shown_change b__law_shown_change (ok_shown_change F__law_shown_change l_sbag) (k := 4)
  have l_record := cal_of F__law_record g__law_record b__law_record (ok_record F__law_record n_len n_ord l_schg l_bytes l_check) (k := 5)
  have l_parsed := cal_of F__law_parsed g__law_parsed b__law_parsed (ok_parsed F__law_parsed n_len g_FE (isT_ok x13) l_chars PC l_schg) (k := 18)
  have l_readable := cal_of F__law_readable g__law_readable b__law_readable (ok_readable F__law_readable n_len n_range l_bytes l_check l_parsed) (k := 19)
  have l_change := cal_of F__law_change g__law_change b__law_change (ok_lchange F__law_change n_len n_range l_draw l_bag l_chars) (k := 6)
  have l_junk := cal_of F__law_junk g__law_junk b__law_junk (ok_junk F__law_junk n_len n_range l_draw l_record l_bytes l_check) (k := 6)
  have l_ends := cal_of F__law_ends g__law_ends b__law_ends (ok_ends F__law_ends n_len l_record) (k := 6)
  have l_long := cal_of F__law_long g__law_long b__law_long (ok_long (P := P) (w := w) (base := base) F__law_long n_range) (k := 1)
  have l_sizes := cal_of F__law_sizes_right g__law_sizes_right b__law_sizes_right (ok_sizes F__law_sizes_right T SCx n_len n_isinstance g_LE XCs (isT_ok y13) (isT_ok y12) K_disk M_append CEc l_long FC CRc) (k := 20)
  have l_rec := cal_of F__law_recovered g__law_recovered b__law_recovered (ok_recovered F__law_recovered T n_len n_isinstance n_list M_recover l_readable l_ends) (k := 21)
  have l_app := cal_of F__law_appended g__law_appended b__law_appended (ok_appended F__law_appended T n_len M_append CEc l_record CNb l_check l_rec) (k := 22)
  exact ok_law F_law T n_len n_range n_list K_disk M_sync M_crash l_state l_draw l_sizes l_change l_junk l_app l_rec CRc l_readable
end
end KA
set_option Elab.async false
set_option linter.all false
set_option maxRecDepth 100000
set_option maxHeartbeats 4000000
/-! the law called by the claim's caller -/
namespace KA
open PySem PySem.Spec PyProof.Rows L2
/-- the heap at the law's entry: the script, held -/
def entryH (a : Addr) (ob : Obj) (xs : List V) (seen : Bool) : Hp := fun b => if b = a ∧ seen = true then some (.frz ob (.lst xs)) else none
section
variable {P : Program} {w : World} {K : PySem.W.Frag} {mg mb : Str → Option Value} {f a : Addr} {fd : FuncData}
theorem law_says {s₁ : Shared} {vs : List Value} {ns : List Int} (inK : K.In s₁.heap) (gl : s₁.heap.Ns mainGlobals mg) (bl : s₁.heap.Ns builtinsNs mb) (bb : ∀ x : Str, x ≠ "__name__" → mb x = bootBuiltins x)
    (nolim : s₁.heap.NoLimit) (nogen : s₁.gens = #[]) (at_a : s₁.heap.get? a = some { cls := .type "list", data := .seq vs.toArray }) (isI : IntsAre vs ns) (few : ns.length ≤ 63)
    (bd : ∀ (s : Shared) (u : Value), BindsTo s fd ⟨[u], []⟩ [("script", u)]) (cs : ∀ base : Heap, FnOk P w K mg base CX0 23 f fd ["script"] (spLaw K)) :
    codeAny (model P w) callerA (.call (.ref f) ⟨[.ref a], []⟩) (fun r s' => r = .ok (.ret (.bool true)) ∧ OldK s₁.heap s'.heap ∧ s'.os = s₁.os ∧ AllBare s'.gens) s₁ := by
  have rv := vals_ints isI
  have lenV := isI.length
  have few2 : ns.length ≤ sizeLine := Nat.le_trans few (by decide)
  -- for a choice whether the script is tracked
  have go : ∀ seen : Bool, SqL K (entryH a { cls := .type "list", data := .seq vs.toArray } (ns.map V.int) seen) a (ns.map V.int) → (seen = true → K.lookup a = none) →
      codeAny (model P w) callerA (.call (.ref f) ⟨[.ref a], []⟩) (fun r s' => r = .ok (.ret (.bool true)) ∧ OldK s₁.heap s'.heap ∧ s'.os = s₁.os ∧ AllBare s'.gens) s₁ := by
    intro seen
    obtain ⟨H, eH⟩ : ∃ H, H = entryH a { cls := .type "list", data := .seq vs.toArray } (ns.map V.int) seen := ⟨_, rfl⟩
    rw [← eH]
    intro hS notK
    have cases2 : ∀ b, H b = none ∨ (b = a ∧ seen = true ∧ H b = some (.frz { cls := .type "list", data := .seq vs.toArray } (.lst (ns.map V.int)))) := fun b => by
      rw [eH]
      unfold entryH
      by_cases h2 : b = a ∧ seen = true
      · exact .inr ⟨h2.1, h2.2, if_pos h2⟩
      · exact .inl (if_neg h2)
    have hok : HOk P w H s₁.heap := fun b u e => by
      rcases cases2 b with h | ⟨h, _, h'⟩
      · rw [h] at e
        cases e
      · rw [h'] at e
        cases e
        rw [h]
        exact ⟨at_a, by rw [List.length_map]; exact few2, vs, _, rv, at_a⟩
    -- what is no list is not tracked
    have away : ∀ {b : Addr} {o : Obj}, s₁.heap.get? b = some o → (∀ xs n, o.data ≠ .seq xs n) → H b = none := fun {b o} e n1 => by
      rcases cases2 b with h | ⟨h, _, _⟩
      · exact h
      · rw [h, at_a] at e
        cases e
        exact absurd rfl (n1 _ _)
    have ns_of : ∀ {b : Addr} {m : Str → Option Value}, s₁.heap.Ns b m → (hidT s₁.heap H).Ns b m := fun {b m} ⟨o, es, ep, e, d, r⟩ => ⟨o, es, ep, hidT_get e (away e fun xs n z => by rw [d] at z; cases z), d, r⟩
    have K_of : K.In (hidT s₁.heap H) := fun b o e => hidT_get (inK b o e) (by
      rcases cases2 b with h | ⟨h, hs, _⟩
      · exact h
      · rw [h, notK hs] at e
        cases e)
    obtain ⟨mc, lim1, lim2⟩ := nolim
    have M1 : Mod K mg (hidT s₁.heap H) := ⟨K_of, ns_of gl, ⟨mb, ns_of bl, bb⟩, mc, ns_of lim1, lim2⟩
    have noEx : ∀ b : Addr, b ∉ ([] : List Addr) := fun b z => by cases z
    have e0 : Env0 P w K mg (hidT s₁.heap H) callerA [] s₁ H := ⟨rfl, M1, fun b o e => of_hidT e, Nat.le_of_eq (hidT_size _ _), trivial, fun b z => absurd z (noEx b), hok, .of_eq nogen⟩
    have room : Room 23 callerA := ⟨rfl, by decide, by decide⟩
    refine codeAny_mono ((cs (hidT s₁.heap H)).run callerA [] s₁ H ⟨[.ref a], []⟩ [.ref a] [.ref a] (fun v _ => v = .bl true) (fun _ _ _ => False) room e0 (bd s₁ (.ref a)) (.cons rfl .nil) ⟨a, ns, rfl, hS, few, fun _ => rfl⟩) fun r s' h => ?_
    match r, h with
    | .error e, h => exact (h : False).elim
    | .ok .next, h => exact (h : False).elim
    | .ok .brk, h => exact (h : False).elim
    | .ok .cont, h => exact (h : False).elim
    | .ok (.ret u), ⟨v, H', os, bare, un, hok', r', q⟩ =>
      subst q
      have eu : u = Value.bool true := r'
      subst eu
      have same : ∀ b o, s₁.heap.get? b = some o → s'.heap.get? b = some o := fun b o e => by
        rcases cases2 b with h | ⟨h, _, h'⟩
        · exact un.keep b o e h (noEx b) (by simp)
        · obtain ⟨e1, _⟩ := hok b _ h'
          obtain ⟨e2, _⟩ := hok' b _ (un.frzs b _ _ h')
          rw [e] at e1
          cases e1
          exact e2
      exact ⟨rfl, ⟨fun b o e => .inl (same b o e), fun b o e => ⟨o, same b o e⟩⟩, os, bare⟩
  cases hk : K.lookup a with
  | some o =>
    have e := inK a o hk
    rw [at_a] at e
    cases e
    exact go false (.inr ⟨_, vs.toArray, _, hk, rfl, rfl, rfl, by rw [List.size_toArray, lenV]; exact few2, by simpa using rv⟩) fun z => by cases z
  | none =>
    refine go true (.inl (.inr ⟨{ cls := .type "list", data := .seq vs.toArray }, ?_⟩)) fun _ => hk
    show (if a = a ∧ true = true then some (HO.frz { cls := .type "list", data := .seq vs.toArray } (.lst (ns.map V.int))) else none) = _
    rw [if_pos ⟨rfl, rfl⟩]
end
end KA
set_option Elab.async false
set_option linter.all false
set_option maxRecDepth 100000
set_option maxHeartbeats 0
/-! the end -/
open PySem PySem.W PySem.Calls PyProof.Rows
theorem PySem.Challenge.cw_deltaloom_k11_whole_disks_after_crashes_holds : PySem.Challenge.rw_deltaloom_k11_whole_disks_after_crashes.Holds := by
  w_on; o_law
  refine HandSHeadRun.head_any (r := OpenLaw.row PySem.Challenge.rw_deltaloom_k11_whole_disks_after_crashes) (q := view (OpenLaw.row PySem.Challenge.rw_deltaloom_k11_whole_disks_after_crashes).prog [73]) (H := KA.hk) (ob := KA.ob) (M := 8000) (loose := KA.loose) (d := HandSHeadRun.topDef (OpenLaw.row PySem.Challenge.rw_deltaloom_k11_whole_disks_after_crashes).prog 73) (kwd := []) KA.ob_eq
    (by kernel_rfl) (fun s => by kernel_rfl) KA.run (by kernel_rfl) (by kernel_rfl) (by kernel_rfl) (by rfl) (by first | assumption | decide +kernel) (by decide +kernel) ⟨rfl, rfl, rfl, rfl, rfl, by decide +kernel⟩ ?hw ?hc
  case hw => w_witness2
  case hc =>
    have nm : (HandSHeadRun.topDef (OpenLaw.row PySem.Challenge.rw_deltaloom_k11_whole_disks_after_crashes).prog 73).name = ("law" : PySem.Str) := by kernel_rfl
    have df : (HandSHeadRun.topDef (OpenLaw.row PySem.Challenge.rw_deltaloom_k11_whole_disks_after_crashes).prog 73).params.defaults = [] := by kernel_rfl
    refine Att.attach_call (l := PySem.Challenge.rw_deltaloom_k11_whole_disks_after_crashes) (n := 63) rfl df fun w s₀ s₁ mg mb fa o pm cd doc a vs ns G Y ho hd hcd hmg hobj hints hlen hg => ?_
    obtain ⟨K, KX, c⟩ := Y
    have hlaw : mg ("law" : PySem.Str) = some (.ref fa) := by
      rw [← nm]
      exact hmg
    obtain ⟨fd, bd, cs⟩ := KA.top_facts (P := PySem.Challenge.rw_deltaloom_k11_whole_disks_after_crashes.prog) (w := w) KX G.T.g hlaw c
    exact KA.law_says KX G.T.g G.T.b G.T.builtins G.T.nolimit hg hobj hints hlen bd cs
