/- HeldBy of the program: the map's keys in whatever order, sorted. -/
import Derived.Test.YtbfndoajchibbaaGreatHeldImpl3
import Derived.Test.YtbfndoajchibbaaGreatSort
namespace Go.Proofs.YtbfndoajchibbaaGreat
open Go.ChangeShapes Go.WideShapes Go.ChangeAt Go.RowKit Go.Maps
set_option linter.unusedVariables false
set_option linter.unusedSimpArgs false

theorem mem_owned {l : List ND} {task x : Int} : x ∈ ownedBy l task ↔ ∃ (k : Nat) (n : ND), l[k]? = some n ∧ x = k ∧ n.o = task + 1 := by
  unfold ownedBy
  simp only [List.mem_map, List.mem_filter, List.mem_range]
  constructor
  · rintro ⟨k, ⟨hk, h⟩, rfl⟩
    rw [List.getElem?_eq_getElem hk] at h
    exact ⟨k, _, List.getElem?_eq_getElem hk, rfl, by simpa using h⟩
  · rintro ⟨k, n, hn, rfl, ho⟩
    refine ⟨k, ⟨(List.getElem?_eq_some_iff.1 hn).1, ?_⟩, rfl⟩
    rw [hn]
    simpa using ho
theorem owned_sorted (l : List ND) (task : Int) : (ownedBy l task).Pairwise (fun a b => a < b) := by
  unfold ownedBy
  refine List.pairwise_map.2 ?_
  exact (List.Pairwise.filter _ (List.pairwise_lt_range)).imp (fun {a b} h => by omega)
theorem held_some {l : List ND} (hb : nodesB l = true) {task x : Int} : holdF l l.length x = some task ↔ x ∈ (if taskB task then ownedBy l task else []) := by
  constructor
  · intro h
    have hc := hold_bound hb x task h
    have ht : taskB task = true := by simp [taskB, inB]; omega
    rw [if_pos ht, mem_owned]
    unfold holdF at h
    split at h
    · rename_i hx
      split at h
      · rename_i n hn
        split at h
        · cases h
        · cases h
          exact ⟨x.toNat, n, hn, by omega, by omega⟩
      · cases h
    · cases h
  · intro h
    split at h
    · rename_i ht
      have := inB_t ht
      obtain ⟨k, n, hn, rfl, ho⟩ := mem_owned.1 h
      rw [holdF_at hn, if_neg (by omega)]
      congr 1
      omega
    · simp at h
/-- What was collected, in whatever order, sorts to the answer. -/
theorem held_sort {l : List ND} (hb : nodesB l = true) {task : Int} {ss : List Int} (hn : ss.Nodup) (hm : ∀ x, x ∈ ss ↔ holdF l l.length x = some task) : (ss.mergeSort fun x y => decide (x ≤ y)) = heldB l task := by
  have hH : heldB l task = if taskB task then ownedBy l task else [] := by simp [heldB, hb]
  rw [hH]
  have hs : (if taskB task then ownedBy l task else []).Pairwise (fun a b => a < b) := by
    split
    · exact owned_sorted l task
    · exact List.Pairwise.nil
  have hp : ss.Perm (if taskB task then ownedBy l task else []) := by
    refine (List.perm_ext_iff_of_nodup hn (hs.imp (fun {a b} h => by omega))).2 fun x => ?_
    rw [hm x]
    exact held_some hb
  refine List.Perm.eq_of_pairwise (le := fun a b => a ≤ b) (fun a b _ _ h1 h2 => by omega) ?_ (hs.imp (fun {a b} h => by omega)) ((List.mergeSort_perm ss _).trans hp)
  have tr : ∀ a b c : Int, decide (a ≤ b) = true → decide (b ≤ c) = true → decide (a ≤ c) = true := fun a b c h1 h2 => by simp only [decide_eq_true_eq] at *; omega
  have tot : ∀ a b : Int, (decide (a ≤ b) || decide (b ≤ a)) = true := fun a b => by simp only [Bool.or_eq_true, decide_eq_true_eq]; omega
  exact (List.pairwise_mergeSort tr tot ss).imp (fun {a b} h => by simpa using h)

/-- The keys met so far at which the map has the task. -/
def Got (D : DataW Unit) (f : Int → Option Int) (task : Int) (left : Lit → Bool) (ss : List Int) : Prop :=
  ss.Nodup ∧ ∀ x, x ∈ ss ↔ (Lit.int .i64 x).wf = true ∧ f x = some task ∧ left (.int .i64 x) = false
theorem Got.start {D : DataW Unit} {f : Int → Option Int} (h : Reads D f) (task : Int) : Got D f task (Maps.has D) [] :=
  ⟨List.nodup_nil, fun x => ⟨fun h => (by cases h), fun ⟨h1, h2, h3⟩ => (by rw [(h x h1).1, h2] at h3; cases h3)⟩⟩
theorem Got.yes {D : DataW Unit} {f : Int → Option Int} {task : Int} {left : Lit → Bool} {ss : List Int} (h : Got D f task left ss) (hD : Reads D f) {x : Int} (hw : (Lit.int .i64 x).wf = true) (hl : left (.int .i64 x) = true) (hat : ∀ zd, D.atKey (.int .i64 x) zd = .lit (.int .i64 task)) :
    Got D f task (fun z => left z && !z.sameKey (.int .i64 x)) (ss ++ [x]) := by
  have hf : f x = some task := by
    have h1 := has_true_of_atKey hat
    obtain ⟨a1, a2⟩ := hD x hw
    rw [h1] at a1
    obtain ⟨c, hc⟩ := Option.isSome_iff_exists.1 a1.symm
    have := (a2 c (.lit (.int .i64 0)) hc).symm.trans (hat _)
    simp at this
    rw [hc, this]
  have hnew : x ∉ ss := fun hx => by have := ((h.2 x).1 hx).2.2; rw [hl] at this; cases this
  refine ⟨List.nodup_append.2 ⟨h.1, by simp, fun a ha b hb => by simp at hb; subst hb; exact fun e => hnew (e ▸ ha)⟩, fun y => ?_⟩
  by_cases hy : y = x
  · subst hy; simp [hw, hf, Lit.sameKey]
  · simp [h.2 y, hy, Lit.sameKey]
theorem Got.no {D : DataW Unit} {f : Int → Option Int} {task c : Int} {left : Lit → Bool} {ss : List Int} (h : Got D f task left ss) (hD : Reads D f) {x : Int} (hw : (Lit.int .i64 x).wf = true) (hl : left (.int .i64 x) = true) (hat : ∀ zd, D.atKey (.int .i64 x) zd = .lit (.int .i64 c)) (hc : c ≠ task) :
    Got D f task (fun z => left z && !z.sameKey (.int .i64 x)) ss := by
  have hf : f x = some c := by
    have h1 := has_true_of_atKey hat
    obtain ⟨a1, a2⟩ := hD x hw
    rw [h1] at a1
    obtain ⟨c', hc'⟩ := Option.isSome_iff_exists.1 a1.symm
    have := (a2 c' (.lit (.int .i64 0)) hc').symm.trans (hat _)
    simp at this
    rw [hc', this]
  refine ⟨h.1, fun y => ?_⟩
  by_cases hy : y = x
  · subst hy
    have : y ∉ ss := fun hx => by have := ((h.2 y).1 hx).2.2; rw [hl] at this; cases this
    simp [this, hf, hc]
  · simp [h.2 y, hy, Lit.sameKey]
theorem infoI : (Tryz.prog.info? 2).map (fun i => (i.zero, i.size, i.bytes)) = some (some (.int .i64 0), 1, 8) := by kernel_rfl

set_option maxRecDepth 100000 in
set_option maxHeartbeats 4000000 in
theorem impl_HeldBy (v : Value) (l : List ND) (task : Int) (w : World) (h : NSl w v l) (hl : l.length ≤ 1048576) :
    Calls Tryz.prog 14 #[v, .int .i64 task] w (SaysI (heldB l task) w) := by
  have C := impl_NodesOk v l w h hl
  rcases Bool.eq_false_or_eq_true (nodesB l) with hb | hb
  · obtain ⟨l1, l30⟩ := nodes_some hb
    have HH := Lib.hid h
    have HN := Lib.hid hb
    obtain ⟨i0, hi0, hz0, hz1, hz2⟩ := info_parts infoI
    clear h
    go_enter Tryz.func14, Tryz.ntmps14
    go_wp2_with fail
    refine C.mono ?_
    rintro e w1 ⟨rfl, hB1⟩
    rw [hb]
    go_wp2_with fail
    refine (impl_holders _ l w1 (HH.out.below hB1) hb).mono ?_
    rintro e w2 ⟨rfl, ⟨D, hown, hD⟩, hB2⟩
    have hB2' := hB1.trans (hB2.mono hB1.size)
    have hz := hB1.size
    have hlt := World.ownsMap.lt hown
    have HB := Lib.hid hB2'
    have HD := Lib.hid hD
    have hsz := World.ownsMap.size_le hown
    clear C hb hB1 hB2 hB2' hD HH
    go_wp2_with (first
      | (at_range; refine wpList_range_own _ rfl _ 40 rfl 2 2 lawI Tryz.underlying40 _ w1.heap.size l.length D rfl hown ?_; intro w3 hrg0 hg0 hs0))
    go_frame
    clear hs0
    go_loopw [5, 6, 7] (fun v _ _ wr => ∃ (left : Lit → Bool) (cnt : Nat) (ss : List Int) (oa : Option Addr) (oc : Nat), v = .slice oa ss.length oc ∧ wr.ranges Tryz.prog 2 (plainElem Tryz.prog 2) w1.heap.size w2.heap.size l.length D left cnt ∧ ss.length + cnt ≤ l.length ∧
        Hid (wr.ownsRow w.heap.size 2 1 (.slice oa ss.length oc) ss.length (cellsI ss)) ∧ Hid ((Value.slice oa ss.length oc).ownBlock ≠ some w1.heap.size ∧ (Value.slice oa ss.length oc).ownBlock ≠ some w2.heap.size) ∧ Hid (Got D (holdF l l.length) task left ss) ∧ Below w.heap.size w wr)
      (fun _ _ _ wr => wr.rangeLeft w1.heap.size w2.heap.size)
    case atStart =>
      exact ⟨_, _, [], none, 0, rfl, hrg0, by simpa using hsz, Lib.hid (nil_row _ _ _ _), Lib.hid (by simp [Value.ownBlock]), Lib.hid (Got.start HD.out task), HB.out.grown hg0 (HB.out.size) (fun j hj => by cases hj)⟩
    case round =>
      obtain ⟨left, cnt, ss, oa, oc, rfl, hrg, hcs, hrow, hne, hG, hnx⟩ := hrel
      go_wp2_with (first
        | (at_next; refine wpList_next_ranges_ii _ rfl _ rfl 2 2 .i64 .i64 lawI Tryz.underlying2 Tryz.underlying2 w1.heap.size w2.heap.size l.length _ _ _ rfl hrg ?_ ?_)
        | go_in)
      · intro hc0 hl0
        have hss : ss.length ≤ 1048576 := by omega
        go_wp2_with fail
        refine (sort_row oa oc w.heap.size ss _ hrow.out hss).mono ?_
        rintro e w4 ⟨rfl, hrow4, hg4⟩
        go_wp2
        go_ret
        have hm : ∀ x, x ∈ ss ↔ holdF l l.length x = some task := fun x => by
          rw [hG.out.2 x]
          refine ⟨fun h => h.2.1, fun h => ⟨?_, h, hl0 _⟩⟩
          have hx := (hold_some h).1
          have := inB_t hx
          exact wf_in64 (by unfold In64; omega)
        have e1 := held_sort HN.out hG.out.1 hm
        have e2 : (heldB l task).length = ss.length := by rw [← e1, List.length_mergeSort]
        rw [e1] at hrow4
        refine ⟨_, rfl, ?_, hnx.grown hg4 hnx.size (fun j hj => (hrow.out.lt j hj).1)⟩
        rw [← e2] at hrow4 ⊢
        exact OwnR.of_row hrow4
      · intro x c w4 cnt4 hwx hwc hlx hat hrg4 hlt4 hg4 hs4 hen
        have hrow4 := Lib.hid (hrow.out.kept hg4 (Or.inr hne.out.2))
        have HAT := Lib.hid hat
        clear hs4 hat
        by_cases e : c = task
        · subst e
          go_wp2_with (first
            | (at_builtin; refine wpList_append_lies _ rfl _ _ 33 rfl w.heap.size 2 i0 (.int .i64 0) 1 8 Tryz.underlying33 hi0 hz0 hz1 hz2 rfl (by decide) (.slice oa ss.length oc) ss.length (cellsI ss) rfl (hrow4.out.alloc _) ⟨w4.heap.size, 0, none⟩ 1 1 [.int .i64 x] rfl rfl (cell_one_new _ _ _) (by simp [Value.oneCell']) (by omega) (by unfold maxLen; omega) (by omega) (by have := hnx.size; have := hg4.size; simp; omega) (w4.heap.size + 1) (by simp) ?_; intro g' cap' w5 hown' hg5 hat5 hgl5; go_frame)
            | go_in)
          have hrg5 := (hrg4.alloc _).kept hg5 (Ne.symm hne.out.1) (Ne.symm hne.out.2)
          have z1 := hrg4.lt
          have z2 := World.ownsMap.lt hrg4.owns
          go_roundw
          case rel =>
            refine ⟨_, cnt4, ss ++ [x], some ⟨g', 0, none⟩, cap', by simp, hrg5, by simp; omega, Lib.hid (by simpa [cellsI] using hown'), Lib.hid ?_, Lib.hid (hG.out.yes HD.out hwx hlx HAT.out), ?_⟩
            · have hq := hne.out
              rcases hat5 with h5 | h5
              · constructor
                · simp only [Value.ownBlock] at *
                  intro e
                  cases e
                  exact hq.1 h5
                · simp only [Value.ownBlock] at *
                  intro e
                  cases e
                  exact hq.2 h5
              · constructor
                · intro e
                  simp [Value.ownBlock] at e
                  omega
                · intro e
                  simp [Value.ownBlock] at e
                  omega
            · exact ((hnx.grown hg4 hnx.size (fun j hj => by cases hj; have := HB.out.size; omega)).alloc (by have := hnx.size; have := hg4.size; omega) _).grown hg5 (by have := hnx.size; have := hg4.size; simp; omega) (fun j hj => (hrow4.out.lt j hj).1)
          case measure => rw [hrg5.left_eq, hrg.left_eq]; exact hlt4
        · go_wp2
          go_roundw
          case rel =>
            exact ⟨_, cnt4, ss, oa, oc, rfl, hrg4, by omega, hrow4, hne, Lib.hid (hG.out.no HD.out hwx hlx HAT.out e), hnx.grown hg4 hnx.size (fun j hj => by cases hj; have := HB.out.size; omega)⟩
          case measure => rw [hrg4.left_eq, hrg.left_eq]; exact hlt4
  · have HR : heldB l task = [] := by simp [heldB, hb]
    rw [HR]
    go_enter Tryz.func14, Tryz.ntmps14
    go_wp2_with fail
    refine C.mono ?_
    rintro e w1 ⟨rfl, hB1⟩
    rw [hb]
    go_wp2
    go_ret
    exact ⟨_, rfl, OwnR.nil _ _ _ _ _ _ _ (by simp [maxLen]), hB1⟩
end Go.Proofs.YtbfndoajchibbaaGreat
