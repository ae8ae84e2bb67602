/- slices.SortFunc, slices.SortedFunc over Outs by CompareOut. -/
import Derived.Test.YthfpipieboophaaGreatDoorShelfP
import Derived.Test.YthfpipieboophaaGreatDoorBagz
import Derived.Test.YthfpipieboophaaGreatDoorBagz
namespace Go.Proofs.YthfpipieboophaaGreatDoor
open Go.Shelf Go.RowKit Go.Lib Go.Sort
set_option maxRecDepth 100000
theorem isAgg27 (w : World) : (isAgg 89).run Tryz.prog w = .ok true w := by kernel_rfl
theorem sizeOf27 (w : World) : (sizeOf 89).run Tryz.prog w = .ok 9 w := by kernel_rfl
theorem ltO (x y : O) : ltOf cO x y = decide (cO x y < 0) := rfl
theorem swoO : SWO (ltOf cO) where
  irrefl x := by rw [ltO, (cO_zero x x).2 rfl]; simp
  trans x y z h1 h2 := by
    rw [ltO] at *
    simp only [decide_eq_true_eq] at *
    have h3 := cO_trans x y z (by omega) (by omega)
    rcases Int.lt_or_le (cO x z) 0 with h | h
    · exact h
    · have e : x = z := (cO_zero x z).1 (by omega)
      subst e
      rw [cO_neg] at h1; omega
  ntrans x y z h1 h2 := by
    rw [ltO] at *
    simp only [decide_eq_false_iff_not] at *
    have h3 := cO_trans z y x (by rw [cO_neg]; omega) (by rw [cO_neg]; omega)
    rw [cO_neg] at h3; omega
theorem cmpLaysO (blk off size : Nat) (w : World) : CmpLays Tryz.prog 122 #[] encO 9 cO blk off size w :=
  fun _ _ _ _ x y => (outs_gr x y _).mono fun _ _ ⟨he, hq⟩ => ⟨he, hq⟩
theorem flatK_list (xs : List O) : (flatK encO 9 xs.toArray).toList = xs.flatMap encO := by
  apply List.ext_getElem?
  intro t
  by_cases ht : t < xs.length * 9
  · have hk : t / 9 < xs.length := by omega
    have hj : t % 9 < 9 := by omega
    have e1 := flat_get xs (t / 9) (t % 9) xs[t / 9] (List.getElem?_eq_getElem hk) hj
    rw [show t / 9 * 9 + t % 9 = t by omega] at e1
    rw [e1, Array.getElem?_toList]
    have hs : t < (flatK encO 9 xs.toArray).size := by rw [size_flatK]; simpa using ht
    rw [Array.getElem?_eq_getElem hs, ← getElem!_pos (flatK encO 9 xs.toArray) t hs, get_flatK _ _ _ _ (by simpa using ht)]
    rw [List.getElem?_eq_getElem (by rw [encO_len]; exact hj)]
    simp [hk]
    rw [List.getElem?_eq_getElem (by rw [encO_len]; exact hj)]; rfl
  · rw [List.getElem?_eq_none (by simp; omega), List.getElem?_eq_none (by rw [flat_len]; omega)]
theorem holdsO {w : World} {g : Nat} {cur : Array Value} {e : TypeId} {xs : List O} (hb : w.heap[g]? = some (.cells cur e (0, 0))) (ht : cur.toList.take (xs.length * 9) = xs.flatMap encO) : HoldsK encO 9 w g 0 xs.toArray := by
  intro j hj
  have hj' : j < xs.length * 9 := by simpa using hj
  refine ⟨?_, by simp [World.frozen?, hb]⟩
  have h1 : (cur.toList.take (xs.length * 9))[j]? = (xs.flatMap encO)[j]? := by rw [ht]
  rw [List.getElem?_take_of_lt hj', ← flatK_list] at h1
  simp only [World.cell?, hb, Nat.zero_add]
  simp only [Option.isSome_none, Bool.false_eq_true, if_false]
  rw [← Array.getElem?_toList, h1, Array.getElem?_toList, Array.getElem?_eq_getElem hj, getElem!_pos (flatK encO 9 xs.toArray) j hj]
  rfl
theorem heap_sortedO {w : World} {g n : Nat} {os : Array Obj} {cur : Array Value} {e : TypeId} {fr : Nat × Nat} (d : Array O) (hb : w.heap[g]? = some (.cells cur e fr)) :
    (sortWorldK encO 9 w g 0 n d os).heap[g]? = some (.cells (putCells id 0 (flatK encO 9 d) cur) e fr) := by
  have hg : g < w.heap.size := (Array.getElem?_eq_some_iff.1 hb).1
  unfold sortWorldK putRowK
  rw [heap_grow_old _ _ (by simpa using hg)]
  simp [putRow, mapBlock, Sort.ahead, Array.getElem?_modify, hb, onCells]
theorem grownBy_sortedO {w : World} {g n : Nat} {os : Array Obj} (d : Array O) : w.grownBy (sortWorldK encO 9 w g 0 n d os) (some g) := by
  unfold sortWorldK putRowK
  refine ⟨rfl, rfl, rfl, by simp, fun k hk hne => ?_⟩
  rw [heap_grow_old _ _ (by simpa using hk)]
  have : g ≠ k := fun e => hne (by rw [e])
  simp [putRow, mapBlock, Sort.ahead, Array.getElem?_modify, this]
theorem take_putO (cur : Array Value) (ts : List O) (h : ts.length * 9 ≤ cur.size) : (putCells id 0 (flatK encO 9 ts.toArray) cur).toList.take (ts.length * 9) = ts.flatMap encO := by
  rw [← flatK_list]
  apply List.ext_getElem?
  intro j
  by_cases hj : j < ts.length * 9
  · rw [List.getElem?_take_of_lt hj, Array.getElem?_toList, Array.getElem?_toList]
    have hs : j < (flatK encO 9 ts.toArray).size := by rw [size_flatK]; simpa using hj
    rw [Array.getElem?_eq_getElem hs]
    simp [putCells, hj, show j < cur.size by omega]
  · rw [List.getElem?_take_eq_none (by omega), List.getElem?_eq_none (by simp; omega)]
theorem sortedRow {w : World} {base g cap n : Nat} {os : Array Obj} {cur : Array Value} {xs ts : List O} (hl : ts.length = xs.length) (hbase : base ≤ g) (hb : w.heap[g]? = some (.cells cur 89 (0, 0)))
    (h1 : xs.length ≤ cap) (h2 : cap ≤ maxLen) (h3 : cur.size = cap * 9) :
    (sortWorldK encO 9 w g 0 n ts.toArray os).ownsRow base 89 9 (.slice (some ⟨g, 0, none⟩) xs.length cap) xs.length (ts.flatMap encO) :=
  ⟨by rw [flat_len, hl], .inr ⟨g, cap, _, rfl, hbase, heap_sortedO _ hb, h1, h2, by simp [putCells, h3], by rw [← hl]; exact take_putO cur ts (by omega)⟩⟩
theorem order_of_sorted {d : Array O} (h : SortedIn (ltOf cO) 0 d.size d) : InOrder d.toList := by
  unfold InOrder
  rw [List.pairwise_iff_getElem]
  intro i j hi hj hij
  have := h i j (Nat.zero_le _) hij (by simpa using hj)
  rw [ltO] at this
  simp only [decide_eq_false_iff_not] at this
  have e1 : d[i]! = d.toList[i] := by rw [getElem!_pos d i (by simpa using hi)]; simp
  have e2 : d[j]! = d.toList[j] := by rw [getElem!_pos d j (by simpa using hj)]; simp
  rw [e1, e2, cO_neg] at this
  omega
set_option maxHeartbeats 1000000 in
theorem sort_any (g cap : Nat) (xs : List O) (cur : Array Value) (w : World) (hb : w.heap[g]? = some (.cells cur 89 (0, 0))) (ht : cur.toList.take (xs.length * 9) = xs.flatMap encO) (hl : xs.length < 4611686018427387904) :
    Calls Tryz.prog 193 #[.slice (some ⟨g, 0, none⟩) xs.length cap, .func (.func 122) #[] #[]] w fun e w' => e = .returned (.tuple #[]) ∧ ∃ ts n os, ts.Perm xs ∧ InOrder ts ∧ w' = sortWorldK encO 9 w g 0 n ts.toArray os := by
  have eg : ∀ args w, (callFunc 122 args).run Tryz.prog w = .ok (.enter 122 args) w := enters_of Tryz.func122 (by kernel_rfl) rfl
  have hcon := AnyQ.slices_SortFunc Tryz.sortO 9 isAgg27 sizeOf27 encO (fun _ => rfl) enc_one cO swoO 122 #[] g 0 cap xs.toArray w eg (cmpLaysO g 0 _ w) (holdsO hb ht) (Array.getElem?_eq_some_iff.1 hb).1 (by simpa using hl)
  change Calls Tryz.prog 193 #[.slice (some ⟨g, 0, none⟩) xs.length cap, .func (.func 122) #[] #[]] w _ at hcon
  refine hcon.mono ?_
  rintro e w' ⟨he, d', n, os, hp, hs, hw⟩
  obtain ⟨p1, _, p3⟩ := hp
  have e1 : d'.size = xs.length := by simpa using p1
  refine ⟨he, d'.toList, n, os, ?_, order_of_sorted (by rw [e1]; simpa using hs), by simpa using hw⟩
  have e2 : (d'.extract 0 xs.toArray.size).toList = d'.toList := by simp [← e1]
  rw [e2] at p3
  simpa using p3
def NilSays : Prop := ∀ w : World, Calls Tryz.prog 193 #[.slice none 0 0, .func (.func 122) #[] #[]] w fun e w' => e = .returned (.tuple #[]) ∧ w' = w
set_option maxRecDepth 20000 in
set_option maxHeartbeats 1000000 in
theorem sorted_says (HN : NilSays) : SortedSays := by
  intro Bm b o m om L w h hL hBm hmm hm
  have hcol := collect_bag Bm b o m om L w h hBm hmm hm
  go_enter Tryz.func120, Tryz.ntmps120
  go_wp2_with fail
  refine hcol.mono ?_
  rintro e w1 ⟨v, xs, rfl, ⟨hnd, hmem⟩, hrow, hnil, hb⟩
  rcases hrow.2 with ⟨rfl, h0⟩ | ⟨g, cap, cur, rfl, hbase, hg, h1, h2, h3, h4⟩
  · have hx0 : xs = [] := hnil.1 rfl
    subst hx0
    have hn := HN w1
    clear hcol hrow hnil
    go_wp2_with (go_at_call 193; refine hn.mono ?_; rintro e w' ⟨rfl, rfl⟩)
    go_ret
    exact ⟨_, [], rfl, List.nodup_nil, hmem, List.Pairwise.nil, by simp, World.ownsRow_nil _ _ _ _, hb⟩
  · have hlen : xs.length ≤ 100000000 := by
      have := nodup_le xs L hnd (fun x hx => (hmem x).1 hx)
      omega
    have hs := sort_any g cap xs cur w1 hg h4 (by omega)
    clear hcol hrow hnil
    go_wp2_with (go_at_call 193; refine hs.mono ?_; rintro e w' ⟨rfl, ts, n, os, hp, ho, hw⟩)
    go_ret
    have hl := hp.length_eq
    subst hw
    refine ⟨_, ts, rfl, hp.nodup_iff.2 hnd, fun x => (hp.mem_iff).trans (hmem x), ho, by omega, ?_, ?_⟩
    · have := sortedRow (n := n) (os := os) hl hbase hg h1 h2 h3
      rw [hl]; exact this
    · exact hb.grown (grownBy_sortedO _) hb.size (fun k e => by cases e; exact hbase)
end Go.Proofs.YthfpipieboophaaGreatDoor
