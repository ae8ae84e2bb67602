/- A line's words, its numbers; what is thrown. -/
import Derived.Test.YthfpipieboophaaGreatDoorDkc
import Derived.Test.YthfpipieboophaaGreatDoorEvy
import Derived.Test.YthfpipieboophaaGreatDoorLds
import Derived.WalkLawsBesides
namespace Go.Proofs.YthfpipieboophaaGreatDoor
open Go.RowKit Go.Sort Go.Shelf
set_option maxRecDepth 100000
theorem neq_err (c : Int) (w : World) : (binOp .neq 29 (.iface 24 (.int .i64 c)) .nilIface).run Tryz.prog w = .ok (.bool true) w := by kernel_rfl
theorem check_nil (w : World) : Calls Tryz.prog 213 #[.nilIface] w fun e w' => e = .returned (.tuple #[]) ∧ w' = w := by
  go_enter Tryz.func213, Tryz.ntmps213
  go_wp2
  go_end0
  exact ⟨rfl, rfl⟩
abbrev thrown (c : Int) : Ending := .panicked [{ v := .iface 24 (.int .i64 c), recovered := false }]
theorem check_err (c : Int) (w : World) : Calls Tryz.prog 213 #[.iface 24 (.int .i64 c)] w fun e w' => e = thrown c ∧ w' = w := by
  have hq := neq_err c
  go_enter Tryz.func213, Tryz.ntmps213
  go_wp2
  exact ⟨rfl, rfl, rfl⟩
/-! Words. -/
def isBlank (r : Nat) : Bool := (r : Int) == 32
def wordsOf (s : List UInt8) : List (List UInt8) := (Lib.goFieldsP isBlank ⟨s.toArray⟩).map (·.data.toList)
theorem blank_pred (w : World) : PredAt Tryz.prog 221 #[] encR isBlank w := fun W r _ => by
  unfold FnGives
  go_enter Tryz.func221, Tryz.ntmps221
  go_wp2
  go_ret
  exact ⟨rfl, 0, rfl⟩
theorem wordsOf_len (s : List UInt8) : ∀ y ∈ wordsOf s, y.length ≤ s.length := by
  intro y hy
  obtain ⟨x, hx, rfl⟩ := List.mem_map.1 hy
  unfold Lib.goFieldsP at hx
  obtain ⟨a, _, rfl⟩ := List.mem_map.1 hx
  show ((ByteArray.mk s.toArray).extract a.1 a.2).data.toList.length ≤ s.length
  rw [Array.length_toList, ByteArray.data_extract, Array.size_extract]
  simp
  omega
theorem sV_words (s : List UInt8) : (Lib.goFieldsP isBlank ⟨s.toArray⟩).map Value.string = (wordsOf s).map sV := by
  unfold wordsOf
  rw [List.map_map]
  rfl
theorem words_any (s : List UInt8) (w : World) (hs : s.length ≤ 4294967296) :
    Calls Tryz.prog 149 #[.string ⟨s.toArray⟩] w fun e w' => ∃ A, e = .returned (.slice (some ⟨A, 0, none⟩) (wordsOf s).length (wordsOf s).length) ∧ w.heap.size ≤ A ∧ w'.ownsRow w.heap.size 9 1 (.slice (some ⟨A, 0, none⟩) (wordsOf s).length (wordsOf s).length) (wordsOf s).length ((wordsOf s).map sV) ∧ Below w.heap.size w w' := by
  have hl : (wordsOf s).length = (Lib.goFieldsP isBlank ⟨s.toArray⟩).length := by unfold wordsOf; rw [List.length_map]
  have H : Hid (Calls Tryz.prog 83 #[.string ⟨s.toArray⟩, .func (.func 221) #[] #[]] w fun e w' => ∃ A, e = .returned (.slice (some ⟨A, 0, none⟩) (wordsOf s).length (wordsOf s).length) ∧ w.heap.size ≤ A ∧ w'.ownsRow w.heap.size 9 1 (.slice (some ⟨A, 0, none⟩) (wordsOf s).length (wordsOf s).length) (wordsOf s).length ((wordsOf s).map sV) ∧ Below w.heap.size w w') := by
    have := Tryz.strings_FieldsFunc 221 #[] (enters_of Tryz.func221 (by kernel_rfl) rfl) isBlank ⟨s.toArray⟩ w (by show s.toArray.size ≤ _; simpa using hs) (blank_pred w)
    rw [sV_words, ← hl] at this
    exact this
  clear hl hs
  go_enter Tryz.func149, Tryz.ntmps149
  go_wp2_with (first
    | (go_at_call 83; refine H.out.mono ?_; rintro e w' ⟨A, rfl, h⟩)
    | fail)
  go_ret
  exact ⟨A, rfl, h⟩
/-! Numbers. -/
def numOf (y : List UInt8) : Option Int := match Lib.parseIntB 64 y with | .ok v => if Lib.itoa v = y then some v else none | _ => none
def numsOf : List (List UInt8) → Option (List Int)
  | [] => some []
  | y :: r => match numOf y with | none => none | some n => (numsOf r).map (n :: ·)
theorem numsOf_none : ∀ (vs : List (List UInt8)) (i : Nat) (y : List UInt8), vs[i]? = some y → numOf y = none → numsOf vs = none
  | [], i, y, h, _ => by simp at h
  | x :: r, 0, y, h, hn => by simp at h; subst h; simp [numsOf, hn]
  | x :: r, i + 1, y, h, hn => by
    have := numsOf_none r i y (by simpa using h) hn
    unfold numsOf
    split
    · rfl
    · rw [this]; rfl
theorem numsOf_some : ∀ (vs : List (List UInt8)) (ns : List Int), vs.map numOf = ns.map some → numsOf vs = some ns
  | [], ns, h => by simp at h; subst h; rfl
  | x :: r, [], h => by simp at h
  | x :: r, n :: ns, h => by
    simp at h
    unfold numsOf
    rw [h.1, numsOf_some r ns h.2]
    rfl
theorem parse_bounds {y : List UInt8} {v : Int} (h : Lib.parseIntB 64 y = .ok v) : In64a v := by
  unfold Lib.parseIntB at h
  split at h
  · cases h
  · simp only at h
    split at h
    · cases h
    · cases h
    · rename_i u _
      split at h
      · cases h
      · split at h
        · cases h
        · rename_i h1 h2
          injection h with h
          split at h
          · rename_i hn
            have : ¬ 2 ^ (64 - 1) < u := fun e => h2 ⟨hn, e⟩
            omega
          · rename_i hn
            have : ¬ 2 ^ (64 - 1) ≤ u := fun e => h1 ⟨hn, e⟩
            omega
end Go.Proofs.YthfpipieboophaaGreatDoor
