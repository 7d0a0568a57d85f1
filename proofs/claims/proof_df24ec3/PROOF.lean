import PyProof.Rows.All
import Wide.All
import OpenK.AllK
import Wide.FinOn
import PyProof.EqAt
import PyProof.EqKinds
import PyProof.TupleCall
import KE.BitLaws
import Open.SpecLaws
import KE.OsHead
import KE.OsGo
import KE.KDictSum
import PyProof.Rows.SetFrom
import PyFlatLaws
import PySem.Challenge.RW_roadvotes_s01_answers
section
/-! Ways and lines of a valley: plain mathematics. -/
namespace Rv
open Km457 (Valley Village at_ lineGo line climb meet far)
structure Ok (s : Valley) : Prop where
  pos : 0 < s.length
  up : ∀ v, 0 < v → v < s.length → (at_ s v).up < v
  long : ∀ v, 0 < v → v < s.length → 0 < (at_ s v).long
theorem foldl_add : ∀ (l : List Nat) (a : Nat), l.foldl (· + ·) a = a + l.sum
  | [], a => by simp
  | x :: l, a => by
    rw [List.foldl_cons, foldl_add l, List.sum_cons]
    omega
theorem sum_eq (l : List Nat) : Km457.sum l = l.sum := by
  unfold Km457.sum
  rw [foldl_add]
  omega
/-! ### lines -/
theorem lineGo_eq {s : Valley} (h : Ok s) : ∀ (f g v : Nat), v ≤ f → v ≤ g → v < s.length → lineGo s f v = lineGo s g v
  | 0, g, v, hf, _, _ => by
    have e : v = 0 := by omega
    subst e
    cases g <;> rfl
  | f + 1, 0, v, _, hg, _ => by
    have e : v = 0 := by omega
    subst e
    rfl
  | f + 1, g + 1, v, hf, hg, hv => by
    by_cases e : v = 0
    · subst e
      rfl
    · have hu := h.up v (by omega) hv
      show (if v = 0 then [0] else v :: lineGo s f (at_ s v).up) = (if v = 0 then [0] else v :: lineGo s g (at_ s v).up)
      rw [if_neg e, if_neg e, lineGo_eq h f g _ (by omega) (by omega) (by omega)]
theorem line_zero (s : Valley) : line s 0 = [0] := by
  unfold line
  cases s.length <;> rfl
theorem line_succ {s : Valley} (h : Ok s) {v : Nat} (h0 : 0 < v) (hv : v < s.length) : line s v = v :: line s (at_ s v).up := by
  unfold line
  obtain ⟨n, hn⟩ : ∃ n, s.length = n + 1 := ⟨s.length - 1, by omega⟩
  have hu := h.up v h0 hv
  rw [lineGo_eq h s.length (n + 1) v (by omega) (by omega) hv]
  show (if v = 0 then [0] else v :: lineGo s n (at_ s v).up) = _
  rw [if_neg (by omega), lineGo_eq h n s.length _ (by omega) (by omega) (by omega)]
/-- induction along the ups -/
theorem up_ind {s : Valley} (h : Ok s) {P : Nat → Prop} (h0 : P 0) (hs : ∀ v, 0 < v → v < s.length → P (at_ s v).up → P v) : ∀ v, v < s.length → P v := by
  intro v
  induction v using Nat.strongRecOn with
  | _ v ih =>
    intro hv
    by_cases e : v = 0
    · subst e
      exact h0
    · have hu := h.up v (by omega) hv
      exact hs v (by omega) hv (ih _ hu (by omega))
theorem self_mem {s : Valley} (h : Ok s) {v : Nat} (hv : v < s.length) : v ∈ line s v := by
  by_cases e : v = 0
  · subst e
    rw [line_zero]
    simp
  · rw [line_succ h (by omega) hv]
    simp
theorem zero_mem {s : Valley} (h : Ok s) : ∀ v, v < s.length → 0 ∈ line s v :=
  up_ind h (by rw [line_zero]; simp) fun v h0 hv ih => by
    rw [line_succ h h0 hv]
    exact List.mem_cons_of_mem _ ih
theorem mem_le {s : Valley} (h : Ok s) : ∀ v, v < s.length → ∀ x ∈ line s v, x ≤ v :=
  up_ind h (by rw [line_zero]; simp) fun v h0 hv ih x hx => by
    rw [line_succ h h0 hv] at hx
    have hu := h.up v h0 hv
    rcases List.mem_cons.mp hx with e | e
    · omega
    · have := ih x e
      omega
theorem mem_lt {s : Valley} (h : Ok s) {v : Nat} (hv : v < s.length) {x : Nat} (hx : x ∈ line s v) : x < s.length := Nat.lt_of_le_of_lt (mem_le h v hv x hx) hv
/-- a line from a village of a line is its rest -/
theorem line_trans {s : Valley} (h : Ok s) {w : Nat} : ∀ v, v < s.length → w ∈ line s v → ∀ x ∈ line s w, x ∈ line s v :=
  up_ind h (fun hw x hx => by
      rw [line_zero] at hw
      have e : w = 0 := by simpa using hw
      subst e
      exact hx) fun v h0 hv ih hw x hx => by
    rw [line_succ h h0 hv] at hw ⊢
    rcases List.mem_cons.mp hw with e | e
    · subst e
      rw [line_succ h h0 hv] at hx
      exact hx
    · exact List.mem_cons_of_mem _ (ih e x hx)
theorem up_mem {s : Valley} (h : Ok s) {v x : Nat} (h0 : 0 < v) (hx : x < s.length) (hm : v ∈ line s x) : (at_ s v).up ∈ line s x := by
  have hv := mem_lt h hx hm
  have hu := h.up v h0 hv
  refine line_trans h x hx hm _ ?_
  rw [line_succ h h0 hv]
  exact List.mem_cons_of_mem _ (self_mem h (by omega))
/-- two villages of one line: one is on the other's -/
theorem comparable {s : Valley} (h : Ok s) {v w : Nat} : ∀ x, x < s.length → v ∈ line s x → w ∈ line s x → v ∈ line s w ∨ w ∈ line s v :=
  up_ind h (fun hv hw => by
      rw [line_zero] at hv hw
      have e : v = 0 := by simpa using hv
      have e2 : w = 0 := by simpa using hw
      subst e e2
      left
      rw [line_zero]
      simp) fun x h0 hx ih hv hw => by
    have kv := hv
    have kw := hw
    rw [line_succ h h0 hx] at hv hw
    rcases List.mem_cons.mp hv with e | e
    · subst e
      exact .inr kw
    · rcases List.mem_cons.mp hw with e' | e'
      · subst e'
        exact .inl kv
      · exact ih e e'
/-! ### how far -/
def hgt (s : Valley) (v : Nat) : Nat := ((line s v).map fun x => (at_ s x).long).sum
theorem hgt_succ {s : Valley} (h : Ok s) {v : Nat} (h0 : 0 < v) (hv : v < s.length) : hgt s v = (at_ s v).long + hgt s (at_ s v).up := by
  unfold hgt
  rw [line_succ h h0 hv, List.map_cons, List.sum_cons]
theorem climb_hgt {s : Valley} (h : Ok s) {m : Nat} : ∀ v, v < s.length → m ∈ line s v → climb s (line s v) m + hgt s m = hgt s v :=
  up_ind h (fun hm => by
      rw [line_zero] at hm
      have e : m = 0 := by simpa using hm
      subst e
      unfold climb
      rw [line_zero, sum_eq]
      simp) fun v h0 hv ih hm => by
    rw [hgt_succ h h0 hv]
    unfold climb at ih ⊢
    rw [sum_eq] at ih ⊢
    by_cases e : v = m
    · subst e
      have k : ((v :: line s (at_ s v).up).takeWhile fun x => x != v) = [] := by simp
      rw [line_succ h h0 hv, k, hgt_succ h h0 hv]
      simp
    · rw [line_succ h h0 hv] at hm ⊢
      rcases List.mem_cons.mp hm with q | q
      · exact absurd q.symm e
      · have k : ((v :: line s (at_ s v).up).takeWhile fun x => x != m) = v :: ((line s (at_ s v).up).takeWhile fun x => x != m) := by
          rw [List.takeWhile_cons, if_pos (by simp [e])]
        rw [k, List.map_cons, List.sum_cons]
        have := ih q
        omega
theorem meet_in {s : Valley} {v w : Nat} (hw : v ∈ line s w) (hv : line s v = v :: (line s v).tail) : meet s v w = v := by
  unfold meet
  rw [hv, List.find?_cons_of_pos (by simpa using hw)]
  rfl
theorem head_line {s : Valley} (h : Ok s) {v : Nat} (hv : v < s.length) : line s v = v :: (line s v).tail := by
  by_cases e : v = 0
  · subst e
    rw [line_zero]
    rfl
  · rw [line_succ h (by omega) hv]
    rfl
theorem meet_out {s : Valley} (h : Ok s) {v w : Nat} (h0 : 0 < v) (hv : v < s.length) (hw : v ∉ line s w) : meet s v w = meet s (at_ s v).up w := by
  unfold meet
  rw [line_succ h h0 hv, List.find?_cons_of_neg (by simpa using hw)]
theorem meet_mem {s : Valley} (h : Ok s) {w : Nat} (hw : w < s.length) : ∀ v, v < s.length → meet s v w ∈ line s v ∧ meet s v w ∈ line s w :=
  up_ind h (by
      rw [meet_in (zero_mem h w hw) (by rw [line_zero]; rfl)]
      exact ⟨by rw [line_zero]; simp, zero_mem h w hw⟩) fun v h0 hv ih => by
    by_cases e : v ∈ line s w
    · rw [meet_in e (head_line h hv)]
      exact ⟨self_mem h hv, e⟩
    · rw [meet_out h h0 hv e, line_succ h h0 hv]
      exact ⟨List.mem_cons_of_mem _ ih.1, ih.2⟩
theorem meet_max {s : Valley} (h : Ok s) {w : Nat} (hw : w < s.length) : ∀ v, v < s.length → ∀ y, y ∈ line s v → y ∈ line s w → y ≤ meet s v w :=
  up_ind h (fun y hy _ => by
      rw [line_zero] at hy
      have e : y = 0 := by simpa using hy
      omega) fun v h0 hv ih y hy hyw => by
    by_cases e : v ∈ line s w
    · rw [meet_in e (head_line h hv)]
      exact mem_le h v hv y hy
    · rw [meet_out h h0 hv e]
      rw [line_succ h h0 hv] at hy
      rcases List.mem_cons.mp hy with q | q
      · subst q
        exact absurd hyw e
      · exact ih y q hyw
theorem meet_comm {s : Valley} (h : Ok s) {v w : Nat} (hv : v < s.length) (hw : w < s.length) : meet s v w = meet s w v := by
  have a := meet_mem h hw v hv
  have b := meet_mem h hv w hw
  have c := meet_max h hw v hv _ b.2 b.1
  have d := meet_max h hv w hw _ a.2 a.1
  omega
theorem far_hgt {s : Valley} (h : Ok s) {v w : Nat} (hv : v < s.length) (hw : w < s.length) : far s v w + 2 * hgt s (meet s v w) = hgt s v + hgt s w := by
  have a := meet_mem h hw v hv
  have b := climb_hgt h v hv a.1
  have c := climb_hgt h w hw a.2
  unfold far
  omega
theorem far_comm {s : Valley} (h : Ok s) {v w : Nat} (hv : v < s.length) (hw : w < s.length) : far s v w = far s w v := by
  have a := far_hgt h hv hw
  have b := far_hgt h hw hv
  rw [meet_comm h hw hv] at b
  omega
theorem far_self {s : Valley} (h : Ok s) {v : Nat} (hv : v < s.length) : far s v v = 0 := by
  have a := far_hgt h hv hv
  rw [meet_in (self_mem h hv) (head_line h hv)] at a
  omega
/-- toward a village of the branch -/
theorem far_in {s : Valley} (h : Ok s) {v x : Nat} (h0 : 0 < v) (hx : x < s.length) (hm : v ∈ line s x) : far s (at_ s v).up x = far s v x + (at_ s v).long := by
  have hv := mem_lt h hx hm
  have hu := h.up v h0 hv
  have a := far_hgt h hv hx
  have b := far_hgt h (show (at_ s v).up < s.length by omega) hx
  rw [meet_in hm (head_line h hv)] at a
  rw [meet_in (up_mem h h0 hx hm) (head_line h (by omega))] at b
  have c := hgt_succ h h0 hv
  omega
/-- away from it -/
theorem far_out {s : Valley} (h : Ok s) {v x : Nat} (h0 : 0 < v) (hv : v < s.length) (hx : x < s.length) (hm : v ∉ line s x) : far s v x = far s (at_ s v).up x + (at_ s v).long := by
  have hu := h.up v h0 hv
  have a := far_hgt h hv hx
  have b := far_hgt h (show (at_ s v).up < s.length by omega) hx
  rw [meet_out h h0 hv hm] at a
  have c := hgt_succ h h0 hv
  omega
end Rv
end
section
/-! What is chosen: the place with the least ways is the one that has no heavy branch. -/
namespace Rv
open Km457 (Valley Village at_ lineGo line climb meet far)
/-! ### sums and counts -/
theorem sum_pick (g : Nat → Nat) (x : Nat) : ∀ n, ((List.range n).map fun w => (if x == w then 1 else 0) * g w).sum = if x < n then g x else 0
  | 0 => by simp
  | n + 1 => by
    rw [List.range_succ, List.map_append, List.sum_append, sum_pick g x n]
    simp only [List.map_cons, List.map_nil, List.sum_cons, List.sum_nil]
    by_cases e : x = n
    · subst e
      rw [if_neg (by omega), if_pos (by simp), if_pos (by omega)]
      omega
    · rw [if_neg (show ¬ (x == n) = true by simpa using e)]
      by_cases h : x < n
      · rw [if_pos h, if_pos (by omega)]
        omega
      · rw [if_neg h, if_neg (by omega)]
        omega
theorem sum_map_add {α : Type} (f g : α → Nat) : ∀ l : List α, (l.map fun x => f x + g x).sum = (l.map f).sum + (l.map g).sum
  | [] => by simp
  | x :: l => by
    simp only [List.map_cons, List.sum_cons]
    rw [sum_map_add f g l]
    omega
theorem sum_count (g : Nat → Nat) (n : Nat) : ∀ V : List Nat, (∀ x ∈ V, x < n) → ((List.range n).map fun w => (V.filter fun x => x == w).length * g w).sum = (V.map g).sum
  | [], _ => by
    simp only [List.filter_nil, List.length_nil, Nat.zero_mul, List.map_nil, List.sum_nil]
    induction n with
    | zero => rfl
    | succ n ih =>
      rw [List.range_succ, List.map_append, List.sum_append, ih (by simp)]
      rfl
  | x :: V, h => by
    have e : (fun w => ((x :: V).filter fun x => x == w).length * g w) = fun w => (if x == w then 1 else 0) * g w + (V.filter fun x => x == w).length * g w := by
      funext w
      rw [List.filter_cons]
      by_cases q : (x == w) = true
      · rw [if_pos q, if_pos q, List.length_cons, Nat.add_mul]
        omega
      · rw [if_neg q, if_neg q]
        omega
    rw [e, sum_map_add, sum_pick, if_pos (h x (by simp)), sum_count g n V fun y hy => h y (by simp [hy]), List.map_cons, List.sum_cons]
/-! ### a valley with other children -/
theorem lineGo_congr {s t : Valley} (h : ∀ v, (at_ s v).up = (at_ t v).up) : ∀ f v, lineGo s f v = lineGo t f v
  | 0, _ => rfl
  | f + 1, v => by
    show (if v = 0 then [0] else v :: lineGo s f (at_ s v).up) = (if v = 0 then [0] else v :: lineGo t f (at_ t v).up)
    rw [h v, lineGo_congr h f]
theorem line_congr {s t : Valley} (hl : s.length = t.length) (h : ∀ v, (at_ s v).up = (at_ t v).up) (v : Nat) : line s v = line t v := by
  unfold line
  rw [hl, lineGo_congr h]
theorem far_congr {s t : Valley} (hl : s.length = t.length) (h : ∀ v, (at_ s v).up = (at_ t v).up) (k : ∀ v, (at_ s v).long = (at_ t v).long) (v w : Nat) : far s v w = far t v w := by
  unfold far meet climb
  simp only [line_congr hl h, k]
theorem weighed_len (s : Valley) (votes : List Nat) : (Km459.weighed s votes).length = s.length := by
  unfold Km459.weighed
  rw [List.length_map, List.length_range]
theorem at_weighed {s : Valley} {votes : List Nat} {v : Nat} (hv : v < s.length) : at_ (Km459.weighed s votes) v = { at_ s v with many := ((Km459.odd votes).filter fun x => x == v).length } := by
  unfold Km459.weighed
  show (List.getD _ v _) = _
  rw [List.getD_eq_getElem?_getD, List.getElem?_map, List.getElem?_range hv]
  rfl
theorem at_out {s : Valley} {v : Nat} (hv : ¬ v < s.length) : at_ s v = ⟨0, 0, 0⟩ := by
  unfold at_
  rw [List.getD_eq_getElem?_getD, List.getElem?_eq_none (by omega)]
  rfl
theorem weighed_up (s : Valley) (votes : List Nat) (v : Nat) : (at_ (Km459.weighed s votes) v).up = (at_ s v).up := by
  by_cases hv : v < s.length
  · rw [at_weighed hv]
  · rw [at_out hv, at_out (by rw [weighed_len]; exact hv)]
theorem weighed_long (s : Valley) (votes : List Nat) (v : Nat) : (at_ (Km459.weighed s votes) v).long = (at_ s v).long := by
  by_cases hv : v < s.length
  · rw [at_weighed hv]
  · rw [at_out hv, at_out (by rw [weighed_len]; exact hv)]
theorem odd_lt {s : Valley} (h : Ok s) {votes : List Nat} (hv : ∀ x ∈ votes, x < s.length) : ∀ x ∈ Km459.odd votes, x < s.length := by
  unfold Km459.odd
  intro x hx
  split at hx
  · rcases List.mem_cons.mp hx with e | e
    · subst e
      exact h.pos
    · exact hv x e
  · exact hv x hx
theorem odd_odd (votes : List Nat) : (Km459.odd votes).length % 2 = 1 := by
  unfold Km459.odd
  split
  · rw [List.length_cons]
    omega
  · omega
/-- all ways to a village, vote by vote -/
def W (s : Valley) (V : List Nat) (v : Nat) : Nat := (V.map fun x => far s v x).sum
theorem ways_eq {s : Valley} (h : Ok s) {votes : List Nat} (hv : ∀ x ∈ votes, x < s.length) (v : Nat) : Km457.ways (Km459.weighed s votes) v = W s (Km459.odd votes) v := by
  unfold Km457.ways Km457.all W
  rw [sum_eq, weighed_len, ← sum_count (fun w => far s v w) s.length (Km459.odd votes) (odd_lt h hv)]
  refine congrArg List.sum (List.map_congr_left fun w hw => ?_)
  rw [at_weighed (List.mem_range.mp hw), far_congr (weighed_len s votes) (weighed_up s votes) (weighed_long s votes)]
/-! ### branches -/
/-- the votes below a village -/
def B (s : Valley) (V : List Nat) (v : Nat) : Nat := (V.filter fun x => (line s x).contains v).length
theorem W_step {s : Valley} (h : Ok s) {v : Nat} (h0 : 0 < v) (hv : v < s.length) : ∀ V : List Nat, (∀ x ∈ V, x < s.length) → W s V v + 2 * ((at_ s v).long * B s V v) = W s V (at_ s v).up + (at_ s v).long * V.length
  | [], _ => rfl
  | x :: V, hV => by
    have ih := W_step h h0 hv V fun y hy => hV y (by simp [hy])
    have hx := hV x (by simp)
    unfold W B at ih ⊢
    rw [List.map_cons, List.sum_cons, List.map_cons, List.sum_cons, List.filter_cons, List.length_cons]
    by_cases q : v ∈ line s x
    · have a := far_in h h0 hx q
      rw [if_pos (by simpa using q), List.length_cons]
      simp only [Nat.mul_add, Nat.mul_one]
      omega
    · have a := far_out h h0 hv hx q
      rw [if_neg (by simpa using q)]
      simp only [Nat.mul_add, Nat.mul_one]
      omega
theorem both_of {α : Type} (p q : α → Bool) : ∀ V : List α, V.length < (V.filter p).length + (V.filter q).length → ∃ x ∈ V, p x = true ∧ q x = true
  | [], h => by simp at h
  | x :: V, h => by
    by_cases hp : p x = true
    · by_cases hq : q x = true
      · exact ⟨x, by simp, hp, hq⟩
      · rw [List.filter_cons, if_pos hp, List.filter_cons, if_neg hq, List.length_cons, List.length_cons] at h
        obtain ⟨y, hy, k⟩ := both_of p q V (by omega)
        exact ⟨y, by simp [hy], k⟩
    · rw [List.filter_cons, if_neg hp, List.filter_cons, List.length_cons] at h
      have : (V.length < (V.filter p).length + (V.filter q).length) := by
        split at h
        · rw [List.length_cons] at h
          omega
        · omega
      obtain ⟨y, hy, k⟩ := both_of p q V this
      exact ⟨y, by simp [hy], k⟩
theorem filter_le {α : Type} (p q : α → Bool) (h : ∀ x, p x = true → q x = true) : ∀ V : List α, (V.filter p).length ≤ (V.filter q).length
  | [] => by simp
  | x :: V => by
    have ih := filter_le p q h V
    rw [List.filter_cons, List.filter_cons]
    by_cases hp : p x = true
    · rw [if_pos hp, if_pos (h x hp), List.length_cons, List.length_cons]
      omega
    · rw [if_neg hp]
      split
      · rw [List.length_cons]
        omega
      · exact ih
theorem filter_le' {α : Type} (p q : α → Bool) (V : List α) (h : ∀ x ∈ V, p x = true → q x = true) : (V.filter p).length ≤ (V.filter q).length := by
  induction V with
  | nil => simp
  | cons x V ih =>
    have ih := ih fun y hy => h y (by simp [hy])
    rw [List.filter_cons, List.filter_cons]
    by_cases hp : p x = true
    · rw [if_pos hp, if_pos (h x (by simp) hp), List.length_cons, List.length_cons]
      omega
    · rw [if_neg hp]
      split
      · rw [List.length_cons]
        omega
      · exact ih
section
variable {s : Valley} {V : List Nat}
theorem B_up (h : Ok s) (hV : ∀ x ∈ V, x < s.length) {v : Nat} (h0 : 0 < v) : B s V v ≤ B s V (at_ s v).up := by
  unfold B
  refine filter_le' _ _ V fun x hx k => ?_
  have k' : v ∈ line s x := by simpa using k
  simpa using up_mem h h0 (hV x hx) k'
theorem B_zero (h : Ok s) (hV : ∀ x ∈ V, x < s.length) : B s V 0 = V.length := by
  unfold B
  rw [List.filter_eq_self.mpr fun x hx => by simpa using zero_mem h x (hV x hx)]
theorem B_le (v : Nat) : B s V v ≤ V.length := List.length_filter_le _ _
/-- more than half of the votes are below it -/
def Heavy (s : Valley) (V : List Nat) (v : Nat) : Prop := V.length < 2 * B s V v
theorem heavy_zero (h : Ok s) (hV : ∀ x ∈ V, x < s.length) (o : V.length % 2 = 1) : Heavy s V 0 := by
  unfold Heavy
  rw [B_zero h hV]
  omega
theorem heavy_up (h : Ok s) (hV : ∀ x ∈ V, x < s.length) {v : Nat} (h0 : 0 < v) (k : Heavy s V v) : Heavy s V (at_ s v).up := by
  unfold Heavy at k ⊢
  have := B_up h hV h0 (v := v)
  omega
theorem heavy_chain (h : Ok s) (hV : ∀ x ∈ V, x < s.length) {v w : Nat} (kv : Heavy s V v) (kw : Heavy s V w) : v ∈ line s w ∨ w ∈ line s v := by
  unfold Heavy B at kv kw
  obtain ⟨x, hx, p, q⟩ := both_of (fun x => (line s x).contains v) (fun x => (line s x).contains w) V (by omega)
  exact comparable h x (hV x hx) (by simpa using p) (by simpa using q)
theorem down (h : Ok s) (hV : ∀ x ∈ V, x < s.length) {v : Nat} (h0 : 0 < v) (hv : v < s.length) (k : Heavy s V v) : W s V v < W s V (at_ s v).up := by
  have a := W_step h h0 hv V hV
  have hl := h.long v h0 hv
  unfold Heavy at k
  have b : (at_ s v).long * (V.length + 1) ≤ (at_ s v).long * (2 * B s V v) := Nat.mul_le_mul_left _ k
  rw [Nat.mul_add, Nat.mul_one, Nat.mul_left_comm] at b
  omega
theorem upward (h : Ok s) (hV : ∀ x ∈ V, x < s.length) (o : V.length % 2 = 1) {v : Nat} (h0 : 0 < v) (hv : v < s.length) (k : ¬ Heavy s V v) : W s V (at_ s v).up < W s V v := by
  have a := W_step h h0 hv V hV
  have hl := h.long v h0 hv
  unfold Heavy at k
  have b : (at_ s v).long * (2 * B s V v + 1) ≤ (at_ s v).long * V.length := Nat.mul_le_mul_left _ (by omega)
  rw [Nat.mul_add, Nat.mul_one, Nat.mul_left_comm] at b
  omega
theorem heavy_line (h : Ok s) (hV : ∀ x ∈ V, x < s.length) : ∀ c, c < s.length → Heavy s V c → ∀ y ∈ line s c, y ≠ c → W s V c < W s V y :=
  up_ind h (fun _ y hy ne => by
      rw [line_zero] at hy
      exact absurd (by simpa using hy) ne) fun c h0 hc ih k y hy ne => by
    have a := down h hV h0 hc k
    rw [line_succ h h0 hc] at hy
    rcases List.mem_cons.mp hy with e | e
    · exact absurd e ne
    · by_cases q : y = (at_ s c).up
      · rw [q]
        exact a
      · have := ih (heavy_up h hV h0 k) y e q
        omega
theorem least_one (h : Ok s) (hV : ∀ x ∈ V, x < s.length) (o : V.length % 2 = 1) {c : Nat} (hc : c < s.length) (kc : Heavy s V c) (mx : ∀ y, y < s.length → Heavy s V y → y ≤ c) :
    ∀ v, v < s.length → v ≠ c → W s V c < W s V v := by
  have hvy : ∀ y, y < s.length → Heavy s V y → y ≠ c → W s V c < W s V y := fun y hy ky ne => by
    rcases heavy_chain h hV ky kc with m | m
    · exact heavy_line h hV c hc kc y m ne
    · have a := mem_le h y hy c m
      have b := mx y hy ky
      exact absurd (by omega) ne
  refine up_ind h (fun ne => hvy 0 h.pos (heavy_zero h hV o) ne) fun v h0 hv ih ne => ?_
  by_cases k : Heavy s V v
  · exact hvy v hv k ne
  · have a := upward h hV o h0 hv k
    by_cases q : (at_ s v).up = c
    · rw [q] at a
      exact a
    · have := ih q
      omega
end
/-- the last village up to k that is heavy (0 if none) -/
def cho (T : Nat) (b : Nat → Nat) : Nat → Nat
  | 0 => 0
  | k + 1 => if T < 2 * b (k + 1) then k + 1 else cho T b k
theorem cho_le (T : Nat) (b : Nat → Nat) : ∀ k, cho T b k ≤ k
  | 0 => Nat.le_refl 0
  | k + 1 => by
    unfold cho
    split
    · omega
    · have := cho_le T b k
      omega
theorem cho_heavy (T : Nat) (b : Nat → Nat) (h0 : T < 2 * b 0) : ∀ k, T < 2 * b (cho T b k)
  | 0 => h0
  | k + 1 => by
    unfold cho
    split
    · assumption
    · exact cho_heavy T b h0 k
theorem cho_max (T : Nat) (b : Nat → Nat) : ∀ k y, y ≤ k → T < 2 * b y → y ≤ cho T b k
  | 0, y, hy, _ => by omega
  | k + 1, y, hy, h => by
    unfold cho
    split
    · exact hy
    · by_cases e : y = k + 1
      · subst e
        contradiction
      · exact cho_max T b k y (by omega) h
theorem cho_congr (T : Nat) {b b' : Nat → Nat} : ∀ k, (∀ v, v ≤ k → b v = b' v) → cho T b k = cho T b' k
  | 0, _ => rfl
  | k + 1, h => by
    unfold cho
    rw [h (k + 1) (Nat.le_refl _), cho_congr T k fun v hv => h v (by omega)]
theorem foldl_min : ∀ (l : List Nat) (a m : Nat), m ≤ a → (∀ x ∈ l, m ≤ x) → (m = a ∨ m ∈ l) → l.foldl min a = m
  | [], a, m, _, _, h => by
    rcases h with e | e
    · exact e.symm
    · simp at e
  | x :: l, a, m, ha, hl, h => by
    rw [List.foldl_cons]
    have hx := hl x (by simp)
    refine foldl_min l (min a x) m (by omega) (fun y hy => hl y (by simp [hy])) ?_
    rcases h with e | e
    · left
      omega
    · rcases List.mem_cons.mp e with q | q
      · left
        omega
      · exact .inr q
/-- **Chosen**, by branches -/
theorem chosen_eq {s : Valley} (h : Ok s) {votes : List Nat} (hv : ∀ x ∈ votes, x < s.length) :
    Km459.chosen s votes = cho (Km459.odd votes).length (B s (Km459.odd votes)) (s.length - 1) := by
  have hV := odd_lt h hv
  have o := odd_odd votes
  generalize ec : cho (Km459.odd votes).length (B s (Km459.odd votes)) (s.length - 1) = c
  have hc : c < s.length := by
    have := cho_le (Km459.odd votes).length (B s (Km459.odd votes)) (s.length - 1)
    have := h.pos
    omega
  have kc : Heavy s (Km459.odd votes) c := by
    rw [← ec]
    exact cho_heavy _ _ (heavy_zero h hV o) _
  have mx : ∀ y, y < s.length → Heavy s (Km459.odd votes) y → y ≤ c := fun y hy ky => by
    rw [← ec]
    exact cho_max _ _ _ y (by omega) ky
  have lo := least_one h hV o hc kc mx
  have le : Km457.least (Km459.weighed s votes) = W s (Km459.odd votes) c := by
    unfold Km457.least Km457.all
    rw [weighed_len]
    have e : ((List.range s.length).map fun v => Km457.ways (Km459.weighed s votes) v) = (List.range s.length).map (W s (Km459.odd votes)) := List.map_congr_left fun v _ => ways_eq h hv v
    rw [e, ways_eq h hv]
    have all : ∀ v, v < s.length → W s (Km459.odd votes) c ≤ W s (Km459.odd votes) v := fun v hv' => by
      by_cases q : v = c
      · rw [q]
        exact Nat.le_refl _
      · exact Nat.le_of_lt (lo v hv' q)
    refine foldl_min _ _ _ (all 0 h.pos) (fun x hx => ?_) (.inr (List.mem_map.mpr ⟨c, List.mem_range.mpr hc, rfl⟩))
    obtain ⟨v, hv', rfl⟩ := List.mem_map.mp hx
    exact all v (List.mem_range.mp hv')
  have only : ∀ v, v ∈ Km457.best (Km459.weighed s votes) → v = c := fun v hv' => by
    unfold Km457.best Km457.all at hv'
    rw [List.mem_filter, weighed_len, le, ways_eq h hv] at hv'
    obtain ⟨a, b⟩ := hv'
    by_cases q : v = c
    · exact q
    · have x := lo v (List.mem_range.mp a) q
      have y : W s (Km459.odd votes) v = W s (Km459.odd votes) c := by simpa using b
      omega
  have is : c ∈ Km457.best (Km459.weighed s votes) := by
    unfold Km457.best Km457.all
    rw [List.mem_filter, weighed_len, le, ways_eq h hv]
    exact ⟨List.mem_range.mpr hc, by simp⟩
  unfold Km459.chosen
  cases e : Km457.best (Km459.weighed s votes) with
  | nil =>
    rw [e] at is
    simp at is
  | cons y l => exact only y (by rw [e]; simp)
end Rv
end
section
/-! Votes below each village, by one sweep from the last to the first; distances row by row; changes. -/
namespace Rv
open Km457 (Valley Village at_ lineGo line climb meet far)
/-! ### the sweep -/
/-- the line of x, down to the first village that is not above k -/
def pcGo (s : Valley) (k : Nat) : Nat → Nat → List Nat
  | 0, x => [x]
  | f + 1, x => if x ≤ k then [x] else x :: pcGo s k f (at_ s x).up
def pc (s : Valley) (k x : Nat) : List Nat := pcGo s k x x
theorem pcGo_eq {s : Valley} (h : Ok s) (k : Nat) : ∀ (f g x : Nat), x ≤ f → x ≤ g → x < s.length → pcGo s k f x = pcGo s k g x
  | 0, g, x, hf, _, _ => by
    have e : x = 0 := by omega
    subst e
    cases g
    · rfl
    · show [0] = if 0 ≤ k then [0] else _
      rw [if_pos (Nat.zero_le _)]
  | f + 1, 0, x, _, hg, _ => by
    have e : x = 0 := by omega
    subst e
    show (if 0 ≤ k then [0] else _) = [0]
    rw [if_pos (Nat.zero_le _)]
  | f + 1, g + 1, x, hf, hg, hx => by
    show (if x ≤ k then [x] else x :: pcGo s k f (at_ s x).up) = (if x ≤ k then [x] else x :: pcGo s k g (at_ s x).up)
    by_cases e : x ≤ k
    · rw [if_pos e, if_pos e]
    · have hu := h.up x (by omega) hx
      rw [if_neg e, if_neg e, pcGo_eq h k f g _ (by omega) (by omega) (by omega)]
theorem pc_le {s : Valley} {k x : Nat} (e : x ≤ k) : pc s k x = [x] := by
  unfold pc
  cases x
  · rfl
  · show (if _ ≤ k then _ else _) = _
    rw [if_pos e]
theorem pc_gt {s : Valley} (h : Ok s) {k x : Nat} (e : k < x) (hx : x < s.length) : pc s k x = x :: pc s k (at_ s x).up := by
  unfold pc
  have hu := h.up x (by omega) hx
  obtain ⟨m, hm⟩ : ∃ m, x = m + 1 := ⟨x - 1, by omega⟩
  rw [pcGo_eq h k x (m + 1) x (by omega) (by omega) hx]
  show (if x ≤ k then [x] else x :: pcGo s k m (at_ s x).up) = _
  rw [if_neg (by omega), pcGo_eq h k m (at_ s x).up _ (by omega) (by omega) (by omega)]
theorem pc_zero {s : Valley} (h : Ok s) : ∀ x, x < s.length → pc s 0 x = line s x :=
  up_ind h (by rw [line_zero]; rfl) fun v h0 hv ih => by rw [pc_gt h h0 hv, line_succ h h0 hv, ih]
def ind (b : Bool) : Nat := if b then 1 else 0
theorem count_ind {α : Type} (p : α → Bool) : ∀ V : List α, (V.filter p).length = (V.map fun x => ind (p x)).sum
  | [] => rfl
  | x :: V => by
    rw [List.filter_cons, List.map_cons, List.sum_cons, ← count_ind p V]
    unfold ind
    split
    · rw [List.length_cons]
      omega
    · omega
theorem pc_step {s : Valley} (h : Ok s) {k u : Nat} (hk : k + 1 < s.length) : ∀ x, x < s.length →
    ind ((pc s k x).contains u) = ind ((pc s (k + 1) x).contains u) + if u = (at_ s (k + 1)).up then ind ((pc s (k + 1) x).contains (k + 1)) else 0 := by
  have hu := h.up (k + 1) (by omega) hk
  refine up_ind h ?_ fun x h0 hx ih => ?_
  · rw [pc_le (Nat.zero_le _), pc_le (Nat.zero_le _)]
    have e : ([0] : List Nat).contains (k + 1) = false := by simp
    rw [e]
    simp [ind]
  · by_cases a : x ≤ k
    · rw [pc_le a, pc_le (show x ≤ k + 1 by omega)]
      have e : ([x] : List Nat).contains (k + 1) = false := by
        simp
        omega
      rw [e]
      simp [ind]
    · by_cases b : x = k + 1
      · subst b
        rw [pc_gt h (by omega) hx, pc_le (show (at_ s (k + 1)).up ≤ k by omega), pc_le (Nat.le_refl _)]
        by_cases c : u = (at_ s (k + 1)).up
        · have d : u ≠ k + 1 := by omega
          subst c
          rw [if_pos rfl]
          simp [ind, d]
        · rw [if_neg c]
          simp [ind, c]
      · rw [pc_gt h (by omega) hx, pc_gt h (show k + 1 < x by omega) hx]
        have q : ∀ l : List Nat, (x :: l).contains (k + 1) = l.contains (k + 1) := fun l => by
          rw [List.contains_cons]
          have : (k + 1 == x) = false := by
            simp
            omega
          rw [this, Bool.false_or]
        rw [q]
        by_cases c : u = x
        · subst c
          rw [if_neg (by omega)]
          simp [ind]
        · have r : ∀ l : List Nat, (x :: l).contains u = l.contains u := fun l => by
            rw [List.contains_cons]
            have : (u == x) = false := by simpa using c
            rw [this, Bool.false_or]
          rw [r, r]
          exact ih
/-- what stands at u when all above k are swept -/
def N (s : Valley) (V : List Nat) (k u : Nat) : Nat := (V.filter fun x => (pc s k x).contains u).length
theorem N_first {s : Valley} {V : List Nat} (hV : ∀ x ∈ V, x < s.length) (u : Nat) : N s V (s.length - 1) u = (V.filter fun x => x == u).length := by
  unfold N
  refine congrArg List.length (List.filter_congr fun x hx => ?_)
  have := hV x hx
  rw [pc_le (by omega), Bool.eq_iff_iff]
  simp
  exact eq_comm
theorem N_last {s : Valley} (h : Ok s) {V : List Nat} (hV : ∀ x ∈ V, x < s.length) (u : Nat) : N s V 0 u = B s V u := by
  unfold N B
  refine congrArg List.length (List.filter_congr fun x hx => ?_)
  rw [pc_zero h x (hV x hx)]
theorem N_step {s : Valley} (h : Ok s) {V : List Nat} (hV : ∀ x ∈ V, x < s.length) {k : Nat} (hk : k + 1 < s.length) (u : Nat) :
    N s V k u = if u = (at_ s (k + 1)).up then N s V (k + 1) u + N s V (k + 1) (k + 1) else N s V (k + 1) u := by
  unfold N
  rw [count_ind, count_ind, count_ind]
  have e : (V.map fun x => ind ((pc s k x).contains u)) = V.map fun x => ind ((pc s (k + 1) x).contains u) + if u = (at_ s (k + 1)).up then ind ((pc s (k + 1) x).contains (k + 1)) else 0 :=
    List.map_congr_left fun x hx => pc_step h hk x (hV x hx)
  rw [e, sum_map_add]
  by_cases c : u = (at_ s (k + 1)).up
  · simp only [if_pos c]
  · simp only [if_neg c]
    have z : ∀ V : List Nat, (V.map fun _ => 0).sum = 0 := fun V => by
      induction V with
      | nil => rfl
      | cons x V ih => rw [List.map_cons, List.sum_cons, ih]
    rw [z]
    rfl
/-! ### distances row by row -/
theorem far_new {s : Valley} (h : Ok s) {v w : Nat} (hw : w < v) (hv : v < s.length) : far s v w = far s (at_ s v).up w + (at_ s v).long :=
  far_out h (by omega) hv (by omega) fun m => by
    have := mem_le h w (by omega) v m
    omega
/-! ### changes -/
theorem at_append {s : Valley} {x : Village} {v : Nat} (hv : v < s.length) : at_ (s ++ [x]) v = at_ s v := by
  unfold at_
  rw [List.getD_eq_getElem?_getD, List.getD_eq_getElem?_getD, List.getElem?_append_left hv]
theorem at_last {s : Valley} {x : Village} : at_ (s ++ [x]) s.length = x := by
  unfold at_
  rw [List.getD_eq_getElem?_getD, List.getElem?_append_right (Nat.le_refl _)]
  simp
theorem ok_append {s : Valley} (h : Ok s) {x : Village} (hu : x.up < s.length) (hl : 0 < x.long) : Ok (s ++ [x]) := by
  refine ⟨by rw [List.length_append]; have := h.pos; omega, fun v h0 hv => ?_, fun v h0 hv => ?_⟩
  · rw [List.length_append] at hv
    by_cases e : v < s.length
    · rw [at_append e]
      exact h.up v h0 e
    · have q : v = s.length := by
        simp at hv
        omega
      subst q
      rw [at_last]
      exact hu
  · rw [List.length_append] at hv
    by_cases e : v < s.length
    · rw [at_append e]
      exact h.long v h0 e
    · have q : v = s.length := by
        simp at hv
        omega
      subst q
      rw [at_last]
      exact hl
theorem at_set {s : Valley} {x : Village} {v w : Nat} (hv : v < s.length) : at_ (s.set v x) w = if w = v then x else at_ s w := by
  unfold at_
  rw [List.getD_eq_getElem?_getD, List.getD_eq_getElem?_getD, List.getElem?_set]
  by_cases e : w = v
  · subst e
    rw [if_pos rfl, if_pos rfl, if_pos hv]
    rfl
  · rw [if_neg (fun q => e q.symm), if_neg e]
theorem ok_set {s : Valley} (h : Ok s) {v n : Nat} (hv : v < s.length) (hn : 0 < n) : Ok (s.set v { at_ s v with long := n }) := by
  refine ⟨by rw [List.length_set]; exact h.pos, fun w h0 hw => ?_, fun w h0 hw => ?_⟩
  · rw [List.length_set] at hw
    rw [at_set hv]
    by_cases e : w = v
    · subst e
      rw [if_pos rfl]
      exact h.up w h0 hw
    · rw [if_neg e]
      exact h.up w h0 hw
  · rw [List.length_set] at hw
    rw [at_set hv]
    by_cases e : w = v
    · rw [if_pos e]
      exact hn
    · rw [if_neg e]
      exact h.long w h0 hw
theorem ok_opened (m : Nat) : Ok (Km457.opened m) :=
  ⟨by show 0 < 1; decide, fun v h0 hv => by
    have : v < 1 := hv
    omega, fun v h0 hv => by
    have : v < 1 := hv
    omega⟩
end Rv
end
section
/-! Sets as bits; the lists of a valley; a row of votes. -/
namespace Rv
open Km457 (Valley Village at_ lineGo line climb meet far)
theorem bits_go : ∀ (l : List Nat) (w lo k : Nat), w < 2 ^ lo → l.Pairwise (· < ·) → (∀ x ∈ l, lo ≤ x) → (∀ x ∈ l, x < k) → lo ≤ k → l.foldl (fun w k => w + 2 ^ k) w < 2 ^ k
  | [], w, lo, k, h, _, _, _, hk => Nat.lt_of_lt_of_le h (Nat.pow_le_pow_right (by decide) hk)
  | x :: l, w, lo, k, h, hp, h1, h2, hk => by
    rw [List.foldl_cons]
    have hx := h1 x (by simp)
    have hx2 := h2 x (by simp)
    have hp' := List.pairwise_cons.mp hp
    refine bits_go l (w + 2 ^ x) (x + 1) k ?_ hp'.2 (fun y hy => hp'.1 y hy) (fun y hy => h2 y (by simp [hy])) hx2
    have a : 2 ^ lo ≤ 2 ^ x := Nat.pow_le_pow_right (by decide) hx
    rw [Nat.pow_succ]
    omega
theorem bits_lt {l : List Nat} {k : Nat} (hp : l.Pairwise (· < ·)) (h : ∀ x ∈ l, x < k) : Km459.bits l < 2 ^ k :=
  bits_go l 0 0 k (by decide) hp (fun _ _ => Nat.zero_le _) h (Nat.zero_le _)
theorem bits_snoc (l : List Nat) (k : Nat) : Km459.bits (l ++ [k]) = Km459.bits l + 2 ^ k := by
  unfold Km459.bits
  rw [List.foldl_append]
  rfl
theorem take_snoc {α : Type} {l : List α} {i : Nat} {x : α} (h : l[i]? = some x) : l.take (i + 1) = l.take i ++ [x] := by
  rw [List.take_add_one, h]
  rfl
theorem take_bits {l : List Nat} {i x : Nat} (hp : l.Pairwise (· < ·)) (h : l[i]? = some x) : Km459.bits (l.take i) < 2 ^ x := by
  refine bits_lt (hp.sublist (List.take_sublist _ _)) fun y hy => ?_
  have e := take_snoc h
  have q : (l.take (i + 1)).Pairwise (· < ·) := hp.sublist (List.take_sublist _ _)
  rw [e, List.pairwise_append] at q
  exact q.2.2 y hy x (by simp)
theorem range_up (n : Nat) (p : Nat → Bool) : ((List.range n).filter p).Pairwise (· < ·) := List.Pairwise.filter p List.pairwise_lt_range
/-! ### the lists of a valley -/
def ups (s : Valley) : List Nat := s.map fun x => x.up
def longs (s : Valley) : List Nat := s.map fun x => x.long
theorem ups_len (s : Valley) : (ups s).length = s.length := List.length_map _
theorem longs_len (s : Valley) : (longs s).length = s.length := List.length_map _
theorem at_get {s : Valley} {v : Nat} (h : v < s.length) : s[v]? = some (at_ s v) := by
  unfold at_
  rw [List.getD_eq_getElem?_getD, List.getElem?_eq_getElem h]
  rfl
theorem ups_get {s : Valley} {v : Nat} (h : v < s.length) : (ups s)[v]? = some (at_ s v).up := by
  unfold ups
  rw [List.getElem?_map, at_get h]
  rfl
theorem longs_get {s : Valley} {v : Nat} (h : v < s.length) : (longs s)[v]? = some (at_ s v).long := by
  unfold longs
  rw [List.getElem?_map, at_get h]
  rfl
/-- the votes and one more of village 0 if their number is even, at their end -/
def oddL (votes : List Nat) : List Nat := if votes.length % 2 = 0 then votes ++ [0] else votes
theorem oddL_len (votes : List Nat) : (oddL votes).length = (Km459.odd votes).length := by
  unfold oddL Km459.odd
  split <;> simp
theorem oddL_B (s : Valley) (votes : List Nat) (v : Nat) : B s (oddL votes) v = B s (Km459.odd votes) v := by
  unfold oddL Km459.odd B
  split
  · rw [List.filter_append, List.length_append, List.filter_cons, List.filter_cons, List.filter_nil]
    split <;> simp
  · rfl
theorem oddL_lt {s : Valley} (h : Ok s) {votes : List Nat} (hv : ∀ x ∈ votes, x < s.length) : ∀ x ∈ oddL votes, x < s.length := by
  unfold oddL
  intro x hx
  split at hx
  · rcases List.mem_append.mp hx with e | e
    · exact hv x e
    · have e' : x = 0 := by simpa using e
      rw [e']
      exact h.pos
  · exact hv x hx
/-- **Chosen**, as the program finds it -/
theorem chosen_cho {s : Valley} (h : Ok s) {votes : List Nat} (hv : ∀ x ∈ votes, x < s.length) : Km459.chosen s votes = cho (oddL votes).length (B s (oddL votes)) (s.length - 1) := by
  rw [chosen_eq h hv, oddL_len]
  exact cho_congr _ _ fun v _ => (oddL_B s votes v).symm
/-- the tally of the first i votes -/
def tally (V : List Nat) (i u : Nat) : Nat := ((V.take i).filter fun x => x == u).length
theorem tally_zero (V : List Nat) (u : Nat) : tally V 0 u = 0 := by
  unfold tally
  rw [List.take_zero]
  rfl
theorem tally_step {V : List Nat} {i x : Nat} (h : V[i]? = some x) (u : Nat) : tally V (i + 1) u = if u = x then tally V i x + 1 else tally V i u := by
  unfold tally
  rw [take_snoc h, List.filter_append, List.length_append, List.filter_cons, List.filter_nil]
  by_cases e : u = x
  · subst e
    rw [if_pos (beq_self_eq_true u), if_pos rfl]
    rfl
  · rw [if_neg (show ¬ (x == u) = true by simpa using fun q : x = u => e q.symm), if_neg e]
    rfl
theorem tally_all {s : Valley} {V : List Nat} (hV : ∀ x ∈ V, x < s.length) (u : Nat) : tally V V.length u = N s V (s.length - 1) u := by
  unfold tally
  rw [List.take_length, N_first hV]
theorem rowGo_snoc (s : Valley) (votes : List Nat) : ∀ (l : List Nat) (v x : Nat), Km459.rowGo s votes v (l ++ [x]) = if Km459.beats s votes x (Km459.rowGo s votes v l) = true then x else Km459.rowGo s votes v l
  | [], _, _ => rfl
  | y :: l, v, x => rowGo_snoc s votes l _ x
theorem rowGo_lt {s : Valley} {votes : List Nat} : ∀ (l : List Nat) (v : Nat), v < s.length → (∀ x ∈ l, x < s.length) → Km459.rowGo s votes v l < s.length
  | [], _, h, _ => h
  | y :: l, v, h, hl => by
    show Km459.rowGo s votes (if _ then y else v) l < _
    refine rowGo_lt l _ ?_ fun x hx => hl x (by simp [hx])
    split
    · exact hl y (by simp)
    · exact h
end Rv
end
section
/-! What holds of every desk. -/
namespace Rv
open Km457 (Valley Village at_ far)
open Km459 (Sea Desk Call act)
/-- what holds of every sea -/
structure Good (s : Sea) : Prop where
  ok : Ok s.valley
  len : s.valley.length ≤ 12
  lt : ∀ x ∈ s.votes, x < s.valley.length
  few : s.votes.length ≤ 11
structure GoodD (d : Desk) : Prop where
  now : Good d.now
  past : ∀ s ∈ d.past, Good s
  future : ∀ s ∈ d.future, Good s
  most : d.past.length + d.future.length ≤ 20
theorem set_lt {l : List Nat} {n i v : Nat} (h : ∀ x ∈ l, x < n) (hv : v < n) : ∀ x ∈ l.set i v, x < n := fun x hx => by
  rcases List.mem_or_eq_of_mem_set hx with e | e
  · exact h x e
  · rw [e]
    exact hv
theorem good_opened : Good Km459.opened := ⟨ok_opened 0, by show 1 ≤ 12; decide, fun x hx => (by cases hx), by show 0 ≤ 11; decide⟩
theorem goodD_start : GoodD ⟨Km459.opened, [], []⟩ := ⟨good_opened, fun s hs => (by cases hs), fun s hs => (by cases hs), by show 0 ≤ 20; decide⟩
theorem GoodD.become {d : Desk} (h : GoodD d) {s : Sea} (hs : Good s) : GoodD (d.become s) := by
  refine ⟨hs, fun x hx => ?_, fun x hx => (by cases hx), ?_⟩
  · rcases List.mem_cons.mp (List.mem_of_mem_take hx) with e | e
    · rw [e]
      exact h.now
    · exact h.past x e
  · show ((d.now :: d.past).take 20).length + 0 ≤ 20
    rw [List.length_take]
    omega
theorem good_village {s : Sea} (h : Good s) {u l : Nat} (hu : u < s.valley.length) (hl : 0 < l) (hn : s.valley.length < 12) : Good { s with valley := s.valley ++ [⟨u, l, 0⟩] } :=
  ⟨ok_append h.ok hu hl, by show (s.valley ++ [_]).length ≤ 12; rw [List.length_append]; exact hn, fun x hx => by show x < (s.valley ++ [_]).length; rw [List.length_append]; have := h.lt x hx; omega, h.few⟩
theorem good_long {s : Sea} (h : Good s) {v n : Nat} (hv : v < s.valley.length) (hn : 0 < n) : Good { s with valley := s.valley.set v { at_ s.valley v with long := n } } :=
  ⟨ok_set h.ok hv hn, by show (s.valley.set _ _).length ≤ 12; rw [List.length_set]; exact h.len, fun x hx => by show x < (s.valley.set _ _).length; rw [List.length_set]; exact h.lt x hx, h.few⟩
theorem good_vote {s : Sea} (h : Good s) {v : Nat} (hv : v < s.valley.length) (hn : s.votes.length < 11) : Good { s with votes := s.votes ++ [v] } :=
  ⟨h.ok, h.len, fun x hx => by
    rcases List.mem_append.mp hx with e | e
    · exact h.lt x e
    · have e' : x = v := by simpa using e
      rw [e']
      exact hv, by show (s.votes ++ [v]).length ≤ 11; rw [List.length_append]; exact hn⟩
theorem good_move {s : Sea} (h : Good s) {i v : Nat} (hv : v < s.valley.length) : Good { s with votes := s.votes.set i v } :=
  ⟨h.ok, h.len, set_lt h.lt hv, by show (s.votes.set i v).length ≤ 11; rw [List.length_set]; exact h.few⟩
theorem good_away {s : Sea} (h : Good s) {i : Nat} : Good { s with votes := s.votes.eraseIdx i } :=
  ⟨h.ok, h.len, fun x hx => h.lt x (List.mem_of_mem_eraseIdx hx), by show (s.votes.eraseIdx i).length ≤ 11; have := List.length_eraseIdx_le s.votes i; have := h.few; omega⟩
theorem goodD_act {d : Desk} (h : GoodD d) (x : Call) : GoodD (act d x).1 := by
  cases x with
  | start => exact goodD_start
  | village u l =>
    show GoodD (if _ then _ else if _ then _ else if _ then _ else _ : Desk × Km459.Ans).1
    split
    · exact h
    · split
      · exact h
      · split
        · exact h
        · next h1 h2 h3 => exact h.become (good_village h.now (by omega) (by omega) (Nat.lt_of_not_le h3))
  | long_ v n =>
    show GoodD (if _ then _ else if _ then _ else if _ then _ else _ : Desk × Km459.Ans).1
    split
    · exact h
    · split
      · exact h
      · split
        · exact h
        · next h1 h2 h3 => exact h.become (good_long h.now (by omega) (by omega))
  | vote v =>
    show GoodD (if _ then _ else if _ then _ else _ : Desk × Km459.Ans).1
    split
    · exact h
    · split
      · exact h
      · next h1 h2 => exact h.become (good_vote h.now (by omega) (Nat.lt_of_not_le h2))
  | move i v =>
    show GoodD (if _ then _ else _ : Desk × Km459.Ans).1
    split
    · exact h
    · next h1 => exact h.become (good_move h.now (by omega))
  | away i =>
    show GoodD (if _ then _ else _ : Desk × Km459.Ans).1
    split
    · exact h
    · exact h.become (good_away h.now)
  | back =>
    obtain ⟨now, past, future⟩ := d
    cases past with
    | nil => exact h
    | cons k r =>
      refine ⟨h.past k (by simp), fun s hs => h.past s (List.mem_cons_of_mem _ hs), fun s hs => ?_, ?_⟩
      · rcases List.mem_cons.mp hs with e | e
        · rw [e]
          exact h.now
        · exact h.future s e
      · have := h.most
        show r.length + (now :: future).length ≤ 20
        have q : (k :: r).length + future.length ≤ 20 := this
        rw [List.length_cons] at q ⊢
        omega
  | again =>
    obtain ⟨now, past, future⟩ := d
    cases future with
    | nil => exact h
    | cons k r =>
      refine ⟨h.future k (by simp), fun s hs => ?_, fun s hs => h.future s (List.mem_cons_of_mem _ hs), ?_⟩
      · rcases List.mem_cons.mp (List.mem_of_mem_take hs) with e | e
        · rw [e]
          exact h.now
        · exact h.past s e
      · have := h.most
        show ((now :: past).take 20).length + r.length ≤ 20
        have q : past.length + (k :: r).length ≤ 20 := this
        rw [List.length_cons] at q
        rw [List.length_take, List.length_cons]
        omega
  | _ => exact h
end Rv
end
section
set_option linter.all false
/-! The request: a flat list of calls, and what is asked of each. -/
namespace Rv
open Km459 (Desk Call)
/-- a call as it stands in the flat list: its place, its numbers, what it is -/
inductive Req : Int → List Int → Call → Prop
  | start : Req 0 [] .start
  | village (u l : Nat) : Req 1 [(u : Int), (l : Int)] (.village u l)
  | long_ (v n : Nat) : Req 2 [(v : Int), (n : Int)] (.long_ v n)
  | vote (v : Nat) : Req 3 [(v : Int)] (.vote v)
  | move (i v : Nat) : Req 4 [(i : Int), (v : Int)] (.move i v)
  | away (i : Nat) : Req 5 [(i : Int)] (.away i)
  | chosen : Req 6 [] .chosen
  | rather (v w : Nat) : Req 7 [(v : Int), (w : Int)] (.rather v w)
  | unbeaten : Req 8 [] .unbeaten
  | beaten (v : Nat) : Req 9 [(v : Int)] (.beaten v)
  | row (n a b c d e : Nat) : Req 10 [(n : Int), 5, (a : Int), (b : Int), (c : Int), (d : Int), (e : Int)] (.row n [a, b, c, d, e])
  | lie (i v : Nat) : Req 11 [(i : Int), (v : Int)] (.lie i v)
  | best (i : Nat) : Req 12 [(i : Int)] (.best i)
  | both (i j v w : Nat) : Req 13 [(i : Int), (j : Int), (v : Int), (w : Int)] (.both i j v w)
  | sways (i : Nat) : Req 14 [(i : Int)] (.sways i)
  | with_ (v : Nat) : Req 15 [(v : Int)] (.with_ v)
  | all_ (v : Nat) : Req 16 [(v : Int)] (.all_ v)
  | far (i : Nat) : Req 17 [(i : Int)] (.far i)
  | total (v : Nat) : Req 18 [(v : Int)] (.total v)
  | who (v : Nat) : Req 19 [(v : Int)] (.who v)
  | look (i : Nat) : Req 20 [(i : Int)] (.look i)
  | place (v : Nat) : Req 21 [(v : Int)] (.place v)
  | sums : Req 22 [] .sums
  | back : Req 23 [] .back
  | again : Req 24 [] .again
  | state : Req 25 [] .state
theorem nat_of {z : Int} (h : Km459Neutral.natural z 32 = true) : z = (z.toNat : Int) := by
  unfold Km459Neutral.natural at h
  rw [Bool.and_eq_true] at h
  have := of_decide_eq_true h.1
  omega
theorem five {r : List Int} (h : r.length = 5) : ∃ a b c d e, r = [a, b, c, d, e] := by
  match r, h with
  | [a, b, c, d, e], _ => exact ⟨a, b, c, d, e, rfl⟩
theorem nat27 {P : Nat → Prop} (h0 : P 0) (h1 : P 1) (h2 : P 2) (h3 : P 3) (h4 : P 4) (h5 : P 5) (h6 : P 6) (h7 : P 7) (h8 : P 8) (h9 : P 9) (h10 : P 10) (h11 : P 11) (h12 : P 12) (h13 : P 13) (h14 : P 14) (h15 : P 15) (h16 : P 16) (h17 : P 17) (h18 : P 18) (h19 : P 19) (h20 : P 20) (h21 : P 21) (h22 : P 22) (h23 : P 23) (h24 : P 24) (h25 : P 25) (hn : ∀ n, P (n + 26)) : ∀ n, P n
  | 0 => h0
  | 1 => h1
  | 2 => h2
  | 3 => h3
  | 4 => h4
  | 5 => h5
  | 6 => h6
  | 7 => h7
  | 8 => h8
  | 9 => h9
  | 10 => h10
  | 11 => h11
  | 12 => h12
  | 13 => h13
  | 14 => h14
  | 15 => h15
  | 16 => h16
  | 17 => h17
  | 18 => h18
  | 19 => h19
  | 20 => h20
  | 21 => h21
  | 22 => h22
  | 23 => h23
  | 24 => h24
  | 25 => h25
  | n + 26 => hn n
def Rq (c : List (List Int)) : Prop := ∃ p nums x, PyFlat.put1 c = p :: nums ∧ Km459Neutral.callOf c = some x ∧ Req p nums x
theorem no_rq {c : List (List Int)} (h : false = true) : Rq c := Bool.noConfusion h
theorem one_of {c : Nat → Call} {p x : Int} {cc : List (List Int)} (h : Km459Neutral.natural x 32 = true) (e1 : PyFlat.put1 cc = p :: [x]) (e2 : Km459Neutral.callOf cc = some (c x.toNat)) (r : ∀ k : Nat, Req p [(k : Int)] (c k)) : Rq cc := by
  refine ⟨p, [x], _, e1, e2, ?_⟩
  have q := nat_of h
  generalize x.toNat = k at q ⊢
  subst q
  exact r k
theorem two_of {c : Nat → Nat → Call} {p x y : Int} {cc : List (List Int)} (h : (Km459Neutral.natural x 32 && Km459Neutral.natural y 32) = true) (e1 : PyFlat.put1 cc = p :: [x, y]) (e2 : Km459Neutral.callOf cc = some (c x.toNat y.toNat)) (r : ∀ j k : Nat, Req p [(j : Int), (k : Int)] (c j k)) : Rq cc := by
  refine ⟨p, [x, y], _, e1, e2, ?_⟩
  rw [Bool.and_eq_true] at h
  have q := nat_of h.1
  have q' := nat_of h.2
  generalize x.toNat = j at q ⊢
  generalize y.toNat = k at q' ⊢
  subst q q'
  exact r j k
theorem req4_at {a b c d : Int} (h : (Km459Neutral.natural a 32 && Km459Neutral.natural b 32 && Km459Neutral.natural c 32 && Km459Neutral.natural d 32) = true) : Rq [[13, a, b, c, d]] := by
  rw [Bool.and_eq_true, Bool.and_eq_true, Bool.and_eq_true] at h
  have q0 := nat_of h.1.1.1
  have q1 := nat_of h.1.1.2
  have q2 := nat_of h.1.2
  have q3 := nat_of h.2
  refine ⟨13, [a, b, c, d], .both a.toNat b.toNat c.toNat d.toNat, rfl, rfl, ?_⟩
  generalize a.toNat = n0 at q0 ⊢
  generalize b.toNat = n1 at q1 ⊢
  generalize c.toNat = n2 at q2 ⊢
  generalize d.toNat = n3 at q3 ⊢
  subst q0 q1 q2 q3
  exact .both ..
theorem reqR_at {b0 : Int} {r0 : List Int} (h : (Km459Neutral.natural b0 32 && (decide (r0.length = 5) && r0.all (fun (z : Int) => Km459Neutral.natural z 32))) = true) : Rq [[10, b0], r0] := by
  simp only [Bool.and_eq_true, decide_eq_true_eq] at h
  obtain ⟨h0, h1, h2⟩ := h
  obtain ⟨a, b, c, d, e, rfl⟩ := five h1
  rw [List.all_eq_true] at h2
  have q0 := nat_of h0
  have qa := nat_of (h2 a (by simp))
  have qb := nat_of (h2 b (by simp))
  have qc := nat_of (h2 c (by simp))
  have qd := nat_of (h2 d (by simp))
  have qe := nat_of (h2 e (by simp))
  refine ⟨10, [b0, 5, a, b, c, d, e], .row b0.toNat [a.toNat, b.toNat, c.toNat, d.toNat, e.toNat], rfl, rfl, ?_⟩
  generalize b0.toNat = n0 at q0
  generalize a.toNat = na at qa
  generalize b.toNat = nb at qb
  generalize c.toNat = nc at qc
  generalize d.toNat = nd at qd
  generalize e.toNat = ne at qe
  subst q0 qa qb qc qd qe
  exact .row ..
theorem req_00 : ∀ n : Nat, Km459Neutral.asked1 [[Int.ofNat n]] = true → Rq [[Int.ofNat n]] :=
  nat27 (fun _ => ⟨_, [], _, rfl, rfl, .start⟩) no_rq no_rq no_rq no_rq no_rq (fun _ => ⟨_, [], _, rfl, rfl, .chosen⟩) no_rq (fun _ => ⟨_, [], _, rfl, rfl, .unbeaten⟩) no_rq no_rq no_rq no_rq no_rq no_rq no_rq no_rq no_rq no_rq no_rq no_rq no_rq (fun _ => ⟨_, [], _, rfl, rfl, .sums⟩) (fun _ => ⟨_, [], _, rfl, rfl, .back⟩) (fun _ => ⟨_, [], _, rfl, rfl, .again⟩) (fun _ => ⟨_, [], _, rfl, rfl, .state⟩) (fun _ => no_rq)
theorem whole_00 : ∀ n : Nat, PyKm459.whole [[Int.ofNat n]] = [[Int.ofNat n]] :=
  nat27 rfl rfl rfl rfl rfl rfl rfl rfl rfl rfl rfl rfl rfl rfl rfl rfl rfl rfl rfl rfl rfl rfl rfl rfl rfl rfl (fun _ => rfl)
theorem req_01 (a : Int) : ∀ n : Nat, Km459Neutral.asked1 [[Int.ofNat n, a]] = true → Rq [[Int.ofNat n, a]] :=
  nat27 no_rq no_rq no_rq (fun h => one_of (c := .vote) h rfl rfl fun k => .vote k) no_rq (fun h => one_of (c := .away) h rfl rfl fun k => .away k) no_rq no_rq no_rq (fun h => one_of (c := .beaten) h rfl rfl fun k => .beaten k) no_rq no_rq (fun h => one_of (c := .best) h rfl rfl fun k => .best k) no_rq (fun h => one_of (c := .sways) h rfl rfl fun k => .sways k) (fun h => one_of (c := .with_) h rfl rfl fun k => .with_ k) (fun h => one_of (c := .all_) h rfl rfl fun k => .all_ k) (fun h => one_of (c := .far) h rfl rfl fun k => .far k) (fun h => one_of (c := .total) h rfl rfl fun k => .total k) (fun h => one_of (c := .who) h rfl rfl fun k => .who k) (fun h => one_of (c := .look) h rfl rfl fun k => .look k) (fun h => one_of (c := .place) h rfl rfl fun k => .place k) no_rq no_rq no_rq no_rq (fun _ => no_rq)
theorem whole_01 (a : Int) : ∀ n : Nat, PyKm459.whole [[Int.ofNat n, a]] = [[Int.ofNat n, a]] :=
  nat27 rfl rfl rfl rfl rfl rfl rfl rfl rfl rfl rfl rfl rfl rfl rfl rfl rfl rfl rfl rfl rfl rfl rfl rfl rfl rfl (fun _ => rfl)
theorem req_02 (a b : Int) : ∀ n : Nat, Km459Neutral.asked1 [[Int.ofNat n, a, b]] = true → Rq [[Int.ofNat n, a, b]] :=
  nat27 no_rq (fun h => two_of (c := .village) h rfl rfl fun j k => .village j k) (fun h => two_of (c := .long_) h rfl rfl fun j k => .long_ j k) no_rq (fun h => two_of (c := .move) h rfl rfl fun j k => .move j k) no_rq no_rq (fun h => two_of (c := .rather) h rfl rfl fun j k => .rather j k) no_rq no_rq no_rq (fun h => two_of (c := .lie) h rfl rfl fun j k => .lie j k) no_rq no_rq no_rq no_rq no_rq no_rq no_rq no_rq no_rq no_rq no_rq no_rq no_rq no_rq (fun _ => no_rq)
theorem whole_02 (a b : Int) : ∀ n : Nat, PyKm459.whole [[Int.ofNat n, a, b]] = [[Int.ofNat n, a, b]] :=
  nat27 rfl rfl rfl rfl rfl rfl rfl rfl rfl rfl rfl rfl rfl rfl rfl rfl rfl rfl rfl rfl rfl rfl rfl rfl rfl rfl (fun _ => rfl)
theorem req_03 (a b c : Int) : ∀ n : Nat, Km459Neutral.asked1 [[Int.ofNat n, a, b, c]] = true → Rq [[Int.ofNat n, a, b, c]] :=
  nat27 no_rq no_rq no_rq no_rq no_rq no_rq no_rq no_rq no_rq no_rq no_rq no_rq no_rq no_rq no_rq no_rq no_rq no_rq no_rq no_rq no_rq no_rq no_rq no_rq no_rq no_rq (fun _ => no_rq)
theorem whole_03 (a b c : Int) : ∀ n : Nat, PyKm459.whole [[Int.ofNat n, a, b, c]] = [[Int.ofNat n, a, b, c]] :=
  nat27 rfl rfl rfl rfl rfl rfl rfl rfl rfl rfl rfl rfl rfl rfl rfl rfl rfl rfl rfl rfl rfl rfl rfl rfl rfl rfl (fun _ => rfl)
theorem req_04 (a b c d : Int) : ∀ n : Nat, Km459Neutral.asked1 [[Int.ofNat n, a, b, c, d]] = true → Rq [[Int.ofNat n, a, b, c, d]] :=
  nat27 no_rq no_rq no_rq no_rq no_rq no_rq no_rq no_rq no_rq no_rq no_rq no_rq no_rq (fun h => req4_at h) no_rq no_rq no_rq no_rq no_rq no_rq no_rq no_rq no_rq no_rq no_rq no_rq (fun _ => no_rq)
theorem whole_04 (a b c d : Int) : ∀ n : Nat, PyKm459.whole [[Int.ofNat n, a, b, c, d]] = [[Int.ofNat n, a, b, c, d]] :=
  nat27 rfl rfl rfl rfl rfl rfl rfl rfl rfl rfl rfl rfl rfl rfl rfl rfl rfl rfl rfl rfl rfl rfl rfl rfl rfl rfl (fun _ => rfl)
theorem req_05 (a b c d e : Int) (zs : List Int) : ∀ n : Nat, Km459Neutral.asked1 [(Int.ofNat n :: a :: b :: c :: d :: e :: zs)] = true → Rq [(Int.ofNat n :: a :: b :: c :: d :: e :: zs)] :=
  nat27 no_rq no_rq no_rq no_rq no_rq no_rq no_rq no_rq no_rq no_rq no_rq no_rq no_rq no_rq no_rq no_rq no_rq no_rq no_rq no_rq no_rq no_rq no_rq no_rq no_rq no_rq (fun _ => no_rq)
theorem whole_05 (a b c d e : Int) (zs : List Int) : ∀ n : Nat, PyKm459.whole [(Int.ofNat n :: a :: b :: c :: d :: e :: zs)] = [(Int.ofNat n :: a :: b :: c :: d :: e :: zs)] :=
  nat27 rfl rfl rfl rfl rfl rfl rfl rfl rfl rfl rfl rfl rfl rfl rfl rfl rfl rfl rfl rfl rfl rfl rfl rfl rfl rfl (fun _ => rfl)
theorem req_10 (r0 : List Int) : ∀ n : Nat, Km459Neutral.asked1 [[Int.ofNat n], r0] = true → Rq [[Int.ofNat n], r0] :=
  nat27 no_rq no_rq no_rq no_rq no_rq no_rq no_rq no_rq no_rq no_rq no_rq no_rq no_rq no_rq no_rq no_rq no_rq no_rq no_rq no_rq no_rq no_rq no_rq no_rq no_rq no_rq (fun _ => no_rq)
theorem whole_10 (r0 : List Int) : ∀ n : Nat, PyKm459.whole [[Int.ofNat n], r0] = [[Int.ofNat n], r0] :=
  nat27 rfl rfl rfl rfl rfl rfl rfl rfl rfl rfl rfl rfl rfl rfl rfl rfl rfl rfl rfl rfl rfl rfl rfl rfl rfl rfl (fun _ => rfl)
theorem req_11 (a : Int) (r0 : List Int) : ∀ n : Nat, Km459Neutral.asked1 [[Int.ofNat n, a], r0] = true → Rq [[Int.ofNat n, a], r0] :=
  nat27 no_rq no_rq no_rq no_rq no_rq no_rq no_rq no_rq no_rq no_rq (fun h => reqR_at h) no_rq no_rq no_rq no_rq no_rq no_rq no_rq no_rq no_rq no_rq no_rq no_rq no_rq no_rq no_rq (fun _ => no_rq)
theorem whole_11 (a : Int) (r0 : List Int) : ∀ n : Nat, PyKm459.whole [[Int.ofNat n, a], r0] = [[Int.ofNat n, a], r0] :=
  nat27 rfl rfl rfl rfl rfl rfl rfl rfl rfl rfl rfl rfl rfl rfl rfl rfl rfl rfl rfl rfl rfl rfl rfl rfl rfl rfl (fun _ => rfl)
theorem req_12 (a b : Int) (r0 : List Int) : ∀ n : Nat, Km459Neutral.asked1 [[Int.ofNat n, a, b], r0] = true → Rq [[Int.ofNat n, a, b], r0] :=
  nat27 no_rq no_rq no_rq no_rq no_rq no_rq no_rq no_rq no_rq no_rq no_rq no_rq no_rq no_rq no_rq no_rq no_rq no_rq no_rq no_rq no_rq no_rq no_rq no_rq no_rq no_rq (fun _ => no_rq)
theorem whole_12 (a b : Int) (r0 : List Int) : ∀ n : Nat, PyKm459.whole [[Int.ofNat n, a, b], r0] = [[Int.ofNat n, a, b], r0] :=
  nat27 rfl rfl rfl rfl rfl rfl rfl rfl rfl rfl rfl rfl rfl rfl rfl rfl rfl rfl rfl rfl rfl rfl rfl rfl rfl rfl (fun _ => rfl)
theorem req_13 (a b c : Int) (r0 : List Int) : ∀ n : Nat, Km459Neutral.asked1 [[Int.ofNat n, a, b, c], r0] = true → Rq [[Int.ofNat n, a, b, c], r0] :=
  nat27 no_rq no_rq no_rq no_rq no_rq no_rq no_rq no_rq no_rq no_rq no_rq no_rq no_rq no_rq no_rq no_rq no_rq no_rq no_rq no_rq no_rq no_rq no_rq no_rq no_rq no_rq (fun _ => no_rq)
theorem whole_13 (a b c : Int) (r0 : List Int) : ∀ n : Nat, PyKm459.whole [[Int.ofNat n, a, b, c], r0] = [[Int.ofNat n, a, b, c], r0] :=
  nat27 rfl rfl rfl rfl rfl rfl rfl rfl rfl rfl rfl rfl rfl rfl rfl rfl rfl rfl rfl rfl rfl rfl rfl rfl rfl rfl (fun _ => rfl)
theorem req_14 (a b c d : Int) (r0 : List Int) : ∀ n : Nat, Km459Neutral.asked1 [[Int.ofNat n, a, b, c, d], r0] = true → Rq [[Int.ofNat n, a, b, c, d], r0] :=
  nat27 no_rq no_rq no_rq no_rq no_rq no_rq no_rq no_rq no_rq no_rq no_rq no_rq no_rq no_rq no_rq no_rq no_rq no_rq no_rq no_rq no_rq no_rq no_rq no_rq no_rq no_rq (fun _ => no_rq)
theorem whole_14 (a b c d : Int) (r0 : List Int) : ∀ n : Nat, PyKm459.whole [[Int.ofNat n, a, b, c, d], r0] = [[Int.ofNat n, a, b, c, d], r0] :=
  nat27 rfl rfl rfl rfl rfl rfl rfl rfl rfl rfl rfl rfl rfl rfl rfl rfl rfl rfl rfl rfl rfl rfl rfl rfl rfl rfl (fun _ => rfl)
theorem req_15 (a b c d e : Int) (zs : List Int) (r0 : List Int) : ∀ n : Nat, Km459Neutral.asked1 [(Int.ofNat n :: a :: b :: c :: d :: e :: zs), r0] = true → Rq [(Int.ofNat n :: a :: b :: c :: d :: e :: zs), r0] :=
  nat27 no_rq no_rq no_rq no_rq no_rq no_rq no_rq no_rq no_rq no_rq no_rq no_rq no_rq no_rq no_rq no_rq no_rq no_rq no_rq no_rq no_rq no_rq no_rq no_rq no_rq no_rq (fun _ => no_rq)
theorem whole_15 (a b c d e : Int) (zs : List Int) (r0 : List Int) : ∀ n : Nat, PyKm459.whole [(Int.ofNat n :: a :: b :: c :: d :: e :: zs), r0] = [(Int.ofNat n :: a :: b :: c :: d :: e :: zs), r0] :=
  nat27 rfl rfl rfl rfl rfl rfl rfl rfl rfl rfl rfl rfl rfl rfl rfl rfl rfl rfl rfl rfl rfl rfl rfl rfl rfl rfl (fun _ => rfl)
theorem req_20 (r0 r1 : List Int) (r : List (List Int)) : ∀ n : Nat, Km459Neutral.asked1 ([Int.ofNat n] :: r0 :: r1 :: r) = true → Rq ([Int.ofNat n] :: r0 :: r1 :: r) :=
  nat27 no_rq no_rq no_rq no_rq no_rq no_rq no_rq no_rq no_rq no_rq no_rq no_rq no_rq no_rq no_rq no_rq no_rq no_rq no_rq no_rq no_rq no_rq no_rq no_rq no_rq no_rq (fun _ => no_rq)
theorem whole_20 (r0 r1 : List Int) (r : List (List Int)) : ∀ n : Nat, PyKm459.whole ([Int.ofNat n] :: r0 :: r1 :: r) = ([Int.ofNat n] :: r0 :: r1 :: r) :=
  nat27 rfl rfl rfl rfl rfl rfl rfl rfl rfl rfl rfl rfl rfl rfl rfl rfl rfl rfl rfl rfl rfl rfl rfl rfl rfl rfl (fun _ => rfl)
theorem req_21 (a : Int) (r0 r1 : List Int) (r : List (List Int)) : ∀ n : Nat, Km459Neutral.asked1 ([Int.ofNat n, a] :: r0 :: r1 :: r) = true → Rq ([Int.ofNat n, a] :: r0 :: r1 :: r) :=
  nat27 no_rq no_rq no_rq no_rq no_rq no_rq no_rq no_rq no_rq no_rq no_rq no_rq no_rq no_rq no_rq no_rq no_rq no_rq no_rq no_rq no_rq no_rq no_rq no_rq no_rq no_rq (fun _ => no_rq)
theorem whole_21 (a : Int) (r0 r1 : List Int) (r : List (List Int)) : ∀ n : Nat, PyKm459.whole ([Int.ofNat n, a] :: r0 :: r1 :: r) = ([Int.ofNat n, a] :: r0 :: r1 :: r) :=
  nat27 rfl rfl rfl rfl rfl rfl rfl rfl rfl rfl rfl rfl rfl rfl rfl rfl rfl rfl rfl rfl rfl rfl rfl rfl rfl rfl (fun _ => rfl)
theorem req_22 (a b : Int) (r0 r1 : List Int) (r : List (List Int)) : ∀ n : Nat, Km459Neutral.asked1 ([Int.ofNat n, a, b] :: r0 :: r1 :: r) = true → Rq ([Int.ofNat n, a, b] :: r0 :: r1 :: r) :=
  nat27 no_rq no_rq no_rq no_rq no_rq no_rq no_rq no_rq no_rq no_rq no_rq no_rq no_rq no_rq no_rq no_rq no_rq no_rq no_rq no_rq no_rq no_rq no_rq no_rq no_rq no_rq (fun _ => no_rq)
theorem whole_22 (a b : Int) (r0 r1 : List Int) (r : List (List Int)) : ∀ n : Nat, PyKm459.whole ([Int.ofNat n, a, b] :: r0 :: r1 :: r) = ([Int.ofNat n, a, b] :: r0 :: r1 :: r) :=
  nat27 rfl rfl rfl rfl rfl rfl rfl rfl rfl rfl rfl rfl rfl rfl rfl rfl rfl rfl rfl rfl rfl rfl rfl rfl rfl rfl (fun _ => rfl)
theorem req_23 (a b c : Int) (r0 r1 : List Int) (r : List (List Int)) : ∀ n : Nat, Km459Neutral.asked1 ([Int.ofNat n, a, b, c] :: r0 :: r1 :: r) = true → Rq ([Int.ofNat n, a, b, c] :: r0 :: r1 :: r) :=
  nat27 no_rq no_rq no_rq no_rq no_rq no_rq no_rq no_rq no_rq no_rq no_rq no_rq no_rq no_rq no_rq no_rq no_rq no_rq no_rq no_rq no_rq no_rq no_rq no_rq no_rq no_rq (fun _ => no_rq)
theorem whole_23 (a b c : Int) (r0 r1 : List Int) (r : List (List Int)) : ∀ n : Nat, PyKm459.whole ([Int.ofNat n, a, b, c] :: r0 :: r1 :: r) = ([Int.ofNat n, a, b, c] :: r0 :: r1 :: r) :=
  nat27 rfl rfl rfl rfl rfl rfl rfl rfl rfl rfl rfl rfl rfl rfl rfl rfl rfl rfl rfl rfl rfl rfl rfl rfl rfl rfl (fun _ => rfl)
theorem req_24 (a b c d : Int) (r0 r1 : List Int) (r : List (List Int)) : ∀ n : Nat, Km459Neutral.asked1 ([Int.ofNat n, a, b, c, d] :: r0 :: r1 :: r) = true → Rq ([Int.ofNat n, a, b, c, d] :: r0 :: r1 :: r) :=
  nat27 no_rq no_rq no_rq no_rq no_rq no_rq no_rq no_rq no_rq no_rq no_rq no_rq no_rq no_rq no_rq no_rq no_rq no_rq no_rq no_rq no_rq no_rq no_rq no_rq no_rq no_rq (fun _ => no_rq)
theorem whole_24 (a b c d : Int) (r0 r1 : List Int) (r : List (List Int)) : ∀ n : Nat, PyKm459.whole ([Int.ofNat n, a, b, c, d] :: r0 :: r1 :: r) = ([Int.ofNat n, a, b, c, d] :: r0 :: r1 :: r) :=
  nat27 rfl rfl rfl rfl rfl rfl rfl rfl rfl rfl rfl rfl rfl rfl rfl rfl rfl rfl rfl rfl rfl rfl rfl rfl rfl rfl (fun _ => rfl)
theorem req_25 (a b c d e : Int) (zs : List Int) (r0 r1 : List Int) (r : List (List Int)) : ∀ n : Nat, Km459Neutral.asked1 ((Int.ofNat n :: a :: b :: c :: d :: e :: zs) :: r0 :: r1 :: r) = true → Rq ((Int.ofNat n :: a :: b :: c :: d :: e :: zs) :: r0 :: r1 :: r) :=
  nat27 no_rq no_rq no_rq no_rq no_rq no_rq no_rq no_rq no_rq no_rq no_rq no_rq no_rq no_rq no_rq no_rq no_rq no_rq no_rq no_rq no_rq no_rq no_rq no_rq no_rq no_rq (fun _ => no_rq)
theorem whole_25 (a b c d e : Int) (zs : List Int) (r0 r1 : List Int) (r : List (List Int)) : ∀ n : Nat, PyKm459.whole ((Int.ofNat n :: a :: b :: c :: d :: e :: zs) :: r0 :: r1 :: r) = ((Int.ofNat n :: a :: b :: c :: d :: e :: zs) :: r0 :: r1 :: r) :=
  nat27 rfl rfl rfl rfl rfl rfl rfl rfl rfl rfl rfl rfl rfl rfl rfl rfl rfl rfl rfl rfl rfl rfl rfl rfl rfl rfl (fun _ => rfl)
theorem req_of {c : List (List Int)} (h : Km459Neutral.asked1 c = true) : ∃ p nums x, PyFlat.put1 c = p :: nums ∧ Km459Neutral.callOf c = some x ∧ Req p nums x := by
  rcases c with _ | ⟨z, r⟩
  · exact no_rq h
  rcases z with _ | ⟨k, zs⟩
  · exact no_rq h
  rcases k with n | n
  · rcases r with _ | ⟨r0, _ | ⟨r1, r⟩⟩
    · rcases zs with _ | ⟨a, _ | ⟨b, _ | ⟨c, _ | ⟨d, _ | ⟨e, zs⟩⟩⟩⟩⟩
      · exact req_00   n h
      · exact req_01 a  n h
      · exact req_02 a b  n h
      · exact req_03 a b c  n h
      · exact req_04 a b c d  n h
      · exact req_05 a b c d e zs  n h
    · rcases zs with _ | ⟨a, _ | ⟨b, _ | ⟨c, _ | ⟨d, _ | ⟨e, zs⟩⟩⟩⟩⟩
      · exact req_10  r0 n h
      · exact req_11 a r0 n h
      · exact req_12 a b r0 n h
      · exact req_13 a b c r0 n h
      · exact req_14 a b c d r0 n h
      · exact req_15 a b c d e zs r0 n h
    · rcases zs with _ | ⟨a, _ | ⟨b, _ | ⟨c, _ | ⟨d, _ | ⟨e, zs⟩⟩⟩⟩⟩
      · exact req_20  r0 r1 r n h
      · exact req_21 a r0 r1 r n h
      · exact req_22 a b r0 r1 r n h
      · exact req_23 a b c r0 r1 r n h
      · exact req_24 a b c d r0 r1 r n h
      · exact req_25 a b c d e zs r0 r1 r n h
  · exact no_rq h
theorem whole_eq (c : List (List Int)) : PyKm459.whole c = c := by
  rcases c with _ | ⟨z, r⟩
  · rfl
  rcases z with _ | ⟨k, zs⟩
  · rfl
  rcases k with n | n
  · rcases r with _ | ⟨r0, _ | ⟨r1, r⟩⟩
    · rcases zs with _ | ⟨a, _ | ⟨b, _ | ⟨c, _ | ⟨d, _ | ⟨e, zs⟩⟩⟩⟩⟩
      · exact whole_00   n
      · exact whole_01 a  n
      · exact whole_02 a b  n
      · exact whole_03 a b c  n
      · exact whole_04 a b c d  n
      · exact whole_05 a b c d e zs  n
    · rcases zs with _ | ⟨a, _ | ⟨b, _ | ⟨c, _ | ⟨d, _ | ⟨e, zs⟩⟩⟩⟩⟩
      · exact whole_10  r0 n
      · exact whole_11 a r0 n
      · exact whole_12 a b r0 n
      · exact whole_13 a b c r0 n
      · exact whole_14 a b c d r0 n
      · exact whole_15 a b c d e zs r0 n
    · rcases zs with _ | ⟨a, _ | ⟨b, _ | ⟨c, _ | ⟨d, _ | ⟨e, zs⟩⟩⟩⟩⟩
      · exact whole_20  r0 r1 r n
      · exact whole_21 a r0 r1 r n
      · exact whole_22 a b r0 r1 r n
      · exact whole_23 a b c r0 r1 r n
      · exact whole_24 a b c d r0 r1 r n
      · exact whole_25 a b c d e zs r0 r1 r n
  · rfl
/-- the desk that a call meets -/
def deskOf (s : Km459Neutral.S) : Desk := s.getD Km459.fresh
theorem step_eq {s : Km459Neutral.S} {c : List (List Int)} {x : Call} (h : (Km459Neutral.step s c).2.isEmpty = false) (hx : Km459Neutral.callOf c = some x) :
    Km459Neutral.step s c = (some (Km459.act (deskOf s) x).1, Km459Neutral.told (Km459.act (deskOf s) x).2) := by
  unfold Km459Neutral.step at h ⊢
  rw [hx] at h ⊢
  cases s with
  | some a => rfl
  | none =>
    dsimp only at h ⊢
    by_cases e : Km459Neutral.isStart x = true
    · cases x <;> first
        | rfl
        | cases e
    · rw [if_neg e] at h
      cases h
/-- what the list of calls is, and what is due of it -/
theorem asked_of {ns : List Int} (h : PyKm459.answers_asked ns = true) : ∃ cs : List (List (List Int)), ns = PyFlat.put cs ∧ (∀ c ∈ cs, Km459Neutral.asked1 c = true) ∧ Km459Neutral.may Km459Neutral.start cs = true ∧ cs.length ≤ 1000 ∧ (PyKm459.answers ns).length ≤ 10000000 ∧
    PyKm459.answers ns = PyFlat.told (PyFlat.played Km459Neutral.step Km459Neutral.start cs) := by
  unfold PyKm459.answers_asked at h
  have m : ∀ l : List (List (List Int)), l.map PyKm459.whole = l := fun l => by
    rw [show PyKm459.whole = id from funext whole_eq, List.map_id]
  cases e : PyFlat.calls PyKm459.shape ns.length ns with
  | none =>
    rw [e] at h
    cases h
  | some cs =>
    rw [e] at h
    simp only [Bool.and_eq_true] at h
    obtain ⟨⟨⟨⟨h1, h2⟩, h3⟩, h4⟩, h5⟩ := h
    rw [m] at h4
    unfold Km459Neutral.asked at h4
    simp only [Bool.and_eq_true] at h4
    obtain ⟨h6, h7, h8, h9⟩ := h4
    refine ⟨cs, (PyFlat.put_calls _ _ _ e).1, fun c hc => List.all_eq_true.mp h8 c hc, h9, of_decide_eq_true h7, of_decide_eq_true h5, ?_⟩
    unfold PyKm459.answers PyKm459.calls
    rw [e]
    dsimp only
    rw [m]
/-- one call more -/
theorem played_cons (s : Km459Neutral.S) (c : List (List Int)) (cs : List (List (List Int))) :
    PyFlat.told (PyFlat.played Km459Neutral.step s (c :: cs)) = (((Km459Neutral.step s c).2.length : Int) :: (Km459Neutral.step s c).2) ++ PyFlat.told (PyFlat.played Km459Neutral.step (Km459Neutral.step s c).1 cs) := rfl
theorem may_cons {s : Km459Neutral.S} {c : List (List Int)} {cs : List (List (List Int))} (h : Km459Neutral.may s (c :: cs) = true) : (Km459Neutral.step s c).2.isEmpty = false ∧ Km459Neutral.may (Km459Neutral.step s c).1 cs = true := by
  have h' : (!((Km459Neutral.step s c).2.isEmpty) && Km459Neutral.may (Km459Neutral.step s c).1 cs) = true := h
  rw [Bool.and_eq_true, Bool.not_eq_true'] at h'
  exact h'
end Rv
end
section
set_option Elab.async false
set_option linter.all false
set_option maxRecDepth 100000
namespace L2
open PySem PySem.Spec PyProof.Rows
abbrev Key := Sum Int Str
def keyIs : Key → Value → Bool
  | .inl k, v => Value.isInt k v
  | .inr x, v => Value.isStrOf x v
def keyH (w : World) : Key → Int
  | .inl k => hashInt k
  | .inr x => hashStr w x
theorem keyIs_shape : ∀ {k : Key} {v : Value}, keyIs k v = true → (∃ i t, k = Sum.inl i ∧ v = Value.int i t) ∨ (∃ x t, k = Sum.inr x ∧ v = Value.str x t)
  | .inl i, v, h => by
    obtain ⟨t, e⟩ := Value.isInt_shape (k := i) (v := v) h
    exact .inl ⟨i, t, rfl, e⟩
  | .inr x, v, h => by
    obtain ⟨t, e⟩ := Value.isStrOf_shape (x := x) (v := v) h
    exact .inr ⟨x, t, rfl, e⟩
theorem key_ll (a b : Int) : decide ((Sum.inl a : Key) = Sum.inl b) = (a == b) := by
  by_cases e : a = b
  · subst e; simp
  · have h : ¬ (Sum.inl a : Key) = Sum.inl b := fun q => e (Sum.inl.inj q)
    rw [decide_eq_false h]
    exact (beq_eq_false_iff_ne.mpr e).symm
theorem key_rr (a b : Str) : decide ((Sum.inr a : Key) = Sum.inr b) = decide (a = b) := by
  by_cases e : a = b
  · subst e; simp
  · have h : ¬ (Sum.inr a : Key) = Sum.inr b := fun q => e (Sum.inr.inj q)
    rw [decide_eq_false h, decide_eq_false e]
theorem key_lr (a : Int) (b : Str) : decide ((Sum.inl a : Key) = Sum.inr b) = false := decide_eq_false (fun q => nomatch q)
theorem key_rl (a : Str) (b : Int) : decide ((Sum.inr a : Key) = Sum.inl b) = false := decide_eq_false (fun q => nomatch q)
def mixKind (prog : Program) (w : World) : PySem.KeyKind prog w Key where
  is := keyIs
  hash := keyH w
  inj := fun v a b ha hb => by
    rcases keyIs_shape ha with ⟨i, t, rfl, rfl⟩ | ⟨x, t, rfl, rfl⟩
    · rcases keyIs_shape hb with ⟨j, u, rfl, e⟩ | ⟨y, u, rfl, e⟩
      · injection e with e1 _; rw [e1]
      · exact nomatch e
    · rcases keyIs_shape hb with ⟨j, u, rfl, e⟩ | ⟨y, u, rfl, e⟩
      · exact nomatch e
      · injection e with e1 _; rw [e1]
  byValue := fun k v h => by
    rcases keyIs_shape h with ⟨i, t, rfl, rfl⟩ | ⟨x, t, rfl, rfl⟩ <;> rfl
  pyHash := fun hv h => by
    rcases keyIs_shape hv with ⟨i, t, rfl, rfl⟩ | ⟨x, t, rfl, rfl⟩
    · exact wpAny_pyHash_int h
    · exact wpAny_pyHash_str h
  eqBool := fun hu hv h => by
    rcases keyIs_shape hu with ⟨i, t, rfl, rfl⟩ | ⟨x, t, rfl, rfl⟩
    · rcases keyIs_shape hv with ⟨j, u, rfl, rfl⟩ | ⟨y, u, rfl, rfl⟩
      · rw [key_ll] at h; exact wpAny_eqBool_int h
      · rw [key_lr] at h; exact SeqAt.EqAt.int_str i t y u _ _ _ _ h
    · rcases keyIs_shape hv with ⟨j, u, rfl, rfl⟩ | ⟨y, u, rfl, rfl⟩
      · rw [key_rl] at h; exact SeqAt.EqAt.str_int x t j u _ _ _ _ h
      · rw [key_rr] at h; exact wpAny_eqBool_str h
  «strs» := fun k x t v h => by
    rcases keyIs_shape h with ⟨i, u, rfl, e⟩ | ⟨y, u, rfl, e⟩
    · exact nomatch e
    · injection e with e1 _
      subst e1
      cases v <;> rfl
end L2
namespace L2
open PySem PySem.Spec PyProof.Rows
inductive V where
  | non | bl (b : Bool) | int (i : Int) | str (x : Str) | byt (b : Array UInt8) | flt (b : UInt64) | ref (a : Addr) | ty (n : String)
  deriving DecidableEq
def RelV : V → Value → Prop
  | .non, u => u = Value.none
  | .bl b, u => u = Value.bool b
  | .int i, u => ∃ t, u = Value.int i t
  | .str x, u => ∃ t, u = Value.str x t
  | .byt b, u => ∃ t, u = Value.bytes b t
  | .flt b, u => ∃ t, u = Value.float b t
  | .ref a, u => u = Value.ref a
  | .ty n, u => u = Value.type n
abbrev Vals : List V → List Value → Prop := Paired RelV
theorem Vals.length {xs : List V} {us : List Value} (r : Vals xs us) : xs.length = us.length := Paired.length r
theorem Vals.get : ∀ {xs : List V} {us : List Value} {i : Nat} {x : V}, Vals xs us → xs[i]? = some x → ∃ u, us[i]? = some u ∧ RelV x u
  | _, _, _, _, .nil, e => by simp at e
  | _, _, 0, _, .cons r _, e => by simp at e; subst e; exact ⟨_, rfl, r⟩
  | _, _, i + 1, x, .cons _ t, e => by
    obtain ⟨u, h1, h2⟩ := Vals.get (i := i) (x := x) t (by simpa using e)
    exact ⟨u, by simpa using h1, h2⟩
theorem Vals.set {x : V} {u : Value} (r : RelV x u) : ∀ {xs : List V} {us : List Value} (i : Nat), Vals xs us → Vals (xs.set i x) (us.set i u)
  | _, _, _, .nil => .nil
  | _, _, 0, .cons _ t => .cons r t
  | _, _, i + 1, .cons q t => .cons q (Vals.set r i t)
theorem Vals.append : ∀ {xs ys : List V} {us ws : List Value}, Vals xs us → Vals ys ws → Vals (xs ++ ys) (us ++ ws)
  | _, _, _, _, .nil, s => s
  | _, _, _, _, .cons r t, s => .cons r (Vals.append t s)
theorem Vals.take : ∀ {xs : List V} {us : List Value} (n : Nat), Vals xs us → Vals (xs.take n) (us.take n)
  | _, _, 0, _ => .nil
  | _, _, _ + 1, .nil => .nil
  | _, _, n + 1, .cons r t => .cons r (Vals.take n t)
theorem Vals.drop : ∀ {xs : List V} {us : List Value} (n : Nat), Vals xs us → Vals (xs.drop n) (us.drop n)
  | _, _, 0, r => r
  | _, _, _ + 1, .nil => .nil
  | _, _, n + 1, .cons _ t => Vals.drop n t
def RelO : Option V → Option Value → Prop
  | some v, some u => RelV v u
  | none, none => True
  | _, _ => False
def KV {κ : Type} : List (κ × V) → List (κ × Value) → Prop := Paired fun (p : κ × V) (q : κ × Value) => p.1 = q.1 ∧ RelV p.2 q.2
def kV : Key → V
  | .inl i => .int i
  | .inr x => .str x
inductive HO where
  /-- a list -/
  | lst (xs : List V)
  /-- a tuple (never changes) -/
  | tup (xs : List V)
  /-- a dict whose keys are ints and texts; one whose keys are tuples of ints and texts (the empty one is both) -/
  | dK (kvs : List (Key × V)) | dT (kvs : List (List Key × V))
  /-- a set of ints: its members, its size -/
  | set (S : Int → Bool) (n : Nat)
  /-- an instance of the class at C, its dict at dx, its attributes -/
  | ins (C dx : Addr) (fs : List (Str × V))
  /-- the dict of the instance at x -/
  | own (x : Addr)
  /-- the dict of an exception -/
  | xd (fs : List (Str × V))
  /-- a bound method, f of x -/
  | met (f x : Addr)
  /-- a range object lo, lo + 1, .. below hi -/
  | rng (lo hi : Int)
  /-- a thing that is known to the object (the script; a dict while a loop walks it): read, never written while it is so -/
  | frz (o : Obj) (u : HO)
  /-- a code object's table -/
  | tbl (ps : Array Value)
  /-- any other thing, by what is true of its one object (a def of one's own: SetO a S n := HO.ext fun h => ..) -/
  | ext (φ : Heap → Prop)
abbrev Hp := Addr → Option HO
def upd (H : Hp) (a : Addr) (o : HO) : Hp := fun b => if b = a then some o else H b
theorem upd_same {H : Hp} {a : Addr} {o : HO} : upd H a o a = some o := by unfold upd; rw [if_pos rfl]
theorem upd_ne {H : Hp} {a b : Addr} {o : HO} (h : b ≠ a) : upd H a o b = H b := by unfold upd; rw [if_neg h]
theorem upd_upd {H : Hp} {a : Addr} {o u : HO} : upd (upd H a o) a u = upd H a u := by
  funext b; unfold upd; split <;> rfl
theorem ne_of {H : Hp} {a b : Addr} {o u : HO} (h : H a = some o) (h' : H b = some u) (d : o ≠ u) : a ≠ b := by
  intro e; subst e; rw [h] at h'; exact d (Option.some.inj h')
theorem ne_of_none {H : Hp} {a b : Addr} {o : HO} (h : H a = some o) (h' : H b = none) : a ≠ b := by
  intro e; subst e; rw [h] at h'; cases h'
section
variable (P : Program) (w : World)
def ObjOk (H : Hp) (h : Heap) (a : Addr) : HO → Prop
  | .lst xs => xs.length ≤ sizeLine ∧ ∃ (its : List Value) (n : Nat), Vals xs its ∧ h.get? a = some { cls := .type "list", data := .seq its.toArray n }
  | .tup xs => xs.length ≤ sizeLine ∧ ∃ its : List Value, Vals xs its ∧ IsTup h a its.toArray
  | .dK kvs => kvs.length ≤ sizeLine ∧ (a == sysModules) = false ∧ ∃ vs, KV kvs vs ∧ h.DictOf (mixKind P w) a vs
  | .dT kvs => kvs.length ≤ sizeLine ∧ (a == sysModules) = false ∧ ∃ xs : List (List Key × Addr × Value),
      Paired (fun (p : List Key × V) (q : List Key × Addr × Value) => p.1 = q.1 ∧ H q.2.1 = some (.tup (p.1.map kV)) ∧ RelV p.2 q.2.2) kvs xs ∧
      ∃ o es ep, h.get? a = some o ∧ o.ExactDict ∧ o.data = .dict es ep ∧ es.toList = xs.map (entryOfKey (tupleKind (mixKind P w))) ∧ (xs.map (·.1)).Nodup
  | .set S n => h.SetOf (intKind P w) a S n
  | .ins C dx fs => H dx = some (.own a) ∧ fs.length ≤ 1000 ∧ dx ≠ a ∧ h.get? a = some (PySem.W.instObj C dx) ∧
      ∃ mA, h.Ns1 dx mA ∧ (∀ f, RelO (fs.lookup f) (mA f)) ∧ PySem.Within mA (fs.map (·.1))
  | .own _ => ∃ o, h.get? a = some o
  | .xd fs => ∃ mA, h.Ns1 a mA ∧ ∀ f, RelO (fs.lookup f) (mA f)
  | .rng lo hi => ∃ t u v, h.get? a = some { cls := .type "range", data := .fields #[.int lo t, .int hi u, .int 1 v] }
  | .frz o u => h.get? a = some o ∧ ObjOk H h a u
  | .tbl ps => h.get? a = some { cls := .none, data := .fields ps }
  | .met f x => h.get? a = some (PySem.W.methodObj (.ref f) (.ref x))
  | .ext φ => φ h ∧ (∃ o, h.get? a = some o) ∧ ∀ h1 h2 : Heap, φ h1 → (∀ o, h1.get? a = some o → h2.get? a = some o) → φ h2
def HOk (H : Hp) (h : Heap) : Prop := ∀ a o, H a = some o → ObjOk P w H h a o
end
section
variable {P : Program} {w : World} {H H' : Hp} {h h' : Heap} {a : Addr} {o : HO}
theorem ObjOk.lt (x : ObjOk P w H h a o) : a < h.objs.size := by
  cases o with
  | lst xs => obtain ⟨_, _, _, _, e⟩ := x; exact Heap.lt_size e
  | tup xs => obtain ⟨_, _, _, p⟩ := x; exact p.lt
  | dK kvs => obtain ⟨_, _, _, _, o, _, _, e, _⟩ := x; exact Heap.lt_size e
  | dT kvs => obtain ⟨_, _, _, _, o, _, _, e, _⟩ := x; exact Heap.lt_size e
  | set S n => obtain ⟨o, _, _, _, e, _⟩ := x; exact Heap.lt_size e
  | ins C dx fs => obtain ⟨_, _, _, e, _⟩ := x; exact Heap.lt_size e
  | own y => obtain ⟨_, e⟩ := x; exact Heap.lt_size e
  | xd fs => obtain ⟨_, ⟨_, _, _, e, _⟩, _⟩ := x; exact Heap.lt_size e
  | rng lo hi => obtain ⟨_, _, _, e⟩ := x; exact Heap.lt_size e
  | frz ob u => obtain ⟨e, _⟩ := x; exact Heap.lt_size e
  | tbl ps => exact Heap.lt_size (show h.get? a = some _ from x)
  | met f y => exact Heap.lt_size (show h.get? a = some _ from x)
  | ext φ => obtain ⟨_, ⟨_, e⟩, _⟩ := x; exact Heap.lt_size e
theorem Paired.mapP {α β : Type} {F G : α → β → Prop} : ∀ {l₁ : List α} {l₂ : List β}, Paired F l₁ l₂ → (∀ a b, F a b → G a b) → Paired G l₁ l₂
  | _, _, .nil, _ => .nil
  | _, _, .cons r t, f => .cons (f _ _ r) (Paired.mapP t f)
theorem ObjOk.stay (x : ObjOk P w H h a o) (k : ∀ b u, (b = a ∨ H b = some (.own a)) → h.get? b = some u → h'.get? b = some u)
    (ho : ∀ b, H b = some (.own a) → H' b = some (.own a)) (ht : ∀ b xs, H b = some (.tup xs) → H' b = some (.tup xs)) : ObjOk P w H' h' a o := by
  induction o with
  | lst xs => obtain ⟨z, its, n, r, e⟩ := x; exact ⟨z, its, n, r, k _ _ (.inl rfl) e⟩
  | tup xs => obtain ⟨z, its, r, ob, e, c⟩ := x; exact ⟨z, its, r, ob, k _ _ (.inl rfl) e, c⟩
  | dK kvs => obtain ⟨z, y, vs, r, ob, es, ep, e, c⟩ := x; exact ⟨z, y, vs, r, ob, es, ep, k _ _ (.inl rfl) e, c⟩
  | dT kvs =>
    obtain ⟨z, y, xs, r, ob, es, ep, e, c⟩ := x
    exact ⟨z, y, xs, Paired.mapP r fun p q z => ⟨z.1, ht _ _ z.2.1, z.2.2⟩, ob, es, ep, k _ _ (.inl rfl) e, c⟩
  | set S n => obtain ⟨ob, es, ep, t, e, c⟩ := x; exact ⟨ob, es, ep, t, k _ _ (.inl rfl) e, c⟩
  | ins C dx fs =>
    obtain ⟨d, z, ne, e, mA, ⟨od, es, ep, e2, c⟩, r⟩ := x
    exact ⟨ho _ d, z, ne, k _ _ (.inl rfl) e, mA, ⟨od, es, ep, k _ _ (.inr d) e2, c⟩, r⟩
  | own y => obtain ⟨ob, e⟩ := x; exact ⟨ob, k _ _ (.inl rfl) e⟩
  | xd fs => obtain ⟨mA, ⟨od, es, ep, e, c⟩, r⟩ := x; exact ⟨mA, ⟨od, es, ep, k _ _ (.inl rfl) e, c⟩, r⟩
  | rng lo hi => obtain ⟨t, u, v, e⟩ := x; exact ⟨t, u, v, k _ _ (.inl rfl) e⟩
  | frz ob u ih => obtain ⟨e, q⟩ := x; exact ⟨k _ _ (.inl rfl) e, ih q⟩
  | tbl ps =>
    have e : h.get? a = some { cls := .none, data := .fields ps } := x
    show h'.get? a = some { cls := .none, data := .fields ps }
    exact k a _ (.inl rfl) e
  | met f y =>
    have e : h.get? a = some (PySem.W.methodObj (.ref f) (.ref y)) := x
    show h'.get? a = some (PySem.W.methodObj (.ref f) (.ref y))
    exact k a _ (.inl rfl) e
  | ext φ => obtain ⟨p, ⟨o, e⟩, st⟩ := x; exact ⟨st _ _ p fun o q => k _ _ (.inl rfl) q, ⟨o, k _ _ (.inl rfl) e⟩, st⟩
theorem HOk.lt (x : HOk P w H h) (e : H a = some o) : a < h.objs.size := (x a o e).lt
theorem HOk.fresh (x : HOk P w H h) (e : h.objs.size ≤ a) : H a = none := by
  cases q : H a with
  | none => rfl
  | some u => exact absurd (Nat.lt_of_lt_of_le (x.lt q) e) (Nat.lt_irrefl _)
theorem HOk.kept (x : HOk P w H h) (k : ∀ b u, h.get? b = some u → h'.get? b = some u) : HOk P w H h' := fun a o e =>
  (x a o e).stay (fun b u _ q => k b u q) (fun _ q => q) fun _ _ q => q
theorem HOk.laid (x : HOk P w H h) (k : ∀ b u, h.get? b = some u → h'.get? b = some u) (hp : h.objs.size ≤ a) (new : ObjOk P w (upd H a o) h' a o) : HOk P w (upd H a o) h' := fun b u e => by
  have hn := x.fresh hp
  by_cases hb : b = a
  · subst hb; rw [upd_same] at e; cases e; exact new
  · rw [upd_ne hb] at e
    exact (x b u e).stay (fun c v _ q => k c v q) (fun c q => by rw [upd_ne (ne_of_none q hn)]; exact q) fun c xs q => by rw [upd_ne (ne_of_none q hn)]; exact q
end
def Rd (H : Hp) (a : Addr) (u : HO) : Prop := H a = some u ∨ ∃ o, H a = some (.frz o u)
theorem Rd.ok {P : Program} {w : World} {H : Hp} {h : Heap} {a : Addr} {u : HO} (r : Rd H a u) (x : HOk P w H h) : ObjOk P w H h a u := by
  rcases r with r | ⟨o, r⟩
  · exact x a u r
  · obtain ⟨_, q⟩ := x a _ r
    exact q
def Mut : Option HO → Prop
  | some (.lst _) => True
  | some (.dK _) => True
  | some (.dT _) => True
  | some (.set _ _) => True
  | some (.ins _ _ _) => True
  | some (.ext _) => True
  | _ => False
section
variable {P : Program} {w : World} {H : Hp} {h h' : Heap} {x e : Addr} {o' : HO}
theorem HOk.write (ok : HOk P w H h) (mu : Mut (H x)) (he : e = x ∨ H e = some (.own x)) (k : ∀ b u, b ≠ e → h.get? b = some u → h'.get? b = some u) (heo : ∃ u, h'.get? e = some u)
    (new : ObjOk P w (upd H x o') h' x o') : HOk P w (upd H x o') h' := fun b u q => by
  have nown : ∀ c y, H c = some (.own y) → c ≠ x := fun c y r z => by subst z; rw [r] at mu; exact mu
  have ntup : ∀ c xs, H c = some (.tup xs) → c ≠ x := fun c xs r z => by subst z; rw [r] at mu; exact mu
  by_cases hb : b = x
  · subst hb; rw [upd_same] at q; cases q; exact new
  · rw [upd_ne hb] at q
    by_cases hbe : b = e
    · have q' : H b = some (.own x) := by
        rcases he with z | z
        · exact absurd (hbe.trans z) hb
        · rw [hbe]; exact z
      rw [q] at q'; cases q'
      obtain ⟨v, hv⟩ := heo
      exact ⟨v, by rw [hbe]; exact hv⟩
    · refine (ok b u q).stay (fun c v hc r => k c v ?_ r) (fun c r => by rw [upd_ne (nown c b r)]; exact r) fun c xs r => by rw [upd_ne (ntup c xs r)]; exact r
      rcases hc with rfl | hc
      · exact hbe
      · rintro rfl
        rcases he with z | z
        · exact nown c b hc z
        · rw [hc] at z; cases z; exact hb rfl
end
structure Un (fs ex : List Addr) (H H' : Hp) (h h' : Heap) : Prop where
  keep : ∀ b o, h.get? b = some o → H b = none → b ∉ fs → b ∉ ex → h'.get? b = some o
  slot : ∀ b o, h.get? b = some o → H b = none → b ∈ fs → b ∉ ex → ∃ sl, h'.get? b = some { o with slots := sl }
  free : ∀ b o, h.get? b = some o → H b = none → b ∉ ex → H' b = none
  there : ∀ b o, h.get? b = some o → b ∉ ex → ∃ o', h'.get? b = some o'
  tups : ∀ b xs, H b = some (.tup xs) → H' b = some (.tup xs)
  frzs : ∀ b o u, H b = some (.frz o u) → H' b = some (.frz o u)
  tbls : ∀ b ps, H b = some (.tbl ps) → ∃ more, H' b = some (.tbl (ps ++ more))
section
variable {fs fs' ex ex' : List Addr} {H H1 H2 : Hp} {h h1 h2 h' : Heap} {a x e : Addr} {o : HO}
theorem Un.any (u : Un fs ex H H1 h h1) {b : Addr} {ob : Obj} (q : h.get? b = some ob) (n : H b = none) (hx : b ∉ ex) : ∃ sl, h1.get? b = some { ob with slots := sl } := by
  by_cases hb : b ∈ fs
  · exact u.slot b ob q n hb hx
  · exact ⟨ob.slots, u.keep b ob q n hb hx⟩
theorem Un.kept (k : ∀ b u, h.get? b = some u → h'.get? b = some u) : Un fs ex H H h h' :=
  ⟨fun b ob q _ _ _ => k b ob q, fun b ob q _ _ _ => ⟨ob.slots, k b ob q⟩, fun _ _ _ n _ => n, fun b ob q _ => ⟨ob, k b ob q⟩, fun _ _ q => q, fun _ _ _ q => q, fun _ ps q => ⟨#[], by rw [q]; simp⟩⟩
theorem Un.refl : Un fs ex H H h h := Un.kept fun _ _ q => q
theorem Un.laid (k : ∀ b u, h.get? b = some u → h'.get? b = some u) (hp : h.objs.size ≤ a) (hn : H a = none) : Un fs ex H (upd H a o) h h' where
  keep := fun b u q _ _ _ => k b u q
  slot := fun b u q _ _ _ => ⟨u.slots, k b u q⟩
  free := fun b u q n _ => by rw [upd_ne (Nat.ne_of_lt (Nat.lt_of_lt_of_le (Heap.lt_size q) hp))]; exact n
  there := fun b u q _ => ⟨u, k b u q⟩
  tups := fun b xs q => by rw [upd_ne (ne_of_none q hn)]; exact q
  frzs := fun b u xs q => by rw [upd_ne (ne_of_none q hn)]; exact q
  tbls := fun b ps q => ⟨#[], by rw [upd_ne (ne_of_none q hn), q]; simp⟩
theorem Un.write (mu : Mut (H x)) (he : e = x ∨ H e = some (.own x)) (k : ∀ b u, b ≠ e → h.get? b = some u → h'.get? b = some u) (heo : ∃ u, h'.get? e = some u) : Un fs ex H (upd H x o) h h' := by
  have hx : ∀ b, H b = none → b ≠ x := fun b n z => by subst z; rw [n] at mu; exact mu
  have hb : ∀ b, H b = none → b ≠ e := fun b n z => by
    subst z
    rcases he with r | r
    · exact hx b n r
    · rw [n] at r; cases r
  have hm : ∀ b u, H b = some u → ¬ Mut (some u) → b ≠ x := fun b u q nm z => by subst z; rw [q] at mu; exact nm mu
  refine ⟨fun b u q n _ _ => k b u (hb b n) q, fun b u q n _ _ => ⟨u.slots, k b u (hb b n) q⟩, fun b u q n _ => by rw [upd_ne (hx b n)]; exact n, fun b u q _ => ?_,
    fun b xs q => by rw [upd_ne (hm b _ q fun z => z)]; exact q, fun b u xs q => by rw [upd_ne (hm b _ q fun z => z)]; exact q, fun b ps q => ⟨#[], by rw [upd_ne (hm b _ q fun z => z), q]; simp⟩⟩
  by_cases hbe : b = e
  · subst hbe; exact heo
  · exact ⟨u, k b u hbe q⟩
end
def trk (h : Heap) (H : Hp) : List Addr := (List.range h.objs.size).filter fun a => (H a).isSome
def hidT (h : Heap) (H : Hp) : Heap := PySem.W.hideAll h (trk h H)
theorem hidT_size (h : Heap) (H : Hp) : (hidT h H).objs.size = h.objs.size := PySem.W.hideAll_size _ _
theorem hidT_get {h : Heap} {H : Hp} {b : Addr} {o : Obj} (e : h.get? b = some o) (n : H b = none) : (hidT h H).get? b = some o :=
  PySem.W.hideAll_get _ e fun hm => by
    have q : (H b).isSome = true := (List.mem_filter.mp hm).2
    rw [n] at q; simp at q
theorem of_hidT {h : Heap} {H : Hp} {b : Addr} {o : Obj} (e : (hidT h H).get? b = some o) : h.get? b = some o ∧ H b = none := by
  have e' : h.get? b = some o := PySem.W.of_hideAll (trk h H) e
  refine ⟨e', ?_⟩
  cases q : H b with
  | none => rfl
  | some x =>
    have hm : b ∈ trk h H := List.mem_filter.mpr ⟨List.mem_range.mpr (Heap.lt_size e'), by simp [q]⟩
    have z : (hidT h H).get? b = none := PySem.W.hideAll_none (trk h H) hm
    rw [z] at e; cases e
end L2
namespace L2
open PySem PySem.Spec PyProof.Rows
structure Mod (K : PySem.W.Frag) (mg : Str → Option Value) (base : Heap) : Prop where
  kin : K.In base
  glob : base.Ns mainGlobals mg
  blt : ∃ mb, base.Ns builtinsNs mb ∧ ∀ x : Str, x ≠ "__name__" → mb x = bootBuiltins x
  nolimit : base.NoLimit
structure Cx where
  prog : Program
  w : World
  K : PySem.W.Frag
  mg : Str → Option Value
  base : Heap
  A : Around
  N : List Str
  s_0 : Shared
  H_0 : Hp
  env : Env
  outer : List Env
  stack : List Env
  ex : List Addr
  fn : Str → Bool
  calm : Bool
  pn : List (Addr × Obj)
  xe : Value → Shared → Prop
def frs (l : List Env) : List Addr := l.filterMap (·.frame)
abbrev Cx.fs (X : Cx) : List Addr := frs X.outer
def Vis (sc : Scope) (x : Str) : Prop := sc.names.lookup x = some .local ∨ sc.names.lookup x = some .cell ∨ sc.names.lookup x = some .free
def Loc (sc : Scope) (x : Str) : Prop := sc.names.lookup x = some .local ∨ sc.names.lookup x = some .cell
def Look (env : Env) (h : Heap) (m : Str → Option Value) (x : Str) (u : Value) : Prop :=
  (env.kindOf x = some .local ∧ m x = some u) ∨ ((env.kindOf x = some .cell ∨ env.kindOf x = some .free) ∧ ∃ c, env.cells.lookup x = some c ∧ h.IsCell c (some u))
structure Cx.Ok (X : Cx) : Prop where
  mod : Mod X.K X.mg X.base
  kind : X.env.scope.kind = .function
  glob : X.env.globals = mainGlobals
  blt : X.env.builtins = builtinsNs
  above : X.s_0.heap.objs.size ≤ X.env.locals
  inj : ∀ x y c, X.env.cells.lookup x = some c → X.env.cells.lookup y = some c → x = y
  has : ∀ x, (X.env.kindOf x = some .cell ∨ X.env.kindOf x = some .free) → ∃ c, X.env.cells.lookup x = some c
  cab : ∀ x c, X.fn x = true → X.env.cells.lookup x = some c → X.s_0.heap.objs.size ≤ c
  hd : X.calm = true → X.A.handled = none
  frames : X.A.frames = some X.stack
  stk : X.stack = X.outer ∨ (X.stack = X.env :: X.outer ∧ X.env.frame = some X.env.locals)
  exf : ∀ b ∈ X.ex, b ≠ X.env.locals ∧ ∀ x c, X.env.cells.lookup x = some c → c ≠ b
  bs : ∀ b o, X.base.get? b = some o → X.s_0.heap.get? b = some o ∧ X.H_0 b = none
  bsz : X.base.objs.size ≤ X.s_0.heap.objs.size
  noex : ∀ b o, X.base.get? b = some o → b ∉ X.ex
  exfs : ∀ b ∈ X.ex, b ∉ X.fs
  funs : X.s_0.heap.FunFrames X.base X.outer
  frf : ∀ b ∈ X.fs, X.H_0 b = none
structure Inv (X : Cx) (pins : List (Addr × Obj)) (σ : List (Option V)) (H : Hp) (s : Shared) : Prop where
  ok : X.Ok
  os : s.os = X.s_0.os
  bare : AllBare s.gens
  base : Un X.fs X.ex X.H_0 H X.s_0.heap s.heap
  loc : ∃ m, s.heap.Ns X.env.locals m ∧ ∀ (i : Nat) (x : Str) (v : V), X.N[i]? = some x → σ[i]? = some (some v) → Vis X.env.scope x → ∃ u, RelV v u ∧ Look X.env s.heap m x u
  cell : ∀ x c, X.env.cells.lookup x = some c → ∃ v, s.heap.IsCell c v
  free : H X.env.locals = none
  freeC : ∀ x c, X.env.cells.lookup x = some c → H c = none
  pin : ∀ p ∈ X.pn ++ pins, s.heap.get? p.1 = some p.2 ∧ H p.1 = none ∧ p.1 ≠ X.env.locals ∧ p.1 ∉ X.fs ∧ ∀ v, p.2.data ≠ .cell v
  hok : HOk X.prog X.w H s.heap
  len : σ.length = X.N.length
section
variable {X : Cx} {pins : List (Addr × Obj)} {σ : List (Option V)} {H H' : Hp} {s : Shared} {h' : Heap}
theorem Cx.Ok.nofr (ok : X.Ok) {b : Addr} {o : Obj} (e : X.base.get? b = some o) : b ∉ X.fs := fun hb => by
  have := (ok.funs.mem hb).1
  rw [e] at this; cases this
theorem Inv.bs (I : Inv X pins σ H s) : ∀ b o, X.base.get? b = some o → s.heap.get? b = some o ∧ H b = none := fun b o e =>
  ⟨I.base.keep b o (I.ok.bs b o e).1 (I.ok.bs b o e).2 (I.ok.nofr e) (I.ok.noex b o e), I.base.free b o (I.ok.bs b o e).1 (I.ok.bs b o e).2 (I.ok.noex b o e)⟩
theorem Inv.bk (I : Inv X pins σ H s) : ∀ b o, X.base.get? b = some o → s.heap.get? b = some o := fun b o e => (I.bs b o e).1
theorem Inv.mod (I : Inv X pins σ H s) : Mod X.K X.mg X.base := I.ok.mod
theorem Inv.kIn (I : Inv X pins σ H s) : X.K.In s.heap := I.ok.mod.kin.keeps I.bk
theorem Inv.lt (I : Inv X pins σ H s) : X.env.locals < s.heap.objs.size := let ⟨_, hn, _⟩ := I.loc; hn.lt
theorem Inv.sz (I : Inv X pins σ H s) : X.s_0.heap.objs.size ≤ s.heap.objs.size := Nat.le_trans I.ok.above (Nat.le_of_lt I.lt)
theorem Inv.nofs (I : Inv X pins σ H s) {a : Addr} (h : s.heap.objs.size ≤ a) : a ∉ X.fs := fun hb => by
  obtain ⟨_, o, ho, _⟩ := I.ok.funs.mem hb
  exact absurd (Nat.lt_of_lt_of_le (Heap.lt_size ho) (Nat.le_trans I.sz h)) (Nat.lt_irrefl _)
theorem Inv.cne (I : Inv X pins σ H s) : ∀ x c, X.env.cells.lookup x = some c → c ≠ X.env.locals := fun x c e z => by
  obtain ⟨v, o, ho, hd⟩ := I.cell x c e
  obtain ⟨m, ⟨o', es, ep, ho', hd', _⟩, _⟩ := I.loc
  rw [z, ho'] at ho; cases ho; rw [hd'] at hd; cases hd
theorem Inv.funs (I : Inv X pins σ H s) : s.heap.FunFrames X.base X.outer := by
  have all : ∀ (l : List Env), (∀ b ∈ frs l, b ∈ X.fs) → X.s_0.heap.FunFrames X.base l → s.heap.FunFrames X.base l := by
    intro l
    induction l with
    | nil => intro _ _; trivial
    | cons env r ih =>
      intro hs hl
      obtain ⟨hk, ⟨L, o, hf, hn, ho, hd⟩, hr⟩ := hl
      have hL : L ∈ X.fs := hs L (by unfold frs; rw [List.filterMap_cons, hf]; exact List.mem_cons_self)
      obtain ⟨sl, e⟩ := I.base.slot L o ho (I.ok.frf L hL) hL fun z => I.ok.exfs L z hL
      exact ⟨hk, ⟨L, _, hf, hn, e, hd⟩, ih (fun b hb => hs b (by unfold frs; rw [List.filterMap_cons, hf]; exact List.mem_cons_of_mem _ hb)) hr⟩
  exact all X.outer (fun _ hb => hb) I.ok.funs
theorem Inv.stack (I : Inv X pins σ H s) : s.heap.FunFrames X.base X.stack := by
  rcases I.ok.stk with e | ⟨e, hf⟩
  · rw [e]; exact I.funs
  · rw [e]
    obtain ⟨m, hn, _⟩ := I.loc
    refine .cons (by rw [I.ok.kind]; decide) hf hn ?_ I.funs
    exact Heap.get?_none_of_le (Nat.le_trans I.ok.bsz I.ok.above)
theorem Inv.stkSub (I : Inv X pins σ H s) : ∀ b ∈ frs X.stack, b ∈ X.env.locals :: X.fs := fun b hb => by
  rcases I.ok.stk with e | ⟨e, hf⟩
  · rw [e] at hb; exact List.mem_cons_of_mem _ hb
  · rw [e] at hb
    unfold frs at hb
    rw [List.filterMap_cons, hf] at hb
    exact hb
theorem Inv.stkFree (I : Inv X pins σ H s) : ∀ b ∈ frs X.stack, H b = none := fun b hb => by
  rcases List.mem_cons.mp (I.stkSub b hb) with e | hb
  · rw [e]; exact I.free
  · obtain ⟨_, o, ho, _⟩ := I.ok.funs.mem hb
    exact I.base.free b o ho (I.ok.frf b hb) fun z => I.ok.exfs b z hb
theorem Inv.step {g' : Array GenState} {t' : Nat} {d' : Drawn} {ch : List Addr} (I : Inv X pins σ H s)
    (hch : ∀ b ∈ ch, (b ∈ X.ex ∨ X.s_0.heap.objs.size ≤ b) ∧ b ≠ X.env.locals ∧ (∀ x c, X.env.cells.lookup x = some c → c ≠ b) ∧ ∀ p ∈ X.pn ++ pins, p.1 ≠ b)
    (keep : ∀ b o, b ≠ X.env.locals → b ∉ X.fs → b ∉ ch → s.heap.get? b = some o → H b = none → h'.get? b = some o)
    (slot : ∀ b o, b ≠ X.env.locals → b ∈ X.fs → b ∉ ch → s.heap.get? b = some o → H b = none → ∃ sl, h'.get? b = some { o with slots := sl }) (free : ∀ b o, b ∉ ch → s.heap.get? b = some o → H b = none → H' b = none)
    (there : ∀ b o, b ∉ ch → s.heap.get? b = some o → ∃ o', h'.get? b = some o')
    (tups : ∀ b xs, H b = some (.tup xs) → H' b = some (.tup xs)) (frzs : ∀ b o u, H b = some (.frz o u) → H' b = some (.frz o u)) (tbls : ∀ b ps, H b = some (.tbl ps) → ∃ more, H' b = some (.tbl (ps ++ more)))
    (ns : ∀ m, s.heap.Ns X.env.locals m → h'.Ns X.env.locals m) (hok : HOk X.prog X.w H' h') (hg : AllBare g') :
    Inv X pins σ H' { s with heap := h', gens := g', drawn := d', toks := t' } := by
  have neL : ∀ b o, X.s_0.heap.get? b = some o → b ≠ X.env.locals := fun b o e => Nat.ne_of_lt (Nat.lt_of_lt_of_le (Heap.lt_size e) I.ok.above)
  have neC : ∀ b o, X.s_0.heap.get? b = some o → b ∉ X.ex → b ∉ ch := fun b o e hx hb => by
    rcases (hch b hb).1 with z | z
    · exact hx z
    · exact absurd (Nat.lt_of_lt_of_le (Heap.lt_size e) z) (Nat.lt_irrefl _)
  have cellK : ∀ x c, X.env.cells.lookup x = some c → ∀ v, s.heap.IsCell c v → h'.IsCell c v := fun x c e v ⟨o, ho, hd⟩ => by
    have nch : c ∉ ch := fun z => (hch c z).2.2.1 x c e rfl
    by_cases hc : c ∈ X.fs
    · obtain ⟨sl, q⟩ := slot c o (I.cne x c e) hc nch ho (I.freeC x c e)
      exact ⟨_, q, hd⟩
    · exact ⟨o, keep c o (I.cne x c e) hc nch ho (I.freeC x c e), hd⟩
  refine ⟨I.ok, I.os, hg, ⟨fun b o e n hb hx => ?_, fun b o e n hb hx => ?_, fun b o e n hx => ?_, fun b o e hx => ?_, fun b xs e => tups b xs (I.base.tups b xs e), fun b o xs e => frzs b o xs (I.base.frzs b o xs e), fun b ps e => ?_⟩, ?_, fun x c e => ?_, ?_, fun x c e => ?_, fun p hp => ?_, hok, I.len⟩
  · exact keep b o (neL b o e) hb (neC b o e hx) (I.base.keep b o e n hb hx) (I.base.free b o e n hx)
  · obtain ⟨sl, e1⟩ := I.base.slot b o e n hb hx
    obtain ⟨sl', e2⟩ := slot b _ (neL b o e) hb (neC b o e hx) e1 (I.base.free b o e n hx)
    exact ⟨sl', e2⟩
  · obtain ⟨o', e1⟩ := I.base.there b o e hx
    exact free b o' (neC b o e hx) e1 (I.base.free b o e n hx)
  · obtain ⟨o', e1⟩ := I.base.there b o e hx
    exact there b o' (neC b o e hx) e1
  · obtain ⟨m1, e1⟩ := I.base.tbls b ps e
    obtain ⟨m2, e2⟩ := tbls b _ e1
    exact ⟨m1 ++ m2, by rw [e2, Array.append_assoc]⟩
  · obtain ⟨m, hn, hl⟩ := I.loc
    refine ⟨m, ns m hn, fun i x v e1 e2 e3 => ?_⟩
    obtain ⟨u, r, l⟩ := hl i x v e1 e2 e3
    refine ⟨u, r, ?_⟩
    rcases l with l | ⟨k, c, e, z⟩
    · exact .inl l
    · exact .inr ⟨k, c, e, cellK x c e _ z⟩
  · obtain ⟨v, z⟩ := I.cell x c e
    exact ⟨v, cellK x c e v z⟩
  · obtain ⟨m, ⟨o, _, _, ho, _⟩, _⟩ := I.loc
    exact free _ o (fun z => (hch _ z).2.1 rfl) ho I.free
  · obtain ⟨v, o, ho, hd⟩ := I.cell x c e
    exact free c o (fun z => (hch c z).2.2.1 x c e rfl) ho (I.freeC x c e)
  · obtain ⟨e, n, ne, nf, d⟩ := I.pin p hp
    have nch : p.1 ∉ ch := fun z => (hch p.1 z).2.2.2 p hp rfl
    exact ⟨keep p.1 p.2 ne nf nch e n, free p.1 p.2 nch e n, ne, nf, d⟩
theorem Inv.un {t' : Nat} (I : Inv X pins σ H s) (u : Un X.fs [] H H' s.heap h') (hok : HOk X.prog X.w H' h') : Inv X pins σ H' { s with heap := h', toks := t' } := by
  obtain ⟨m, ⟨o, es, ep, ho, r⟩, _⟩ := id I.loc
  obtain ⟨sl, hL⟩ := u.any ho I.free (by simp)
  exact I.step (g' := s.gens) (d' := s.drawn) (ch := []) (fun _ z => nomatch z) (fun b o _ hb _ e n => u.keep b o e n hb (by simp)) (fun b o _ hb _ e n => u.slot b o e n hb (by simp)) (fun b o _ e n => u.free b o e n (by simp)) (fun b o _ e => u.there b o e (by simp)) u.tups u.frzs u.tbls (fun m' hm => by
    obtain ⟨o', es', ep', ho', r'⟩ := hm
    rw [ho] at ho'; cases ho'
    exact ⟨_, es', ep', hL, r'⟩) hok I.bare
theorem Inv.call {g' : Array GenState} {t' : Nat} {d' : Drawn} {ch : List Addr} (I : Inv X pins σ H s) (u : Un (frs X.stack) ch H H' s.heap h') (hok : HOk X.prog X.w H' h') (hg : AllBare g')
    (hch : ∀ b ∈ ch, (b ∈ X.ex ∨ X.s_0.heap.objs.size ≤ b) ∧ b ≠ X.env.locals ∧ (∀ x c, X.env.cells.lookup x = some c → c ≠ b) ∧ ∀ p ∈ X.pn ++ pins, p.1 ≠ b) :
    Inv X pins σ H' { s with heap := h', gens := g', drawn := d', toks := t' } := by
  obtain ⟨m, ⟨o, es, ep, ho, r⟩, _⟩ := id I.loc
  obtain ⟨sl, hL⟩ := u.any ho I.free fun z => (hch _ z).2.1 rfl
  exact I.step (ch := ch) hch (fun b o hL hb hc e n => u.keep b o e n (fun z => (List.mem_cons.mp (I.stkSub b z)).elim hL hb) hc) (fun b o _ _ hc e n => u.any e n hc) (fun b o hc e n => u.free b o e n hc) (fun b o hc e => u.there b o e hc) u.tups u.frzs u.tbls (fun m' hm => by
    obtain ⟨o', es', ep', ho', r'⟩ := hm
    rw [ho] at ho'; cases ho'
    exact ⟨_, es', ep', hL, r'⟩) hok hg
theorem Inv.turned {t' : Nat} {it : Addr} (I : Inv X pins σ H s) (k : ∀ b o, b ≠ it → s.heap.get? b = some o → h'.get? b = some o) (hn : H it = none) (hL : it ≠ X.env.locals)
    (h1 : it ∈ X.ex ∨ X.s_0.heap.objs.size ≤ it) (h2 : ∀ x c, X.env.cells.lookup x = some c → c ≠ it) (h3 : ∀ p ∈ X.pn ++ pins, p.1 ≠ it) : Inv X pins σ H { s with heap := h', toks := t' } := by
  have nit : ∀ b u, H b = some u → b ≠ it := fun b u e z => by rw [z, hn] at e; cases e
  refine I.step (g' := s.gens) (d' := s.drawn) (ch := [it]) (fun b hb => ?_) (fun b o _ _ hc e _ => k b o (fun z => hc (by simp [z])) e) (fun b o _ _ hc e _ => ⟨o.slots, k b o (fun z => hc (by simp [z])) e⟩) (fun _ _ _ _ n => n)
    (fun b o hc e => ⟨o, k b o (fun z => hc (by simp [z])) e⟩) (fun _ _ e => e) (fun _ _ _ e => e) (fun b ps e => ⟨#[], by rw [e]; simp⟩) (fun m hm => ?_) (fun b u e => ?_) I.bare
  · have e : b = it := by simpa using hb
    subst e
    exact ⟨h1, hL, h2, h3⟩
  · obtain ⟨o, es, ep, ho, r⟩ := hm
    exact ⟨o, es, ep, k _ o (Ne.symm hL) ho, r⟩
  · refine (I.hok b u e).stay (fun c v hc q => k c v ?_ q) (fun _ q => q) fun _ _ q => q
    rcases hc with z | z
    · rw [z]; exact nit b u e
    · exact nit c _ z
theorem Inv.tok (I : Inv X pins σ H s) (t : Nat) : Inv X pins σ H { s with toks := t } := I.un (h' := s.heap) (t' := t) Un.refl I.hok
theorem Inv.kept {t' : Nat} (I : Inv X pins σ H s) (k : ∀ b u, s.heap.get? b = some u → h'.get? b = some u) : Inv X pins σ H { s with heap := h', toks := t' } := I.un (Un.kept k) (I.hok.kept k)
theorem Inv.laid {a : Addr} {o : HO} {t' : Nat} (I : Inv X pins σ H s) (k : ∀ b u, s.heap.get? b = some u → h'.get? b = some u) (hp : s.heap.objs.size ≤ a) (new : ObjOk X.prog X.w (upd H a o) h' a o) :
    Inv X pins σ (upd H a o) { s with heap := h', toks := t' } := I.un (Un.laid k hp (I.hok.fresh hp)) (I.hok.laid k hp new)
theorem Inv.write {x e : Addr} {o : HO} {t' : Nat} (I : Inv X pins σ H s) (mu : Mut (H x)) (he : e = x ∨ H e = some (.own x)) (k : ∀ b u, b ≠ e → s.heap.get? b = some u → h'.get? b = some u) (heo : ∃ u, h'.get? e = some u)
    (new : ObjOk X.prog X.w (upd H x o) h' x o) : Inv X pins σ (upd H x o) { s with heap := h', toks := t' } := I.un (Un.write mu he k heo) (I.hok.write mu he k heo new)
theorem Inv.weak {σ' : List (Option V)} (I : Inv X pins σ H s) (hl : σ'.length = σ.length) (w : ∀ (i : Nat) v, σ'[i]? = some (some v) → σ[i]? = some (some v)) : Inv X pins σ' H s :=
  ⟨I.ok, I.os, I.bare, I.base, let ⟨m, hn, hl'⟩ := I.loc; ⟨m, hn, fun i x v e1 e2 e3 => hl' i x v e1 (w i v e2) e3⟩, I.cell, I.free, I.freeC, I.pin, I.hok, hl.trans I.len⟩
theorem Inv.pins_of {pins' : List (Addr × Obj)} (I : Inv X pins σ H s) (h : ∀ p ∈ pins', s.heap.get? p.1 = some p.2 ∧ H p.1 = none ∧ p.1 ≠ X.env.locals ∧ p.1 ∉ X.fs ∧ ∀ v, p.2.data ≠ .cell v) : Inv X pins' σ H s :=
  ⟨I.ok, I.os, I.bare, I.base, I.loc, I.cell, I.free, I.freeC, fun p hp => (List.mem_append.mp hp).elim (fun z => I.pin p (List.mem_append_left _ z)) (h p), I.hok, I.len⟩
theorem nodup_ix {N : List Str} (hN : N.Nodup) {i j : Nat} {x : Str} (a : N[i]? = some x) (b : N[j]? = some x) : i = j := by
  obtain ⟨h1, e1⟩ := List.getElem?_eq_some_iff.mp a
  obtain ⟨h2, e2⟩ := List.getElem?_eq_some_iff.mp b
  exact (List.getElem_inj hN).mp (e1.trans e2.symm)
theorem store_ok2 {M : Model} {A : Around} {E : Value → Shared → Prop} {i : Nat} {x : Str} {v : V} {u : Value} {Q : Unit → Shared → Prop} (I : Inv X pins σ H s) (hN : X.N.Nodup) (hi : X.N[i]? = some x) (hx : Loc X.env.scope x) (r : RelV v u)
    (h : ∀ s', Inv X pins (σ.set i (some v)) H s' → (∃ a, Heap.SameBut a s.heap s'.heap ∧ (a = X.env.locals ∨ X.env.cells.lookup x = some a)) → Q () s') (hf : X.fn x = true ∨ X.env.scope.names.lookup x = some .local := by first | exact .inl rfl | exact .inr rfl | assumption) : wpAny M A (storeName X.env x u) Q E s := by
  obtain ⟨m, hn, hl⟩ := id I.loc
  have hcls : (X.env.scope.kind == .class || (X.env.scope.kind == .module && X.env.locals != X.env.globals)) = false := by rw [I.ok.kind]; rfl
  have hiσ : i < σ.length := by rw [I.len]; exact (List.getElem?_eq_some_iff.mp hi).1
  have cne := I.cne
  have tracked : ∀ {a : Addr} {h' : Heap}, (∃ o, s.heap.get? a = some o ∧ H a = none) → Heap.SameBut a s.heap h' → HOk X.prog X.w H h' := fun {a h'} ha hs b ob e => by
    obtain ⟨_, _, hfree⟩ := ha
    refine (I.hok b ob e).stay (fun c w' hc q => (hs.2 c ?_).trans q) (fun _ q => q) fun _ _ q => q
    rintro rfl
    rcases hc with rfl | hc
    · rw [hfree] at e; cases e
    · rw [hfree] at hc; cases hc
  rcases hx with hk | hk
  · refine wpAny_storeName_local hk hn (fun h' hn' hs => ?_) hcls
    obtain ⟨oL, _, _, hoL, _⟩ := id hn
    refine h _ ⟨I.ok, I.os, I.bare, ⟨fun b o e n hb hx => ?_, fun b o e n hb hx => ?_, I.base.free, fun b o e hx => ?_, I.base.tups, I.base.frzs, I.base.tbls⟩, ⟨_, hn', fun j y v' e1 e2 e3 => ?_⟩, fun y c e => ?_, I.free, I.freeC, fun p hp => ?_, tracked ⟨oL, hoL, I.free⟩ hs, by simpa using I.len⟩ ⟨_, hs, .inl rfl⟩
    · exact (hs.2 b (Nat.ne_of_lt (Nat.lt_of_lt_of_le (Heap.lt_size e) I.ok.above))).trans (I.base.keep b o e n hb hx)
    · obtain ⟨sl, e1⟩ := I.base.slot b o e n hb hx
      exact ⟨sl, (hs.2 b (Nat.ne_of_lt (Nat.lt_of_lt_of_le (Heap.lt_size e) I.ok.above))).trans e1⟩
    · obtain ⟨o', e1⟩ := I.base.there b o e hx
      exact ⟨o', (hs.2 b (Nat.ne_of_lt (Nat.lt_of_lt_of_le (Heap.lt_size e) I.ok.above))).trans e1⟩
    · by_cases hj : j = i
      · subst hj
        rw [hi] at e1; cases e1
        rw [List.getElem?_set_self hiσ] at e2
        cases e2
        exact ⟨u, r, .inl ⟨hk, by simp⟩⟩
      · rw [List.getElem?_set_ne (Ne.symm hj)] at e2
        obtain ⟨u', r', q⟩ := hl j y v' e1 e2 e3
        refine ⟨u', r', ?_⟩
        rcases q with ⟨k, e⟩ | ⟨k, c, e, z⟩
        · refine .inl ⟨k, ?_⟩
          have : y ≠ x := fun e => hj (nodup_ix hN e1 (e ▸ hi))
          simp [this, e]
        · exact .inr ⟨k, c, e, z.sameBut hs (cne y c e)⟩
    · obtain ⟨w', z⟩ := I.cell y c e
      exact ⟨w', z.sameBut hs (cne y c e)⟩
    · obtain ⟨e, n, ne, nf, d⟩ := I.pin p hp
      exact ⟨(hs.2 p.1 ne).trans e, n, ne, nf, d⟩
  · have hfn : X.fn x = true := by
      rcases hf with z | z
      · exact z
      · rw [z] at hk; cases hk
    obtain ⟨c, hc⟩ := I.ok.has x (.inl hk)
    obtain ⟨w', z⟩ := I.cell x c hc
    refine wpAny_storeName_cell I.ok.kind hk hc z (fun h' hc' hs => ?_)
    obtain ⟨oc, hoc, hocd⟩ := id z
    refine h { s with heap := h' } ⟨I.ok, I.os, I.bare, ⟨fun b o e n hb hx => ?_, fun b o e n hb hx => ?_, I.base.free, fun b o e hx => ?_, I.base.tups, I.base.frzs, I.base.tbls⟩, ⟨m, hn.sameBut hs (Ne.symm (cne x c hc)), fun j y v' e1 e2 e3 => ?_⟩, fun y c' e => ?_, I.free, I.freeC, fun p hp => ?_, tracked ⟨oc, hoc, I.freeC x c hc⟩ hs, by simpa using I.len⟩ ⟨c, hs, .inr hc⟩
    · exact (hs.2 b (Nat.ne_of_lt (Nat.lt_of_lt_of_le (Heap.lt_size e) (I.ok.cab x c hfn hc)))).trans (I.base.keep b o e n hb hx)
    · obtain ⟨sl, e1⟩ := I.base.slot b o e n hb hx
      exact ⟨sl, (hs.2 b (Nat.ne_of_lt (Nat.lt_of_lt_of_le (Heap.lt_size e) (I.ok.cab x c hfn hc)))).trans e1⟩
    · obtain ⟨o', e1⟩ := I.base.there b o e hx
      exact ⟨o', (hs.2 b (Nat.ne_of_lt (Nat.lt_of_lt_of_le (Heap.lt_size e) (I.ok.cab x c hfn hc)))).trans e1⟩
    · by_cases hj : j = i
      · subst hj
        rw [hi] at e1; cases e1
        rw [List.getElem?_set_self hiσ] at e2
        cases e2
        exact ⟨u, r, .inr ⟨.inl hk, c, hc, hc'⟩⟩
      · rw [List.getElem?_set_ne (Ne.symm hj)] at e2
        obtain ⟨u', r', q⟩ := hl j y v' e1 e2 e3
        refine ⟨u', r', ?_⟩
        rcases q with q | ⟨k, c', e, z'⟩
        · exact .inl q
        · refine .inr ⟨k, c', e, z'.sameBut hs ?_⟩
          rintro rfl
          exact hj (nodup_ix hN e1 (I.ok.inj _ _ _ e hc ▸ hi))
    · by_cases hcc : c' = c
      · subst hcc; exact ⟨_, hc'⟩
      · obtain ⟨w2, z2⟩ := I.cell y c' e
        exact ⟨w2, z2.sameBut hs hcc⟩
    · obtain ⟨e, n, ne, nf, d⟩ := I.pin p hp
      refine ⟨(hs.2 p.1 ?_).trans e, n, ne, nf, d⟩
      intro q
      rw [q, hoc] at e
      have q' : oc = p.2 := Option.some.inj e
      exact d w' (by rw [← q']; exact hocd)
theorem store_ok {M : Model} {A : Around} {E : Value → Shared → Prop} {i : Nat} {x : Str} {v : V} {u : Value} {Q : Unit → Shared → Prop} (I : Inv X pins σ H s) (hN : X.N.Nodup) (hi : X.N[i]? = some x) (hx : Loc X.env.scope x) (r : RelV v u)
    (h : ∀ s', Inv X pins (σ.set i (some v)) H s' → Q () s') (hf : X.fn x = true ∨ X.env.scope.names.lookup x = some .local := by first | exact .inl rfl | exact .inr rfl | assumption) : wpAny M A (storeName X.env x u) Q E s :=
  store_ok2 I hN hi hx r (fun s' I' _ => h s' I') hf
theorem Inv.call' {s' : Shared} {ch : List Addr} (I : Inv X pins σ H s) (ho : s'.os = s.os) (u : Un (frs X.stack) ch H H' s.heap s'.heap) (hok : HOk X.prog X.w H' s'.heap) (hg : AllBare s'.gens)
    (hch : ∀ b ∈ ch, (b ∈ X.ex ∨ X.s_0.heap.objs.size ≤ b) ∧ b ≠ X.env.locals ∧ (∀ x c, X.env.cells.lookup x = some c → c ≠ b) ∧ ∀ p ∈ X.pn ++ pins, p.1 ≠ b) : Inv X pins σ H' s' := by
  obtain ⟨h', g', d', t', o'⟩ := s'
  have e : o' = s.os := ho
  subst e
  exact I.call (g' := g') (t' := t') (d' := d') u hok hg hch
end
abbrev XK := Value → Option Addr → Hp → Prop
abbrev St := List (Option V)
abbrev VK := V → Hp → Prop
abbrev TE := St → Hp → VK → Prop
abbrev TT := St → Hp → (Bool → Hp → Prop) → Prop
abbrev TA := St → Hp → (List V → Hp → Prop) → Prop
structure Ends where
  nx : St → Hp → Prop
  rt : VK
  bk : St → Hp → Prop := fun _ _ => False
  ct : St → Hp → Prop := fun _ _ => False
abbrev TS := Ends → St → Hp → Prop
def EP (X : Cx) (pins : List (Addr × Obj)) (σ : St) (Q : VK) (u : Value) (s' : Shared) : Prop := ∃ v H', Inv X pins σ H' s' ∧ RelV v u ∧ Q v H'
def TP (X : Cx) (pins : List (Addr × Obj)) (σ : St) (Q : Bool → Hp → Prop) (b : Bool) (s' : Shared) : Prop := ∃ H', Inv X pins σ H' s' ∧ Q b H'
def AP (X : Cx) (pins : List (Addr × Obj)) (σ : St) (Q : List V → Hp → Prop) (us : List Value) (s' : Shared) : Prop := ∃ vs H', Inv X pins σ H' s' ∧ Vals vs us ∧ Q vs H'
def SP (X : Cx) (pins : List (Addr × Obj)) (D : Ends) (f : Flow) (s' : Shared) : Prop :=
  match f with
  | .next => ∃ σ' H', Inv X pins σ' H' s' ∧ D.nx σ' H'
  | .brk => ∃ σ' H', Inv X pins σ' H' s' ∧ D.bk σ' H'
  | .cont => ∃ σ' H', Inv X pins σ' H' s' ∧ D.ct σ' H'
  | .ret u => ∃ v σ' H', Inv X pins σ' H' s' ∧ RelV v u ∧ D.rt v H'
def PE (X : Cx) (e : Expr) (t : TE) : Prop :=
  ∀ (pins : List (Addr × Obj)) (s : Shared) (σ : St) (H : Hp) (Q : VK), Inv X pins σ H s → t σ H Q → wpAny (model X.prog X.w) X.A (eval e X.env) (EP X pins σ Q) X.xe s
def PT (X : Cx) (e : Expr) (t : TT) : Prop :=
  ∀ (pins : List (Addr × Obj)) (s : Shared) (σ : St) (H : Hp) (Q : Bool → Hp → Prop), Inv X pins σ H s → t σ H Q → wpAny (model X.prog X.w) X.A (isTrue e X.env (eval e X.env)) (TP X pins σ Q) X.xe s
def PW (X : Cx) (e : Expr) (t : TT) : Prop :=
  ∀ (whole : Sem Value) (pins : List (Addr × Obj)) (s : Shared) (σ : St) (H : Hp) (Q : Bool → Hp → Prop), Inv X pins σ H s → t σ H Q → wpAny (model X.prog X.w) X.A (isTrue e X.env whole) (TP X pins σ Q) X.xe s
theorem PW.pt {X : Cx} {e : Expr} {t : TT} (h : PW X e t) : PT X e t := h _
def PA (X : Cx) (es : List Expr) (t : TA) : Prop :=
  ∀ (pos : Pos) (pins : List (Addr × Obj)) (s : Shared) (σ : St) (H : Hp) (Q : List V → Hp → Prop), Inv X pins σ H s → t σ H Q → wpAny (model X.prog X.w) X.A (spliced (backTo pos (starEach es X.env))) (AP X pins σ Q) X.xe s
def PS (X : Cx) (st : Stmt) (t : TS) : Prop :=
  ∀ (pins : List (Addr × Obj)) (s : Shared) (σ : St) (H : Hp) (D : Ends), Inv X pins σ H s → t D σ H → wpAny (model X.prog X.w) X.A (exec st X.env) (SP X pins D) X.xe s
def PSs (X : Cx) (st : List Stmt) (t : TS) : Prop :=
  ∀ (pins : List (Addr × Obj)) (s : Shared) (σ : St) (H : Hp) (D : Ends), Inv X pins σ H s → t D σ H → wpAny (model X.prog X.w) X.A (execs st X.env) (SP X pins D) X.xe s
theorem thn {α : Type} {t : Sem α} {Q Q' : α → Shared → Prop} {M : Model} {A : Around} {E : Value → Shared → Prop} {s : Shared} (h : wpAny M A t Q E s) (hQ : ∀ a s, Q a s → Q' a s) : wpAny M A t Q' E s := wpAny_mono h hQ fun _ _ x => x
end L2
namespace L2
open PySem PySem.Spec PyProof.Rows
section
variable {X : Cx}
def tVar (i : Nat) : TE := fun σ H Q => ∃ v, σ[i]? = some (some v) ∧ Q v H
def tC (v : V) : TE := fun _ H Q => Q v H
theorem pe_var {i : Nat} {x : Str} {pos : Pos} (hN : X.N[i]? = some x) (hv : Vis X.env.scope x) (hd : (x == ("__debug__" : Str)) = false := by decide) (hcd : (x == ("__classdict__" : Str)) = false := by decide) : PE X (.Name x pos) (tVar i) := by
  intro pins s σ H Q I h
  obtain ⟨v, e, h⟩ := h
  obtain ⟨m, hn, hl⟩ := I.loc
  obtain ⟨u, r, l⟩ := hl i x v hN e hv
  have fin : EP X pins σ Q u s := ⟨v, H, I, r, h⟩
  rcases l with ⟨hk, hm⟩ | ⟨hk, c, hc, hcell⟩
  · exact wpAny_Name (wpAny_loadName_local I.ok.kind hk hn hm fin) hd
  · rcases hk with hk | hk
    · exact wpAny_Name (wpAny_loadName_cell I.ok.kind hk hc hcell fin) hd
    · exact wpAny_Name (wpAny_loadName_free I.ok.kind hk hc hcell fin hcd) hd
theorem pe_int {i j pos} : PE X (.Constant (.int i) j pos) (tC (.int i)) := fun _ _ _ H _ I h => wpAny_Constant_int ⟨.int i, H, I.tok _, ⟨_, rfl⟩, h⟩
def Gl (X : Cx) (x : Str) : Prop := X.env.kindOf x = some .globalImplicit
theorem ld_glob {E : Value → Shared → Prop} {pins : List (Addr × Obj)} {s : Shared} {σ : St} {H : Hp} {x : Str} {u : Value} {pos : Pos} {Q : Value → Shared → Prop} (I : Inv X pins σ H s) (hg : Gl X x) (hm : X.mg x = some u) (h : Q u s)
    (hd : (x == ("__debug__" : Str)) = false := by decide) : wpAny (model X.prog X.w) X.A (eval (.Name x pos) X.env) Q E s :=
  Calls.Name_function_global I.ok.kind hg (Calls.loadGlobal_global (by rw [I.ok.glob]; exact I.mod.glob.keeps I.bk) hm h) hd
theorem ld_blt {E : Value → Shared → Prop} {pins : List (Addr × Obj)} {s : Shared} {σ : St} {H : Hp} {x : Str} {u : Value} {pos : Pos} {Q : Value → Shared → Prop} (I : Inv X pins σ H s) (hg : Gl X x) (hm : X.mg x = none) (hv : bootBuiltins x = some u) (h : Q u s)
    (hn : x ≠ "__name__" := by decide) (hd : (x == ("__debug__" : Str)) = false := by decide) : wpAny (model X.prog X.w) X.A (eval (.Name x pos) X.env) Q E s := by
  obtain ⟨mb, h1, h2⟩ := I.mod.blt
  exact Calls.Name_function_global I.ok.kind hg (Calls.loadGlobal_builtin (by rw [I.ok.glob]; exact I.mod.glob.keeps I.bk) hm (by rw [I.ok.blt]; exact h1.keeps I.bk) ((h2 x hn).trans hv) h) hd
theorem pe_glob {x : Str} {v : V} {u : Value} {pos : Pos} (hg : Gl X x) (hm : X.mg x = some u) (r : RelV v u) (hd : (x == ("__debug__" : Str)) = false := by decide) : PE X (.Name x pos) (tC v) :=
  fun _ _ _ H _ I h => ld_glob I hg hm ⟨v, H, I, r, h⟩ hd
variable {a b : Expr} {ta tb : TE} {pos : Pos}
def tB (t : TE) : TT := fun σ H Q => t σ H fun x H1 => ∃ c, x = .bl c ∧ Q c H1
theorem pt_val {e : Expr} {t : TE} (h : PE X e t) (he : ∀ whole, isTrue e X.env whole = (do let v ← whole; standAt e.pos; holding [v] (truthy v)) := by intro _; rfl) : PT X e (tB t) := by
  intro pins s σ H Q I hw
  refine isTrue_plain (thn (h pins s σ H _ I hw) fun v s1 ⟨x, H1, I1, r1, q1⟩ => ?_) (he _)
  obtain ⟨d, rfl, q⟩ := q1
  cases r1
  exact wpAny_truthy_bool ⟨H1, I1, q⟩
variable {tA tB' : TT} {rest : List Expr}
def tOr (t u : TT) : TT := fun σ H Q => t σ H fun c H1 => if c = true then Q true H1 else u σ H1 Q
def tNot (t : TT) : TT := fun σ H Q => t σ H fun c H1 => Q (!c) H1
theorem pw_or1 (ha : PT X a tA) : PW X (.BoolOp .Or [a] pos) tA := by
  intro wh pins s σ H Q I h
  refine isTrue_or (thn (ha pins s σ H Q I h) fun c s1 e => ?_)
  cases c with
  | false => exact isTrue_or_nil e
  | true => exact e
theorem pw_or (ha : PT X a tA) (hb : PW X (.BoolOp .Or (b :: rest) pos) tB') : PW X (.BoolOp .Or (a :: b :: rest) pos) (tOr tA tB') := by
  intro wh pins s σ H Q I h
  refine isTrue_or (thn (ha pins s σ H _ I h) fun c s1 ⟨H1, I1, q1⟩ => ?_)
  cases c with
  | true => exact ⟨H1, I1, q1⟩
  | false => exact hb wh pins s1 σ H1 Q I1 q1
theorem pt_not (ha : PT X a tA) : PT X (.UnaryOp .Not a pos) (tNot tA) := by
  intro pins s σ H Q I h
  exact isTrue_not (ha pins s σ H (fun c H1 => Q (!c) H1) I h)
end
end L2
namespace L2
open PySem PySem.Spec PyProof.Rows
def SqL (K : PySem.W.Frag) (H : Hp) (a : Addr) (xs : List V) : Prop :=
  Rd H a (.lst xs) ∨
    ∃ (o : Obj) (its : Array Value) (n : Nat), K.lookup a = some o ∧ o.cls = .type "list" ∧ o.dict = none ∧ o.data = .seq its n ∧ its.size ≤ sizeLine ∧ Vals xs its.toList
def SqT (K : PySem.W.Frag) (H : Hp) (a : Addr) (xs : List V) : Prop :=
  Rd H a (.tup xs) ∨
    ∃ (o : Obj) (its : Array Value) (n : Nat), K.lookup a = some o ∧ o.cls = .type "tuple" ∧ o.data = .seq its n ∧ its.size ≤ sizeLine ∧ Vals xs its.toList
def absV : Value → Option V
  | .none => some .non
  | .bool b => some (.bl b)
  | .int i _ => some (.int i)
  | .str x _ => some (.str x)
  | .bytes b _ => some (.byt b)
  | .float b _ => some (.flt b)
  | .ref a => some (.ref a)
  | .type n => some (.ty n)
  | _ => none
theorem RelV.abs {x : V} {u : Value} (r : RelV x u) : absV u = some x := by
  cases x with
  | non => cases r; rfl
  | bl _ => cases r; rfl
  | int _ => obtain ⟨t, rfl⟩ := r; rfl
  | str _ => obtain ⟨t, rfl⟩ := r; rfl
  | byt _ => obtain ⟨t, rfl⟩ := r; rfl
  | flt _ => obtain ⟨t, rfl⟩ := r; rfl
  | ref _ => cases r; rfl
  | ty _ => cases r; rfl
theorem RelV.inj {x y : V} {u : Value} (r : RelV x u) (q : RelV y u) : x = y := Option.some.inj (r.abs.symm.trans q.abs)
theorem Vals.inj : ∀ {xs ys : List V} {us : List Value}, Vals xs us → Vals ys us → xs = ys
  | _, _, _, .nil, .nil => rfl
  | _, _, _, .cons r t, .cons r' t' => by rw [r.inj r', Vals.inj t t']
section
variable {X : Cx} {pins : List (Addr × Obj)} {σ : St} {H : Hp} {s : Shared} {a : Addr} {xs ys : List V}
theorem SqL.of {K : PySem.W.Frag} (h : H a = some (.lst xs)) : SqL K H a xs := .inl (.inl h)
theorem SqT.of {K : PySem.W.Frag} (h : H a = some (.tup xs)) : SqT K H a xs := .inl (.inl h)
theorem Inv.list (I : Inv X pins σ H s) (h : SqL X.K H a xs) : ∃ its : List Value, Vals xs its ∧ PlainL s.heap a its.toArray ∧ xs.length ≤ sizeLine := by
  rcases h with h | ⟨o, its, n, hk, hc, hd, hs, hz, r⟩
  · obtain ⟨z, its, n, r, e⟩ := h.ok I.hok
    exact ⟨its, r, ⟨_, n, e, rfl, rfl, rfl⟩, z⟩
  · refine ⟨its.toList, r, ⟨o, n, I.kIn a o hk, hc, hd, by simpa using hs⟩, ?_⟩
    have e := r.length
    simp only [Array.length_toList] at e
    omega
theorem Inv.tuple (I : Inv X pins σ H s) (h : SqT X.K H a xs) : ∃ its : List Value, Vals xs its ∧ IsTup s.heap a its.toArray ∧ xs.length ≤ sizeLine := by
  rcases h with h | ⟨o, its, n, hk, hc, hs, hz, r⟩
  · obtain ⟨z, its, r, p⟩ := h.ok I.hok
    exact ⟨its, r, p, z⟩
  · refine ⟨its.toList, r, ⟨o, I.kIn a o hk, hc, n, by simpa using hs⟩, ?_⟩
    have e := r.length
    simp only [Array.length_toList] at e
    omega
theorem Inv.list_inj (I : Inv X pins σ H s) (h : SqL X.K H a xs) (h' : SqL X.K H a ys) : xs = ys := by
  obtain ⟨its, r, ⟨o, n, e, _, _, d⟩, _⟩ := I.list h
  obtain ⟨its', r', ⟨o', n', e', _, _, d'⟩, _⟩ := I.list h'
  rw [e] at e'; cases e'
  rw [d] at d'
  injection d' with d1 _
  have : its = its' := by simpa using congrArg Array.toList d1
  subst this
  exact r.inj r'
end
abbrev Cx.wish (X : Cx) (E : Value → Shared → Prop) : Cx := { X with xe := E }
abbrev Cx.nox (X : Cx) : Cx := X.wish fun _ _ => False
theorem Cx.Ok.wish {X : Cx} (ok : X.Ok) (E : Value → Shared → Prop) : (X.wish E).Ok :=
  ⟨ok.mod, ok.kind, ok.glob, ok.blt, ok.above, ok.inj, ok.has, ok.cab, ok.hd, ok.frames, ok.stk, ok.exf, ok.bs, ok.bsz, ok.noex, ok.exfs, ok.funs, ok.frf⟩
theorem Cx.Ok.unwish {X : Cx} {E : Value → Shared → Prop} (ok : (X.wish E).Ok) : X.Ok :=
  ⟨ok.mod, ok.kind, ok.glob, ok.blt, ok.above, ok.inj, ok.has, ok.cab, ok.hd, ok.frames, ok.stk, ok.exf, ok.bs, ok.bsz, ok.noex, ok.exfs, ok.funs, ok.frf⟩
section
variable {X : Cx} {pins : List (Addr × Obj)} {σ : St} {H : Hp} {s : Shared} {E : Value → Shared → Prop}
theorem Inv.wish (I : Inv X pins σ H s) (E : Value → Shared → Prop) : Inv (X.wish E) pins σ H s := ⟨I.ok.wish E, I.os, I.bare, I.base, I.loc, I.cell, I.free, I.freeC, I.pin, I.hok, I.len⟩
theorem Inv.unwish (I : Inv (X.wish E) pins σ H s) : Inv X pins σ H s := ⟨I.ok.unwish, I.os, I.bare, I.base, I.loc, I.cell, I.free, I.freeC, I.pin, I.hok, I.len⟩
theorem SP.unwish {D : Ends} {f : Flow} {s' : Shared} (h : SP (X.wish E) pins D f s') : SP X pins D f s' := by
  cases f with
  | next => obtain ⟨σ', H', I, q⟩ := h; exact ⟨σ', H', I.unwish, q⟩
  | brk => obtain ⟨σ', H', I, q⟩ := h; exact ⟨σ', H', I.unwish, q⟩
  | cont => obtain ⟨σ', H', I, q⟩ := h; exact ⟨σ', H', I.unwish, q⟩
  | ret u => obtain ⟨v, σ', H', I, r, q⟩ := h; exact ⟨v, σ', H', I.unwish, r, q⟩
theorem PSs.nox {st : List Stmt} {t : TS} (h : PSs X.nox st t) : PSs X st t := fun pins s σ H D I hw =>
  wpAny_mono (h pins s σ H D (I.wish _) hw) (fun _ _ q => q.unwish) fun _ _ z => False.elim z
end
section
variable {X : Cx} {st : Stmt} {rest : List Stmt} {t u : TS} {e : Expr} {te : TE} {pos : Pos}
def tNext : TS := fun D σ H => D.nx σ H
def tSeq (t u : TS) : TS := fun D σ H => t { D with nx := u D } σ H
theorem pss_nil : PSs X [] tNext := fun _ _ σ H _ I h => wpAny_execs_nil ⟨σ, H, I, h⟩
theorem pss_cons (h1 : PS X st t) (h2 : PSs X rest u) : PSs X (st :: rest) (tSeq t u) := by
  intro pins s σ H D I h
  refine wpAny_execs_cons (thn (h1 pins s σ H { D with nx := u D } I h) fun f s1 q => ?_)
  cases f with
  | next =>
    obtain ⟨σ', H', I', q⟩ := q
    exact h2 pins s1 σ' H' D I' q
  | ret v => exact q
  | brk => exact q
  | cont => exact q
theorem pss_one (h1 : PS X st t) : PSs X [st] t := by
  intro pins s σ H D I h
  refine wpAny_execs_cons (thn (h1 pins s σ H D I h) fun f s1 q => ?_)
  cases f with
  | next => exact wpAny_execs_nil q
  | ret v => exact q
  | brk => exact q
  | cont => exact q
theorem Inv.quiet {pins : List (Addr × Obj)} {σ : St} {H : Hp} {s : Shared} (I : Inv X pins σ H s) : interactive X.env = false := by simp [interactive, I.ok.kind]
def tDrop (te : TE) : TS := fun D σ H => te σ H fun _ H1 => D.nx σ H1
theorem ps_expr (he : PE X e te) (hs : swapsWith e none pos.line X.env = pure false := by rfl) : PS X (.Expr e pos) (tDrop te) := by
  intro pins s σ H D I h
  exact wpAny_Expr_any (thn (he pins s σ H _ I h) fun v s1 ⟨x, H1, I1, r1, q1⟩ => ⟨σ, H1, I1, q1⟩) I.quiet hs
def tRet (te : TE) : TS := fun D σ H => te σ H D.rt
theorem ps_ret (he : PE X e te) : PS X (.Return (some e) pos) (tRet te) := by
  intro pins s σ H D I h
  exact wpAny_Return_some (thn (he pins s σ H _ I h) fun v s1 ⟨x, H1, I1, r1, q1⟩ => ⟨x, σ, H1, I1, r1, q1⟩)
def tIfS (c : TT) (t u : TS) : TS := fun D σ H => c σ H fun b H1 => if b = true then t D σ H1 else u D σ H1
theorem ps_if {c : Expr} {a b : List Stmt} {tc : TT} (hc : PT X c tc) (ha : PSs X a t) (hb : PSs X b u) : PS X (.If c a b pos) (tIfS tc t u) := by
  intro pins s σ H D I h
  refine wpAny_If (thn (hc pins s σ H _ I h) fun d s1 ⟨H1, I1, q1⟩ => ?_)
  cases d with
  | true => exact ha pins s1 σ H1 D I1 q1
  | false => exact hb pins s1 σ H1 D I1 q1
end
abbrev TG := V → St → Hp → (St → Hp → Prop) → Prop
def PG (X : Cx) (target : Expr) (t : TG) : Prop :=
  ∀ (pins : List (Addr × Obj)) (s : Shared) (σ : St) (H : Hp) (v : V) (u : Value) (Q : St → Hp → Prop), Inv X pins σ H s → RelV v u → t v σ H Q →
    wpAny (model X.prog X.w) X.A (assign target X.env u) (fun _ s' => ∃ σ' H', Inv X pins σ' H' s' ∧ Q σ' H') X.xe s
abbrev TSet := V → V → V → Hp → (Hp → Prop) → Prop
def PSet (X : Cx) (t : TSet) : Prop :=
  ∀ (pins : List (Addr × Obj)) (s : Shared) (σ : St) (H : Hp) (o i v : V) (ov iv u : Value) (Q : Hp → Prop), Inv X pins σ H s → RelV o ov → RelV i iv → RelV v u → t o i v H Q →
    wpAny (model X.prog X.w) X.A (setItem ov iv u) (fun _ s' => ∃ H', Inv X pins σ H' s' ∧ Q H') X.xe s
abbrev TIp := V → V → Hp → VK → Prop
def PIp (X : Cx) (op : Operator) (t : TIp) : Prop :=
  ∀ (pins : List (Addr × Obj)) (s : Shared) (σ : St) (H : Hp) (x y : V) (v u : Value) (Q : VK), Inv X pins σ H s → RelV x v → RelV y u → t x y H Q →
    wpAny (model X.prog X.w) X.A (inplaceOp op v u) (EP X pins σ Q) X.xe s
section
variable {X : Cx} {pos : Pos}
def gName (i : Nat) : TG := fun v σ H Q => Q (σ.set i (some v)) H
theorem pg_name {i : Nat} {x : Str} (hN : X.N.Nodup) (hi : X.N[i]? = some x) (hx : Loc X.env.scope x) (hf : X.fn x = true ∨ X.env.scope.names.lookup x = some .local := by first | exact .inl rfl | exact .inr rfl | assumption) : PG X (.Name x pos) (gName i) := by
  intro pins s σ H v u Q I r h
  exact wpAny_assign_Name (store_ok I hN hi hx r (fun s' I' => ⟨_, H, I', h⟩) hf)
def gSub (to ti : TE) (t : TSet) : TG := fun v σ H Q => to σ H fun o H1 => ti σ H1 fun i H2 => t o i v H2 fun H3 => Q σ H3
theorem pg_sub {o i : Expr} {to ti : TE} {t : TSet} (ho : PE X o to) (hi : PE X i ti) (hs : PSet X t)
    (ha : ∀ v, assign (.Subscript o i pos) X.env v = (do
      let ov ← holding [v] (eval o X.env)
      let iv ← holding [v, ov] (eval i X.env)
      standAt pos
      holding [v, ov, iv] (setItem ov iv v)
      release [v, ov, iv] []) := by intro _; rfl) : PG X (.Subscript o i pos) (gSub to ti t) := by
  intro pins s σ H v u Q I r h
  rw [ha]
  refine wpAny_bind (wpAny_holding (thn (ho pins s σ H _ I h) fun ov s1 ⟨x, H1, I1, r1, q1⟩ => ?_))
  refine wpAny_bind (wpAny_holding (thn (hi pins s1 σ H1 _ I1 q1) fun iv s2 ⟨y, H2, I2, r2, q2⟩ => ?_))
  refine wpAny_bind (wpAny_standAt (wpAny_bind (wpAny_holding (thn (hs pins s2 σ H2 x y v ov iv u _ I2 r1 r2 r q2) fun _ s3 ⟨H3, I3, q3⟩ => ?_))))
  exact wpAny_release ⟨σ, H3, I3, q3⟩
def tAsg (te : TE) (g : TG) : TS := fun D σ H => te σ H fun x H1 => g x σ H1 D.nx
theorem ps_asg {tg e : Expr} {te : TE} {g : TG} (he : PE X e te) (hg : PG X tg g) (hs : swapsWithSole [tg] e pos.line X.env = pure false := by rfl) (hw : swappedStores [tg] e X.env = pure none := by rfl)
    (h1 : (assignEach [tg] X.env).map (·.2) = [assign tg X.env] := by rfl) : PS X (.Assign [tg] e pos) (tAsg te g) := by
  intro pins s σ H D I h
  refine wpAny_Assign_stores (thn (he pins s σ H _ I h) fun v s1 ⟨x, H1, I1, r1, q1⟩ => ?_) hs hw
  rw [h1]
  exact thn (hg pins s1 σ H1 x v _ I1 r1 q1) fun _ s2 q => q
theorem ps_set {i : Nat} {x : Str} {e : Expr} {te : TE} {pos' : Pos} (hN : X.N.Nodup) (hi : X.N[i]? = some x) (hx : Loc X.env.scope x) (he : PE X e te) (hs : swapsWith e (some (.Name x pos')) pos.line X.env = pure false := by rfl) (hf : X.fn x = true ∨ X.env.scope.names.lookup x = some .local := by first | exact .inl rfl | exact .inr rfl | assumption) :
    PS X (.Assign [.Name x pos'] e pos) (tAsg te (gName i)) := by
  intro pins s σ H D I h
  refine wpAny_Assign_Name (thn (he pins s σ H _ I h) fun v s1 ⟨y, H1, I1, r1, q1⟩ => ?_) hs
  exact store_ok I1 hN hi hx r1 (fun s2 I2 => ⟨_, H1, I2, q1⟩) hf
def tAug (i : Nat) (te : TE) (ti : TIp) : TS := fun D σ H => ∃ x, σ[i]? = some (some x) ∧ te σ H fun y H1 => ti x y H1 fun z H2 => D.nx (σ.set i (some z)) H2
theorem ps_aug {i : Nat} {x : Str} {e : Expr} {te : TE} {op : Operator} {ti : TIp} {pos' : Pos} (hN : X.N.Nodup) (hi : X.N[i]? = some x) (hx : Loc X.env.scope x) (he : PE X e te) (ho : PIp X op ti) (hf : X.fn x = true ∨ X.env.scope.names.lookup x = some .local := by first | exact .inl rfl | exact .inr rfl | assumption) :
    PS X (.AugAssign (.Name x pos') op e pos) (tAug i te ti) := by
  intro pins s σ H D I h
  obtain ⟨v, e1, h⟩ := h
  obtain ⟨m, hn, hl⟩ := I.loc
  have vis : Vis X.env.scope x := by rcases hx with k | k; exact .inl k; exact .inr (.inl k)
  obtain ⟨u, r, l⟩ := hl i x v hi e1 vis
  refine wpAny_AugAssign_Name ?_
  have go : wpAny (model X.prog X.w) X.A (eval e X.env) (fun w s₂ => wpAny (model X.prog X.w) X.A (inplaceOp op u w) (fun r s₃ => wpAny (model X.prog X.w) X.A (storeName X.env x r) (fun _ => SP X pins D .next) X.xe s₃) X.xe s₂) X.xe s := by
    refine thn (he pins s σ H _ I h) fun w s1 ⟨y, H1, I1, r1, q1⟩ => ?_
    refine thn (ho pins s1 σ H1 v y u w _ I1 r r1 q1) fun z s2 ⟨zv, H2, I2, r2, q2⟩ => ?_
    exact store_ok I2 hN hi hx r2 (fun s3 I3 => ⟨_, H2, I3, q2⟩) hf
  rcases l with ⟨hk, hm⟩ | ⟨hk, c, hc, hcell⟩
  · exact wpAny_loadName_local I.ok.kind hk hn hm go
  · rcases hk with hk | hk
    · exact wpAny_loadName_cell I.ok.kind hk hc hcell go
    · rcases hx with k | k
      · have : X.env.scope.names.lookup x = some .free := hk
        rw [k] at this; cases this
      · have : X.env.scope.names.lookup x = some .free := hk
        rw [k] at this; cases this
def tAugS (to ti te : TE) (tget : V → V → Hp → VK → Prop) (tip : TIp) (tset : TSet) : TS := fun D σ H => to σ H fun o H1 => ti σ H1 fun i H2 => tget o i H2 fun x H3 => te σ H3 fun y H4 => tip x y H4 fun z H5 => tset o i z H5 fun H6 => D.nx σ H6
def PGet (X : Cx) (t : V → V → Hp → VK → Prop) : Prop :=
  ∀ (pins : List (Addr × Obj)) (s : Shared) (σ : St) (H : Hp) (o i : V) (ov iv : Value) (Q : VK), Inv X pins σ H s → RelV o ov → RelV i iv → t o i H Q →
    wpAny (model X.prog X.w) X.A (getItem ov iv) (EP X pins σ Q) X.xe s
theorem ps_augS {o i e : Expr} {to ti te : TE} {tget : V → V → Hp → VK → Prop} {tip : TIp} {tset : TSet} {op : Operator} {tpos : Pos} (ho : PE X o to) (hi : PE X i ti) (hg : PGet X tget) (he : PE X e te) (hp : PIp X op tip) (hs : PSet X tset)
    (ha : ∀ ov iv new, augStore i ov iv new = (do holding [new, ov, iv] (setItem ov iv new); release [new, ov, iv] []; pure .next) := by intros; rfl) : PS X (.AugAssign (.Subscript o i tpos) op e pos) (tAugS to ti te tget tip tset) := by
  intro pins s σ H D I h
  refine wpAny_AugAssign_SubscriptAny (thn (ho pins s σ H _ I h) fun ov s1 ⟨x1, H1, I1, r1, q1⟩ => ?_) ha
  refine thn (hi pins s1 σ H1 _ I1 q1) fun iv s2 ⟨x2, H2, I2, r2, q2⟩ => ?_
  refine thn (hg pins s2 σ H2 x1 x2 ov iv _ I2 r1 r2 q2) fun old s3 ⟨x3, H3, I3, r3, q3⟩ => ?_
  refine thn (he pins s3 σ H3 _ I3 q3) fun v s4 ⟨x4, H4, I4, r4, q4⟩ => ?_
  refine thn (hp pins s4 σ H4 x3 x4 old v _ I4 r3 r4 q4) fun new s5 ⟨x5, H5, I5, r5, q5⟩ => ?_
  exact thn (hs pins s5 σ H5 x1 x2 x5 ov iv new _ I5 r1 r2 r5 q5) fun _ s6 ⟨H6, I6, q6⟩ => ⟨σ, H6, I6, q6⟩
def ipI (f : Int → Int → Int) : TIp := fun x y H Q => ∃ i j, x = .int i ∧ y = .int j ∧ Q (.int (f i j)) H
theorem ip_add : PIp X .Add (ipI fun i j => i + j) := by
  intro pins s σ H x y v u Q I r1 r2 h
  obtain ⟨i, j, e1, e2, q⟩ := h
  subst e1; subst e2
  obtain ⟨t, rfl⟩ := r1
  obtain ⟨t', rfl⟩ := r2
  exact iadd_int ⟨.int _, H, I.tok _, ⟨_, rfl⟩, q⟩
end
section
variable {X : Cx} {pos : Pos}
def tWhile (c : TT) (tb : TS) : TS := fun D σ H => ∃ W : Nat → St → Hp → Prop, (∃ m, W m σ H) ∧ ∀ m σ H, W m σ H →
  c σ H fun b H1 => if b = true then ∃ N : St → Hp → Prop, (∀ σ' H', N σ' H' → ∃ m', m' < m ∧ W m' σ' H') ∧ tb { D with nx := N, ct := N, bk := D.nx } σ H1 else D.nx σ H1
theorem ps_while {c : Expr} {body : List Stmt} {tc : TT} {tb : TS} (hp : PassesOwn (model X.prog X.w) X.A X.env X.xe) (hc : PT X c tc) (hb : PSs X body tb) : PS X (.While c body [] pos) (tWhile tc tb) := by
  intro pins s σ H D I h
  obtain ⟨W, ⟨m0, w0⟩, turn⟩ := h
  refine wpAny_While (codeAny_whileLoop (fun n s' => ∃ σ' H', Inv X pins σ' H' s' ∧ W n σ' H') ?_ m0 ⟨σ, H, I, w0⟩)
  rintro n s1 ⟨σ1, H1, I1, w1⟩
  refine wpAny_passesOwn hp (thn (hc pins s1 σ1 H1 _ I1 (turn n σ1 H1 w1)) fun b s2 ⟨H2, I2, q2⟩ => ?_)
  cases b with
  | true =>
    obtain ⟨N, hN, q2⟩ := q2
    rw [if_pos rfl]
    refine wpAny_passesOwn hp (thn (hb pins s2 σ1 H2 _ I2 q2) fun f s3 q3 => ?_)
    cases f with
    | next =>
      obtain ⟨σ3, H3, I3, n3⟩ := q3
      obtain ⟨m', hm, w3⟩ := hN σ3 H3 n3
      exact ⟨m', hm, σ3, H3, I3, w3⟩
    | cont =>
      obtain ⟨σ3, H3, I3, n3⟩ := q3
      obtain ⟨m', hm, w3⟩ := hN σ3 H3 n3
      exact ⟨m', hm, σ3, H3, I3, w3⟩
    | brk => exact q3
    | ret v => exact q3
  | false =>
    rw [if_neg Bool.false_ne_true]
    exact wpAny_execs_nil ⟨σ1, H2, I2, q2⟩
end
structure It where
  go : Nat → Hp → Prop
  yld : Nat → Hp → V → Hp → Prop
  stop : Nat → Hp → Prop
def FpOk (X : Cx) (pins : List (Addr × Obj)) (H : Hp) (b : Addr) : Prop :=
  H b = none ∧ b ≠ X.env.locals ∧ b ∉ X.fs ∧ (b ∈ X.ex ∨ X.s_0.heap.objs.size ≤ b) ∧ (∀ x c, X.env.cells.lookup x = some c → c ≠ b) ∧ ∀ p ∈ X.pn ++ pins, p.1 ≠ b
theorem Inv.fpOk {X : Cx} {pins : List (Addr × Obj)} {σ : St} {H H' : Hp} {s : Shared} {b : Addr} (I : Inv X pins σ H s) (hb : s.heap.objs.size ≤ b) (hn : H' b = none) : FpOk X pins H' b := by
  refine ⟨hn, Nat.ne_of_gt (Nat.lt_of_lt_of_le I.lt hb), I.nofs hb, .inr (Nat.le_trans I.sz hb), fun x c e z => ?_, fun p hp z => ?_⟩
  · obtain ⟨v, q⟩ := I.cell x c e
    exact absurd (Nat.lt_of_lt_of_le q.lt (by rw [z]; exact hb)) (Nat.lt_irrefl _)
  · exact absurd (Nat.lt_of_lt_of_le (Heap.lt_size (I.pin p hp).1) (by rw [z]; exact hb)) (Nat.lt_irrefl _)
structure Turn (P : Program) (w : World) (K : PySem.W.Frag) (tg : Expr) (J : It) (fp : List Addr) (it : Addr) (tn : Nat → Heap → Prop) : Prop where
  mem : it ∈ fp
  obj : ∀ i h, tn i h → ∀ b ∈ fp, ∃ o, h.get? b = some o ∧ ∀ v, o.data ≠ .cell v
  keep : ∀ i h h', tn i h → (∀ b ∈ fp, ∀ o, h.get? b = some o → h'.get? b = some o) → tn i h'
  item : ∀ (X : Cx), X.prog = P → X.w = w → X.K = K → X.calm = true → ∀ (i : Nat) (pins : List (Addr × Obj)) (s : Shared) (σ : St) (H : Hp) (E : Value → Shared → Prop), Inv X pins σ H s → (∀ b ∈ fp, FpOk X pins H b) → tn i s.heap → J.go i H →
    wpAny (model P w) X.A (pyNext (.ref it)) (fun r s1 => ∃ u, r = some u ∧
      wpAny (model P w) X.A (letOwnedTupleGo tg (.ref it) u) (fun _ s2 => ∃ x H', Inv X pins σ H' s2 ∧ RelV x u ∧ J.yld i H x H' ∧ tn (i + 1) s2.heap ∧ ∀ b ∈ fp, H' b = none) E s1) E s
  done : ∀ (X : Cx), X.prog = P → X.w = w → X.K = K → X.calm = true → ∀ (i : Nat) (pins : List (Addr × Obj)) (s : Shared) (σ : St) (H : Hp) (E : Value → Shared → Prop), Inv X pins σ H s → (∀ b ∈ fp, FpOk X pins H b) → tn i s.heap → J.stop i H →
    wpAny (model P w) X.A (pyNext (.ref it)) (fun r s1 => r = none ∧ Inv X pins σ H s1) E s
  self : ∀ (A : Around) (i : Nat) (s : Shared) (Q : Value → Shared → Prop) (E : Value → Shared → Prop), tn i s.heap → Q (.ref it) s → wpAny (model P w) A (pyIter (.ref it)) Q E s
abbrev TI := St → Hp → (It → Hp → Prop) → Prop
def PIE (X : Cx) (pins : List (Addr × Obj)) (σ : St) (tg : Expr) (R : It → Hp → Prop) (itv : Value) (s2 : Shared) : Prop :=
  ∃ (it : Addr) (fp : List Addr) (tn : Nat → Heap → Prop) (J : It) (H' : Hp), itv = .ref it ∧ Inv X pins σ H' s2 ∧ Turn X.prog X.w X.K tg J fp it tn ∧ tn 0 s2.heap ∧ (∀ b ∈ fp, FpOk X pins H' b) ∧ R J H'
def PI (X : Cx) (tg iter : Expr) (wi : TI) : Prop :=
  ∀ (pins : List (Addr × Obj)) (s : Shared) (σ : St) (H : Hp) (R : It → Hp → Prop), Inv X pins σ H s → wi σ H R →
    wpAny (model X.prog X.w) X.A (eval iter X.env) (fun v s1 => wpAny (model X.prog X.w) X.A (pyIter v) (PIE X pins σ tg R) X.xe s1) X.xe s
theorem go_of {M : Model} {A : Around} {E : Value → Shared → Prop} {s : Shared} {tg : Expr} {it : Addr} {u : Value} {o : Obj} {n : String} {vs : Array Value} {Q : Unit → Shared → Prop} (ho : s.heap.get? it = some o) (hc : o.cls = .type n) (hd : o.data = .fields vs)
    (hn : ["enumerate", "zip", "dict_itemiterator", "dict_reverseitemiterator", "odict_iterator", "itertools.zip_longest", "itertools.pairwise"].contains n = false) (hQ : Q () s) : wpAny M A (letOwnedTupleGo tg (.ref it) u) Q E s := by
  unfold letOwnedTupleGo
  cases tg <;> first
    | exact wpAny_pure hQ
    | (cases u <;> first
        | exact wpAny_pure hQ
        | (refine wpAny_bind (wpAny_load ho ?_)
           rw [hc, hd]
           show wpAny M A (if (["enumerate", "zip", "dict_itemiterator", "dict_reverseitemiterator", "odict_iterator", "itertools.zip_longest", "itertools.pairwise"].contains n && vs[0]? == some (rawInt _)) = true then _ else _) Q E s
           rw [if_neg (by intro h; rw [hn, Bool.false_and] at h; cases h)]
           exact wpAny_pure hQ))
def Itl (K : PySem.W.Frag) (a : Addr) : It :=
  ⟨fun i H => ∃ xs x, SqL K H a xs ∧ xs[i]? = some x, fun i H x H' => H' = H ∧ ∀ xs, SqL K H a xs → xs[i]? = some x, fun i H => ∃ xs, SqL K H a xs ∧ xs.length ≤ i⟩
def Itr (lo : Int) (n : Nat) : It := ⟨fun i _ => i < n, fun i H x H' => H' = H ∧ x = .int (lo + i), fun i _ => n ≤ i⟩
theorem turn_list {P : Program} {w : World} {K : PySem.W.Frag} {tg : Expr} (a it : Addr) : Turn P w K tg (Itl K a) [it] it (fun i h => h.IsListIter it a i) where
  mem := by simp
  obj := fun i h st b hb => by
    have e : b = it := by simpa using hb
    subst e
    obtain ⟨o, e, c, d⟩ := st
    exact ⟨o, e, fun v z => by rw [d] at z; cases z⟩
  keep := fun i h h' st k => st.at fun o e => k it (by simp) o e
  item := by
    intro X hP hw hK hc i pins s σ H E I hf st hg
    subst hP hw hK
    obtain ⟨xs, x, hq, hx⟩ := hg
    obtain ⟨its, rv, p, hz⟩ := I.list hq
    obtain ⟨u, hu, ru⟩ := rv.get hx
    obtain ⟨f0, f1, f2, f3, f4, f5⟩ := hf it (by simp)
    refine wpAny_pyNext_list_item st p.isList (x := u) (by simpa using hu) fun h' st' sb => ?_
    have I1 : Inv X pins σ H { s with heap := h' } := I.turned (t' := s.toks) (fun b o hb e => (sb.2 b hb).trans e) f0 f1 f3 f4 f5
    obtain ⟨o, e, c, d⟩ := id st'
    exact ⟨u, rfl, go_of (s := { s with heap := h' }) e c d (by decide) ⟨x, H, I1, ru, ⟨rfl, fun ys hy => by rw [I.list_inj hy hq]; exact hx⟩, st', fun b hb => (hf b hb).1⟩⟩
  done := by
    intro X hP hw hK hc i pins s σ H E I hf st hg
    subst hP hw hK
    obtain ⟨xs, hq, hx⟩ := hg
    obtain ⟨its, rv, p, hz⟩ := I.list hq
    obtain ⟨f0, f1, f2, f3, f4, f5⟩ := hf it (by simp)
    have hl := rv.length
    exact wpAny_pyNext_list_end (I.ok.hd hc) st p.isList (by simp; omega) fun h' eb => ⟨rfl, I.turned (t' := s.toks) (fun b o hb e => eb b o hb e) f0 f1 f3 f4 f5⟩
  self := fun _ _ _ _ _ st h => wpAny_pyIter_listiter st h
theorem turn_range {P : Program} {w : World} {K : PySem.W.Frag} {tg : Expr} (it : Addr) (lo : Int) (n : Nat) : Turn P w K tg (Itr lo n) [it] it (fun i h => IsRangeIter h it (lo + (i : Nat) * 1) ((n : Int) - (i : Nat)) 1) where
  mem := by simp
  obj := fun i h st b hb => by
    have e : b = it := by simpa using hb
    subst e
    exact ⟨_, st, fun v z => by
      have z' : Data.fields _ = Data.cell v := z
      cases z'⟩
  keep := fun i h h' st k => k it (by simp) _ st
  item := by
    intro X hP hw hK hc i pins s σ H E I hf st hg
    subst hP hw hK
    obtain ⟨f0, f1, f2, f3, f4, f5⟩ := hf it (by simp)
    have W := Walks.range (prog := X.prog) (w := X.w) (I.ok.hd hc) it lo 1 n
    refine W.item i s _ _ hg st fun v h' tk hv st' kk => ?_
    obtain ⟨t, rfl⟩ := hv
    have I1 : Inv X pins σ H { s with heap := h', toks := tk } := I.turned (fun b o hb e => kk b o (by simpa using hb) e) f0 f1 f3 f4 f5
    refine ⟨_, rfl, go_of (s := { s with heap := h', toks := tk }) (n := "range_iterator") st' rfl rfl (by decide) ⟨.int (lo + i), H, I1, ⟨t, ?_⟩, ⟨rfl, rfl⟩, st', fun b hb => (hf b hb).1⟩⟩
    rw [Int.mul_one]
  done := by
    intro X hP hw hK hc i pins s σ H E I hf st hg
    subst hP hw hK
    obtain ⟨f0, f1, f2, f3, f4, f5⟩ := hf it (by simp)
    exact wpAny_pyNext_range_end (I.ok.hd hc) st (by have : n ≤ i := hg; omega) fun h' eb => ⟨rfl, I.turned (t' := s.toks) (fun b o hb e => eb b o hb e) f0 f1 f3 f4 f5⟩
  self := fun _ _ _ _ _ st h => wpAny_pyIter_rangeiter st h
end L2
namespace L2
open PySem PySem.Spec PyProof.Rows
section
variable {X : Cx} {tg : Expr}
def iList (K : PySem.W.Frag) (tl : TE) : TI := fun σ H R => tl σ H fun x H1 => ∃ a, x = .ref a ∧ (∃ xs, SqL K H1 a xs) ∧ R (Itl K a) H1
theorem pi_list {l : Expr} {tl : TE} (hl : PE X l tl) : PI X tg l (iList X.K tl) := by
  intro pins s σ H R I h
  refine thn (hl pins s σ H _ I h) fun v s1 ⟨x, H1, I1, r1, q1⟩ => ?_
  obtain ⟨a, e, ⟨xs, hq⟩, q⟩ := q1
  subst e
  cases r1
  obtain ⟨its, rv, p, hz⟩ := I1.list hq
  refine wpAny_pyIter_list p.isList ?_
  refine ⟨s1.heap.objs.size, [s1.heap.objs.size], _, _, H1, rfl, I1.kept (t' := s1.toks) fun b o e => Heap.get?_push_of_some _ e, turn_list a _, ⟨_, Heap.get?_push_size _ rfl, rfl, rfl⟩, fun b hb => ?_, q⟩
  have e : b = s1.heap.objs.size := by simpa using hb
  subst e
  exact I1.fpOk (Nat.le_refl _) (I1.hok.fresh (Nat.le_refl _))
theorem range_it {pins : List (Addr × Obj)} {σ : St} {H : Hp} {s : Shared} {R : It → Hp → Prop} {E : Value → Shared → Prop} {lo hi : Int} {t u v : Tok} {tk : Nat} (I : Inv X pins σ H s) (h1 : -(2 ^ 62) ≤ lo) (h2 : lo < 2 ^ 62) (h3 : -(2 ^ 62) ≤ hi) (h4 : hi < 2 ^ 62)
    (q : R (Itr lo (hi - lo).toNat) H) : wpAny (model X.prog X.w) X.A (pyIter (.ref s.heap.objs.size)) (PIE X pins σ tg R) E { s with heap := s.heap.push { cls := .type "range", data := .fields #[.int lo t, .int hi u, .int 1 v] }, toks := tk } := by
  refine wpAny_pyIter_range (IsRange.new ..) (small_one h1 h2 h3 h4) ?_
  have I1 : Inv X pins σ H { s with heap := s.heap.push { cls := .type "range", data := .fields #[.int lo t, .int hi u, .int 1 v] }, toks := tk } := I.kept fun b o e => Heap.get?_push_of_some _ e
  refine ⟨(s.heap.push { cls := .type "range", data := .fields #[.int lo t, .int hi u, .int 1 v] }).objs.size, [(s.heap.push { cls := .type "range", data := .fields #[.int lo t, .int hi u, .int 1 v] }).objs.size], _, _, H, rfl,
    I1.kept (t' := tk) fun b o e => Heap.get?_push_of_some _ e, turn_range _ lo (hi - lo).toNat, ?_, fun b hb => ?_, q⟩
  · have e1 : lo + ((0 : Nat) : Int) * 1 = lo := by simp
    have e2 : (((hi - lo).toNat : Nat) : Int) - ((0 : Nat) : Int) = Builtin.Range.rangeSize lo hi 1 := by rw [rangeSize_one]; split <;> omega
    show IsRangeIter _ _ (lo + ((0 : Nat) : Int) * 1) ((((hi - lo).toNat : Nat) : Int) - ((0 : Nat) : Int)) 1
    rw [e1, e2]
    exact Heap.get?_push_size _ rfl
  · have e : b = (s.heap.push { cls := .type "range", data := .fields #[.int lo t, .int hi u, .int 1 v] }).objs.size := by simpa using hb
    subst e
    exact I1.fpOk (Nat.le_refl _) (I1.hok.fresh (Nat.le_refl _))
def iRng1 (ta : TA) : TI := fun σ H R => ta σ H fun vs H1 => ∃ j : Int, vs = [.int j] ∧ -(2 ^ 62) ≤ j ∧ j < 2 ^ 62 ∧ R (Itr 0 j.toNat) H1
def iRng2 (ta : TA) : TI := fun σ H R => ta σ H fun vs H1 => ∃ i j : Int, vs = [.int i, .int j] ∧ (-(2 ^ 62) ≤ i ∧ i < 2 ^ 62 ∧ -(2 ^ 62) ≤ j ∧ j < 2 ^ 62) ∧ R (Itr i (j - i).toNat) H1
theorem pi_range1 {a : Expr} {ta : TA} {p pos : Pos} (hg : Gl X "range") (hm : X.mg "range" = none) (ha : PA X [a] ta) (hs : starEach [a] X.env = [(false, eval a X.env)] := by rfl) : PI X tg (.Call (.Name "range" p) [a] [] pos) (iRng1 ta) := by
  intro pins s σ H R I h
  refine Call_ (ld_blt I hg hm boot_range (PyProof.Rows.callWith_type1 (thn (ha pos pins s σ H _ I h) fun us s1 ⟨vs, H1, I1, r1, q1⟩ => ?_) hs rfl))
  obtain ⟨j, e, q1, q2, q⟩ := q1
  subst e
  cases r1 with
  | cons r rr =>
    cases rr
    obtain ⟨t, rfl⟩ := r
    exact call_range_1 (range_it I1 (by omega) (by omega) q1 q2 (by simpa using q))
theorem pi_range2 {a b : Expr} {ta : TA} {p pos : Pos} (hg : Gl X "range") (hm : X.mg "range" = none) (ha : PA X [a, b] ta) (hs : starEach [a, b] X.env = [(false, eval a X.env), (false, eval b X.env)] := by rfl) (hs2 : starEach [b] X.env = [(false, eval b X.env)] := by rfl) :
    PI X tg (.Call (.Name "range" p) [a, b] [] pos) (iRng2 ta) := by
  intro pins s σ H R I h
  refine Call_ (ld_blt I hg hm boot_range (PyProof.Rows.callWith_type1 (thn (ha pos pins s σ H _ I h) fun us s1 ⟨vs, H1, I1, r1, q1⟩ => ?_) (by rw [hs, hs2]) (by rw [hs2]; rfl)))
  obtain ⟨i, j, e, ⟨q1, q2, q3, q4⟩, q⟩ := q1
  subst e
  cases r1 with
  | cons r rr =>
    cases rr with
    | cons r' rr =>
      cases rr
      obtain ⟨t, rfl⟩ := r
      obtain ⟨t', rfl⟩ := r'
      exact call_range_2 (range_it I1 q1 q2 q3 q4 q)
def tFor (wi : TI) (g : TG) (tb : TS) : TS := fun D σ H => wi σ H fun J H1 => ∃ W : Nat → Nat → St → Hp → Prop, (∃ m, W 0 m σ H1) ∧ ∀ i m σ H, W i m σ H →
  (J.stop i H ∧ D.nx σ H) ∨ (J.go i H ∧ ∃ N : St → Hp → Prop, (∀ σ' H', N σ' H' → ∃ m', m' < m ∧ W (i + 1) m' σ' H') ∧ ∀ x H', J.yld i H x H' → g x σ H' fun σ2 H2 => tb { D with nx := N, ct := N, bk := D.nx } σ2 H2)
def pinsAt (fp : List Addr) (h : Heap) : List (Addr × Obj) := fp.filterMap fun b => (h.get? b).map fun o => (b, o)
theorem mem_pinsAt {fp : List Addr} {h : Heap} {b : Addr} {o : Obj} (hb : b ∈ fp) (e : h.get? b = some o) : (b, o) ∈ pinsAt fp h := List.mem_filterMap.mpr ⟨b, hb, by rw [e]; rfl⟩
theorem of_pinsAt {fp : List Addr} {h : Heap} {p : Addr × Obj} (hp : p ∈ pinsAt fp h) : p.1 ∈ fp ∧ h.get? p.1 = some p.2 := by
  obtain ⟨b, hb, e⟩ := List.mem_filterMap.mp hp
  cases q : h.get? b with
  | none => rw [q] at e; cases e
  | some o =>
    rw [q] at e
    have e' : (b, o) = p := Option.some.inj e
    subst e'
    exact ⟨hb, q⟩
theorem Inv.pinned {pins : List (Addr × Obj)} {σ : St} {H : Hp} {s : Shared} {fp : List Addr} (I : Inv X pins σ H s) (hf : ∀ b ∈ fp, FpOk X pins H b) (ho : ∀ b ∈ fp, ∃ o, s.heap.get? b = some o ∧ ∀ v, o.data ≠ .cell v) : Inv X (pins ++ pinsAt fp s.heap) σ H s :=
  I.pins_of fun p hp => (List.mem_append.mp hp).elim (fun z => I.pin p (List.mem_append_right _ z)) fun z => by
    obtain ⟨hb, e⟩ := of_pinsAt z
    obtain ⟨f0, f1, f2, _⟩ := hf p.1 hb
    obtain ⟨o, e', d⟩ := ho p.1 hb
    rw [e] at e'; cases e'
    exact ⟨e, f0, f1, f2, d⟩
theorem Inv.unpinned {pins pl : List (Addr × Obj)} {σ : St} {H : Hp} {s : Shared} (I : Inv X (pins ++ pl) σ H s) : Inv X pins σ H s := I.pins_of fun p hp => I.pin p (List.mem_append_right _ (List.mem_append_left _ hp))
theorem ps_for {iter : Expr} {body : List Stmt} {wi : TI} {g : TG} {tb : TS} {pos : Pos} (hp : PassesOwn (model X.prog X.w) X.A X.env X.xe) (hc : X.calm = true) (hi : PI X tg iter wi) (hg : PG X tg g) (hb : PSs X body tb)
    (hs : ∀ x, foldedSetIterable iter X.env x = pure x := by intro _; rfl) : PS X (.For tg iter body [] pos) (tFor wi g tb) := by
  intro pins s σ H D I h
  refine wpAny_For (thn (hi pins s σ H _ I h) fun v s1 h1 => thn h1 fun itv s2 h2 => ?_) hs
  obtain ⟨it, fp, tn, J, H2, e, I2, T, st2, f2, W, ⟨m0, w0⟩, turn⟩ := h2
  subst e
  -- what stays true of the iterator's objects through the loop
  have stat : ∀ {H' : Hp}, (∀ b ∈ fp, H' b = none) → ∀ b ∈ fp, FpOk X pins H' b := fun hn b hb => ⟨hn b hb, (f2 b hb).2⟩
  refine codeAny_forLoop_any (fun n s' => ∃ i σ' H', Inv X pins σ' H' s' ∧ tn i s'.heap ∧ (∀ b ∈ fp, H' b = none) ∧ W i n σ' H') ?_ m0 ⟨0, σ, H2, I2, st2, fun b hb => (f2 b hb).1, w0⟩
  rintro n s3 ⟨i, σ3, H3, I3, st3, fr3, w3⟩
  rcases turn i n σ3 H3 w3 with ⟨stop, qn⟩ | ⟨go, N, hN, step⟩
  · refine wpAny_passesOwn hp (thn (T.done X rfl rfl rfl hc i pins s3 σ3 H3 X.xe I3 (stat fr3) st3 stop) fun r s4 ⟨hr, I4⟩ => ?_)
    subst hr
    exact wpAny_execs_nil ⟨σ3, H3, I4, qn⟩
  · refine wpAny_passesOwn hp (thn (T.item X rfl rfl rfl hc i pins s3 σ3 H3 X.xe I3 (stat fr3) st3 go) fun r s4 ⟨u, hr, h4⟩ => ?_)
    subst hr
    refine wpAny_passesOwn hp (thn h4 fun _ s5 ⟨x, H5, I5, r5, y5, st5, fr5⟩ => ?_)
    have I5' := I5.pinned (stat fr5) (T.obj _ _ st5)
    refine wpAny_passesOwn hp (thn (hg _ s5 σ3 H5 x u _ I5' r5 (step x H5 y5)) fun _ s6 ⟨σ6, H6, I6, q6⟩ => ?_)
    refine wpAny_passesOwn hp (thn (hb _ s6 σ6 H6 _ I6 q6) fun f s7 q7 => ?_)
    have again : ∀ {σ7 : St} {H7 : Hp}, Inv X (pins ++ pinsAt fp s5.heap) σ7 H7 s7 → N σ7 H7 → ∃ m, m < n ∧ ∃ i σ' H', Inv X pins σ' H' s7 ∧ tn i s7.heap ∧ (∀ b ∈ fp, H' b = none) ∧ W i m σ' H' := fun {σ7 H7} I7 n7 => by
      obtain ⟨m', hm, w7⟩ := hN σ7 H7 n7
      refine ⟨m', hm, i + 1, σ7, H7, I7.unpinned, T.keep _ _ _ st5 fun b hb o e => (I7.pin (b, o) (List.mem_append_right _ (List.mem_append_right _ (mem_pinsAt hb e)))).1, fun b hb => ?_, w7⟩
      obtain ⟨o, e, d⟩ := T.obj _ _ st5 b hb
      exact (I7.pin (b, o) (List.mem_append_right _ (List.mem_append_right _ (mem_pinsAt hb e)))).2.1
    cases f with
    | next => obtain ⟨σ7, H7, I7, n7⟩ := q7; exact again I7 n7
    | cont => obtain ⟨σ7, H7, I7, n7⟩ := q7; exact again I7 n7
    | brk => obtain ⟨σ7, H7, I7, q7⟩ := q7; exact ⟨σ7, H7, I7.unpinned, q7⟩
    | ret v => obtain ⟨x7, σ7, H7, I7, r7, q7⟩ := q7; exact ⟨x7, σ7, H7, I7.unpinned, r7, q7⟩
end
theorem for_list {K : PySem.W.Frag} {a : Addr} {xs : List V} {g : TG} {tb : TS} {D : Ends} {σ : St} {H : Hp} (Pv : Nat → St → Hp → Prop) (h0 : Pv 0 σ H) (hl : ∀ i σ H, i ≤ xs.length → Pv i σ H → SqL K H a xs)
    (hs : ∀ i x σ H, xs[i]? = some x → Pv i σ H → g x σ H fun σ2 H2 => tb { D with nx := Pv (i + 1), ct := Pv (i + 1), bk := D.nx } σ2 H2) (hd : ∀ σ H, Pv xs.length σ H → D.nx σ H) :
    ∃ W : Nat → Nat → St → Hp → Prop, (∃ m, W 0 m σ H) ∧ ∀ i m σ H, W i m σ H →
      ((Itl K a).stop i H ∧ D.nx σ H) ∨ ((Itl K a).go i H ∧ ∃ N : St → Hp → Prop, (∀ σ' H', N σ' H' → ∃ m', m' < m ∧ W (i + 1) m' σ' H') ∧ ∀ x H', (Itl K a).yld i H x H' → g x σ H' fun σ2 H2 => tb { D with nx := N, ct := N, bk := D.nx } σ2 H2) := by
  refine ⟨fun i m σ H => m = xs.length - i ∧ i ≤ xs.length ∧ Pv i σ H, ⟨xs.length, by simp, Nat.zero_le _, h0⟩, ?_⟩
  rintro i m σ H ⟨rfl, hi, p⟩
  have q := hl i σ H hi p
  by_cases hlt : i < xs.length
  · refine .inr ⟨⟨xs, xs[i], q, by simp [hlt]⟩, Pv (i + 1), fun σ' H' p' => ⟨xs.length - (i + 1), by omega, rfl, hlt, p'⟩, fun x H' y => ?_⟩
    obtain ⟨e, y⟩ := y
    subst e
    exact hs i x σ _ (y xs q) p
  · have e : i = xs.length := by omega
    subst e
    exact .inl ⟨⟨xs, q, Nat.le_refl _⟩, hd σ H p⟩
theorem for_range {lo : Int} {n : Nat} {g : TG} {tb : TS} {D : Ends} {σ : St} {H : Hp} (Pv : Nat → St → Hp → Prop) (h0 : Pv 0 σ H)
    (hs : ∀ i σ H, i < n → Pv i σ H → g (.int (lo + i)) σ H fun σ2 H2 => tb { D with nx := Pv (i + 1), ct := Pv (i + 1), bk := D.nx } σ2 H2) (hd : ∀ σ H, Pv n σ H → D.nx σ H) :
    ∃ W : Nat → Nat → St → Hp → Prop, (∃ m, W 0 m σ H) ∧ ∀ i m σ H, W i m σ H →
      ((Itr lo n).stop i H ∧ D.nx σ H) ∨ ((Itr lo n).go i H ∧ ∃ N : St → Hp → Prop, (∀ σ' H', N σ' H' → ∃ m', m' < m ∧ W (i + 1) m' σ' H') ∧ ∀ x H', (Itr lo n).yld i H x H' → g x σ H' fun σ2 H2 => tb { D with nx := N, ct := N, bk := D.nx } σ2 H2) := by
  refine ⟨fun i m σ H => m = n - i ∧ i ≤ n ∧ Pv i σ H, ⟨n, by simp, Nat.zero_le _, h0⟩, ?_⟩
  rintro i m σ H ⟨rfl, hi, p⟩
  by_cases hlt : i < n
  · refine .inr ⟨hlt, Pv (i + 1), fun σ' H' p' => ⟨n - (i + 1), by omega, rfl, hlt, p'⟩, fun x H' y => ?_⟩
    obtain ⟨e, y⟩ := y
    subst e y
    exact hs i σ _ hlt p
  · have e : i = n := by omega
    subst e
    exact .inl ⟨Nat.le_refl _, hd σ H p⟩
theorem while_by {c : TT} {tb : TS} {D : Ends} {σ : St} {H : Hp} (Pv : St → Hp → Prop) (μ : St → Hp → Nat) (h0 : Pv σ H)
    (hs : ∀ σ H, Pv σ H → c σ H fun b H1 => if b = true then tb { D with nx := fun σ' H' => Pv σ' H' ∧ μ σ' H' < μ σ H, ct := fun σ' H' => Pv σ' H' ∧ μ σ' H' < μ σ H, bk := D.nx } σ H1 else D.nx σ H1)
    (mono : ∀ σ H Q Q', (∀ b H1, Q b H1 → Q' b H1) → c σ H Q → c σ H Q') : tWhile c tb D σ H := by
  refine ⟨fun m σ H => m = μ σ H ∧ Pv σ H, ⟨_, rfl, h0⟩, ?_⟩
  rintro m σ H ⟨rfl, p⟩
  refine mono σ H _ _ (fun b H1 q => ?_) (hs σ H p)
  cases b with
  | true => exact ⟨_, fun σ' H' ⟨p', l⟩ => ⟨_, l, rfl, p'⟩, q⟩
  | false => exact q
end L2
namespace L2
open PySem PySem.Spec PyProof.Rows
abbrev R2 := V → V → Hp → VK → Prop
def OpR (X : Cx) (f : Value → Value → Sem Value) (r : R2) : Prop :=
  ∀ (pins : List (Addr × Obj)) (s : Shared) (σ : St) (H : Hp) (x y : V) (v u : Value) (Q : VK), Inv X pins σ H s → RelV x v → RelV y u → r x y H Q →
    wpAny (model X.prog X.w) X.A (f v u) (EP X pins σ Q) X.xe s
def UnR (X : Cx) (f : Value → Sem Value) (r : V → Hp → VK → Prop) : Prop :=
  ∀ (pins : List (Addr × Obj)) (s : Shared) (σ : St) (H : Hp) (x : V) (v : Value) (Q : VK), Inv X pins σ H s → RelV x v → r x H Q →
    wpAny (model X.prog X.w) X.A (f v) (EP X pins σ Q) X.xe s
def CallR (X : Cx) (f : Value) (r : List V → Hp → VK → Prop) : Prop :=
  ∀ (pins : List (Addr × Obj)) (s : Shared) (σ : St) (H : Hp) (xs : List V) (us : List Value) (Q : VK), Inv X pins σ H s → Vals xs us → r xs H Q →
    wpAny (model X.prog X.w) X.A (call f us) (EP X pins σ Q) X.xe s
def tOp (r : R2) (ta tb : TE) : TE := fun σ H Q => ta σ H fun x H1 => tb σ H1 fun y H2 => r x y H2 Q
def tUn (r : V → Hp → VK → Prop) (ta : TE) : TE := fun σ H Q => ta σ H fun x H1 => r x H1 Q
def rI (C : Int → Int → Prop) (g : Int → Int → V) : R2 := fun x y H Q => ∃ i j, x = .int i ∧ y = .int j ∧ C i j ∧ Q (g i j) H
def rI0 (g : Int → Int → V) : R2 := fun x y H Q => ∃ i j, x = .int i ∧ y = .int j ∧ Q (g i j) H
def rU (g : Int → V) : V → Hp → VK → Prop := fun x H Q => ∃ i, x = .int i ∧ Q (g i) H
section
variable {X : Cx} {a b c : Expr} {ta tb tc : TE} {pos : Pos}
theorem binT (ha : PE X a ta) (hb : PE X b tb) {pins : List (Addr × Obj)} {s : Shared} {σ : St} {H : Hp} {R : V → V → Hp → Prop} (I : Inv X pins σ H s)
    (h : ta σ H fun x H1 => tb σ H1 fun y H2 => R x y H2) {Q : Value → Shared → Prop} {f : Value → Value → Sem Value}
    (hf : ∀ v u s2 x y H2, Inv X pins σ H2 s2 → RelV x v → RelV y u → R x y H2 → wpAny (model X.prog X.w) X.A (f v u) Q X.xe s2) :
    wpAny (model X.prog X.w) X.A (eval a X.env) (fun v s₁ => wpAny (model X.prog X.w) X.A (eval b X.env) (fun u s₂ => wpAny (model X.prog X.w) X.A (f v u) Q X.xe s₂) X.xe s₁) X.xe s := by
  refine thn (ha pins s σ H _ I h) fun v s1 ⟨x, H1, I1, r1, q1⟩ => ?_
  refine thn (hb pins s1 σ H1 _ I1 q1) fun u s2 ⟨y, H2, I2, r2, q2⟩ => ?_
  exact hf v u s2 x y H2 I2 r1 r2 q2
theorem pe_op {op : Operator} {r : R2} (ho : OpR X (binaryOp op) r) (ha : PE X a ta) (hb : PE X b tb) : PE X (.BinOp a op b pos) (tOp r ta tb) := by
  intro pins s σ H Q I h
  exact wpAny_BinOp (binT ha hb I h fun v u s2 x y H2 I2 rx ry q => ho pins s2 σ H2 x y v u Q I2 rx ry q)
theorem pe_un {op : UnaryOp} {r : V → Hp → VK → Prop} (ho : UnR X (unaryOp op) r) (ha : PE X a ta) : PE X (.UnaryOp op a pos) (tUn r ta) := by
  intro pins s σ H Q I h
  exact UnaryOp_ (thn (ha pins s σ H _ I h) fun v s1 ⟨x, H1, I1, r1, q1⟩ => ho pins s1 σ H1 x v Q I1 r1 q1)
theorem opI {f : Value → Value → Sem Value} {C : Int → Int → Prop} {g : Int → Int → Int}
    (rule : ∀ (i j : Int) (t u : Tok) (s : Shared) (Q : Value → Shared → Prop) (E : Value → Shared → Prop), C i j → Q (.int (g i j) s.toks) { s with toks := s.toks + 1 } → wpAny (model X.prog X.w) X.A (f (.int i t) (.int j u)) Q E s) :
    OpR X f (rI C fun i j => .int (g i j)) := by
  intro pins s σ H x y v u Q I rx ry h
  obtain ⟨i, j, rfl, rfl, hc, q⟩ := h
  obtain ⟨t, rfl⟩ := rx
  obtain ⟨t', rfl⟩ := ry
  exact rule i j t t' s _ _ hc ⟨.int (g i j), H, I.tok _, ⟨_, rfl⟩, q⟩
theorem opI0 {f : Value → Value → Sem Value} {g : Int → Int → Int}
    (rule : ∀ (i j : Int) (t u : Tok) (s : Shared) (Q : Value → Shared → Prop) (E : Value → Shared → Prop), Q (.int (g i j) s.toks) { s with toks := s.toks + 1 } → wpAny (model X.prog X.w) X.A (f (.int i t) (.int j u)) Q E s) :
    OpR X f (rI0 fun i j => .int (g i j)) := by
  intro pins s σ H x y v u Q I rx ry h
  obtain ⟨i, j, rfl, rfl, q⟩ := h
  obtain ⟨t, rfl⟩ := rx
  obtain ⟨t', rfl⟩ := ry
  exact rule i j t t' s _ _ ⟨.int (g i j), H, I.tok _, ⟨_, rfl⟩, q⟩
theorem opB0 {f : Value → Value → Sem Value} {g : Int → Int → Bool}
    (rule : ∀ (i j : Int) (t u : Tok) (s : Shared) (Q : Value → Shared → Prop) (E : Value → Shared → Prop), Q (.bool (g i j)) s → wpAny (model X.prog X.w) X.A (f (.int i t) (.int j u)) Q E s) :
    OpR X f (rI0 fun i j => .bl (g i j)) := by
  intro pins s σ H x y v u Q I rx ry h
  obtain ⟨i, j, rfl, rfl, q⟩ := h
  obtain ⟨t, rfl⟩ := rx
  obtain ⟨t', rfl⟩ := ry
  exact rule i j t t' s _ _ ⟨.bl (g i j), H, I, rfl, q⟩
def CPow (i j : Int) : Prop := 0 ≤ j ∧ j ≤ 1000000 ∧ i.natAbs < 2 ^ 64
def CMul (i j : Int) : Prop := (-(2 ^ 64) < i ∧ i < 2 ^ 64) ∨ (-(2 ^ 64) < j ∧ j < 2 ^ 64)
theorem CMul.ok {i j : Int} (h : CMul i j) : IntMulOk i j := by
  rcases h with ⟨h1, h2⟩ | ⟨h1, h2⟩
  · exact .of_left (intBits_le_64 h1 h2)
  · exact .of_right (intBits_le_64 h1 h2)
theorem op_add : OpR X (binaryOp .Add) (rI0 fun i j => .int (i + j)) := opI0 fun _ _ _ _ _ _ _ q => add_int q
theorem op_sub : OpR X (binaryOp .Sub) (rI0 fun i j => .int (i - j)) := opI0 fun _ _ _ _ _ _ _ q => sub_int q
theorem op_mul : OpR X (binaryOp .Mult) (rI CMul fun i j => .int (i * j)) := opI fun _ _ _ _ _ _ _ hc q => mul_int q hc.ok
theorem op_mod : OpR X (binaryOp .Mod) (rI (fun _ j => 0 < j) fun i j => .int (i % j)) := opI fun i j _ _ _ _ _ hc q => by
  have h1 : (0 : Int) < j := hc
  exact mod_int' (by omega) (by rw [Int.fmod_eq_emod_of_nonneg i (by omega)]; exact q)
theorem op_shl : OpR X (binaryOp .LShift) (rI CPow fun i j => .int (i * 2 ^ j.toNat)) := opI fun _ _ _ _ _ _ _ hc q => lshift_int_small hc.1 hc.2.1 hc.2.2 q
theorem op_or : OpR X (binaryOp .BitOr) (rI0 fun i j => .int (Builtin.bitOr i j)) := opI0 fun _ _ _ _ _ _ _ q => or_int q
theorem unI {f : Value → Sem Value} {g : Int → Int}
    (rule : ∀ (i : Int) (t : Tok) (s : Shared) (Q : Value → Shared → Prop) (E : Value → Shared → Prop), Q (.int (g i) s.toks) { s with toks := s.toks + 1 } → wpAny (model X.prog X.w) X.A (f (.int i t)) Q E s) :
    UnR X f (rU fun i => .int (g i)) := by
  intro pins s σ H x v Q I rx h
  obtain ⟨i, rfl, q⟩ := h
  obtain ⟨t, rfl⟩ := rx
  exact rule i t s _ _ ⟨.int (g i), H, I.tok _, ⟨_, rfl⟩, q⟩
theorem un_neg : UnR X (unaryOp .USub) (rU fun i => .int (-i)) := unI fun _ _ _ _ _ q => neg_int q
end
def scal : V → V → Bool
  | .non, .non => true | .non, .int _ => true | .int _, .non => true | .non, .bl _ => true | .bl _, .non => true | .non, .str _ => true | .str _, .non => true
  | .int _, .int _ => true | .bl _, .bl _ => true | .str _, .str _ => true | .byt _, .byt _ => true
  | .int _, .str _ => true | .str _, .int _ => true | .bl _, .str _ => true | .str _, .bl _ => true
  | _, _ => false
def rEq : R2 := fun x y H Q => scal x y = true ∧ Q (.bl (decide (x = y))) H
theorem dec_int {i j : Int} : decide (V.int i = V.int j) = (i == j) := by
  rw [Bool.eq_iff_iff]
  simp
theorem dec_bl {i j : Bool} : decide (V.bl i = V.bl j) = (i == j) := by
  rw [Bool.eq_iff_iff]
  simp
theorem dec_str {i j : Str} : decide (V.str i = V.str j) = (i == j) := by
  rw [Bool.eq_iff_iff]
  simp
theorem dec_byt {i j : Array UInt8} : decide (V.byt i = V.byt j) = (i.toList == j.toList) := by
  rw [Bool.eq_iff_iff]
  cases i
  cases j
  simp
section
variable {X : Cx} {a b c : Expr} {ta tb tc : TE} {pos : Pos}
theorem fin_bl {pins : List (Addr × Obj)} {σ : St} {H : Hp} {s : Shared} {Q : VK} {k k' : Bool} (I : Inv X pins σ H s) (q : Q (.bl k) H) (e : k = k') : EP X pins σ Q (.bool k') s := by
  subst e
  exact ⟨.bl k, H, I, rfl, q⟩
theorem op_eq : OpR X (compareOp .Eq) rEq := by
  intro pins s σ H x y v u Q I rx ry h
  obtain ⟨hs, q⟩ := h
  cases x with
  | non =>
    cases rx
    cases y with
    | non => cases ry; exact PySem.EqNone.eq_none_none (fin_bl I q (by simp))
    | bl j => cases ry; exact PySem.EqNone.eq_none_bool (fin_bl I q (by simp))
    | int j => obtain ⟨t', rfl⟩ := ry; exact PySem.EqNone.eq_none_int (fin_bl I q (by simp))
    | str j => obtain ⟨t', rfl⟩ := ry; exact PySem.EqNone.eq_none_str (fin_bl I q (by simp))
    | _ => exact absurd (show false = true from hs) Bool.false_ne_true
  | bl i =>
    cases rx
    cases y with
    | non => cases ry; exact PySem.EqNone.eq_bool_none (fin_bl I q (by simp))
    | bl j => cases ry; exact eq_bool (fin_bl I q dec_bl)
    | str j => obtain ⟨t', rfl⟩ := ry; exact PySem.EqMixed.eq_bool_str (fin_bl I q (by simp))
    | _ => exact absurd (show false = true from hs) Bool.false_ne_true
  | int i =>
    obtain ⟨t, rfl⟩ := rx
    cases y with
    | non => cases ry; exact PySem.EqNone.eq_int_none (fin_bl I q (by simp))
    | int j => obtain ⟨t', rfl⟩ := ry; exact eq_int (fin_bl I q dec_int)
    | str j => obtain ⟨t', rfl⟩ := ry; exact PySem.EqMixed.eq_int_str (fin_bl I q (by simp))
    | _ => exact absurd (show false = true from hs) Bool.false_ne_true
  | str i =>
    obtain ⟨t, rfl⟩ := rx
    cases y with
    | non => cases ry; exact PySem.EqNone.eq_str_none (fin_bl I q (by simp))
    | bl j => cases ry; exact PySem.EqMixed.eq_str_bool (fin_bl I q (by simp))
    | int j => obtain ⟨t', rfl⟩ := ry; exact PySem.EqMixed.eq_str_int (fin_bl I q (by simp))
    | str j => obtain ⟨t', rfl⟩ := ry; exact eq_str (fin_bl I q dec_str)
    | _ => exact absurd (show false = true from hs) Bool.false_ne_true
  | byt i =>
    obtain ⟨t, rfl⟩ := rx
    cases y with
    | byt j => obtain ⟨t', rfl⟩ := ry; exact PySem.W.eq_bytes (fin_bl I q dec_byt)
    | _ => exact absurd (show false = true from hs) Bool.false_ne_true
  | _ => cases y <;> exact absurd (show false = true from hs) Bool.false_ne_true
theorem op_lt : OpR X (compareOp .Lt) (rI0 fun i j => .bl (decide (i < j))) := opB0 fun _ _ _ _ _ _ _ q => lt_int q
theorem op_le : OpR X (compareOp .LtE) (rI0 fun i j => .bl (decide (i ≤ j))) := opB0 fun _ _ _ _ _ _ _ q => le_int q
theorem op_gt : OpR X (compareOp .Gt) (rI0 fun i j => .bl (decide (j < i))) := opB0 fun _ _ _ _ _ _ _ q => gt_int q
theorem op_ge : OpR X (compareOp .GtE) (rI0 fun i j => .bl (decide (j ≤ i))) := opB0 fun _ _ _ _ _ _ _ q => ge_int q
theorem nomark (b : Expr) {op : CmpOp} (h : op ≠ .In := by decide) (h2 : op ≠ .NotIn := by decide) : behindInMarks op b = false := by
  have e1 : (op == CmpOp.In) = false := by cases op <;> first | rfl | exact absurd rfl h
  have e2 : (op == CmpOp.NotIn) = false := by cases op <;> first | rfl | exact absurd rfl h2
  cases b <;> simp [behindInMarks, e1, e2]
theorem pe_cmpR {op : CmpOp} {r : R2} (ho : OpR X (compareOp op) r) (ha : PE X a ta) (hb : PE X b tb) (hm : behindInMarks op b = false) : PE X (.Compare a [op] [b] pos) (tOp r ta tb) := by
  intro pins s σ H Q I h
  exact wpAny_Compare1 (binT ha hb I h fun v u s2 x y H2 I2 rx ry q => ho pins s2 σ H2 x y v u Q I2 rx ry q) hm
def tTest (t : TE) : TT := fun σ H Q => t σ H fun x H' => ∃ k, x = .bl k ∧ Q k H'
theorem pt_cmpR {op : CmpOp} {r : R2} (ho : OpR X (compareOp op) r) (ha : PE X a ta) (hb : PE X b tb) (hm : behindInMarks op b = false) : PT X (.Compare a [op] [b] pos) (tTest (tOp r ta tb)) := by
  intro pins s σ H Q I h
  refine wpAny_isTrue_Compare1 (thn (ha pins s σ H _ I h) fun v s1 ⟨x, H1, I1, r1, q1⟩ => thn (hb pins s1 σ H1 _ I1 q1) fun u s2 ⟨y, H2, I2, r2, q2⟩ =>
    thn (ho pins s2 σ H2 x y v u _ I2 r1 r2 q2) fun c s3 ⟨z, H3, I3, r3, k, e, q3⟩ => ?_) hm
  subst e
  cases r3
  exact wpAny_truthy_bool ⟨H3, I3, q3⟩
def tChain (r r' : R2) (ta tb tc : TE) : TE := fun σ H Q => ta σ H fun x H1 => tb σ H1 fun y H2 => r x y H2 fun z H3 => ∃ k, z = .bl k ∧
  (if k = true then tc σ H3 fun w' H4 => r' y w' H4 Q else Q (.bl false) H3)
theorem pe_chain {op op' : CmpOp} {r r' : R2} (ho : OpR X (compareOp op) r) (ho' : OpR X (compareOp op') r') (ha : PE X a ta) (hb : PE X b tb) (hc : PE X c tc)
    (hm : lastMarks [op, op'] [b, c] = false := by with_unfolding_all rfl) : PE X (.Compare a [op, op'] [b, c] pos) (tChain r r' ta tb tc) := by
  intro pins s σ H Q I h
  refine Compare_chain (thn (ha pins s σ H _ I h) fun v s1 ⟨x, H1, I1, r1, q1⟩ => chain_link (thn (hb pins s1 σ H1 _ I1 q1) fun u s2 ⟨y, H2, I2, r2, q2⟩ =>
    thn (ho pins s2 σ H2 x y v u _ I2 r1 r2 q2) fun d s3 ⟨z, H3, I3, r3, k, e, q3⟩ => ?_)) hm
  subst e
  cases r3
  refine wpAny_truthy_bool ?_
  cases k with
  | false => exact ite_ff ⟨.bl false, H3, I3, rfl, q3⟩
  | true => exact ite_tt (chain_last (thn (hc pins s3 σ H3 _ I3 q3) fun w' s4 ⟨z', H4, I4, r4, q4⟩ => ho' pins s4 σ H4 y z' u w' Q I4 r2 r4 q4))
theorem line63 : (sizeLine : Nat) < 2 ^ 63 := by rw [sizeLine_eq]; decide
theorem vals1 {x : V} {us : List Value} (r : Vals [x] us) : ∃ u, us = [u] ∧ RelV x u := by
  cases r with
  | cons r1 r2 => cases r2; exact ⟨_, rfl, r1⟩
end
end L2
namespace L2
open PySem PySem.Spec PyProof.Rows
structure ObjM (h : Heap) (x dx C : Addr) (mA : Str → Option Value) : Prop where
  obj : h.get? x = some (PySem.W.instObj C dx)
  ns : h.Ns1 dx mA
  ne : dx ≠ x
theorem lookIn_ns {h : Heap} {dx : Addr} {mA : Str → Option Value} (n : h.Ns1 dx mA) : ∃ od, h.get? dx = some od ∧ ∀ name, PySem.W.lookIn name od = some (mA name) := by
  obtain ⟨o, es, ep, ho, hd, hk, _, hm⟩ := n
  refine ⟨o, ho, fun name => ?_⟩
  have e := hm name
  unfold nsFind findBy at e
  rw [← Array.find?_toList] at e
  unfold PySem.W.lookIn
  rw [hd]
  dsimp only
  split
  · rename_i y q
    rw [q] at e
    exact congrArg some e
  · rename_i q
    rw [q] at e
    have a : es.toList.any (·.refKey) = false := by
      rw [List.any_eq_false]
      intro y hy
      obtain ⟨z, t, hkey⟩ := hk y (Array.mem_toList_iff.mp hy)
      simp [DictEntry.refKey, hkey]
    have a' : ¬ es.toList.any (·.refKey) = true := by rw [a]; exact Bool.false_ne_true
    rw [if_neg a']
    exact congrArg some e
theorem ObjM.look {h : Heap} {x dx C : Addr} {mA : Str → Option Value} (I : ObjM h x dx C mA) : ∃ od, PySem.W.InstAt h x (PySem.W.instObj C dx) C (some od) ∧ ∀ name, PySem.W.lookIn name od = some (mA name) :=
  let ⟨od, ho, hl⟩ := lookIn_ns I.ns
  ⟨od, ⟨I.obj, rfl, rfl, ho⟩, hl⟩
section
variable {prog : Program} {w : World} {A : Around} {E : Value → Shared → Prop} {s : Shared} {K : PySem.W.Frag} {x dx C f : Addr} {mA : Str → Option Value} {name : Str} {v : Value}
theorem get_map {expr : Bool} {Q : Value → Shared → Prop} (X : K.In s.heap) (I : ObjM s.heap x dx C mA) (hg : PySem.W.plainGet K C name = true) (hh : PySem.W.hasDictIn K C = true)
    (ha : PySem.W.findIn K (.ref C) name = some none) (hv : mA name = some v) (hv' : PySem.W.handedIn v = true) (h : Q v { s with toks := s.toks + 1 }) :
    wpAny (model prog w) A (getAttr (.ref x) name expr) Q E s := by
  obtain ⟨od, J, hl⟩ := I.look
  exact PySem.W.get_value X J (PySem.W.plainGet_of hg).1 (PySem.W.findObj_own hh ha rfl (by rw [hl, hv])) hv' h
theorem get_meth {pl : Sem Bool} {Q : Value × List Value → Shared → Prop} (X : K.In s.heap) (I : ObjM s.heap x dx C mA) (hg : PySem.W.plainGet K C name = true)
    (hf : PySem.W.findIn K (.ref C) name = some (some (.ref f))) (ht : PySem.W.isFn K (.ref f) = true) (hv : mA name = none) (h : Q (.ref f, [.ref x]) s) :
    wpAny (model prog w) A (getMethod (.ref x) name pl) Q E s := by
  obtain ⟨od, J, hl⟩ := I.look
  exact PySem.W.method_fn X J (PySem.W.plainGet_of hg).1 (PySem.W.plainGet_of hg).2 hf (beq_iff_eq.mp ht) (by show (PySem.W.lookIn name od).map (·.isSome) = some false; rw [hl, hv]; rfl) h
theorem set_map {ns : List Str} {Q : Unit → Shared → Prop} (X : K.In s.heap) (I : ObjM s.heap x dx C mA)
    (hs : PySem.W.findIn K (.ref C) "__setattr__" = some (some (.builtin "object.__setattr__"))) (hp : PySem.W.plainOver K C = true) (ht : PySem.W.takerIn K C name = some none) (hh : PySem.W.hasDictIn K C = true)
    (hw : PySem.Within mA ns) (hsz : ns.length ≤ sizeLine)
    (h : ∀ h', ObjM h' x dx C (fun y => if y = name then some v else mA y) → Heap.SameBut dx s.heap h' → Q () { s with heap := h', toks := s.toks + 2 }) :
    wpAny (model prog w) A (setAttr (.ref x) name v) Q E s := by
  obtain ⟨od, J, hl⟩ := I.look
  refine PySem.W.set_plain X J hs (PySem.W.osa_open (s := { s with toks := s.toks + 1 }) (r := none) X J hp ht fun b => ?_)
  obtain ⟨cd, hc, hd'⟩ := PySem.W.any_some hh
  have hx : s.heap.get? x = some ⟨.ref C, some dx, .plain, #[]⟩ := I.obj
  refine wpAny_bind (wpAny_pure (wpAny_bind (wpAny_bind (wpAny_loadPart hx (wpAny_bind (PySem.W.Looks.here (s := { s with toks := s.toks + 1 }) (PySem.W.looks_clsIn X hc) ?_))))))
  rw [hd']
  refine wpAny_pure (a := some dx) (wpAny_bind (wpAny_pure (wpAny_bind ?_)))
  refine wpAny_nsSet1 (s := { s with toks := s.toks + 1 }) I.ns fun h' hn2 hs2 => ?_
  obtain ⟨oD, esD, epD, hoD, hdD, hcD⟩ := hn2.count (PySem.Within.cons name v hw)
  refine wpAny_bind (wpAny_lookBehind hoD (by rw [hdD]; exact pastItsLine_dict (Nat.le_trans hcD (by rw [List.length_cons]; omega))) ?_)
  exact wpAny_pure (h _ ⟨(hs2.2 _ (Ne.symm I.ne)).trans I.obj, hn2, I.ne⟩ hs2)
theorem make_map {R : Result → Shared → Prop} {vs : List Value} {kw : List (Str × Value)} (X : K.In s.heap) (hm : PySem.W.makesIn K C = true)
    (hi : PySem.W.findIn K (.ref C) "__init__" = some (some (.ref f))) (hf : PySem.W.typeIn K (.ref f) = some (.type "function"))
    (h : codeAny (model prog w) (A.under (.builtin "type.__call__" ⟨.ref C :: vs, kw⟩)) (.call (.ref f) ⟨.ref (s.heap.objs.size + 1) :: vs, kw⟩) (PySem.W.InitBack (s.heap.objs.size + 1) R)
      { s with heap := (s.heap.push PySem.W.emptyDict).push (PySem.W.instObj C s.heap.objs.size) }) :
    codeAny (model prog w) A (.call (.ref C) ⟨vs, kw⟩) R s := by
  obtain ⟨hh, g, d, t, os⟩ := s
  exact PySem.W.make_core (PySem.W.makes_of X hm) (PySem.W.looks_findIn X hi) (fun self => PySem.W.bind_fn X self hf) (.inl rfl) h
end
def putF (f : Str) (v : V) : List (Str × V) → List (Str × V)
  | [] => [(f, v)]
  | (g, x) :: r => if g = f then (g, v) :: r else (g, x) :: putF f v r
theorem lookup_putF (f g : Str) (v : V) : ∀ fs : List (Str × V), (putF f v fs).lookup g = if g = f then some v else fs.lookup g
  | [] => by
    show List.lookup g [(f, v)] = _
    by_cases h : g = f
    · have hb : (g == f) = true := beq_iff_eq.mpr h
      simp only [List.lookup, hb, if_pos h]
    · have hb : (g == f) = false := beq_eq_false_iff_ne.mpr h
      simp only [List.lookup, hb, if_neg h]
  | (k, x) :: r => by
    have ih := lookup_putF f g v r
    rw [show putF f v ((k, x) :: r) = (if k = f then (k, v) :: r else (k, x) :: putF f v r) from rfl]
    by_cases hk : k = f
    · rw [if_pos hk]
      by_cases h : g = k
      · have hb : (g == k) = true := beq_iff_eq.mpr h
        simp only [List.lookup, hb, if_pos (h.trans hk)]
      · have hb : (g == k) = false := beq_eq_false_iff_ne.mpr h
        simp only [List.lookup, hb, if_neg (fun e : g = f => h (e.trans hk.symm))]
    · rw [if_neg hk]
      by_cases h : g = k
      · have hb : (g == k) = true := beq_iff_eq.mpr h
        simp only [List.lookup, hb, if_neg (fun e : g = f => hk (h.symm.trans e))]
      · have hb : (g == k) = false := beq_eq_false_iff_ne.mpr h
        simp only [List.lookup, hb]
        exact ih
theorem keys_putF (f : Str) (v : V) : ∀ fs : List (Str × V), f ∈ (putF f v fs).map (·.1) ∧ ∀ g, g ∈ fs.map (·.1) → g ∈ (putF f v fs).map (·.1)
  | [] => ⟨by simp [putF], fun g h => by simp at h⟩
  | (k, x) :: r => by
    obtain ⟨i1, i2⟩ := keys_putF f v r
    rw [show putF f v ((k, x) :: r) = (if k = f then (k, v) :: r else (k, x) :: putF f v r) from rfl]
    by_cases hk : k = f
    · rw [if_pos hk]
      subst hk
      exact ⟨by simp, fun g h => by simpa using h⟩
    · rw [if_neg hk]
      refine ⟨?_, fun g h => ?_⟩
      · rw [List.map_cons]
        exact List.mem_cons_of_mem _ i1
      · rw [List.map_cons] at h ⊢
        rcases List.mem_cons.mp h with e | e
        · exact List.mem_cons.mpr (.inl e)
        · exact List.mem_cons_of_mem _ (i2 g e)
theorem length_putF (f : Str) (v : V) : ∀ fs : List (Str × V), (putF f v fs).length ≤ fs.length + 1
  | [] => by simp [putF]
  | (k, x) :: r => by
    have ih := length_putF f v r
    rw [show putF f v ((k, x) :: r) = (if k = f then (k, v) :: r else (k, x) :: putF f v r) from rfl]
    by_cases hk : k = f
    · rw [if_pos hk, List.length_cons, List.length_cons]; omega
    · rw [if_neg hk, List.length_cons, List.length_cons]; omega
theorem RelO.some_of {v : V} {o : Option Value} (r : RelO (some v) o) : ∃ u, o = some u ∧ RelV v u := by
  cases o with
  | none => exact (show False from r).elim
  | some u => exact ⟨u, rfl, r⟩
theorem RelO.none_of {o : Option Value} (r : RelO none o) : o = none := by
  cases o with
  | none => rfl
  | some u => exact (show False from r).elim
theorem handed_of {v : V} {u : Value} (r : RelV v u) : PySem.W.handedIn u = true := by
  cases v with
  | non => cases (show u = Value.none from r); rfl
  | bl b => cases (show u = Value.bool b from r); rfl
  | int i => obtain ⟨t, e⟩ := (show ∃ t, u = Value.int i t from r); cases e; rfl
  | str x => obtain ⟨t, e⟩ := (show ∃ t, u = Value.str x t from r); cases e; rfl
  | byt b => obtain ⟨t, e⟩ := (show ∃ t, u = Value.bytes b t from r); cases e; rfl
  | flt b => obtain ⟨t, e⟩ := (show ∃ t, u = Value.float b t from r); cases e; rfl
  | ref a => cases (show u = Value.ref a from r); rfl
  | ty n => cases (show u = Value.type n from r); rfl
section
variable {P : Program} {w : World} {H H' : Hp} {h h' : Heap} {a C dx : Addr} {fs fs' : List (Str × V)}
theorem ins_get (hok : HOk P w H h) (e : H a = some (.ins C dx fs)) : ∃ mA, ObjM h a dx C mA ∧ (∀ f, RelO (fs.lookup f) (mA f)) ∧ PySem.Within mA (fs.map (·.1)) ∧ fs.length ≤ 1000 ∧ H dx = some (.own a) := by
  obtain ⟨d, z, ne, ob, mA, n, r, q⟩ := (show ObjOk P w H h a (.ins C dx fs) from hok a _ e)
  exact ⟨mA, ⟨ob, n, ne⟩, r, q, z, d⟩
end
structure Cls (K : PySem.W.Frag) (C : Addr) : Prop where
  pg : PySem.W.plainGet K C Str.empty = true
  hd : PySem.W.hasDictIn K C = true
  po : PySem.W.plainOver K C = true
  sa : PySem.W.findIn K (.ref C) "__setattr__" = some (some (.builtin "object.__setattr__"))
theorem Cls.get {K : PySem.W.Frag} {C : Addr} (c : Cls K C) (f : Str) : PySem.W.plainGet K C f = true := c.pg
def NoAttr (K : PySem.W.Frag) (C : Addr) (f : Str) : Prop := PySem.W.findIn K (.ref C) f = some none
theorem NoAttr.taker {K : PySem.W.Frag} {C : Addr} {f : Str} (n : NoAttr K C f) : PySem.W.takerIn K C f = some none := by
  unfold PySem.W.takerIn
  rw [show PySem.W.findIn K (.ref C) f = some none from n]
  rfl
structure Meth (K : PySem.W.Frag) (C : Addr) (m : Str) (f : Addr) : Prop where
  at_ : PySem.W.findIn K (.ref C) m = some (some (.ref f))
  fn : PySem.W.isFn K (.ref f) = true
  kp : PySem.W.keepIn K (.ref f) = true
section
variable {X : Cx} {pins : List (Addr × Obj)} {σ : St} {H : Hp} {s : Shared} {a C dx : Addr} {fs : List (Str × V)} {f : Str} {v : V} {A : Around} {E : Value → Shared → Prop}
theorem getattr_ok {b : Bool} {Q : Value → Shared → Prop} (I : Inv X pins σ H s) (e : H a = some (.ins C dx fs)) (c : Cls X.K C) (n : NoAttr X.K C f) (l : fs.lookup f = some v)
    (h : ∀ u s', Inv X pins σ H s' → RelV v u → Q u s') : wpAny (model X.prog X.w) A (getAttr (.ref a) f b) Q E s := by
  obtain ⟨mA, O, r, _, _, _⟩ := ins_get I.hok e
  obtain ⟨u, hu, ru⟩ := RelO.some_of (v := v) (o := mA f) (by rw [← l]; exact r f)
  exact get_map I.kIn O (c.get f) c.hd n hu (handed_of ru) (h u _ (I.tok _) ru)
theorem getmeth_ok {m : Str} {g : Addr} {pl : Sem Bool} {Q : Value × List Value → Shared → Prop} (I : Inv X pins σ H s) (e : H a = some (.ins C dx fs)) (c : Cls X.K C) (k : Meth X.K C m g) (l : fs.lookup m = none)
    (h : Q (.ref g, [.ref a]) s) : wpAny (model X.prog X.w) A (getMethod (.ref a) m pl) Q E s := by
  obtain ⟨mA, O, r, _, _, _⟩ := ins_get I.hok e
  have hn : mA m = none := RelO.none_of (by rw [← l]; exact r m)
  exact get_meth I.kIn O (c.get m) k.at_ k.fn hn h
theorem setattr_ok {y : V} {u : Value} {Q : Unit → Shared → Prop} (I : Inv X pins σ H s) (e : H a = some (.ins C dx fs)) (c : Cls X.K C) (n : NoAttr X.K C f) (hl : fs.length < 1000) (ry : RelV y u)
    (h : ∀ s', Inv X pins σ (upd H a (.ins C dx (putF f y fs))) s' → Q () s') : wpAny (model X.prog X.w) A (setAttr (.ref a) f u) Q E s := by
  obtain ⟨mA, O, r, wi, _, ho⟩ := ins_get I.hok e
  have hz : (fs.map (·.1)).length ≤ sizeLine := by rw [List.length_map, sizeLine_eq]; omega
  refine set_map I.kIn O c.sa c.po n.taker c.hd wi hz fun h' O' sb => h _ ?_
  have hd : ∃ o, h'.get? dx = some o := let ⟨o, _, _, e', _⟩ := O'.ns; ⟨o, e'⟩
  refine I.write (x := a) (e := dx) (by rw [e]; exact True.intro) (.inr ho) (fun b q hb z => (sb.2 b hb).trans z) hd ?_
  refine ⟨by rw [upd_ne O.ne]; exact ho, ?_, O.ne, O'.obj, _, O'.ns, fun g => ?_, fun g hg => ?_⟩
  · have := length_putF f y fs; omega
  · show RelO ((putF f y fs).lookup g) (if g = f then some u else mA g)
    rw [lookup_putF]
    by_cases q : g = f
    · rw [if_pos q, if_pos q]; exact ry
    · rw [if_neg q, if_neg q]; exact r g
  · by_cases q : g = f
    · rw [q]; exact (keys_putF f y fs).1
    · refine (keys_putF f y fs).2 g (wi g fun z => hg ?_)
      show (if g = f then some u else mA g) = none
      rw [if_neg q]; exact z
theorem Inv.made (I : Inv X pins σ H s) : Inv X pins σ (upd (upd H s.heap.objs.size (.own (s.heap.objs.size + 1))) (s.heap.objs.size + 1) (.ins C s.heap.objs.size []))
    { s with heap := (s.heap.push PySem.W.emptyDict).push (PySem.W.instObj C s.heap.objs.size) } := by
  have e1 : (s.heap.push PySem.W.emptyDict).get? s.heap.objs.size = some PySem.W.emptyDict := Heap.get?_push_size s.heap rfl
  have e2 : ((s.heap.push PySem.W.emptyDict).push (PySem.W.instObj C s.heap.objs.size)).get? (s.heap.objs.size + 1) = some (PySem.W.instObj C s.heap.objs.size) := by
    have := Heap.get?_push_size (s.heap.push PySem.W.emptyDict) (o := PySem.W.instObj C s.heap.objs.size) rfl
    rwa [Heap.size_push] at this
  have e3 : (s.heap.push PySem.W.emptyDict).Ns s.heap.objs.size (fun _ => none) := ⟨PySem.W.emptyDict, #[], _, e1, rfl, (fun e he => absurd he (by simp)), fun _ => rfl⟩
  have I1 := I.laid (a := s.heap.objs.size) (o := .own (s.heap.objs.size + 1)) (h' := s.heap.push PySem.W.emptyDict) (t' := s.toks) (fun b u q => Heap.get?_push_of_some _ q) (Nat.le_refl _) ⟨_, e1⟩
  refine I1.laid (a := s.heap.objs.size + 1) (o := .ins C s.heap.objs.size []) (t' := s.toks) (fun b u q => Heap.get?_push_of_some _ q) (Nat.le_of_eq (Heap.size_push _ _)) ?_
  have ne : s.heap.objs.size ≠ s.heap.objs.size + 1 := Nat.ne_of_lt (Nat.lt_succ_self _)
  refine ⟨by rw [upd_ne ne, upd_same], Nat.zero_le _, ne, e2, fun _ => none, (Heap.Ns1.of_empty e3).at fun o q => Heap.get?_push_of_some _ q, fun _ => True.intro, fun y hy => absurd rfl hy⟩
theorem attr_of {prog : Program} {w : World} {env : Env} {e : Expr} {f : Str} {pos : Pos} {s : Shared} {Q : Value → Shared → Prop} (hb : attributeBase e f env (eval e env) = eval e env)
    (h : wpAny (model prog w) A (eval e env) (fun o s₁ => wpAny (model prog w) A (getAttr o f true) Q E s₁) E s) : wpAny (model prog w) A (eval (.Attribute e f pos) env) Q E s :=
  Attribute_any_ h (by rw [arm_eval_Attribute, hb])
end
def tFld (K : PySem.W.Frag) (ta : TE) (f : Str) : TE := fun σ H Q => ta σ H fun x H1 => ∃ a C dx fs v, x = .ref a ∧ H1 a = some (.ins C dx fs) ∧ Cls K C ∧ NoAttr K C f ∧ fs.lookup f = some v ∧ Q v H1
def sFld (K : PySem.W.Frag) (ta tv : TE) (f : Str) : TS := fun D σ H => tv σ H fun y H1 => ta σ H1 fun x H2 => ∃ a C dx fs, x = .ref a ∧ H2 a = some (.ins C dx fs) ∧ Cls K C ∧ NoAttr K C f ∧ fs.length < 1000 ∧
  D.nx σ (upd H2 a (.ins C dx (putF f y fs)))
section
variable {X : Cx} {o e value : Expr} {f : Str} {pos pos' tpos : Pos} {ta tv : TE}
theorem pe_fld (he : PE X e ta) (hb : attributeBase e f X.env (eval e X.env) = eval e X.env) : PE X (.Attribute e f pos) (tFld X.K ta f) := by
  intro pins s σ H Q I h
  refine attr_of hb (thn (he pins s σ H _ I h) fun u s1 ⟨x, H1, I1, rx, a, C, dx, fs, v, ex, ea, c, n, l, q⟩ => ?_)
  subst ex
  obtain rfl : u = Value.ref a := rx
  exact getattr_ok I1 ea c n l fun u' s2 I2 ru => ⟨v, H1, I2, ru, q⟩
theorem ps_fld (ha : PE X o ta) (hv : PE X value tv) (hs : swapsWith value (some (.Attribute o f pos')) pos.line X.env = pure false) : PS X (.Assign [.Attribute o f pos'] value pos) (sFld X.K ta tv f) := by
  intro pins s σ H D I h
  refine plainObj_wpAny_Assign_Attribute (thn (hv pins s σ H _ I h) fun u s1 ⟨y, H1, I1, ry, q⟩ => thn (ha pins s1 σ H1 _ I1 q) fun ov s2 ⟨x, H2, I2, rx, a, C, dx, fs, ex, ea, c, n, l, q2⟩ => ?_) hs
  subst ex
  obtain rfl : ov = Value.ref a := rx
  exact setattr_ok I2 ea c n l ry fun s3 I3 => ⟨σ, _, I3, q2⟩
end
section
variable {X : Cx} {pins : List (Addr × Obj)} {σ : St} {H : Hp} {s : Shared} {A : Around} {E : Value → Shared → Prop} {Q : Value → Shared → Prop} {c : Value} {b : Bool}
end
end L2
namespace L2
open PySem PySem.Spec PyProof.Rows
structure Room (k : Nat) (A : Around) : Prop where
  hd : A.handled = none
  dp : A.depth + 3 * k + 5 < recursionLimit
  un : A.units + 16 * k + 200 < cLine
theorem Room.mono {j k : Nat} {A : Around} (r : Room k A) (h : j ≤ k) : Room j A := ⟨r.hd, by have := r.dp; omega, by have := r.un; omega⟩
theorem Room.deeper {k : Nat} {A : Around} (r : Room (k + 1) A) (env : Env) : Room k (A.deeper env) :=
  ⟨r.hd, by have := r.dp; show A.depth + 1 + 3 * k + 5 < _; omega, by have := r.un; show A.units + 3 + 16 * k + 200 < _; omega⟩
theorem make_depth {A : Around} {C : Addr} {us : List Value} {kw : List (Str × Value)} : (A.under (.builtin "type.__call__" ⟨.ref C :: us, kw⟩)).depth = A.depth + 1 := by
  first | rfl | simp [Around.under, Code.weight, Code.isCreation, Code.isGuard, Code.isCaller, Code.frames, Code.isFrame, guardIds]
theorem make_units {A : Around} {C : Addr} {us : List Value} {kw : List (Str × Value)} : (A.under (.builtin "type.__call__" ⟨.ref C :: us, kw⟩)).units = A.units + 1 := by
  first | rfl | simp [Around.under, Code.cUnits, Code.frames, Code.isFrame]
theorem Room.make {k : Nat} {A : Around} (r : Room (k + 1) A) (C : Addr) (us : List Value) (kw : List (Str × Value)) : Room k (A.under (.builtin "type.__call__" ⟨.ref C :: us, kw⟩)) :=
  ⟨r.hd, by have := r.dp; rw [make_depth]; omega, by have := r.un; rw [make_units]; omega⟩
theorem Room.depth {k : Nat} {A : Around} (r : Room k A) : A.depth < recursionLimit := by have := r.dp; omega
def tNil : TA := fun _ H Q => Q [] H
def tCons (ta : TE) (tr : TA) : TA := fun σ H Q => ta σ H fun x H1 => tr σ H1 fun xs H2 => Q (x :: xs) H2
section
variable {X : Cx} {e : Expr} {es : List Expr} {te : TE} {t : TA} {pos : Pos}
theorem pa_nil : PA X [] tNil := fun _ _ _ _ H Q I h => Calls.spliced_nil ⟨[], H, I, .nil, h⟩
theorem pa_cons (ha : PE X e te) (hr : PA X es t) (hs : starEach (e :: es) X.env = (false, eval e X.env) :: starEach es X.env := by rfl) : PA X (e :: es) (tCons te t) := by
  intro pos pins s σ H Q I h
  rw [hs]
  show wpAny _ _ (spliced ((false, eval e X.env) :: backTo pos (starEach es X.env))) _ _ s
  refine Calls.spliced_cons (thn (ha pins s σ H _ I h) fun u s1 ⟨x, H1, I1, r1, q1⟩ => ?_)
  exact thn (hr pos pins s1 σ H1 _ I1 q1) fun us s2 ⟨xs, H2, I2, r2, q2⟩ => ⟨x :: xs, H2, I2, .cons r1 r2, q2⟩
def tTup (t : TA) : TE := fun σ H Q => t σ H fun xs H1 => xs.length ≤ sizeLine ∧ ∀ p, H1 p = none → Q (.ref p) (upd H1 p (.tup xs))
def tLst (t : TA) : TE := fun σ H Q => t σ H fun xs H1 => xs.length ≤ sizeLine ∧ ∀ p, H1 p = none → Q (.ref p) (upd H1 p (.lst xs))
theorem pe_tup {x1} (h : PA X es t) : PE X (.Tuple es x1 pos) (tTup t) := by
  intro pins s σ H Q I hq
  refine wpAny_Tuple_spliced (thn (h pos pins s σ H _ I hq) fun us s1 ⟨xs, H1, I1, r, z, q⟩ => ⟨by rw [← r.length]; exact z, ?_⟩)
  have hf : H1 s1.heap.objs.size = none := I1.hok.fresh (Nat.le_refl _)
  refine ⟨.ref s1.heap.objs.size, upd H1 s1.heap.objs.size (.tup xs), I1.laid (t' := s1.toks) (fun b u e => Heap.get?_push_of_some _ e) (Nat.le_refl _) ?_, rfl, q _ hf⟩
  exact ⟨z, us, r, ⟨_, Heap.get?_push_size _ rfl, rfl, _, rfl⟩⟩
theorem pe_lst (h : PA X es t) : PE X (.List es pos) (tLst t) := by
  intro pins s σ H Q I hq
  refine wpAny_List_spliced (thn (h pos pins s σ H _ I hq) fun us s1 ⟨xs, H1, I1, r, z, q⟩ => ⟨by rw [← r.length]; exact z, ?_⟩)
  have hf : H1 s1.heap.objs.size = none := I1.hok.fresh (Nat.le_refl _)
  refine ⟨.ref s1.heap.objs.size, upd H1 s1.heap.objs.size (.lst xs), I1.laid (t' := s1.toks) (fun b u e => Heap.get?_push_of_some _ e) (Nat.le_refl _) ?_, rfl, q _ hf⟩
  exact ⟨z, us, 0, r, Heap.get?_push_size _ rfl⟩
end
abbrev Sp := List V → Hp → VK → XK → Prop
abbrev CXT := List Env → Hp → Shared → XK → Value → Shared → Prop
structure Env0 (P : Program) (w : World) (K : PySem.W.Frag) (mg : Str → Option Value) (base : Heap) (A : Around) (outer : List Env) (s : Shared) (H : Hp) : Prop where
  frames : A.frames = some outer
  mod : Mod K mg base
  bs : ∀ b o, base.get? b = some o → s.heap.get? b = some o ∧ H b = none
  bsz : base.objs.size ≤ s.heap.objs.size
  funs : s.heap.FunFrames base outer
  frf : ∀ b ∈ frs outer, H b = none
  hok : HOk P w H s.heap
  bare : AllBare s.gens
def CE (outer : List Env) (P : Program) (w : World) (H : Hp) (s : Shared) (Q : VK) (u : Value) (s' : Shared) : Prop :=
  ∃ v H', s'.os = s.os ∧ AllBare s'.gens ∧ Un (frs outer) [] H H' s.heap s'.heap ∧ HOk P w H' s'.heap ∧ RelV v u ∧ Q v H'
def CR (CX : CXT) (outer : List Env) (P : Program) (w : World) (H : Hp) (s : Shared) (Q : VK) (E : XK) (r : Result) (s' : Shared) : Prop :=
  match r with
  | .ok (.ret u) => CE outer P w H s Q u s'
  | .ok _ => False
  | .error e => CX outer H s E e s'
structure FnOk (P : Program) (w : World) (K : PySem.W.Frag) (mg : Str → Option Value) (base : Heap) (CX : CXT) (k : Nat) (f : Addr) (fd : FuncData) (ps : List Str) (sp : Sp) : Prop where
  len : ∀ vs H Q E, sp vs H Q E → vs.length = ps.length
  run : ∀ (A : Around) (outer : List Env) (s : Shared) (H : Hp) (args : Args) (us : List Value) (vs : List V) (Q : VK) (E : XK), Room k A → Env0 P w K mg base A outer s H → BindsTo s fd args (ps.zip us) → Vals vs us → sp vs H Q E →
    codeAny (model P w) A (.call (.ref f) args) (CR CX outer P w H s Q E) s
theorem FnOk.mono {P : Program} {w : World} {K : PySem.W.Frag} {mg : Str → Option Value} {base : Heap} {CX : CXT} {j k : Nat} {f : Addr} {fd : FuncData} {ps : List Str} {sp : Sp} (F : FnOk P w K mg base CX j f fd ps sp) (h : j ≤ k) :
    FnOk P w K mg base CX k f fd ps sp := ⟨F.len, fun A outer s H args us vs Q E hr => F.run A outer s H args us vs Q E (hr.mono h)⟩
theorem FnOk.imp {P : Program} {w : World} {K : PySem.W.Frag} {mg : Str → Option Value} {base : Heap} {CX : CXT} {k : Nat} {f : Addr} {fd : FuncData} {ps : List Str} {sp sp' : Sp} (F : FnOk P w K mg base CX k f fd ps sp)
    (h : ∀ vs H Q E, sp' vs H Q E → sp vs H Q E) : FnOk P w K mg base CX k f fd ps sp' :=
  ⟨fun vs H Q E q => F.len vs H Q E (h _ _ _ _ q), fun A outer s H args us vs Q E hr he hb hv hs => F.run A outer s H args us vs Q E hr he hb hv (h _ _ _ _ hs)⟩
theorem Env0.make {P : Program} {w : World} {K : PySem.W.Frag} {mg : Str → Option Value} {base : Heap} {A : Around} {outer : List Env} {s : Shared} {H : Hp} (e : Env0 P w K mg base A outer s H) (C : Addr) (us : List Value) (kw : List (Str × Value)) :
    Env0 P w K mg base (A.under (.builtin "type.__call__" ⟨.ref C :: us, kw⟩)) outer s H := ⟨by first | exact e.frames | (simpa [Around.under, Code.envs, Code.isFrame, pushEnvs] using e.frames), e.mod, e.bs, e.bsz, e.funs, e.frf, e.hok, e.bare⟩
section
variable {X : Cx} {pins : List (Addr × Obj)} {σ : St} {H : Hp} {s s' : Shared}
theorem Inv.env0 (I : Inv X pins σ H s) : Env0 X.prog X.w X.K X.mg X.base X.A X.stack s H :=
  ⟨I.ok.frames, I.ok.mod, I.bs, Nat.le_trans I.ok.bsz I.sz, I.stack, I.stkFree, I.hok, I.bare⟩
theorem Inv.after {Q : VK} {u : Value} (I : Inv X pins σ H s) (h : CE X.stack X.prog X.w H s Q u s') : EP X pins σ Q u s' := by
  obtain ⟨v, H', os, bare, un, hok, r, q⟩ := h
  obtain ⟨hh, g, d, t, os'⟩ := s'
  obtain rfl : os' = s.os := os
  exact ⟨v, H', I.call (h' := hh) (g' := g) (d' := d) (t' := t) (ch := []) un hok bare (fun b z => absurd z (by simp)), r, q⟩
end
def tCall (sp : Sp) (dvs : List V) (E : XK) (t : TA) : TE := fun σ H Q => t σ H fun vs H1 => sp (vs ++ dvs) H1 Q E
def tMeth (C : Addr) (m : Str) (sp : Sp) (dvs : List V) (E : XK) (ta : TE) (t : TA) : TE := fun σ H Q => ta σ H fun x H1 => ∃ a dx fs, x = .ref a ∧ H1 a = some (.ins C dx fs) ∧ fs.lookup m = none ∧
  t σ H1 fun vs H2 => sp (x :: (vs ++ dvs)) H2 Q E
def tMake (C : Addr) (sp : Sp) (dvs : List V) (E : XK) (t : TA) : TE := fun σ H Q => t σ H fun vs H1 => ∀ x dx, H1 x = none → H1 dx = none → dx ≠ x →
  sp (.ref x :: (vs ++ dvs)) (upd (upd H1 dx (.own x)) x (.ins C dx [])) (fun v H2 => v = .non ∧ Q (.ref x) H2) E
def Binds (K : PySem.W.Frag) (fd : FuncData) (ps : List Str) (ds : List Value) : Prop :=
  ∀ (s : Shared) (us : List Value), K.In s.heap → (us ++ ds).length = ps.length → BindsTo s fd ⟨us, []⟩ (ps.zip (us ++ ds))
theorem Binds.all {K : PySem.W.Frag} {fd : FuncData} {ps : List Str} (h : ∀ us : List Value, us.length = ps.length → bindArgs fd ⟨us, []⟩ = pure (ps.zip us)) : Binds K fd ps [] := fun s us _ hl => by
  rw [List.append_nil] at hl ⊢
  exact .of_eq (h us hl)
def Passes (CX : CXT) (X : Cx) (E : XK) : Prop := ∀ (pins : List (Addr × Obj)) (σ : St) (H : Hp) (s : Shared) (e : Value) (s' : Shared), Inv X pins σ H s → CX X.stack H s E e s' → X.xe e s'
section
variable {X : Cx} {CX : CXT} {k : Nat} {f C : Addr} {fd : FuncData} {ps : List Str} {sp : Sp} {dvs : List V} {ds : List Value} {E : XK} {x m : Str} {p pos apos : Pos} {e o : Expr} {es : List Expr} {ta : TE} {t : TA}
theorem run_fn {pins : List (Addr × Obj)} {σ : St} {H : Hp} {s : Shared} {Q : VK} {us : List Value} {vs : List V} (F : FnOk X.prog X.w X.K X.mg X.base CX k f fd ps sp) (hr : Room k X.A) (hb : Binds X.K fd ps ds) (hd : Vals dvs ds) (hx : Passes CX X E)
    (I : Inv X pins σ H s) (r : Vals vs us) (h : sp (vs ++ dvs) H Q E) : wpAny (model X.prog X.w) X.A (call (.ref f) us) (EP X pins σ Q) X.xe s := by
  have r2 : Vals (vs ++ dvs) (us ++ ds) := r.append hd
  have hl : (us ++ ds).length = ps.length := by rw [← r2.length]; exact F.len _ _ _ _ h
  refine wpAny_call (codeAny_mono (F.run X.A X.stack s H ⟨us, []⟩ (us ++ ds) (vs ++ dvs) Q E hr I.env0 (hb s us I.kIn hl) r2 h) fun r s' hq => ?_)
  cases r with
  | error e => exact hx pins σ H s e s' I hq
  | ok fl =>
    cases fl with
    | ret u => exact I.after hq
    | next => exact False.elim hq
    | brk => exact False.elim hq
    | cont => exact False.elim hq
theorem pe_call (F : FnOk X.prog X.w X.K X.mg X.base CX k f fd ps sp) (hr : Room k X.A) (hg : Gl X x) (hm : X.mg x = some (.ref f)) (hk : PySem.W.keepIn X.K (.ref f) = true) (hb : Binds X.K fd ps ds) (hd : Vals dvs ds) (hx : Passes CX X E)
    (ha : PA X (e :: es) t) (hdb : (x == ("__debug__" : Str)) = false := by decide) (he : starEach (e :: es) X.env = (false, eval e X.env) :: starEach es X.env := by rfl) (hpl : (backTo pos (starEach es X.env)).any (·.1) = false := by rfl) :
    PE X (.Call (.Name x p) (e :: es) [] pos) (tCall sp dvs E t) := by
  intro pins s σ H Q I h
  refine wpAny_Call_Name_kw (ld_glob I hg hm ?_ hdb)
  refine PySem.W.callWith_K (h₀ := X.base) I.ok.mod.kin hk (thn (ha pos pins s σ H _ I h) fun us s1 ⟨vs, H1, I1, r, q⟩ => ⟨I1.kIn, ?_⟩) he hpl
  exact run_fn F hr hb hd hx I1 r q
theorem pe_meth {pl : Sem Bool} (he : PE X o ta) (c : Cls X.K C) (hm : Meth X.K C m f) (F : FnOk X.prog X.w X.K X.mg X.base CX k f fd ps sp) (hr : Room k X.A) (hb : Binds X.K fd ps ds) (hd : Vals dvs ds) (hx : Passes CX X E) (ha : PA X (e :: es) t)
    (hst : starEach (e :: es) X.env = (false, eval e X.env) :: starEach es X.env := by rfl) (hpl : (backTo pos (starEach es X.env)).any (·.1) = false := by rfl)
    (ht : eval (.Call (.Attribute o m apos) (e :: es) [] pos) X.env = (do
      let ov ← eval o X.env
      standAt apos.atName
      let (f, first) ← holding [ov] (getMethod ov m pl)
      callWith pos f first (backTo pos (starEach (e :: es) X.env)) (backToKw pos (keywordEach [] X.env))) := by rfl) :
    PE X (.Call (.Attribute o m apos) (e :: es) [] pos) (tMeth C m sp dvs E ta t) := by
  intro pins s σ H Q I h
  refine PySem.W.methodCall_KW (pl := pl) (thn (he pins s σ H _ I h) fun u s1 ⟨x, H1, I1, rx, a, dx, fs, ex, ea, l, q⟩ => ?_) ht
  subst ex
  obtain rfl : u = Value.ref a := rx
  refine getmeth_ok I1 ea c hm l ?_
  refine PySem.W.callWith_K (first := [.ref a]) (h₀ := X.base) I.ok.mod.kin hm.kp (thn (ha pos pins s1 σ H1 _ I1 q) fun us s2 ⟨vs, H2, I2, r, q2⟩ => ⟨I2.kIn, ?_⟩) hst hpl
  exact run_fn (us := .ref a :: us) (vs := .ref a :: vs) F hr hb hd hx I2 (.cons rfl r) q2
theorem pe_meth0 {pl : Sem Bool} (he : PE X o ta) (c : Cls X.K C) (hm : Meth X.K C m f) (F : FnOk X.prog X.w X.K X.mg X.base CX k f fd ps sp) (hr : Room k X.A) (hb : Binds X.K fd ps ds) (hd : Vals dvs ds) (hx : Passes CX X E)
    (ht : eval (.Call (.Attribute o m apos) [] [] pos) X.env = (do
      let ov ← eval o X.env
      standAt apos.atName
      let (f, first) ← holding [ov] (getMethod ov m pl)
      callWith pos f first (backTo pos (starEach [] X.env)) (backToKw pos (keywordEach [] X.env))) := by rfl) :
    PE X (.Call (.Attribute o m apos) [] [] pos) (tMeth C m sp dvs E ta tNil) := by
  intro pins s σ H Q I h
  refine PySem.W.methodCall_KW (pl := pl) (thn (he pins s σ H _ I h) fun u s1 ⟨x, H1, I1, rx, a, dx, fs, ex, ea, l, q⟩ => ?_) ht
  subst ex
  obtain rfl : u = Value.ref a := rx
  refine getmeth_ok I1 ea c hm l ?_
  exact PySem.W.callWith_K0 (first := [.ref a]) I1.kIn hm.kp (run_fn (us := [.ref a]) (vs := [.ref a]) F hr hb hd hx I1 (.cons rfl .nil) q)
structure Mk (K : PySem.W.Frag) (C f : Addr) : Prop where
  makes : PySem.W.makesIn K C = true
  init : PySem.W.findIn K (.ref C) "__init__" = some (some (.ref f))
  fn : PySem.W.isFn K (.ref f) = true
  kp : PySem.W.keepIn K (.ref C) = true
theorem run_make {pins : List (Addr × Obj)} {σ : St} {H : Hp} {s : Shared} {Q : VK} {us : List Value} {vs : List V} (M : Mk X.K C f) (F : FnOk X.prog X.w X.K X.mg X.base CX k f fd ps sp) (hr : Room (k + 1) X.A) (hb : Binds X.K fd ps ds) (hd : Vals dvs ds)
    (hx : Passes CX X E) (I : Inv X pins σ H s) (r : Vals vs us)
    (h : ∀ x dx, H x = none → H dx = none → dx ≠ x → sp (.ref x :: (vs ++ dvs)) (upd (upd H dx (.own x)) x (.ins C dx [])) (fun v H2 => v = .non ∧ Q (.ref x) H2) E) :
    wpAny (model X.prog X.w) X.A (call (.ref C) us) (EP X pins σ Q) X.xe s := by
  have hq := h (s.heap.objs.size + 1) s.heap.objs.size (I.hok.fresh (Nat.le_succ _)) (I.hok.fresh (Nat.le_refl _)) (Nat.ne_of_lt (Nat.lt_succ_self _))
  have I2 := Inv.made (C := C) I
  have r2 : Vals (V.ref (s.heap.objs.size + 1) :: (vs ++ dvs)) (Value.ref (s.heap.objs.size + 1) :: (us ++ ds)) := .cons rfl (r.append hd)
  have hl : (Value.ref (s.heap.objs.size + 1) :: us ++ ds).length = ps.length := by
    have e := r2.length
    rw [F.len _ _ _ _ hq] at e
    exact e.symm
  refine wpAny_call (make_map (f := f) I.kIn M.makes M.init (beq_iff_eq.mp M.fn) (codeAny_mono (F.run _ X.stack _ _ ⟨Value.ref (s.heap.objs.size + 1) :: us, []⟩ (Value.ref (s.heap.objs.size + 1) :: (us ++ ds)) _ _ E (hr.make C us [])
    (I2.env0.make C us []) (hb _ (Value.ref (s.heap.objs.size + 1) :: us) I2.kIn hl) r2 hq) fun r s' hq' => ?_))
  cases r with
  | error e => exact hx pins σ _ _ e s' I2 hq'
  | ok fl =>
    cases fl with
    | ret u =>
      obtain ⟨v, H', I3, rv, ev, q3⟩ := I2.after hq'
      subst ev
      exact ⟨rv, ⟨V.ref (s.heap.objs.size + 1), H', I3, rfl, q3⟩⟩
    | next => exact False.elim hq'
    | brk => exact False.elim hq'
    | cont => exact False.elim hq'
theorem pe_make0 (M : Mk X.K C f) (F : FnOk X.prog X.w X.K X.mg X.base CX k f fd ps sp) (hr : Room (k + 1) X.A) (hg : Gl X x) (hm : X.mg x = some (.ref C)) (hb : Binds X.K fd ps ds) (hd : Vals dvs ds) (hx : Passes CX X E)
    (hdb : (x == ("__debug__" : Str)) = false := by decide) : PE X (.Call (.Name x p) [] [] pos) (tMake C sp dvs E tNil) := by
  intro pins s σ H Q I h
  refine wpAny_Call_Name_kw (ld_glob I hg hm ?_ hdb)
  exact PySem.W.callWith_K0 I.kIn M.kp (run_make (us := []) M F hr hb hd hx I .nil h)
end
section
variable {X : Cx} {CX : CXT} {k : Nat} {f C : Addr} {fd : FuncData} {ps ks : List Str} {sp : Sp} {E : XK} {x m : Str} {p pos apos kpos : Pos} {e o : Expr} {es : List Expr} {kws : List Keyword} {te ta : TE} {t tk : TA} {nm : Option Str}
variable {g : List Value → List Value → List Value} {gV : List V → List V → List V}
end
structure FnScope (N P : List Str) (sc : Scope) : Prop where
  kind : sc.kind = .function
  co : sc.isCoroutine = false
  gen : sc.isGenerator = false
  nd : N.Nodup
  pre : N.take P.length = P
  par : ∀ x ∈ P, sc.names.lookup x = some .local ∨ sc.names.lookup x = some .cell
  nofree : ∀ y ∈ sc.names, y.2 ≠ .free
theorem bindL_out {kindOf : Str → Option NameKind} {x : Str} : ∀ {binds : List (Str × Value)} {m : Str → Option Value}, (∀ v, (x, v) ∉ binds) → bindL kindOf binds m x = m x
  | [], _, _ => rfl
  | (n, v) :: r, m, h => by
    unfold bindL
    rw [bindL_out fun w hw => h w (List.mem_cons_of_mem _ hw)]
    split
    · have : x ≠ n := by rintro rfl; exact h v List.mem_cons_self
      simp [this]
    · rfl
theorem bindC_out {kindOf : Str → Option NameKind} {x : Str} : ∀ {binds : List (Str × Value)} {m : Str → Option Value}, (∀ v, (x, v) ∉ binds) → bindC kindOf binds m x = m x
  | [], _, _ => rfl
  | (n, v) :: r, m, h => by
    unfold bindC
    rw [bindC_out fun w hw => h w (List.mem_cons_of_mem _ hw)]
    split
    · rfl
    · have : x ≠ n := by rintro rfl; exact h v List.mem_cons_self
      simp [this]
theorem bindL_get {kindOf : Str → Option NameKind} {x : Str} {v : Value} : ∀ {P : List Str} {vs : List Value} {i : Nat} {m : Str → Option Value}, P.Nodup → P[i]? = some x → vs[i]? = some v → kindOf x = some .local →
    bindL kindOf (P.zip vs) m x = some v
  | [], _, _, _, _, h, _, _ => by simp at h
  | _ :: _, [], _, _, _, _, h, _ => by simp at h
  | p :: P, w :: vs, 0, m, nd, h1, h2, hk => by
    simp at h1 h2; subst h1; subst h2
    show bindL kindOf ((p, w) :: P.zip vs) m p = _
    unfold bindL
    rw [bindL_out fun v hv => (List.nodup_cons.mp nd).1 (List.of_mem_zip hv).1, if_pos hk]
    simp
  | p :: P, w :: vs, i + 1, m, nd, h1, h2, hk => by
    show bindL kindOf ((p, w) :: P.zip vs) m x = _
    unfold bindL
    exact bindL_get (i := i) (List.nodup_cons.mp nd).2 (by simpa using h1) (by simpa using h2) hk
theorem bindC_get {kindOf : Str → Option NameKind} {x : Str} {v : Value} : ∀ {P : List Str} {vs : List Value} {i : Nat} {m : Str → Option Value}, P.Nodup → P[i]? = some x → vs[i]? = some v → kindOf x ≠ some .local →
    bindC kindOf (P.zip vs) m x = some v
  | [], _, _, _, _, h, _, _ => by simp at h
  | _ :: _, [], _, _, _, _, h, _ => by simp at h
  | p :: P, w :: vs, 0, m, nd, h1, h2, hk => by
    simp at h1 h2; subst h1; subst h2
    show bindC kindOf ((p, w) :: P.zip vs) m p = _
    unfold bindC
    rw [bindC_out fun v hv => (List.nodup_cons.mp nd).1 (List.of_mem_zip hv).1, if_neg hk]
    simp
  | p :: P, w :: vs, i + 1, m, nd, h1, h2, hk => by
    show bindC kindOf ((p, w) :: P.zip vs) m x = _
    unfold bindC
    exact bindC_get (i := i) (List.nodup_cons.mp nd).2 (by simpa using h1) (by simpa using h2) hk
def start (N : List Str) (vs : List V) : St := vs.map some ++ List.replicate (N.length - vs.length) none
def cxOf (CX : CXT) (P : Program) (w : World) (K : PySem.W.Frag) (mg : Str → Option Value) (base : Heap) (N : List Str) (qual : Str) (scope : Scope) (f : Addr) (cd : Value) (A : Around) (outer : List Env) (s : Shared) (H : Hp) (E : XK) : Cx where
  prog := P
  w := w
  K := K
  mg := mg
  base := base
  A := A.deeper (envOfC qual scope s.heap.objs.size f cd)
  N := N
  s_0 := s
  H_0 := H
  env := envOfC qual scope s.heap.objs.size f cd
  outer := outer
  stack := envOfC qual scope s.heap.objs.size f cd :: outer
  ex := []
  calm := true
  fn := fun _ => true
  pn := []
  xe := fun e s' => wpAny (model P w) (A.deeper (envOfC qual scope s.heap.objs.size f cd)) (leaving (envOfC qual scope s.heap.objs.size f cd) e) (fun _ s'' => CX outer H s E e s'') (fun e' s'' => CX outer H s E e' s'') s'
theorem cell_has {sc : Scope} {n : Nat} {x : Str} (h : sc.names.lookup x = some .cell) : ∃ c, (cellsFrom n sc.names []).lookup x = some c := by
  have q := PySem.W.cellsFrom_some sc.names n [] (.inl h)
  exact Option.isSome_iff_exists.mp q
theorem inv_start {CX : CXT} {P : Program} {w : World} {K : PySem.W.Frag} {mg : Str → Option Value} {base : Heap} {N ps : List Str} {qual : Str} {scope : Scope} {f : Addr} {cd : Value} {A : Around} {outer : List Env} {s s1 : Shared} {H : Hp} {E : XK} {us : List Value} {vs : List V}
    (S : FnScope N ps scope) (hd : A.handled = none) (e0 : Env0 P w K mg base A outer s H) (hl : vs.length = ps.length) (r : Vals vs us)
    (x : InCallC s s.heap.objs.size (bindL (envOfC qual scope s.heap.objs.size f cd).kindOf (ps.zip us) fun _ => none) (cellsFrom (s.heap.objs.size + 1) scope.names []) (bindC (envOfC qual scope s.heap.objs.size f cd).kindOf (ps.zip us) fun _ => none) s1) :
    Inv (cxOf CX P w K mg base N qual scope f cd A outer s H E) [] (start N vs) H s1 := by
  have hpl : ps.length ≤ N.length := by have := congrArg List.length S.pre; rw [List.length_take] at this; omega
  obtain ⟨h1, tk, rfl, hk⟩ := x.done
  have noA : ∀ b : Addr, b ∉ (cxOf CX P w K mg base N qual scope f cd A outer s H E).ex := fun b z => absurd (show b ∈ ([] : List Addr) from z) (by simp)
  refine ⟨⟨e0.mod, S.kind, rfl, rfl, Nat.le_refl _, fun y z c h1 h2 => ?_, fun y hy => ?_, fun y c _ h => ?_, fun _ => hd, Around.frames_deeper e0.frames, .inr ⟨rfl, rfl⟩, fun b z => absurd z (noA b), e0.bs, e0.bsz, fun b _ _ => noA b, fun b z => absurd z (noA b), e0.funs, e0.frf⟩,
    rfl, e0.bare, Un.kept hk, ⟨_, x.toInCall.ns, fun i y v h1 h2 h3 => ?_⟩, fun y c h => ⟨_, x.cell y c h⟩, e0.hok.fresh (Nat.le_refl _), fun y c h => ?_, fun p hp => absurd (show p ∈ ([] : List (Addr × Obj)) from hp) (by simp), e0.hok.kept hk, ?_⟩
  · exact name_of_addr x.apart (PySem.mem_of_lookup h1) (PySem.mem_of_lookup h2)
  · have hy : scope.names.lookup y = some .cell ∨ scope.names.lookup y = some .free := hy
    rcases hy with hy | hy
    · exact cell_has hy
    · exact absurd rfl (S.nofree _ (PySem.mem_of_lookup hy))
  · exact Nat.le_of_lt (x.above y c (PySem.mem_of_lookup h))
  · have hi : i < vs.length := by
      unfold start at h2
      by_cases hi : i < vs.length
      · exact hi
      · rw [List.getElem?_append_right (by simpa using hi)] at h2
        rw [List.getElem?_replicate] at h2
        split at h2 <;> cases h2
    have ha : vs[i]? = some v := by
      unfold start at h2
      rw [List.getElem?_append_left (by simpa using hi), List.getElem?_map] at h2
      cases e : vs[i]? with
      | none => rw [e] at h2; cases h2
      | some a => rw [e] at h2; cases h2; rfl
    obtain ⟨u, hu, rv⟩ := r.get ha
    have hp : ps[i]? = some y := by
      rw [← S.pre, List.getElem?_take_of_lt (by omega)]; exact h1
    have ndP : ps.Nodup := by rw [← S.pre]; exact S.nd.sublist (List.take_sublist _ _)
    refine ⟨u, rv, ?_⟩
    rcases S.par y (List.mem_of_getElem? hp) with k | k
    · exact .inl ⟨k, bindL_get ndP hp hu k⟩
    · obtain ⟨c, e⟩ := cell_has (n := s.heap.objs.size + 1) k
      refine .inr ⟨.inl k, c, e, ?_⟩
      have q := x.cell y c e
      rw [bindC_get ndP hp hu (by show scope.names.lookup y ≠ _; rw [k]; decide)] at q
      exact q
  · exact e0.hok.fresh (Nat.le_of_lt (x.above y c (PySem.mem_of_lookup h)))
  · unfold start
    show _ = N.length
    rw [List.length_append, List.length_map, List.length_replicate]
    omega
theorem fn_of {CX : CXT} {P : Program} {w : World} {K : PySem.W.Frag} {mg : Str → Option Value} {base : Heap} {k : Nat} {f : Addr} {name qual : Str} {params : Arguments} {body : List Stmt} {scope : Scope} {dV kV doc pm cdv ct oc : Value} {an od : Option Addr}
    {osl : Array (Option Value)} {N ps : List Str} {sp : Sp} (lk : K.lookup f = some ⟨oc, od, .func (PySem.W.fnOf name qual params body scope dV kV doc pm an cdv ct), osl⟩) (hcd : PySem.W.codeIn K cdv qual = true) (S : FnScope N ps scope)
    (len : ∀ vs H Q E, sp vs H Q E → vs.length = ps.length)
    (hbody : ∀ (A : Around) (outer : List Env) (s : Shared) (H : Hp) (vs : List V) (Q : VK) (E : XK), Room k (A.deeper (envOfC qual scope s.heap.objs.size f cdv)) → sp vs H Q E →
      ∃ t, PSs (cxOf CX P w K mg base N qual scope f cdv A outer s H E) body t ∧ t { nx := fun _ H' => Q .non H', rt := Q } (start N vs) H) :
    FnOk P w K mg base CX (k + 1) f (PySem.W.fnOf name qual params body scope dV kV doc pm an cdv ct) ps sp := by
  refine ⟨len, fun A outer s H args us vs Q E hr e0 hb r hsp => ?_⟩
  have hl := len _ _ _ _ hsp
  have KX : K.In s.heap := e0.mod.kin.keeps fun b o e => (e0.bs b o e).1
  have lim : s.heap.NoLimit := e0.mod.nolimit.keeps fun b o e => (e0.bs b o e).1
  have hkind : ∀ y ∈ ps.zip us, scope.names.lookup y.1 = some .local ∨ (scope.names.lookup y.1 = some .cell ∧ ((cellsFrom (s.heap.objs.size + 1) scope.names []).lookup y.1).isSome = true) := fun ⟨n, v⟩ hy => by
    rcases S.par n (List.of_mem_zip hy).1 with q | q
    · exact .inl q
    · exact .inr ⟨q, PySem.W.cellsFrom_some _ _ _ (.inl q)⟩
  refine codeAny_call_function hr.depth (KX _ _ lk) rfl S.co S.gen rfl (PySem.W.codeRec_of KX hcd) (hb _ _ _ _ ?_)
  refine wpAny_newFunctionEnv_cells S.kind hkind fun env he s1 x => ?_
  subst he
  refine ⟨lim.keeps x.toInCall.keep, codeAny_func ?_⟩
  obtain ⟨t, ht, hq⟩ := hbody A outer s H vs Q E (hr.deeper _) hsp
  have I : Inv (cxOf CX P w K mg base N qual scope f cdv A outer s H E) [] (start N vs) H s1 := inv_start S hr.hd e0 hl r x
  refine wpAny_mono (ht [] s1 (start N vs) H _ I hq) (fun fl s' hs => ?_) fun e s' hs => hs
  have fin : ∀ {σ' : St} {H' : Hp} {v : V} {u : Value}, Inv (cxOf CX P w K mg base N qual scope f cdv A outer s H E) [] σ' H' s' → RelV v u → Q v H' → CE outer P w H s Q u s' :=
    fun {σ' H' v u} J rv q => ⟨v, H', J.os, J.bare, J.base, J.hok, rv, q⟩
  cases fl with
  | ret u =>
    obtain ⟨v, σ', H', J, rv, q⟩ := hs
    exact fin J rv q
  | next =>
    obtain ⟨σ', H', J, q⟩ := hs
    exact fin (v := V.non) (u := Value.none) J rfl q
  | brk =>
    obtain ⟨_, _, _, q⟩ := hs
    exact False.elim q
  | cont =>
    obtain ⟨_, _, _, q⟩ := hs
    exact False.elim q
end L2
namespace L2
open PySem PySem.Spec PyProof.Rows
section
variable {X : Cx} {x : Str} {p pos : Pos} {e : Expr} {es : List Expr} {t : TA} {id T : String} {r : List V → Hp → VK → Prop}
def tCB (r : List V → Hp → VK → Prop) (t : TA) : TE := fun σ H Q => t σ H fun vs H1 => r vs H1 Q
theorem pe_callB (hc : CallR X (.builtin id) r) (hg : Gl X x) (hm : X.mg x = none) (hv : bootBuiltins x = some (.builtin id)) (ha : PA X (e :: es) t) (hn : x ≠ "__name__" := by decide) (hdb : (x == ("__debug__" : Str)) = false := by decide)
    (he : starEach (e :: es) X.env = (false, eval e X.env) :: starEach es X.env := by rfl) (hpl : (backTo pos (starEach es X.env)).any (·.1) = false := by rfl) : PE X (.Call (.Name x p) (e :: es) [] pos) (tCB r t) := by
  intro pins s σ H Q I h
  refine wpAny_Call_Name_kw (ld_blt I hg hm hv ?_ hn hdb)
  exact PyProof.Rows.callWith_builtin1 (thn (ha pos pins s σ H _ I h) fun us s1 ⟨vs, H1, I1, r1, q1⟩ => hc pins s1 σ H1 vs us Q I1 r1 q1) he hpl
theorem pe_callTy (hc : CallR X (.type T) r) (hg : Gl X x) (hm : X.mg x = none) (hv : bootBuiltins x = some (.type T)) (ha : PA X (e :: es) t) (hn : x ≠ "__name__" := by decide) (hdb : (x == ("__debug__" : Str)) = false := by decide)
    (he : starEach (e :: es) X.env = (false, eval e X.env) :: starEach es X.env := by rfl) (hpl : (backTo pos (starEach es X.env)).any (·.1) = false := by rfl) : PE X (.Call (.Name x p) (e :: es) [] pos) (tCB r t) := by
  intro pins s σ H Q I h
  refine wpAny_Call_Name_kw (ld_blt I hg hm hv ?_ hn hdb)
  exact PyProof.Rows.callWith_type1 (thn (ha pos pins s σ H _ I h) fun us s1 ⟨vs, H1, I1, r1, q1⟩ => hc pins s1 σ H1 vs us Q I1 r1 q1) he hpl
end
end L2
namespace HT
open PySem PyProof.Rows
section
open PySem.SeqAt
open PySem.AutoSeq1 (wpAny_loadPart')
open PySem.MeetsSeq PySem.MeetsSeq2 PySem.MeetsSeq3
end
section
variable {prog : Program} {w : World} {A : Around} {E : Value → Shared → Prop} {s : Shared}
def sIx (n d : Nat) : Option Int → Nat
  | none => d
  | some v => if v < 0 then (v + (n : Int)).toNat else min v.toNat n
theorem sIx_nat (n d k : Nat) : sIx n d (some (k : Int)) = min k n := by
  show (if (k : Int) < 0 then ((k : Int) + (n : Int)).toNat else min (k : Int).toNat n) = min k n
  rw [if_neg (by omega), Int.toNat_natCast]
end
end HT
namespace L2
open PySem PySem.Spec PyProof.Rows
abbrev TO := St → Hp → (Option Int → Hp → Prop) → Prop
def PO (X : Cx) (e : Option Expr) (t : TO) : Prop :=
  ∀ (pins : List (Addr × Obj)) (s : Shared) (σ : St) (H : Hp) (Q : Option Int → Hp → Prop), Inv X pins σ H s → t σ H Q →
    wpAny (model X.prog X.w) X.A (evalPart e X.env) (fun u s' => ∃ o H', Inv X pins σ H' s' ∧ IsPart u o ∧ Q o H') X.xe s
def tNoPart : TO := fun _ H Q => Q none H
def tPart (t : TE) : TO := fun σ H Q => t σ H fun x H1 => ∃ i, x = .int i ∧ Q (some i) H1
section
variable {X : Cx} {e : Expr} {te : TE} {lo hi : Option Expr} {tl th : TO} {pos p2 : Pos}
theorem po_none : PO X none tNoPart := by
  intro pins s σ H Q I h
  rw [evalPart_none]
  exact wpAny_pure ⟨none, H, I, .none, h⟩
theorem po_some (h : PE X e te) : PO X (some e) (tPart te) := by
  intro pins s σ H Q I hw
  rw [evalPart_some]
  refine thn (h pins s σ H _ I hw) fun u s1 ⟨x, H1, I1, r1, q1⟩ => ?_
  obtain ⟨i, rfl, q⟩ := q1
  obtain ⟨t, rfl⟩ := r1
  exact ⟨some i, H1, I1, .int i t, q⟩
def SlR (X : Cx) (r : V → Option Int → Option Int → Hp → VK → Prop) : Prop :=
  ∀ (pins : List (Addr × Obj)) (s : Shared) (σ : St) (H : Hp) (x : V) (v vl vu : Value) (lo hi : Option Int) (sl : Addr) (Q : VK), Inv X pins σ H s → RelV x v → s.heap.IsSliceOf sl vl vu .none → IsPart vl lo → IsPart vu hi → r x lo hi H Q →
    ∃ T id, typeLookup (.type T) "__getitem__" = pure (some (.builtin id)) ∧ s.TypeIs v T ∧ wpAny (model X.prog X.w) X.A (getItem v (.ref sl)) (EP X pins σ Q) X.xe s
def tSl (r : V → Option Int → Option Int → Hp → VK → Prop) (te : TE) (tl th : TO) : TE := fun σ H Q => te σ H fun x H1 => tl σ H1 fun l H2 => th σ H2 fun u H3 => r x l u H3 Q
theorem pe_slice {r : V → Option Int → Option Int → Hp → VK → Prop} (hr : SlR X r) (he : PE X e te) (hl : PO X lo tl) (hu : PO X hi th) : PE X (.Subscript e (.Slice lo hi none p2) pos) (tSl r te tl th) := by
  intro pins s σ H Q I h
  refine Subscript_ (thn (he pins s σ H _ I h) fun v s1 ⟨x, H1, I1, r1, q1⟩ => ?_)
  refine wpAny_Slice (thn (hl pins s1 σ H1 _ I1 q1) fun vl s2 ⟨l, H2, I2, pl, q2⟩ => thn (hu pins s2 σ H2 _ I2 q2) fun vu s3 ⟨u, H3, I3, pu, q3⟩ => ?_)
  rw [evalPart_none]
  refine wpAny_pure ?_
  have I4 : Inv X pins σ H3 { s3 with heap := s3.heap.push { cls := .type "slice", data := .fields #[vl, vu, .none] } } := I3.kept (t' := s3.toks) fun b ob q => Heap.get?_push_of_some _ q
  obtain ⟨T, id, hT, ht, hg⟩ := hr pins { s3 with heap := s3.heap.push { cls := .type "slice", data := .fields #[vl, vu, .none] } } σ H3 x v vl vu l u s3.heap.objs.size Q I4 r1 (Heap.IsSliceOf.new ..) pl pu q3
  show wpAny (model X.prog X.w) X.A (subscriptTail e (.Slice lo hi none p2) v (.ref s3.heap.objs.size)) (EP X pins σ Q) X.xe { s3 with heap := s3.heap.push { cls := .type "slice", data := .fields #[vl, vu, .none] } }
  exact tail_any (ops := [.ref s3.heap.objs.size, v]) ht hT hg (by with_unfolding_all rfl)
def cutV (xs : List V) (lo hi : Option Int) : List V := (xs.drop (HT.sIx xs.length 0 lo)).take (HT.sIx xs.length xs.length hi - HT.sIx xs.length 0 lo)
theorem cutV_length (xs : List V) (lo hi : Option Int) : (cutV xs lo hi).length ≤ xs.length := by
  unfold cutV
  rw [List.length_take, List.length_drop]
  omega
end
end L2
namespace L2
open PySem PySem.Spec PyProof.Rows
def ixN (n : Nat) (i : Int) : Option Nat := if 0 ≤ i then (if i < n then some i.toNat else none) else if -(n : Int) ≤ i then some (i + n).toNat else none
def atI {α : Type} (xs : List α) (i : Int) : Option α := (ixN xs.length i).bind fun j => xs[j]?
theorem ixN_seq {n : Nat} {i : Int} {j : Nat} (h : ixN n i = some j) : seqIndex? i n = some j ∧ j < n ∧ -(n : Int) ≤ i ∧ i < n := by
  unfold ixN at h
  by_cases h0 : 0 ≤ i
  · rw [if_pos h0] at h
    by_cases h1 : i < n
    · rw [if_pos h1] at h
      have e : i.toNat = j := Option.some.inj h
      exact ⟨by rw [seqIndex_of h0 h1, e], by omega, by omega, h1⟩
    · rw [if_neg h1] at h; cases h
  · rw [if_neg h0] at h
    by_cases h1 : -(n : Int) ≤ i
    · rw [if_pos h1] at h
      have e : (i + n).toNat = j := Option.some.inj h
      exact ⟨by rw [seqIndex_neg (by omega) h1, e], by omega, h1, by omega⟩
    · rw [if_neg h1] at h; cases h
theorem atI_get {α : Type} {xs : List α} {i : Int} {v : α} (h : atI xs i = some v) : ∃ j, seqIndex? i xs.length = some j ∧ xs[j]? = some v ∧ j < xs.length ∧ -(xs.length : Int) ≤ i ∧ i < xs.length := by
  unfold atI at h
  cases e : ixN xs.length i with
  | none => rw [e] at h; cases h
  | some j =>
    rw [e] at h
    obtain ⟨h1, h2, h3, h4⟩ := ixN_seq e
    exact ⟨j, h1, h, h2, h3, h4⟩
theorem atI_nat {α : Type} {xs : List α} {j : Nat} {v : α} (h : xs[j]? = some v) : atI xs (j : Int) = some v := by
  have hj : j < xs.length := (List.getElem?_eq_some_iff.mp h).1
  have e : ixN xs.length (j : Int) = some j := by
    unfold ixN
    rw [if_pos (by omega), if_pos (by omega)]; simp
  unfold atI; rw [e]; exact h
def PlainIx (b : Expr) : Prop := ∀ o i, subscripted b false o i = operate [o, i] (getItem o i)
def IxR (X : Cx) (r : R2) : Prop :=
  ∀ (value slice : Expr) (pins : List (Addr × Obj)) (s : Shared) (σ : St) (H : Hp) (x y : V) (v u : Value) (Q : VK), Inv X pins σ H s → RelV x v → RelV y u → r x y H Q →
    subscripted slice false v u = operate [v, u] (getItem v u) → wpAny (model X.prog X.w) X.A (subscriptTail value slice v u) (EP X pins σ Q) X.xe s
def MtR (X : Cx) (id : String) (r : V → List V → Hp → VK → Prop) : Prop :=
  ∀ (pins : List (Addr × Obj)) (s : Shared) (σ : St) (H : Hp) (x : V) (xs : List V) (v : Value) (us : List Value) (Q : VK), Inv X pins σ H s → RelV x v → Vals xs us → r x xs H Q →
    wpAny (model X.prog X.w) X.A (call (.builtin id) (v :: us)) (EP X pins σ Q) X.xe s
section
variable {X : Cx} {a b : Expr} {ta tb : TE} {pos : Pos}
theorem pe_ix {r : R2} (hr : IxR X r) (ha : PE X a ta) (hb : PE X b tb) (hs : PlainIx b) : PE X (.Subscript a b pos) (tOp r ta tb) := by
  intro pins s σ H Q I h
  exact Subscript_ (binT ha hb I h fun v u s2 x y H2 I2 rx ry q => hr a b pins s2 σ H2 x y v u Q I2 rx ry q (hs _ _))
def rIxL (K : PySem.W.Frag) : R2 := fun x y H Q => ∃ p xs i v, x = .ref p ∧ y = .int i ∧ SqL K H p xs ∧ atI xs i = some v ∧ Q v H
def rIxT (K : PySem.W.Frag) : R2 := fun x y H Q => ∃ p xs i v, x = .ref p ∧ y = .int i ∧ SqT K H p xs ∧ atI xs i = some v ∧ Q v H
theorem ix_list : IxR X (rIxL X.K) := by
  intro value slice pins s σ H x y v u Q I rx ry h hs
  obtain ⟨p, xs, i, z, rfl, rfl, hq, he, q⟩ := h
  cases rx
  obtain ⟨t, rfl⟩ := ry
  obtain ⟨its, r, pl, hz⟩ := I.list hq
  obtain ⟨j, h1, h2, h3, h4, h5⟩ := atI_get he
  obtain ⟨w, ew, rw'⟩ := r.get h2
  have hl := r.length
  have hn := line63
  have fin : EP X pins σ Q w s := ⟨z, H, I, rw', q⟩
  by_cases h0 : 0 ≤ i
  · have hj : i.toNat = j := by
      rw [seqIndex_of h0 h5] at h1
      exact Option.some.inj h1
    exact item_listR pl.isList h0 (by omega) (by rw [hj]; simpa using ew) fin hs
  · have hj : (i + (its.toArray.size : Int)).toNat = j := by
      rw [seqIndex_neg (by omega) h4] at h1
      rw [List.size_toArray, ← hl]
      exact Option.some.inj h1
    exact subscriptTail_builtinR (x := w) pl.isList.typeIs slot_list_getitem.lookup
      (wpAny_getItem_list_neg (Q := fun r s' => r = w ∧ EP X pins σ Q r s') pl.isList (by omega) (by rw [List.size_toArray] <;> omega) (by omega) (by rw [hj]; simpa using ew) ⟨rfl, fin⟩) hs
theorem ix_tup : IxR X (rIxT X.K) := by
  intro value slice pins s σ H x y v u Q I rx ry h hs
  obtain ⟨p, xs, i, z, rfl, rfl, hq, he, q⟩ := h
  cases rx
  obtain ⟨t, rfl⟩ := ry
  obtain ⟨its, r, pl, hz⟩ := I.tuple hq
  obtain ⟨j, h1, h2, h3, h4, h5⟩ := atI_get he
  obtain ⟨w, ew, rw'⟩ := r.get h2
  have hl := r.length
  have hn := line63
  have fin : EP X pins σ Q w s := ⟨z, H, I, rw', q⟩
  exact subscriptTail_builtinR (x := w) pl.typeIs slot_tuple_getitem.lookup
    (getItem_tuple (j := j) (Q := fun r s' => r = w ∧ EP X pins σ Q r s') pl (by omega) (by omega) (by rw [List.size_toArray, ← hl]; exact h1) (by simpa using ew) ⟨rfl, fin⟩) hs
theorem mapSeq_set (its : List Value) (n j : Nat) (u : Value) : Obj.mapSeq (·.setIfInBounds j u) { cls := .type "list", data := .seq its.toArray n } = { cls := .type "list", data := .seq (its.set j u).toArray n } := by
  simp [Obj.mapSeq]
theorem Inv.lst {pins : List (Addr × Obj)} {σ : St} {H : Hp} {s : Shared} {p : Addr} {xs : List V} (I : Inv X pins σ H s) (h : H p = some (.lst xs)) :
    ∃ (its : List Value) (n : Nat), Vals xs its ∧ s.heap.get? p = some { cls := .type "list", data := .seq its.toArray n } ∧ xs.length ≤ sizeLine := by
  obtain ⟨z, its, n, r, e⟩ := I.hok p _ h
  exact ⟨its, n, r, e, z⟩
theorem Inv.lstUpd {pins : List (Addr × Obj)} {σ : St} {H : Hp} {s : Shared} {p : Addr} {xs ys : List V} {its its' : List Value} {n n' : Nat} {f : Obj → Obj} (I : Inv X pins σ H s) (h : H p = some (.lst xs))
    (ho : s.heap.get? p = some { cls := .type "list", data := .seq its.toArray n }) (hf : f { cls := .type "list", data := .seq its.toArray n } = { cls := .type "list", data := .seq its'.toArray n' }) (r : Vals ys its') (hz : ys.length ≤ sizeLine) (t : Nat) :
    Inv X pins σ (upd H p (.lst ys)) { s with heap := s.heap.update p f, toks := t } := by
  have e : (s.heap.update p f).get? p = some { cls := .type "list", data := .seq its'.toArray n' } := by
    rw [Heap.get?_update_self f ho (by rw [hf] <;> rfl), hf]
  refine I.write (x := p) (e := p) (by rw [h]; trivial) (.inl rfl) (fun b u hb q => (Heap.get?_update_other _ _ (Ne.symm hb)).trans q) ⟨_, e⟩ ?_
  exact ⟨hz, its', n', r, e⟩
def rSetL : V → V → V → Hp → (Hp → Prop) → Prop := fun o i v H Q => ∃ p xs k j, o = .ref p ∧ i = .int k ∧ H p = some (.lst xs) ∧ ixN xs.length k = some j ∧ Q (upd H p (.lst (xs.set j v)))
theorem set_list : PSet X rSetL := by
  intro pins s σ H o i v ov iv u Q I ro ri rv h
  obtain ⟨p, xs, k, j, rfl, rfl, hp, hj, q⟩ := h
  cases ro
  obtain ⟨t, rfl⟩ := ri
  obtain ⟨its, n, r, ho, hz⟩ := I.lst hp
  obtain ⟨h1, h2, h3, h4⟩ := ixN_seq hj
  have hl := r.length
  have hn := line63
  have I' : Inv X pins σ (upd H p (.lst (xs.set j v))) { s with heap := s.heap.update p (Obj.mapSeq (·.setIfInBounds j u)) } :=
    I.lstUpd hp ho (mapSeq_set its n j u) (r.set rv j) (by rw [List.length_set]; exact hz) s.toks
  by_cases h0 : 0 ≤ k
  · have hk : k.toNat = j := by
      rw [seqIndex_of h0 h4] at h1
      exact Option.some.inj h1
    exact PySem.W.ki_setAt ho h0 (by omega) (by rw [List.size_toArray, ← hl]; exact h4) (by rw [hk]; exact ⟨_, I', q⟩)
  · have hk : (k + (its.toArray.size : Int)).toNat = j := by
      rw [seqIndex_neg (by omega) h3] at h1
      rw [List.size_toArray, ← hl]
      exact Option.some.inj h1
    exact PySem.W.ki_setBack ho (by omega) (by rw [List.size_toArray, ← hl]; exact h3) (by omega) (by rw [hk]; exact ⟨_, I', q⟩)
theorem slice_bounds (lo hi : Option Int) (n : Nat) : (sliceBounds lo hi none n).1 = ((HT.sIx n 0 lo : Nat) : Int) ∧ (sliceBounds lo hi none n).2.1 = ((HT.sIx n n hi : Nat) : Int) ∧ (sliceBounds lo hi none n).2.2 = 1 := by
  refine ⟨?_, ?_, rfl⟩
  · cases lo with
    | none => simp [sliceBounds, HT.sIx]
    | some i =>
      simp only [sliceBounds, HT.sIx, Option.getD_none, show (1 : Int) > 0 by decide, if_true]
      by_cases h : i < 0
      · simp only [h, if_true] <;> omega
      · simp only [h, if_false] <;> omega
  · cases hi with
    | none => simp [sliceBounds, HT.sIx]
    | some i =>
      simp only [sliceBounds, HT.sIx, Option.getD_none, show (1 : Int) > 0 by decide, if_true]
      by_cases h : i < 0
      · simp only [h, if_true] <;> omega
      · simp only [h, if_false] <;> omega
theorem slicePick_cut (its : List Value) (lo hi : Option Int) : slicePick its.toArray lo hi none = ((its.drop (HT.sIx its.length 0 lo)).take (HT.sIx its.length its.length hi - HT.sIx its.length 0 lo)).toArray := by
  obtain ⟨h1, h2, h3⟩ := slice_bounds lo hi its.toArray.size
  unfold slicePick
  rw [h1, h2, h3]
  simp only [sliceRange_one, pick_run, List.size_toArray] <;> rfl
def rSlL (K : PySem.W.Frag) : V → Option Int → Option Int → Hp → VK → Prop := fun x lo hi H Q => ∃ a xs, x = .ref a ∧ SqL K H a xs ∧ ∀ p, H p = none → Q (.ref p) (upd H p (.lst (cutV xs lo hi)))
theorem sl_list : SlR X (rSlL X.K) := by
  intro pins s σ H x v vl vu lo hi sl Q I rx hs pl pu h
  obtain ⟨a, xs, rfl, hx, q⟩ := h
  cases rx
  obtain ⟨its, r, ht, hz⟩ := I.list hx
  have hlen := r.length
  refine ⟨"list", _, slot_list_getitem.lookup, ht.isList.typeIs, ?_⟩
  refine wpAny_getItem_list_slice ht.isList hs pl pu .none (by simp) ?_ (by rw [List.size_toArray] <;> omega)
  rw [slicePick_cut, ← hlen]
  refine ⟨.ref s.heap.objs.size, _, I.laid (t' := s.toks) (o := .lst (cutV xs lo hi)) (fun b ob q => Heap.get?_push_of_some _ q) (Nat.le_refl _) ?_, rfl, q _ (I.hok.fresh (Nat.le_refl _))⟩
  exact ⟨Nat.le_trans (cutV_length xs lo hi) hz, _, 0, (r.drop (HT.sIx xs.length 0 lo)).take (HT.sIx xs.length xs.length hi - HT.sIx xs.length 0 lo), Heap.get?_push_size _ rfl⟩
theorem call_len_seq : CallR X (.builtin "len") (fun xs H Q => ∃ p ys, xs = [.ref p] ∧ (SqL X.K H p ys ∨ SqT X.K H p ys) ∧ Q (.int ys.length) H) := by
  intro pins s σ H xs us Q I r h
  obtain ⟨p, ys, rfl, hq, q⟩ := h
  obtain ⟨u, rfl, rx⟩ := vals1 r
  cases rx
  have hn := line63
  rcases hq with hq | hq
  · obtain ⟨its, r', pl, hz⟩ := I.list hq
    have hlen := r'.length
    exact Calls.call_len_list pl.isList (by simp only [List.size_toArray] <;> omega) ⟨.int ys.length, H, I.tok _, ⟨s.toks + 1, by rw [List.size_toArray, hlen]⟩, q⟩
  · obtain ⟨its, r', pl, hz⟩ := I.tuple hq
    have hlen := r'.length
    exact len_tuple pl (by simp only [List.size_toArray] <;> omega) ⟨.int ys.length, H, I.tok _, ⟨s.toks + 1, by rw [List.size_toArray, hlen]⟩, q⟩
theorem call_list_of : CallR X (.type "list") (fun xs H Q => ∃ p ys, xs = [.ref p] ∧ (SqL X.K H p ys ∨ SqT X.K H p ys) ∧ ∀ l, H l = none → Q (.ref l) (upd H l (.lst ys))) := by
  intro pins s σ H xs us Q I r h
  obtain ⟨p, ys, rfl, hq, q⟩ := h
  obtain ⟨u, rfl, rx⟩ := vals1 r
  cases rx
  have fin : ∀ (its : List Value), Vals ys its → ys.length ≤ sizeLine → ∀ (h' : Heap) (c' : Nat), (∀ b o', s.heap.get? b = some o' → h'.get? b = some o') →
      h'.get? s.heap.objs.size = some { cls := .type "list", dict := none, data := .seq its.toArray c', slots := #[] } → EP X pins σ Q (.ref s.heap.objs.size) { s with heap := h' } := fun its r' hz h' c' kp e =>
    ⟨.ref s.heap.objs.size, _, I.laid (t' := s.toks) kp (Nat.le_refl _) (show ObjOk X.prog X.w _ h' _ (.lst ys) from ⟨hz, its, c', r', e⟩), rfl, q _ (I.hok.fresh (Nat.le_refl _))⟩
  rcases hq with hq | hq
  · obtain ⟨its, r', pl, hz⟩ := I.list hq
    have hlen := r'.length
    obtain ⟨o, ho, hc, n, hd⟩ := pl.isList
    exact call_list_seq p (.inl rfl) ho hc hd (fun h' c' kp e => fin its r' hz h' c' kp e) (by simp only [List.size_toArray] <;> omega)
  · obtain ⟨its, r', pl, hz⟩ := I.tuple hq
    have hlen := r'.length
    obtain ⟨o, ho, hc, n, hd⟩ := pl
    exact call_list_seq p (.inr rfl) ho hc hd (fun h' c' kp e => fin its r' hz h' c' kp e) (by simp only [List.size_toArray] <;> omega)
theorem call_tuple_of : CallR X (.type "tuple") (fun xs H Q => ∃ p ys, xs = [.ref p] ∧ ((SqL X.K H p ys ∧ ∀ l, H l = none → Q (.ref l) (upd H l (.tup ys))) ∨ (SqT X.K H p ys ∧ Q (.ref p) H))) := by
  intro pins s σ H xs us Q I r h
  obtain ⟨p, ys, rfl, h⟩ := h
  obtain ⟨u, rfl, rx⟩ := vals1 r
  cases rx
  rcases h with ⟨hq, q⟩ | ⟨hq, q⟩
  · obtain ⟨its, r', pl, hz⟩ := I.list hq
    have hlen := r'.length
    refine call_tuple_list pl.isList (fun h' kp => ?_) (by simp only [List.size_toArray] <;> omega)
    have I1 : Inv X pins σ H { s with heap := h' } := I.kept (t' := s.toks) kp
    have I2 : Inv X pins σ (upd H h'.objs.size (.tup ys)) { s with heap := h'.push { cls := .type "tuple", data := .seq its.toArray } } :=
      I1.laid (t' := s.toks) (fun b o e => Heap.get?_push_of_some _ e) (Nat.le_refl _) (show ObjOk X.prog X.w _ _ _ (.tup ys) from ⟨hz, its, r', IsTup.new _ _⟩)
    exact ⟨.ref h'.objs.size, _, I2, rfl, q _ (I1.hok.fresh (Nat.le_refl _))⟩
  · obtain ⟨its, r', pl, hz⟩ := I.tuple hq
    exact call_tuple_same pl ⟨.ref p, H, I, rfl, q⟩
def tyV (K : PySem.W.Frag) (T : String) (x : V) (H : Hp) : Prop := match x with
  | .str _ => T = "str"
  | .int _ => T = "int"
  | .ref p => (T = "list" ∧ ∃ xs, SqL K H p xs) ∨ (T = "tuple" ∧ ∃ o, K.lookup p = some o ∧ o.cls = .type "tuple" ∧ o.dict = none) ∨
      (T = "dict" ∧ ((∃ kvs, H p = some (.dK kvs)) ∨ ∃ kvs, H p = some (.dT kvs))) ∨ (T = "set" ∧ ∃ S n, H p = some (.set S n))
  | _ => False
theorem tyV_is {pins : List (Addr × Obj)} {σ : St} {H : Hp} {s : Shared} {T : String} {x : V} {v : Value} (I : Inv X pins σ H s) (r : RelV x v) (ty : tyV X.K T x H) :
    s.TypeIs v T ∧ ∀ a, v = .ref a → ∃ ob, s.heap.get? a = some ob ∧ ob.dict = none := by
  cases x with
  | str z =>
    obtain ⟨t, rfl⟩ := r
    cases (show T = "str" from ty)
    exact ⟨typeIs_str s z t, fun _ e => nomatch e⟩
  | int i =>
    obtain ⟨t, rfl⟩ := r
    cases (show T = "int" from ty)
    exact ⟨typeIs_int s i t, fun _ e => nomatch e⟩
  | ref p =>
    cases r
    rcases ty with ⟨rfl, xs, hq⟩ | ⟨rfl, o, hk, hc, hd⟩ | ⟨rfl, hk⟩ | ⟨rfl, S, n, hk⟩
    · obtain ⟨its, _, pl, _⟩ := I.list hq
      refine ⟨pl.isList.typeIs, fun a e => ?_⟩
      cases e
      obtain ⟨o, n, e, c, hd, _⟩ := pl
      exact ⟨o, e, hd⟩
    · refine ⟨⟨o, I.kIn p o hk, hc⟩, fun a e => ?_⟩
      cases e
      exact ⟨o, I.kIn _ o hk, hd⟩
    · have z : ∃ o, s.heap.get? p = some o ∧ o.ExactDict := by
        rcases hk with ⟨kvs, hk⟩ | ⟨kvs, hk⟩
        · obtain ⟨_, _, _, _, o, _, _, e, ex, _⟩ := I.hok p _ hk
          exact ⟨o, e, ex⟩
        · obtain ⟨_, _, _, _, o, _, _, e, ex, _⟩ := I.hok p _ hk
          exact ⟨o, e, ex⟩
      obtain ⟨o, e, ex⟩ := z
      refine ⟨⟨o, e, ex.1⟩, fun a e2 => ?_⟩
      cases e2
      exact ⟨o, e, ex.2.1⟩
    · obtain ⟨o, _, _, _, e, ex, _⟩ := I.hok p _ hk
      refine ⟨⟨o, e, ex.1⟩, fun a e2 => ?_⟩
      cases e2
      exact ⟨o, e, ex.2.1⟩
  | _ => exact False.elim ty
def tBM0 (K : PySem.W.Frag) (T : String) (r : V → List V → Hp → VK → Prop) (to : TE) : TE := fun σ H Q => to σ H fun x H1 => tyV K T x H1 ∧ r x [] H1 Q
def tBM (K : PySem.W.Frag) (T : String) (r : V → List V → Hp → VK → Prop) (to : TE) (t : TA) : TE := fun σ H Q => to σ H fun x H1 => tyV K T x H1 ∧ t σ H1 fun xs H2 => r x xs H2 Q
variable {o e : Expr} {es : List Expr} {to : TE} {t : TA} {name : Str} {apos cpos : Pos} {T id : String} {r : V → List V → Hp → VK → Prop}
theorem pe_bm0 (pa : PlainAttrs T) (slot : Slot T name id) (hty : typeOf (.builtin id) = pure (.type "method_descriptor")) (hm : MtR X id r) (ho : PE X o to)
    (hbase : attributeBase o name X.env (eval o X.env) = eval o X.env := by rfl) (hline : (apos.endLine == cpos.line) = true := by rfl) : PE X (.Call (.Attribute o name apos) [] [] cpos) (tBM0 X.K T r to) := by
  intro pins s σ H Q I h
  refine wpAny_Call_method0_late hbase hline (thn (ho pins s σ H _ I h) fun v s1 ⟨x, H1, I1, r1, ty, q1⟩ => ?_)
  obtain ⟨h1, h2⟩ := tyV_is I1 r1 ty
  exact ⟨T, id, pa, slot, hty, h1, h2, Calls.callWith_builtin rfl (PySem.evalArgs_none (hm pins s1 σ H1 x [] v [] Q I1 r1 .nil q1))⟩
theorem pe_bm (pa : PlainAttrs T) (slot : Slot T name id) (hty : typeOf (.builtin id) = pure (.type "method_descriptor")) (hm : MtR X id r) (ho : PE X o to) (ha : PA X (e :: es) t)
    (hbase : attributeBase o name X.env (eval o X.env) = eval o X.env := by rfl)
    (hfew : ((backTo cpos (starEach (e :: es) X.env)).all (fun x => !x.1) && (backToKw cpos (keywordEach [] X.env)).all (fun x => x.1.isSome)
      && decide ((e :: es).length + ([] : List Keyword).length + (if ([] : List Keyword).isEmpty then 0 else 1) < 30)) = true := by rfl)
    (hline : (apos.endLine == cpos.line) = true := by rfl) (hs : starEach (e :: es) X.env = (false, eval e X.env) :: starEach es X.env := by rfl) (hplain : (backTo cpos (starEach es X.env)).any (·.1) = false := by rfl) :
    PE X (.Call (.Attribute o name apos) (e :: es) [] cpos) (tBM X.K T r to t) := by
  intro pins s σ H Q I h
  refine wpAny_Call_method_late hbase hfew hline rfl (thn (ho pins s σ H _ I h) fun v s1 ⟨x, H1, I1, r1, ty, q1⟩ => ?_)
  obtain ⟨h1, h2⟩ := tyV_is I1 r1 ty
  refine ⟨T, id, pa, slot, hty, h1, h2, ?_⟩
  have hA := ha cpos pins s1 σ H1 _ I1 q1
  rw [hs] at hA ⊢
  refine Calls.callWith_builtin (by show (false || (backTo cpos (starEach es X.env)).any (·.1)) = false; rw [hplain] <;> rfl) (Calls.evalArgs_plain ?_)
  exact thn hA fun us s2 ⟨vs, H2, I2, r2, q2⟩ => hm pins s2 σ H2 x vs v us Q I2 r1 r2 q2
end
end L2
namespace L2
open PySem PySem.Spec PyProof.Rows
def MtM (X : Cx) (id : String) (r : V → List V → Hp → VK → Prop) : Prop :=
  ∀ (pins : List (Addr × Obj)) (s : Shared) (σ : St) (H : Hp) (x : V) (xs : List V) (v : Value) (us : List Value) (Q : VK), Inv X pins σ H s → RelV x v → Vals xs us → r x xs H Q →
    wpAny (model X.prog X.w) X.A (call (.builtin id) (v :: us)) (EP X pins σ Q) X.xe s
theorem Vals.one : ∀ {x : V} {us : List Value}, Vals [x] us → ∃ u, us = [u] ∧ RelV x u
  | _, _, .cons r .nil => ⟨_, rfl, r⟩
theorem Vals.zero : ∀ {us : List Value}, Vals [] us → us = []
  | _, .nil => rfl
theorem Vals.dropLast {xs : List V} {us : List Value} (h : Vals xs us) : Vals xs.dropLast us.dropLast := by
  induction h with
  | nil => exact .nil
  | cons r t ih =>
    cases t with
    | nil => exact .nil
    | cons q t' => exact .cons r ih
theorem Vals.eraseIdx : ∀ {xs : List V} {us : List Value} (i : Nat), Vals xs us → Vals (xs.eraseIdx i) (us.eraseIdx i)
  | _, _, _, .nil => .nil
  | _, _, 0, .cons _ t => t
  | _, _, i + 1, .cons r t => .cons r (Vals.eraseIdx i t)
theorem Vals.rep {xs : List V} {us : List Value} (h : Vals xs us) : ∀ k : Nat, Vals (List.replicate k xs).flatten (List.replicate k us).flatten
  | 0 => .nil
  | k + 1 => by
    rw [List.replicate_succ, List.replicate_succ, List.flatten_cons, List.flatten_cons]
    exact Vals.append h (Vals.rep h k)
theorem erase_last {α : Type} (l : List α) : l.eraseIdx (l.length - 1) = l.dropLast := by
  induction l with
  | nil => rfl
  | cons a r ih =>
    cases r with
    | nil => rfl
    | cons b r =>
      have e : (a :: b :: r).length - 1 = ((b :: r).length - 1) + 1 := by
        have h1 : (a :: b :: r).length = r.length + 2 := rfl
        have h2 : (b :: r).length = r.length + 1 := rfl
        omega
      rw [e, List.eraseIdx_cons_succ, ih]
      all_goals rfl
theorem len_erase {α : Type} : ∀ (l : List α) (i : Nat), (l.eraseIdx i).length ≤ l.length
  | [], _ => Nat.le_refl _
  | _ :: _, 0 => Nat.le_succ _
  | _ :: r, i + 1 => Nat.succ_le_succ (len_erase r i)
theorem foldl_rep (its : List Value) : ∀ (k : Nat) (acc : List Value),
    List.foldl (fun x1 x2 => x1 ++ x2) acc.toArray (List.replicate k its.toArray) = (acc ++ (List.replicate k its).flatten).toArray
  | 0, acc => by simp
  | k + 1, acc => by
    have e : acc.toArray ++ its.toArray = (acc ++ its).toArray := by simp
    have e2 : (acc ++ its) ++ (List.replicate k its).flatten = acc ++ (List.replicate (k + 1) its).flatten := by
      rw [List.replicate_succ, List.flatten_cons, List.append_assoc]
    rw [← e2, ← foldl_rep its k (acc ++ its), ← e, List.replicate_succ, List.foldl_cons]
section
variable {X : Cx} {pins : List (Addr × Obj)} {σ : St} {H : Hp} {s : Shared} {l b : Addr} {xs ys zs : List V}
theorem Inv.lset {its its' : List Value} {n : Nat} {f : Array Value → Array Value} {t' : Nat} (I : Inv X pins σ H s) (hH : H l = some (.lst xs))
    (e : s.heap.get? l = some { cls := .type "list", data := .seq its.toArray n }) (hf : f its.toArray = its'.toArray) (hv : Vals ys its') (hz : ys.length ≤ sizeLine) :
    Inv X pins σ (upd H l (.lst ys)) { s with heap := s.heap.update l (Obj.mapSeq f), toks := t' } := by
  have q := PySem.IsL.update e f
  rw [hf] at q
  refine I.write (x := l) (e := l) (by rw [hH]; exact trivial) (.inl rfl) (fun b' u hb hu => (Heap.get?_update_other s.heap (Obj.mapSeq f) (Ne.symm hb)).trans hu) ⟨_, q⟩ ?_
  exact ⟨hz, its', _, hv, q⟩
theorem Inv.lnew {its : List Value} {t' : Nat} (I : Inv X pins σ H s) (hv : Vals ys its) (hz : ys.length ≤ sizeLine) :
    Inv X pins σ (upd H s.heap.objs.size (.lst ys)) { s with heap := s.heap.push { cls := .type "list", data := .seq its.toArray }, toks := t' } :=
  I.laid (fun _ _ q => Heap.get?_push_of_some _ q) (Nat.le_refl _) ⟨hz, its, 0, hv, Heap.get?_push_size _ rfl⟩
theorem Inv.fresh (I : Inv X pins σ H s) : H s.heap.objs.size = none := I.hok.fresh (Nat.le_refl _)
theorem Inv.lstM (I : Inv X pins σ H s) (hH : H l = some (.lst xs)) : xs.length ≤ sizeLine ∧ ∃ (its : List Value) (n : Nat), Vals xs its ∧ xs.length = its.length ∧ s.heap.get? l = some { cls := .type "list", data := .seq its.toArray n } := by
  obtain ⟨z, its, n, r, e⟩ := I.hok l _ hH
  exact ⟨z, its, n, r, r.length, e⟩
theorem notLongL {n : Nat} (h : n ≤ sizeLine) : Builtin.List.listTooLong n = false := by
  unfold Builtin.List.listTooLong
  exact decide_eq_false (by omega)
end
section
variable {X : Cx}
def rAppend : V → List V → Hp → VK → Prop := fun x vs H Q => ∃ l xs y, x = .ref l ∧ vs = [y] ∧ H l = some (.lst xs) ∧ xs.length < sizeLine ∧ Q .non (upd H l (.lst (xs ++ [y])))
theorem mt_append : MtM X "list.append" rAppend := by
  intro pins s σ H x vs v us Q I rx rv h
  obtain ⟨l, xs, y, rfl, rfl, hH, hz, q⟩ := h
  cases rx
  obtain ⟨u, rfl, ru⟩ := rv.one
  obtain ⟨z, its, n, r, hl, e⟩ := I.lstM hH
  refine call_meets F.slot_list_append ⟨_, e, rfl⟩ F.entry_list_append (F.args_list_append_2 _ _) (PySem.list_append l its.toArray n u (by rw [List.size_toArray]; omega)) ⟨e, ?_⟩
  refine ⟨.non, _, I.lset (its' := its ++ [u]) hH e (by simp) (r.append (.cons ru .nil)) ?_, rfl, q⟩
  rw [List.length_append, List.length_singleton]
  omega
def rExtend : V → List V → Hp → VK → Prop := fun x vs H Q => ∃ l b xs zs, x = .ref l ∧ vs = [.ref b] ∧ H l = some (.lst xs) ∧ H b = some (.lst zs) ∧ xs.length + zs.length ≤ sizeLine ∧ Q .non (upd H l (.lst (xs ++ zs)))
theorem mt_extend : MtM X "list.extend" rExtend := by
  intro pins s σ H x vs v us Q I rx rv h
  obtain ⟨l, b, xs, zs, rfl, rfl, hH, hB, hz, q⟩ := h
  cases rx
  obtain ⟨u, rfl, ru⟩ := rv.one
  cases ru
  obtain ⟨z, its, n, r, hl, e⟩ := I.lstM hH
  obtain ⟨z2, its2, n2, r2, hl2, e2⟩ := I.lstM hB
  have hsz : its.toArray.size + its2.toArray.size ≤ sizeLine := by rw [List.size_toArray, List.size_toArray]; omega
  have hlong : ¬ (!its.toArray.isEmpty && Builtin.List.listTooLong (its.toArray.size + its2.toArray.size)) = true := by
    rw [notLongL hsz, Bool.and_false]
    exact Bool.false_ne_true
  refine call_meets F.slot_list_extend ⟨_, e, rfl⟩ F.entry_list_extend (F.args_list_extend_2 _ _)
    (AutoSeq1.list_extend_list_list_0 l its.toArray n b its2.toArray n2 hlong (by rw [List.size_toArray]; omega) (by omega)) ⟨e, e2, ?_⟩
  refine ⟨.non, _, I.lset (its' := its ++ its2) hH e (by simp) (r.append r2) ?_, rfl, q⟩
  rw [List.length_append]
  omega
def rPop : V → List V → Hp → VK → Prop := fun x vs H Q => ∃ l xs y, x = .ref l ∧ vs = [] ∧ H l = some (.lst xs) ∧ xs[xs.length - 1]? = some y ∧ Q y (upd H l (.lst xs.dropLast))
theorem mt_pop : MtM X "list.pop" rPop := by
  intro pins s σ H x vs v us Q I rx rv h
  obtain ⟨l, xs, y, rfl, rfl, hH, hy, q⟩ := h
  cases rx
  have hus := rv.zero
  subst hus
  obtain ⟨z, its, n, r, hl, e⟩ := I.lstM hH
  obtain ⟨u, hu, ru⟩ := r.get hy
  have hy' : its.toArray[its.toArray.size - 1]? = some u := by
    show its.toArray[its.length - 1]? = some u
    rw [← Array.getElem?_toList, ← hl]
    exact hu
  refine call_meets F.slot_list_pop ⟨_, e, rfl⟩ F.entry_list_pop (F.args_list_pop_1 _) (MeetsSeq.list_pop_last l its.toArray n u hy' (by rw [List.size_toArray]; omega)) ⟨e, ?_⟩
  refine ⟨y, _, I.lset (its' := its.dropLast) hH e ?_ r.dropLast ?_, ru, q⟩
  · show its.toArray.eraseIdxIfInBounds (its.toArray.size - 1) = its.dropLast.toArray
    rw [List.size_toArray, List.eraseIdxIfInBounds_toArray, erase_last]
  · rw [List.length_dropLast]
    omega
def rPopAt : V → List V → Hp → VK → Prop := fun x vs H Q => ∃ l xs i k y, x = .ref l ∧ vs = [.int i] ∧ H l = some (.lst xs) ∧ -(2 ^ 63) ≤ i ∧ i < 2 ^ 63 ∧ seqIndex? i xs.length = some k ∧ xs[k]? = some y ∧ Q y (upd H l (.lst (xs.eraseIdx k)))
theorem mt_popAt : MtM X "list.pop" rPopAt := by
  intro pins s σ H x vs v us Q I rx rv h
  obtain ⟨l, xs, i, k, y, rfl, rfl, hH, h1, h2, hk, hy, q⟩ := h
  cases rx
  obtain ⟨u, rfl, ru⟩ := rv.one
  obtain ⟨t, rfl⟩ := ru
  obtain ⟨z, its, n, r, hl, e⟩ := I.lstM hH
  obtain ⟨w, hw, rw'⟩ := r.get hy
  refine call_meets F.slot_list_pop ⟨_, e, rfl⟩ F.entry_list_pop (F.args_list_pop_2 _ _)
    (MeetsSeq.list_pop_at l its.toArray n i t k w (fitsIndex_both h1 h2) (by rw [List.size_toArray, ← hl]; exact hk) (by rw [← Array.getElem?_toList]; exact hw) (by rw [List.size_toArray]; omega)) ⟨e, ?_⟩
  refine ⟨y, _, I.lset (its' := its.eraseIdx k) hH e ?_ (r.eraseIdx k) ?_, rw', q⟩
  · show its.toArray.eraseIdxIfInBounds k = (its.eraseIdx k).toArray
    rw [List.eraseIdxIfInBounds_toArray]
  · have := len_erase xs k
    omega
def rClear : V → List V → Hp → VK → Prop := fun x vs H Q => ∃ l xs, x = .ref l ∧ vs = [] ∧ H l = some (.lst xs) ∧ Q .non (upd H l (.lst []))
theorem mt_clear : MtM X "list.clear" rClear := by
  intro pins s σ H x vs v us Q I rx rv h
  obtain ⟨l, xs, rfl, rfl, hH, q⟩ := h
  cases rx
  have hus := rv.zero
  subst hus
  obtain ⟨z, its, n, r, hl, e⟩ := I.lstM hH
  refine call_meets F.slot_list_clear ⟨_, e, rfl⟩ F.entry_list_clear (F.args_list_clear_1 _) (AutoSeq1.list_clear_list_0 l its.toArray n (by rw [List.size_toArray]; omega)) ⟨e, ?_⟩
  exact ⟨.non, _, I.lset (its' := []) (ys := []) hH e rfl .nil (Nat.zero_le _), rfl, q⟩
def rCat : R2 := fun x y H Q => ∃ l b xs zs, x = .ref l ∧ y = .ref b ∧ H l = some (.lst xs) ∧ H b = some (.lst zs) ∧ xs.length + zs.length ≤ sizeLine ∧ ∀ p, H p = none → Q (.ref p) (upd H p (.lst (xs ++ zs)))
theorem op_cat : OpR X (binaryOp .Add) rCat := by
  intro pins s σ H x y v u Q I rx ry h
  obtain ⟨l, b, xs, zs, rfl, rfl, hH, hB, hz, q⟩ := h
  cases rx
  cases ry
  obtain ⟨z, its, n, r, hl, e⟩ := I.lstM hH
  obtain ⟨z2, its2, n2, r2, hl2, e2⟩ := I.lstM hB
  refine PySem.P.add_list e e2 ?_ (by rw [List.size_toArray, List.size_toArray]; omega)
  have ea : its.toArray ++ its2.toArray = (its ++ its2).toArray := by simp
  rw [ea]
  exact ⟨.ref _, _, I.lnew (t' := s.toks) (r.append r2) (by rw [List.length_append]; omega), rfl, q _ I.fresh⟩
def rRep : R2 := fun x y H Q => ∃ l k xs, x = .ref l ∧ y = .int k ∧ H l = some (.lst xs) ∧ -(2 ^ 63) ≤ k ∧ k < 2 ^ 63 ∧ xs.length * k.toNat ≤ sizeLine ∧
  ∀ p, H p = none → Q (.ref p) (upd H p (.lst (List.replicate k.toNat xs).flatten))
theorem len_rep {α : Type} (xs : List α) (k : Nat) : (List.replicate k xs).flatten.length = k * xs.length := by
  induction k with
  | zero => simp
  | succ k ih => rw [List.replicate_succ, List.flatten_cons, List.length_append, ih, Nat.succ_mul, Nat.add_comm]
theorem op_rep : OpR X (binaryOp .Mult) rRep := by
  intro pins s σ H x y v u Q I rx ry h
  obtain ⟨l, k, xs, rfl, rfl, hH, h1, h2, hz, q⟩ := h
  cases rx
  obtain ⟨t, rfl⟩ := ry
  obtain ⟨z, its, n, r, hl, e⟩ := I.lstM hH
  have hlen : its.toArray.size * k.toNat ≤ sizeLine := by rw [List.size_toArray, ← hl]; exact hz
  have hcap : ¬ its.toArray.size * k.toNat > (2 ^ 63 - 1) / 8 := by
    have : (sizeLine : Nat) ≤ (2 ^ 63 - 1) / 8 := by decide
    omega
  have hfit : ¬ (!Builtin.List.listFitsIndex k) = true := by
    rw [fitsIndex_both h1 h2]
    exact Bool.false_ne_true
  have hlong : ¬ Builtin.List.listTooLong (its.toArray.size * k.toNat) = true := by
    rw [notLongL hlen]
    exact Bool.false_ne_true
  have hnew : List.foldl (fun x1 x2 => x1 ++ x2) #[] (List.replicate (if its.toArray.isEmpty = true then 0 else k.toNat) its.toArray) = (List.replicate k.toNat its).flatten.toArray := by
    have f0 : ∀ m : Nat, List.foldl (fun x1 x2 => x1 ++ x2) #[] (List.replicate m its.toArray) = (List.replicate m its).flatten.toArray := fun m => by
      have := foldl_rep its m []
      rw [List.nil_append] at this
      exact this
    rw [f0]
    cases its with
    | nil => simp
    | cons a r' => rw [if_neg (by simp)]
  refine wpAny_binaryOp_repeat_ref (T := "list") (U := "int") (by decide) ⟨_, e, rfl⟩ (fun s' => typeIs_int s' k t) noFill_list_mul F.fills_int_mul F.slot_int_rmul repeat_list F.slot_int_index.lookup
    (call_meets F.slot_int_rmul (typeIs_int s k t) F.entry_int_rmul (F.args_int_rmul_2 _ _) (int___rmul___int_list k t l its.toArray n)
      ⟨e, rfl, ⟨_, e, rfl⟩, call_meets F.slot_list_mul ⟨_, e, rfl⟩ F.entry_list_mul (F.args_list_mul_2 _ _) (AutoListH.list___mul___list_int_3 l its.toArray n k t hfit hcap hlong) ⟨e, ?_⟩⟩)
  rw [hnew]
  exact ⟨.ref _, _, I.lnew (t' := s.toks) (r.rep k.toNat) (by rw [len_rep, Nat.mul_comm]; exact hz), rfl, q _ I.fresh⟩
end
section
variable {prog : Program} {w : World} {A : Around} {E : Value → Shared → Prop} {s : Shared}
end
section
variable {X : Cx}
end
end L2
namespace L2
open PySem PySem.Spec PyProof.Rows
theorem Vals.ints : ∀ {ns : List Int} {us : List Value}, Vals (ns.map V.int) us → IntsAre us ns
  | [], us, h => by
    rw [List.map_nil] at h
    cases h
    exact IntsAre.nil
  | n :: ns, us, h => by
    rw [List.map_cons] at h
    cases h with
    | cons r t =>
      obtain ⟨k, rfl⟩ := r
      exact IntsAre.cons n k (Vals.ints t)
theorem vals_of_ints : ∀ {us : List Value} {ns : List Int}, IntsAre us ns → Vals (ns.map V.int) us
  | _, _, .nil => by rw [List.map_nil]; exact Paired.nil
  | _, _, .cons n t h => by rw [List.map_cons]; exact Paired.cons (show RelV (V.int n) (Value.int n t) from ⟨t, rfl⟩) (vals_of_ints h)
theorem Vals.ref1 {a : Addr} {us : List Value} (r : Vals [V.ref a] us) : us = [Value.ref a] := by
  cases r with
  | cons r t =>
    cases t
    cases r
    rfl
section
variable {prog : Program} {w : World} {A : Around} {E : Value → Shared → Prop} {s : Shared} {l : Addr} {its : List Value} {ns : List Int} {Q : Value → Shared → Prop}
theorem sum_raw (hh : A.handled = none) (hl : s.heap.IsList l its.toArray) (hi : IntsAre its ns)
    (h : ∀ h' tk t', (∀ b o, s.heap.get? b = some o → h'.get? b = some o) → Q (.int ns.sum t') { s with heap := h', toks := tk }) : wpAny (model prog w) A (call (.builtin "sum") [.ref l]) Q E s := by
  obtain ⟨xs, e⟩ := hi.allInts.items
  have hn : numsOf (intItems xs).toList = ns := by rw [← e]; exact hi.numsOf
  rw [nums_intItems] at hn
  rw [e] at hl
  refine PySem.sum_intListG hh hl fun h' tk t' hk => ?_
  have := h h' tk t' hk
  rw [preSum_eq, List.take_of_length_le (by simp), hn]; exact this
theorem min_raw (hh : A.handled = none) (hl : s.heap.IsList l its.toArray) (hi : IntsAre its ns) (hne : 0 < ns.length)
    (h : ∀ h' tk M t', (∀ b o, s.heap.get? b = some o → h'.get? b = some o) → M ∈ ns → (∀ a, a ∈ ns → M ≤ a) → Q (.int M t') { s with heap := h', toks := tk }) : wpAny (model prog w) A (call (.builtin "min") [.ref l]) Q E s := by
  obtain ⟨xs, e⟩ := hi.allInts.items
  have hn : numsOf (intItems xs).toList = ns := by rw [← e]; exact hi.numsOf
  rw [nums_intItems] at hn
  subst hn
  rw [e] at hl
  have hsz : 0 < xs.size := by simpa using hne
  refine PySem.min_intList hh hl hsz fun v h' tk hv hk => ?_
  obtain ⟨t, rfl⟩ := intItems_at hv
  obtain ⟨h1, h2⟩ := argBest_lt (numAt xs) (xs.size - 1)
  refine h h' tk _ t hk ?_ fun a ha => ?_
  · rw [numAt_eq]; exact PySem.getD_mem (by rw [List.length_map, Array.length_toList]; omega)
  · obtain ⟨j, hj, rfl⟩ := mem_getD ha
    rw [List.length_map, Array.length_toList] at hj
    rw [← numAt_eq]; exact h2 j (by omega)
end
section
variable {X : Cx}
def rSum (K : PySem.W.Frag) : List V → Hp → VK → Prop := fun vs H Q => ∃ (a : Addr) (ns : List Int), vs = [V.ref a] ∧ SqL K H a (ns.map V.int) ∧ Q (.int ns.sum) H
def rMin (K : PySem.W.Frag) : List V → Hp → VK → Prop := fun vs H Q => ∃ (a : Addr) (ns : List Int), vs = [V.ref a] ∧ SqL K H a (ns.map V.int) ∧ 0 < ns.length ∧ ∀ m, m ∈ ns → (∀ y, y ∈ ns → m ≤ y) → Q (.int m) H
theorem cr_sum (hc : X.calm = true) : CallR X (.builtin "sum") (rSum X.K) := by
  intro pins s σ H vs us Q I r h
  obtain ⟨a, ns, rfl, hs, q⟩ := h
  obtain ⟨its, rv, hl, _⟩ := I.list hs
  rw [Vals.ref1 r]
  exact sum_raw (I.ok.hd hc) hl.isList rv.ints fun h' tk t' hk => ⟨.int _, H, I.kept hk, ⟨_, rfl⟩, q⟩
theorem cr_min (hc : X.calm = true) : CallR X (.builtin "min") (rMin X.K) := by
  intro pins s σ H vs us Q I r h
  obtain ⟨a, ns, rfl, hs, hne, q⟩ := h
  obtain ⟨its, rv, hl, _⟩ := I.list hs
  rw [Vals.ref1 r]
  exact min_raw (I.ok.hd hc) hl.isList rv.ints hne fun h' tk m t' hk h1 h2 => ⟨.int _, H, I.kept hk, ⟨_, rfl⟩, q m h1 h2⟩
end
section
variable {X : Cx}
end
section
variable {X : Cx}
end
section
variable {X : Cx}
end
section
variable {X : Cx} {pins : List (Addr × Obj)} {σ : St} {H : Hp} {s : Shared}
end
section
variable {X : Cx}
end
end L2
namespace L2
open PySem PySem.Spec PyProof.Rows
abbrev CellAt (h : Heap) (c : Addr) (v : Option Value) : Prop := h.IsCell c v
def relS (scope sc : Scope) : Scope :=
  { scope with names := scope.names.map fun (n, k) => if (k == .free && sc.kind == .function && sc.names.lookup n == some .cell) then (n, .cell) else (n, k) }
def cloFrom (cells : List (Str × Addr)) : List (Str × NameKind) → List (Str × Addr) → List (Str × Addr)
  | [], acc => acc
  | (n, k) :: r, acc => if k == .free then cloFrom cells r ((n, (cells.lookup n).getD 0) :: acc) else cloFrom cells r acc
theorem closure_loop (env : Env) (f : Str × NameKind → List (Str × Addr) → Sem (ForInStep (List (Str × Addr))))
    (hf : ∀ n k c, f (n, k) c = if k == .free then (do let a ← cellOf env n; pure (.yield ((n, a) :: c))) else pure (.yield c)) :
    ∀ (names : List (Str × NameKind)) (acc : List (Str × Addr)), (∀ y ∈ names, y.2 = .free → ∃ c, env.cells.lookup y.1 = some c) → forIn names acc f = pure (cloFrom env.cells names acc)
  | [], acc, _ => by rw [List.forIn_nil]; rfl
  | (n, k) :: r, acc, h => by
    rw [List.forIn_cons, hf]
    have ih := fun acc => closure_loop env f hf r acc fun y hy => h y (List.mem_cons_of_mem _ hy)
    unfold cloFrom
    by_cases hk : (k == NameKind.free) = true
    · rw [if_pos hk, if_pos hk]
      obtain ⟨c, hc⟩ := h (n, k) List.mem_cons_self (by simpa using hk)
      have e : cellOf env n = pure c := by unfold cellOf; rw [hc]
      rw [e]
      have e2 : (env.cells.lookup n).getD 0 = c := by rw [hc]; rfl
      rw [e2]
      exact ih _
    · rw [if_neg hk, if_neg hk]
      exact ih _
theorem closure_ok {scope : Scope} {env : Env} (h : ∀ y ∈ scope.names, y.2 = .free → ∃ c, env.cells.lookup y.1 = some c) : closureFor scope env = pure (cloFrom env.cells scope.names []) := by
  simp only [closureFor]
  rw [closure_loop env _ (fun n k c => rfl) scope.names [] h]
  rfl
theorem mem_lookup {α : Type} : ∀ {l : List (Str × α)} {n : Str} {c : α}, (n, c) ∈ l → ∃ c', l.lookup n = some c'
  | (k, v) :: r, n, c, h => by
    rw [List.lookup_cons]
    cases hb : n == k with
    | true => exact ⟨_, rfl⟩
    | false =>
      rcases List.mem_cons.mp h with e | h
      · cases e; simp at hb
      · exact mem_lookup h
theorem cloFrom_mem {cells : List (Str × Addr)} : ∀ {names : List (Str × NameKind)} {acc : List (Str × Addr)} {n : Str} {c : Addr}, (n, c) ∈ cloFrom cells names acc → (n, c) ∈ acc ∨ ((n, .free) ∈ names ∧ c = (cells.lookup n).getD 0)
  | [], _, _, _, h => .inl h
  | (m, k) :: r, acc, n, c, h => by
    unfold cloFrom at h
    split at h
    · rename_i hk
      have hk : k = .free := by simpa using hk
      rcases cloFrom_mem h with h | ⟨h1, h2⟩
      · rcases List.mem_cons.mp h with e | h
        · cases e; exact .inr ⟨hk ▸ List.mem_cons_self, rfl⟩
        · exact .inl h
      · exact .inr ⟨List.mem_cons_of_mem _ h1, h2⟩
    · rcases cloFrom_mem h with h | ⟨h1, h2⟩
      · exact .inl h
      · exact .inr ⟨List.mem_cons_of_mem _ h1, h2⟩
theorem cloFrom_acc {cells : List (Str × Addr)} : ∀ {names : List (Str × NameKind)} {acc : List (Str × Addr)} {p : Str × Addr}, p ∈ acc → p ∈ cloFrom cells names acc
  | [], _, _, h => h
  | (m, k) :: r, acc, p, h => by
    unfold cloFrom
    split
    · exact cloFrom_acc (List.mem_cons_of_mem _ h)
    · exact cloFrom_acc h
theorem cloFrom_has {cells : List (Str × Addr)} : ∀ {names : List (Str × NameKind)} {acc : List (Str × Addr)} {n : Str}, (n, .free) ∈ names → (n, (cells.lookup n).getD 0) ∈ cloFrom cells names acc
  | (m, k) :: r, acc, n, h => by
    unfold cloFrom
    rcases List.mem_cons.mp h with e | h
    · cases e
      exact cloFrom_acc List.mem_cons_self
    · split
      · exact cloFrom_has h
      · exact cloFrom_has h
theorem cells_mem : ∀ {names : List (Str × NameKind)} {h : Heap} {acc : List (Str × Addr)} {x : Str} {c : Addr}, (x, c) ∈ cellsFrom h.objs.size names acc →
    (x, c) ∈ acc ∨ ((x, .cell) ∈ names ∧ h.objs.size ≤ c ∧ CellAt (pushCells h names) c none)
  | [], _, _, _, _, h => .inl h
  | (n, k) :: r, h, acc, x, c, hm => by
    unfold cellsFrom at hm
    unfold pushCells
    split at hm
    · rename_i hk
      rw [if_pos hk]
      have hk : k = .cell := by simpa using hk
      rw [← Heap.size_push h { cls := .type "cell", data := .cell none }] at hm
      rcases cells_mem hm with hm | ⟨h1, h2, h3⟩
      · rcases List.mem_cons.mp hm with e | hm
        · cases e
          exact .inr ⟨hk ▸ List.mem_cons_self, Nat.le_refl _, _, pushCells_keeps r _ _ _ (Heap.get?_push_size _ rfl), rfl⟩
        · exact .inl hm
      · rw [Heap.size_push] at h2
        exact .inr ⟨List.mem_cons_of_mem _ h1, Nat.le_of_succ_le h2, h3⟩
    · rename_i hk
      rw [if_neg hk]
      rcases cells_mem hm with hm | ⟨h1, h2, h3⟩
      · exact .inl hm
      · exact .inr ⟨List.mem_cons_of_mem _ h1, h2, h3⟩
theorem cells_acc : ∀ {names : List (Str × NameKind)} {n : Nat} {acc : List (Str × Addr)} {p : Str × Addr}, p ∈ acc → p ∈ cellsFrom n names acc
  | [], _, _, _, h => h
  | (m, k) :: r, n, acc, p, h => by
    unfold cellsFrom
    split
    · exact cells_acc (List.mem_cons_of_mem _ h)
    · exact cells_acc h
theorem cells_has : ∀ {names : List (Str × NameKind)} {n : Nat} {acc : List (Str × Addr)} {x : Str}, (x, .cell) ∈ names → ∃ c, (x, c) ∈ cellsFrom n names acc
  | (m, k) :: r, n, acc, x, h => by
    unfold cellsFrom
    rcases List.mem_cons.mp h with e | h
    · cases e
      exact ⟨n, cells_acc List.mem_cons_self⟩
    · split
      · exact cells_has h
      · exact cells_has h
theorem cells_inj : ∀ {names : List (Str × NameKind)} {h : Heap} {acc : List (Str × Addr)} {x y : Str} {c : Addr}, (∀ p ∈ acc, p.2 < h.objs.size) → (∀ x y c, (x, c) ∈ acc → (y, c) ∈ acc → x = y) →
    (x, c) ∈ cellsFrom h.objs.size names acc → (y, c) ∈ cellsFrom h.objs.size names acc → x = y
  | [], _, _, _, _, _, _, hi, h1, h2 => hi _ _ _ h1 h2
  | (n, k) :: r, h, acc, x, y, c, hl, hi, h1, h2 => by
    unfold cellsFrom at h1 h2
    split at h1
    · rename_i hk
      rw [if_pos hk] at h2
      rw [← Heap.size_push h { cls := .type "cell", data := .cell none }] at h1 h2
      refine cells_inj (h := h.push _) (fun p hp => ?_) (fun x y c a b => ?_) h1 h2
      · rw [Heap.size_push]
        rcases List.mem_cons.mp hp with rfl | hp
        · exact Nat.lt_succ_self _
        · exact Nat.lt_succ_of_lt (hl p hp)
      · rcases List.mem_cons.mp a with e | a <;> rcases List.mem_cons.mp b with e' | b
        · cases e; cases e'; rfl
        · cases e; exact absurd (hl _ b) (Nat.lt_irrefl _)
        · cases e'; exact absurd (hl _ a) (Nat.lt_irrefl _)
        · exact hi _ _ _ a b
    · rename_i hk
      rw [if_neg hk] at h2
      exact cells_inj hl hi h1 h2
theorem newEnv_comp {M : Model} {A : Around} {E : Value → Shared → Prop} {s : Shared} {scope : Scope} {globals : Addr} {closure : List (Str × Addr)} {qual : Str} {func : Option Addr} {code : Value} {around : Env} {builtins : Addr} {Q : Env → Shared → Prop}
    (h : Q (newEnv scope s.heap.objs.size globals (cellsFrom (s.heap.objs.size + 1) scope.names closure) qual func code (some around) builtins)
      { s with heap := pushCells (s.heap.push { cls := .type "dict", data := .dict #[] }) scope.names }) :
    wpAny M A (newFunctionEnv scope globals closure [] qual func code (some around) builtins) Q E s := by
  simp only [newFunctionEnv, Option.isSome_some, if_true]
  refine wpAny_bind (wpAny_alloc ?_)
  refine wpAny_bind (wpAny_layCells _ (fun n k c => rfl) scope.names closure _ _ ?_)
  rw [show ({ s with heap := s.heap.push { cls := .type "dict", data := .dict #[] } } : Shared).heap.objs.size = s.heap.objs.size + 1 from Heap.size_push ..]
  rw [List.forIn_nil]
  exact wpAny_bind (wpAny_pure (wpAny_pure h))
theorem lookup_relS {sc : Scope} : ∀ {names : List (Str × NameKind)} {x : Str} {k : NameKind},
    (names.map fun (n, k) => if (k == NameKind.free && sc.kind == .function && sc.names.lookup n == some .cell) then (n, NameKind.cell) else (n, k)).lookup x = some k →
    ∃ k', names.lookup x = some k' ∧ (k = k' ∨ (k' = .free ∧ k = .cell))
  | [], _, _, h => by simp at h
  | (n, k₀) :: r, x, k, h => by
    have ih := @lookup_relS sc r x k
    have h' : List.lookup x ((if (k₀ == NameKind.free && sc.kind == .function && sc.names.lookup n == some .cell) = true then (n, NameKind.cell) else (n, k₀)) :: (r.map _)) = some k := h
    cases hx : x == n with
    | true =>
      simp only [List.lookup_cons, hx]
      by_cases hc : (k₀ == NameKind.free && sc.kind == .function && sc.names.lookup n == some .cell) = true
      · rw [if_pos hc] at h'
        simp only [List.lookup_cons, hx] at h'
        cases h'
        simp only [Bool.and_eq_true, beq_iff_eq] at hc
        exact ⟨k₀, rfl, .inr ⟨hc.1.1, rfl⟩⟩
      · rw [if_neg hc] at h'
        simp only [List.lookup_cons, hx] at h'
        cases h'
        exact ⟨_, rfl, .inl rfl⟩
    | false =>
      simp only [List.lookup_cons, hx]
      by_cases hc : (k₀ == NameKind.free && sc.kind == .function && sc.names.lookup n == some .cell) = true
      · rw [if_pos hc] at h'
        simp only [List.lookup_cons, hx] at h'
        exact ih h'
      · rw [if_neg hc] at h'
        simp only [List.lookup_cons, hx] at h'
        exact ih h'
structure BlkOk (N : List Str) (sc scope : Scope) (own : List (Str × Nat)) : Prop where
  kind : scope.kind = .function
  uniq : ∀ y ∈ scope.names, scope.names.lookup y.1 = some y.2
  ix : ∀ p ∈ own, N[p.2]? = some p.1
  free : ∀ y ∈ scope.names, y.2 = .free → sc.names.lookup y.1 = some .cell ∨ sc.names.lookup y.1 = some .free
  own : ∀ y ∈ scope.names, y.2 = .local ∨ y.2 = .cell → y.1 ∈ own.map (·.1) ∨ y.1 ∉ N
def wipe (σ : St) : List Nat → St
  | [] => σ
  | v :: vs => (wipe σ vs).set v none
theorem wipe_length (σ : St) : ∀ vs : List Nat, (wipe σ vs).length = σ.length
  | [] => rfl
  | v :: vs => by unfold wipe; rw [List.length_set, wipe_length σ vs]
theorem wipe_some {σ : St} {i : Nat} {x : V} : ∀ {vs : List Nat}, (wipe σ vs)[i]? = some (some x) → σ[i]? = some (some x) ∧ i ∉ vs
  | [], h => ⟨h, by simp⟩
  | v :: vs, h => by
    unfold wipe at h
    by_cases hi : v = i
    · subst hi
      by_cases hv : v < (wipe σ vs).length
      · rw [List.getElem?_set_self hv] at h; cases h
      · rw [List.getElem?_eq_none (by simpa using hv)] at h; cases h
    · rw [List.getElem?_set_ne hi] at h
      obtain ⟨h1, h2⟩ := wipe_some h
      exact ⟨h1, by simp only [List.mem_cons, not_or]; exact ⟨fun e => hi e.symm, h2⟩⟩
abbrev Cx.blk (X : Cx) (s : Shared) (H : Hp) (scope : Scope) (cenv : Env) (fp : List Addr) : Cx := { X with s_0 := s, H_0 := H, env := cenv, outer := X.stack, ex := fp, fn := fun x => scope.names.lookup x == some .cell, pn := [], xe := fun _ _ => False }
section
variable {X : Cx} {pins : List (Addr × Obj)} {σ : St} {H : Hp} {s : Shared}
theorem block_start {scope : Scope} {own : List (Str × Nat)} {fp : List Addr} (I : Inv X pins σ H s) (ok : BlkOk X.N X.env.scope scope own) (hN : X.N.Nodup) (hfp : ∀ b ∈ fp, FpOk X pins H b ∧ b < s.heap.objs.size) :
    Inv (X.blk s H scope (compEnvC scope (cellsFrom (s.heap.objs.size + 1) scope.names (cloFrom X.env.cells scope.names [])) s.heap.objs.size X.env) fp) [] (wipe σ (own.map (·.2))) H { s with heap := pushCells (s.heap.push { cls := .type "dict", data := .dict #[] }) scope.names } := by
  have hfree : ∀ y ∈ scope.names, y.2 = .free → ∃ c, X.env.cells.lookup y.1 = some c := fun y hy e => by
    rcases ok.free y hy e with k | k
    · exact I.ok.has _ (.inl k)
    · exact I.ok.has _ (.inr k)
  generalize hcenv : compEnvC scope (cellsFrom (s.heap.objs.size + 1) scope.names (cloFrom X.env.cells scope.names [])) s.heap.objs.size X.env = cenv
  have kp : ∀ b o, s.heap.get? b = some o → (pushCells (s.heap.push { cls := .type "dict", data := .dict #[] }) scope.names).get? b = some o := fun b o e => pushCells_keeps _ _ _ _ (Heap.get?_push_of_some _ e)
  have hL : cenv.locals = s.heap.objs.size := by rw [← hcenv]; rfl
  have hcl : cenv.cells = cellsFrom (s.heap.objs.size + 1) scope.names (cloFrom X.env.cells scope.names []) := by rw [← hcenv]; rfl
  have hsc : cenv.scope = relS scope X.env.scope := by rw [← hcenv]; rfl
  rw [← Heap.size_push s.heap { cls := .type "dict", data := .dict #[] }] at hcl
  have cm : ∀ {y c}, (y, c) ∈ cloFrom X.env.cells scope.names [] → X.env.cells.lookup y = some c ∧ c < s.heap.objs.size := fun {y c} hm => by
    rcases cloFrom_mem hm with hm | ⟨h1, rfl⟩
    · cases hm
    · obtain ⟨c, hc⟩ := hfree _ h1 rfl
      rw [hc]
      obtain ⟨w, z⟩ := I.cell _ _ hc
      exact ⟨rfl, z.lt⟩
  have mem : ∀ {y c}, cenv.cells.lookup y = some c → (X.env.cells.lookup y = some c ∧ c < s.heap.objs.size) ∨ (s.heap.objs.size + 1 ≤ c ∧ CellAt (pushCells (s.heap.push { cls := .type "dict", data := .dict #[] }) scope.names) c none) := fun {y c} e => by
    rw [hcl] at e
    rcases cells_mem (PySem.mem_of_lookup e) with hm | ⟨_, h2, h3⟩
    · exact .inl (cm hm)
    · rw [Heap.size_push] at h2; exact .inr ⟨h2, h3⟩
  have look : ∀ {y}, scope.names.lookup y = some .free → ∃ c, cenv.cells.lookup y = some c ∧ X.env.cells.lookup y = some c := fun {y} hl => by
    have hy : (y, NameKind.free) ∈ scope.names := PySem.mem_of_lookup hl
    obtain ⟨c', e'⟩ := mem_lookup (cells_acc (names := scope.names) (n := (s.heap.push { cls := .type "dict", data := .dict #[] }).objs.size) (cloFrom_has (cells := X.env.cells) (acc := []) hy))
    rw [← hcl] at e'
    refine ⟨c', e', ?_⟩
    rw [hcl] at e'
    rcases cells_mem (PySem.mem_of_lookup e') with hm | ⟨h1, _, _⟩
    · exact (cm hm).1
    · have := ok.uniq _ h1
      rw [hl] at this; cases this
  have okB : (X.blk s H scope cenv fp).Ok := by
    refine ⟨I.ok.mod, by show cenv.scope.kind = _; rw [hsc]; exact ok.kind, by show cenv.globals = _; rw [← hcenv]; exact I.ok.glob, by show cenv.builtins = _; rw [← hcenv]; exact I.ok.blt, by show s.heap.objs.size ≤ cenv.locals; rw [hL]; exact Nat.le_refl _,
      fun y z c e1 e2 => ?_, fun y hy => ?_, fun y c z e => ?_, I.ok.hd, I.ok.frames, .inl rfl, fun b hb => ⟨?_, fun y c e z => ?_⟩, I.bs, Nat.le_trans I.ok.bsz I.sz, fun b o e hb => ?_, fun b hb z => ?_, I.stack, I.stkFree⟩
    · have e1 : cenv.cells.lookup y = some c := e1
      have e2 : cenv.cells.lookup z = some c := e2
      rw [hcl] at e1 e2
      refine cells_inj (fun p hp => ?_) (fun y z c a b => I.ok.inj y z c (cm a).1 (cm b).1) (PySem.mem_of_lookup e1) (PySem.mem_of_lookup e2)
      rw [Heap.size_push]
      exact Nat.lt_succ_of_lt (cm (y := p.1) (c := p.2) hp).2
    · show ∃ c, cenv.cells.lookup y = some c
      have key : ∀ k, cenv.kindOf y = some k → (k = .cell ∨ k = .free) → ∃ c, cenv.cells.lookup y = some c := fun k hk hk' => by
        unfold Env.kindOf at hk
        rw [hsc] at hk
        obtain ⟨k', e, r⟩ := lookup_relS hk
        have : k' = .cell ∨ k' = .free := by
          rcases r with rfl | ⟨rfl, _⟩
          · exact hk'
          · exact .inr rfl
        rcases this with rfl | rfl
        · obtain ⟨c, hm⟩ := cells_has (n := (s.heap.push { cls := .type "dict", data := .dict #[] }).objs.size) (acc := cloFrom X.env.cells scope.names []) (PySem.mem_of_lookup e)
          obtain ⟨c', e'⟩ := mem_lookup hm
          exact ⟨c', by rw [hcl]; exact e'⟩
        · obtain ⟨c, h1, _⟩ := look e
          exact ⟨c, h1⟩
      rcases hy with hy | hy
      · exact key _ hy (.inl rfl)
      · exact key _ hy (.inr rfl)
    · have z : (scope.names.lookup y == some NameKind.cell) = true := z
      have z : scope.names.lookup y = some .cell := by simpa using z
      have e : cenv.cells.lookup y = some c := e
      rw [hcl] at e
      rcases cells_mem (PySem.mem_of_lookup e) with hm | ⟨_, h2, _⟩
      · rcases cloFrom_mem hm with hm | ⟨h1, _⟩
        · cases hm
        · have q := ok.uniq _ h1
          rw [z] at q; cases q
      · rw [Heap.size_push] at h2
        exact Nat.le_of_succ_le h2
    · show b ≠ cenv.locals
      rw [hL]; exact Nat.ne_of_lt (hfp b hb).2
    · have e : cenv.cells.lookup y = some c := e
      rcases mem e with ⟨h1, _⟩ | ⟨h1, _⟩
      · exact (hfp b hb).1.2.2.2.2.1 y c h1 z
      · have h2 : s.heap.objs.size + 1 ≤ b := by rw [← z]; exact h1
        exact absurd (Nat.lt_of_lt_of_le (hfp b hb).2 (Nat.le_of_succ_le h2)) (Nat.lt_irrefl _)
    · rcases (hfp b hb).1.2.2.2.1 with z | z
      · exact I.ok.noex b o e z
      · exact absurd (Nat.lt_of_lt_of_le (Heap.lt_size e) (Nat.le_trans I.ok.bsz z)) (Nat.lt_irrefl _)
    · rcases List.mem_cons.mp (I.stkSub b z) with z | z
      · exact (hfp b hb).1.2.1 z
      · exact (hfp b hb).1.2.2.1 z
  refine ⟨okB, rfl, I.bare, Un.kept kp, ⟨fun _ => none, ?_, fun i y av e1 e2 e3 => ?_⟩, fun y c e => ?_, ?_, fun y c e => ?_, fun p hp => ?_, I.hok.kept kp, by rw [wipe_length]; exact I.len⟩
  · show Heap.Ns _ cenv.locals _
    rw [hL]
    exact Heap.Ns.keeps (Heap.Ns.new ..) fun b o e => pushCells_keeps _ _ _ _ e
  · obtain ⟨e2, hne⟩ := wipe_some e2
    have hfr : scope.names.lookup y = some .free ∧ (cenv.kindOf y = some .cell ∨ cenv.kindOf y = some .free) := by
      have key : ∀ k, cenv.scope.names.lookup y = some k → k = .local ∨ k = .cell ∨ k = .free → scope.names.lookup y = some .free ∧ (cenv.kindOf y = some .cell ∨ cenv.kindOf y = some .free) := fun k hk hk' => by
        have hk0 := hk
        rw [hsc] at hk
        obtain ⟨k', e, r⟩ := lookup_relS hk
        have no : ¬ (k' = .local ∨ k' = .cell) := fun hh => by
          rcases ok.own _ (PySem.mem_of_lookup e) hh with e' | e'
          · obtain ⟨p, hp, hpy⟩ := List.mem_map.mp e'
            have e3 := ok.ix p hp
            have : p.1 = y := hpy
            rw [this] at e3
            exact hne (List.mem_map.mpr ⟨p, hp, nodup_ix hN e3 e1⟩)
          · exact e' (List.mem_of_getElem? e1)
        rcases r with rfl | ⟨rfl, rfl⟩
        · rcases hk' with rfl | rfl | rfl
          · exact absurd (.inl rfl) no
          · exact absurd (.inr rfl) no
          · exact ⟨e, .inr hk0⟩
        · exact ⟨e, .inl hk0⟩
      have e3 : Vis cenv.scope y := e3
      rcases e3 with e3 | e3 | e3
      · exact key _ e3 (.inl rfl)
      · exact key _ e3 (.inr (.inl rfl))
      · exact key _ e3 (.inr (.inr rfl))
    obtain ⟨m, hn, hl⟩ := I.loc
    have hvis : Vis X.env.scope y := (ok.free _ (PySem.mem_of_lookup hfr.1) rfl).elim (fun k => .inr (.inl k)) (fun k => .inr (.inr k))
    obtain ⟨w, r, q⟩ := hl i y av e1 e2 hvis
    refine ⟨w, r, .inr ⟨hfr.2, ?_⟩⟩
    obtain ⟨c, h1, h2⟩ := look hfr.1
    rcases q with ⟨k, _⟩ | ⟨_, c', e', z⟩
    · have k : X.env.scope.names.lookup y = some .local := k
      rcases ok.free _ (PySem.mem_of_lookup hfr.1) rfl with k' | k' <;> rw [show X.env.scope.names.lookup y = _ from k'] at k <;> cases k
    · rw [h2] at e'; cases e'
      exact ⟨c, h1, z.keeps kp⟩
  · have e : cenv.cells.lookup y = some c := e
    rcases mem e with ⟨h1, _⟩ | ⟨_, z⟩
    · obtain ⟨w, z⟩ := I.cell y c h1
      exact ⟨w, z.keeps kp⟩
    · exact ⟨_, z⟩
  · show H cenv.locals = none
    rw [hL]; exact I.hok.fresh (Nat.le_refl _)
  · have e : cenv.cells.lookup y = some c := e
    rcases mem e with ⟨h1, _⟩ | ⟨h1, _⟩
    · exact I.freeC y c h1
    · exact I.hok.fresh (Nat.le_of_succ_le h1)
  · exact absurd (show p ∈ ([] : List (Addr × Obj)) ++ [] from hp) (by simp)
theorem app_ok {E : Value → Shared → Prop} {D : Addr} {xs : List V} {y : V} {v : Value} {Q : Value → Shared → Prop} (I : Inv X pins σ H s) (hD : H D = some (.lst xs)) (hz : xs.length < sizeLine) (r : RelV y v)
    (h : ∀ s', Inv X pins σ (upd H D (.lst (xs ++ [y]))) s' → Q .none s') : wpAny (model X.prog X.w) X.A (call (.builtin "list.append") [.ref D, v]) Q E s := by
  obtain ⟨hz', its, n, ri, e⟩ := I.hok D _ hD
  have hl := ri.length
  refine append_at (hsz := by rw [List.size_toArray]; omega) e fun h' sb ho' => ?_
  refine h { s with heap := h' } (I.write (t' := s.toks) (by rw [hD]; trivial) (.inl rfl) (fun b u hb q => (sb.2 b hb).trans q) ⟨_, ho'⟩ ⟨by rw [List.length_append]; exact hz, its ++ [v], n + 1, ri.append (.cons r .nil), ?_⟩)
  rw [ho']
  simp
def PTs (X : Cx) (ifs : List Expr) (t : TT) : Prop :=
  ∀ (pins : List (Addr × Obj)) (s : Shared) (σ : St) (H : Hp) (Q : Bool → Hp → Prop), Inv X pins σ H s → t σ H Q →
    wpAny (model X.prog X.w) X.A (forIn ifs true fun c r => if r = true then do let ok ← isTrue c X.env (eval c X.env); pure (ForInStep.yield ok) else pure (ForInStep.yield r)) (TP X pins σ Q) X.xe s
def tYes : TT := fun _ H Q => Q true H
theorem pts_nil : PTs X [] tYes := fun _ _ _ H _ I h => wpAny_tests_nil ⟨H, I, h⟩
theorem pts_one {c : Expr} {t : TT} (h : PT X c t) : PTs X [c] t := fun pins s σ H Q I hw => wpAny_tests_one (h pins s σ H Q I hw)
end
theorem thnF {α : Type} {t : Sem α} {Q Q' : α → Shared → Prop} {M : Model} {A : Around} {E : Value → Shared → Prop} {s : Shared} (h : wpAny M A t Q (fun _ _ => False) s) (hQ : ∀ a s, Q a s → Q' a s) : wpAny M A t Q' E s := wpAny_mono h hQ fun _ _ z => False.elim z
theorem compLoop_any {prog : Program} {w : World} {A : Around} {R : Result → Shared → Prop} {s : Shared} {elt target iter : Expr} {ifs : List Expr} {scope : Scope} {pos : Pos} {it acc : Value} {env : Env} (I : Nat → Shared → Prop)
    (turn : ∀ n s, I n s → wpAny (model prog w) A (pyNext it) (fun r s₁ => match r with
      | none => R (.ok .next) s₁
      | some v => wpAny (model prog w) A (letOwnedTupleGo target it v) (fun _ s₁' => wpAny (model prog w) A (assign target env v) (fun _ s₂ =>
          wpAny (model prog w) A (forIn ifs true fun c r => if r = true then do let ok ← isTrue c env (eval c env); pure (ForInStep.yield ok) else pure (ForInStep.yield r)) (fun ok s₃ =>
            if ok = true then wpAny (model prog w) A (eval elt env) (fun x s₄ =>
              wpAny (model prog w) A (call (.builtin "list.append") [acc, x]) (fun _ s₅ => ∃ m, m < n ∧ I m s₅) (notedBy (model prog w) A env fun e s' => R (.error e) s') s₄) (notedBy (model prog w) A env fun e s' => R (.error e) s') s₃
            else ∃ m, m < n ∧ I m s₃) (notedBy (model prog w) A env fun e s' => R (.error e) s') s₂) (notedBy (model prog w) A env fun e s' => R (.error e) s') s₁') (notedBy (model prog w) A env fun e s' => R (.error e) s') s₁) (notedBy (model prog w) A env fun e s' => R (.error e) s') s)
    (n : Nat) (h : I n s) :
    codeAny (model prog w) A (.compLoop (.ListComp elt [⟨target, iter, ifs, 0⟩] scope pos) 0 it acc env) R s := by
  refine codeAny_loop rfl I (fun n s hI => ?_) n h
  show wpAny _ A ((compTurn (.ListComp elt [⟨target, iter, ifs, 0⟩] scope pos) 0 it acc env).onRaise (fun x => do noteFrame x env; theTreesLotGoes x)) _ _ s
  refine wpAny_noted ?_
  rw [compTurn_list]
  refine wpAny_bind (wpAny_standAt (wpAny_bind (wpAny_mono (turn n s hI) (fun r s₁ h₁ => ?_) fun _ _ h' => h')))
  cases r with
  | none => exact wpAny_pure h₁
  | some v =>
    refine wpAny_bind (wpAny_mono h₁ (fun _ s₁' h₁' => ?_) fun _ _ h' => h')
    refine wpAny_bind (wpAny_mono h₁' (fun _ s₂ h₂ => wpAny_bind (wpAny_mono h₂ (fun ok s₃ h₃ => ?_) fun _ _ h' => h')) fun _ _ h' => h')
    cases ok with
    | false => exact wpAny_pure ⟨rfl, h₃⟩
    | true =>
      exact wpAny_bind (wpAny_bind (wpAny_mono h₃ (fun x s₄ h₄ => wpAny_bind (wpAny_mono h₄ (fun _ s₅ h₅ => wpAny_pure (wpAny_pure ⟨rfl, h₅⟩)) fun _ _ h' => h')) fun _ _ h' => h'))
section
variable {X : Cx}
def tLc (wi : TI) (g : TG) (tt : TT) (te : TE) (vs : List Nat) : TE := fun σ H Q => wi σ H fun J H1 => ∀ D, H1 D = none → ∃ W : Nat → Nat → Hp → Prop, (∃ m, W 0 m (upd H1 D (.lst []))) ∧ ∀ i m H, W i m H →
  (J.stop i H ∧ Q (.ref D) H) ∨ (J.go i H ∧ ∃ Nx : Hp → Prop, (∀ H', Nx H' → ∃ m', m' < m ∧ W (i + 1) m' H') ∧ ∀ x H', J.yld i H x H' → g x (wipe σ vs) H' fun σ2 H2 => wipe σ2 vs = wipe σ vs ∧ tt σ2 H2 fun b H3 =>
    if b = true then te σ2 H3 fun y H4 => ∃ acc, H4 D = some (.lst acc) ∧ acc.length < sizeLine ∧ Nx (upd H4 D (.lst (acc ++ [y]))) else Nx H3)
theorem lc_core {pins : List (Addr × Obj)} {s : Shared} {σ : St} {H : Hp} {Q : VK} {elt tg iter : Expr} {ifs : List Expr} {scope : Scope} {own : List (Str × Nat)} {pos pos' : Pos} {wi : TI} {g : TG} {tt : TT} {te : TE} {use : Option (Value → Sem Unit)} {Qf : Value → Shared → Prop}
    (hc : X.calm = true) (hN : X.N.Nodup) (I : Inv X pins σ H s) (hi : PI X tg iter wi) (ok : BlkOk X.N X.env.scope scope own)
    (hg : ∀ (s : Shared) (H : Hp) (C : Addr) (cl : List (Str × Addr)) (fp : List Addr), PG (X.blk s H scope (compEnvC scope cl C X.env) fp) tg g) (ht : ∀ (s : Shared) (H : Hp) (C : Addr) (cl : List (Str × Addr)) (fp : List Addr), PTs (X.blk s H scope (compEnvC scope cl C X.env) fp) ifs tt)
    (he : ∀ (s : Shared) (H : Hp) (C : Addr) (cl : List (Str × Addr)) (fp : List Addr), PE (X.blk s H scope (compEnvC scope cl C X.env) fp) elt te) (hs : ∀ x, foldedSetIterable iter X.env x = pure x)
    (h : tLc wi g tt te (own.map (·.2)) σ H Q)
    (hRR : ∀ D C s' m H', Inv X pins σ H' s' → Q (.ref D) H' → s'.heap.Ns C m → FpOk X pins H' C → compPost (model X.prog X.w) X.A X.xe use Qf (.ref D) C (.ok .next) s') :
    wpAny (model X.prog X.w) X.A (comprehension (.ListComp elt [⟨tg, iter, ifs, 0⟩] scope pos) scope X.env pos' (newList []) false (eval iter X.env) use) Qf X.xe s := by
  have hfree : ∀ y ∈ scope.names, y.2 = .free → ∃ c, X.env.cells.lookup y.1 = some c := fun y hy e => by
    rcases ok.free y hy e with k | k
    · exact I.ok.has _ (.inl k)
    · exact I.ok.has _ (.inr k)
  refine wpAny_comprehension_free (use := use) rfl hs (closure_ok hfree) ok.kind (fun y hy e => by rw [ok.uniq y hy, e])
    (thn (hi pins s σ H _ I h) fun xv s1 hx => thn hx fun itv s2 h2 => ?_)
  obtain ⟨it, fp, tn, J, H2, e, I2, T, st2, f2, q⟩ := h2
  subst e
  refine wpAny_newObj_type (newEnv_comp ?_) (by show 0 ≤ sizeLine; decide)
  generalize hD : s2.heap.objs.size = D
  have hDn : H2 D = none := I2.hok.fresh (Nat.le_of_eq hD)
  obtain ⟨W, ⟨m0, w0⟩, turn⟩ := q D hDn
  -- the new list
  generalize hs3 : ({ s2 with heap := s2.heap.push { cls := .type "list", data := .seq ([] : List Value).toArray } } : Shared) = s3
  have I3 : Inv X pins σ (upd H2 D (.lst [])) s3 := by
    rw [← hs3]
    refine I2.laid (t' := s2.toks) (fun b o e => Heap.get?_push_of_some _ e) (Nat.le_of_eq hD) ⟨Nat.zero_le _, [], 0, .nil, ?_⟩
    rw [← hD]
    exact Heap.get?_push_size _ rfl
  have h3 : s3.heap = s2.heap.push { cls := .type "list", data := .seq ([] : List Value).toArray } := by rw [← hs3]
  have sz : ∀ b ∈ fp, b < s2.heap.objs.size := fun b hb => by
    obtain ⟨o, e, _⟩ := T.obj _ _ st2 b hb
    exact Heap.lt_size e
  have f3 : ∀ b ∈ fp, FpOk X pins (upd H2 D (.lst [])) b ∧ b < s3.heap.objs.size := fun b hb => by
    have hlt := sz b hb
    refine ⟨⟨?_, (f2 b hb).2⟩, by rw [h3, Heap.size_push]; exact Nat.lt_succ_of_lt hlt⟩
    rw [upd_ne (by rw [← hD]; exact Nat.ne_of_lt hlt)]
    exact (f2 b hb).1
  have st3 : tn 0 s3.heap := T.keep _ _ _ st2 fun b _ o e => by rw [h3]; exact Heap.get?_push_of_some _ e
  have I4 := block_start I3 ok hN f3
  have pg := hg s3 (upd H2 D (.lst [])) s3.heap.objs.size (cellsFrom (s3.heap.objs.size + 1) scope.names (cloFrom X.env.cells scope.names [])) fp
  have pt := ht s3 (upd H2 D (.lst [])) s3.heap.objs.size (cellsFrom (s3.heap.objs.size + 1) scope.names (cloFrom X.env.cells scope.names [])) fp
  have pe := he s3 (upd H2 D (.lst [])) s3.heap.objs.size (cellsFrom (s3.heap.objs.size + 1) scope.names (cloFrom X.env.cells scope.names [])) fp
  show codeAny _ _ (.compStart (.ListComp elt [⟨tg, iter, ifs, 0⟩] scope pos) 0 (.ref it) (.ref D) (compEnvC scope (cellsFrom (s3.heap.objs.size + 1) scope.names (cloFrom X.env.cells scope.names [])) s3.heap.objs.size X.env)) (compPost (model X.prog X.w) X.A X.xe use Qf (.ref D) s3.heap.objs.size) { s3 with heap := pushCells (s3.heap.push { cls := .type "dict", data := .dict #[] }) scope.names }
  have nfp : ∀ b ∈ fp, (upd H2 D (.lst [])) b = none := fun b hb => (f3 b hb).1.1
  generalize hce : compEnvC scope (cellsFrom (s3.heap.objs.size + 1) scope.names (cloFrom X.env.cells scope.names [])) s3.heap.objs.size X.env = ce at I4 pg pt pe ⊢
  have cL : ce.locals = s3.heap.objs.size := by subst hce; rfl
  generalize hH3 : upd H2 D (.lst []) = H3 at I3 I4 pg pt pe w0 nfp f3
  generalize hs4 : ({ s3 with heap := pushCells (s3.heap.push { cls := .type "dict", data := .dict #[] }) scope.names } : Shared) = s4 at I4 ⊢
  have st4 : tn 0 s4.heap := T.keep _ _ _ st3 fun b _ o e => by rw [← hs4]; exact pushCells_keeps _ _ _ _ (Heap.get?_push_of_some _ e)
  have stat : ∀ {σ' : St} {H' : Hp} {s' : Shared}, Inv (X.blk s3 H3 scope ce fp) [] σ' H' s' → (∀ b ∈ fp, H' b = none) → ∀ b ∈ fp, FpOk (X.blk s3 H3 scope ce fp) [] H' b := fun {σ' H' s'} I' hn b hb =>
    ⟨hn b hb, (I'.ok.exf b hb).1, I'.ok.exfs b hb, .inl hb, fun x c e => (I'.ok.exf b hb).2 x c e, fun p hp => absurd (show p ∈ ([] : List (Addr × Obj)) ++ [] from hp) (by simp)⟩
  have loop : codeAny (model X.prog X.w) X.A (.compLoop (.ListComp elt [⟨tg, iter, ifs, 0⟩] scope pos) 0 (.ref it) (.ref D) ce) (compPost (model X.prog X.w) X.A X.xe use Qf (.ref D) s3.heap.objs.size) s4 := by
    refine compLoop_any (fun n s' => ∃ i H', Inv (X.blk s3 H3 scope ce fp) [] (wipe σ (own.map (·.2))) H' s' ∧ tn i s'.heap ∧ (∀ b ∈ fp, H' b = none) ∧ W i n H') ?_ m0 ⟨0, H3, I4, st4, nfp, w0⟩
    rintro n s5 ⟨i, H5, I5, st5, n5, w5⟩
    rcases turn i n H5 w5 with ⟨stop, qq⟩ | ⟨go, Nx, hNx, step⟩
    · have td := T.done (X.blk s3 H3 scope ce fp) rfl rfl rfl hc i [] s5 _ H5 (fun _ _ => False) I5 (stat I5 n5) st5 stop
      refine thnF td fun r s6 ⟨hr, I6⟩ => ?_
      subst hr
      -- back in the def's context
      have I7 : Inv X pins σ H5 s6 := I3.call' (ch := fp) I6.os I6.base I6.hok I6.bare fun b hb => ⟨(f3 b hb).1.2.2.2.1, (f3 b hb).1.2.1, (f3 b hb).1.2.2.2.2.1, (f3 b hb).1.2.2.2.2.2⟩
      have nC : H5 s3.heap.objs.size = none := by
        have z : H5 ce.locals = none := I6.free
        rw [cL] at z
        exact z
      obtain ⟨m, hn, _⟩ := I6.loc
      have hn : s6.heap.Ns ce.locals m := hn
      rw [cL] at hn
      exact hRR D s3.heap.objs.size s6 m H5 I7 qq hn (I3.fpOk (Nat.le_refl _) nC)
    · have ti := T.item (X.blk s3 H3 scope ce fp) rfl rfl rfl hc i [] s5 _ H5 (fun _ _ => False) I5 (stat I5 n5) st5 go
      refine thnF ti fun r s6 ⟨u, hr, h6⟩ => ?_
      subst hr
      refine thnF h6 fun _ s7 ⟨x, H7, I7, r7, y7, st7, n7⟩ => ?_
      have I7' := I7.pinned (stat I7 n7) (T.obj _ _ st7)
      refine thnF (pg _ s7 _ H7 x u _ I7' r7 (step x H7 y7)) fun _ s8 ⟨σ8, H8, I8, hw8, q8⟩ => ?_
      refine thnF (pt _ s8 σ8 H8 _ I8 q8) fun b s9 ⟨H9, I9, q9⟩ => ?_
      -- the turn's end
      have fin : ∀ {s' : Shared} {H' : Hp}, Inv (X.blk s3 H3 scope ce fp) ([] ++ pinsAt fp s7.heap) σ8 H' s' → Nx H' → ∃ m, m < n ∧ ∃ i H', Inv (X.blk s3 H3 scope ce fp) [] (wipe σ (own.map (·.2))) H' s' ∧ tn i s'.heap ∧ (∀ b ∈ fp, H' b = none) ∧ W i m H' := fun {s' H'} I' nx => by
        obtain ⟨m', hm, w'⟩ := hNx H' nx
        have pin' : ∀ b ∈ fp, ∀ o, s7.heap.get? b = some o → s'.heap.get? b = some o ∧ H' b = none := fun b hb o e =>
          let z := I'.pin (b, o) (List.mem_append_right _ (List.mem_append_right _ (mem_pinsAt hb e)))
          ⟨z.1, z.2.1⟩
        have hl : (wipe σ (own.map (·.2))).length = σ8.length := by rw [← hw8, wipe_length]
        refine ⟨m', hm, i + 1, H', (I'.unpinned (pins := [])).weak hl (fun j v e => ?_), T.keep _ _ _ st7 fun b hb o e => (pin' b hb o e).1, fun b hb => ?_, w'⟩
        · rw [← hw8] at e
          exact (wipe_some e).1
        · obtain ⟨o, e, _⟩ := T.obj _ _ st7 b hb
          exact (pin' b hb o e).2
      cases b with
      | false =>
        simp only [Bool.false_eq_true, if_false] at q9 ⊢
        exact fin I9 q9
      | true =>
        simp only [if_true] at q9 ⊢
        refine thnF (pe _ s9 σ8 H9 _ I9 q9) fun z s10 ⟨yv, H10, I10, r10, acc, hD10, hz10, nx⟩ => ?_
        exact app_ok (X := X.blk s3 H3 scope ce fp) I10 hD10 hz10 r10 fun s11 I11 => fin I11 nx
  exact codeAny_compStart_list loop (T.self X.A 0 _ _ _ st4 loop)
theorem pe_lc {elt tg iter : Expr} {ifs : List Expr} {scope : Scope} {own : List (Str × Nat)} {pos : Pos} {wi : TI} {g : TG} {tt : TT} {te : TE} (hc : X.calm = true) (hN : X.N.Nodup) (hi : PI X tg iter wi) (ok : BlkOk X.N X.env.scope scope own)
    (hg : ∀ (s : Shared) (H : Hp) (C : Addr) (cl : List (Str × Addr)) (fp : List Addr), PG (X.blk s H scope (compEnvC scope cl C X.env) fp) tg g) (ht : ∀ (s : Shared) (H : Hp) (C : Addr) (cl : List (Str × Addr)) (fp : List Addr), PTs (X.blk s H scope (compEnvC scope cl C X.env) fp) ifs tt)
    (he : ∀ (s : Shared) (H : Hp) (C : Addr) (cl : List (Str × Addr)) (fp : List Addr), PE (X.blk s H scope (compEnvC scope cl C X.env) fp) elt te) (hs : ∀ x, foldedSetIterable iter X.env x = pure x := by intro _; rfl) :
    PE X (.ListComp elt [⟨tg, iter, ifs, 0⟩] scope pos) (tLc wi g tt te (own.map (·.2))) := by
  intro pins s σ H Q I h
  rw [eval_ListComp]
  refine lc_core hc hN I hi ok hg ht he hs h fun D C s' m H' I' q hn f => ⟨m, hn, fun h'' sb => ?_⟩
  obtain ⟨f0, f1, f2, f3, f4, f5⟩ := f
  exact ⟨.ref D, H', I'.turned (t' := s'.toks) (fun b o hb e => (sb.2 b hb).trans e) f0 f1 f3 f4 f5, rfl, q⟩
theorem ps_setLc {i : Nat} {y : Str} {py : Pos} {elt tg iter : Expr} {ifs : List Expr} {scope : Scope} {own : List (Str × Nat)} {pos spos : Pos} {wi : TI} {g : TG} {tt : TT} {te : TE} (hc : X.calm = true) (hN : X.N.Nodup) (hy : X.N[i]? = some y) (hyl : X.env.scope.names.lookup y = some .local)
    (hsw : swapsWith (.ListComp elt [⟨tg, iter, ifs, 0⟩] scope pos) (some (.Name y py)) spos.line X.env = pure true) (hi : PI X tg iter wi) (ok : BlkOk X.N X.env.scope scope own)
    (hg : ∀ (s : Shared) (H : Hp) (C : Addr) (cl : List (Str × Addr)) (fp : List Addr), PG (X.blk s H scope (compEnvC scope cl C X.env) fp) tg g) (ht : ∀ (s : Shared) (H : Hp) (C : Addr) (cl : List (Str × Addr)) (fp : List Addr), PTs (X.blk s H scope (compEnvC scope cl C X.env) fp) ifs tt)
    (he : ∀ (s : Shared) (H : Hp) (C : Addr) (cl : List (Str × Addr)) (fp : List Addr), PE (X.blk s H scope (compEnvC scope cl C X.env) fp) elt te) (hs : ∀ x, foldedSetIterable iter X.env x = pure x := by intro _; rfl) :
    PS X (.Assign [.Name y py] (.ListComp elt [⟨tg, iter, ifs, 0⟩] scope pos) spos) (tAsg (tLc wi g tt te (own.map (·.2))) (gName i)) := by
  intro pins s σ H D I h
  rw [exec_Assign_Name_used _ _ _ _ hsw]
  refine wpAny_bind (wpAny_standAt (wpAny_bind ?_))
  show wpAny _ X.A (do let _ ← comprehension (.ListComp elt [⟨tg, iter, ifs, 0⟩] scope pos) scope X.env (firstIterPos [⟨tg, iter, ifs, 0⟩] pos) (newList []) false (eval iter X.env) (some (assign (.Name y py) X.env))) _ _ s
  have h : tLc wi g tt te (own.map (·.2)) σ H (fun x H1 => gName i x σ H1 D.nx) := h
  refine wpAny_bind (thn (lc_core (Qf := fun _ s' => SP X pins D .next s') hc hN I hi ok hg ht he hs h fun L C s' m H' I' q hn f => ?_) fun _ s' hq => wpAny_pure (wpAny_pure hq))
  show wpAny _ _ (assign (.Name y py) X.env (.ref L)) _ _ _
  refine wpAny_assign_Name (store_ok2 (v := V.ref L) I' hN hy (.inl hyl) rfl (fun s2 I2 ⟨a, sb, ha⟩ => ?_) (.inr hyl))
  obtain ⟨f0, f1, f2, f3, f4, f5⟩ := f
  have haC : C ≠ a := by
    rcases ha with z | z
    · rw [z]; exact f1
    · exact fun e => f4 y a z e.symm
  refine ⟨m, hn.sameBut sb haC, fun h3 sb3 => ?_⟩
  exact ⟨_, H', I2.turned (t' := s2.toks) (fun b o hb e => (sb3.2 b hb).trans e) f0 f1 f3 f4 f5, q⟩
end
theorem lc_range {lo : Int} {n : Nat} {g : TG} {tt : TT} {te : TE} {vs : List Nat} {σ : St} {H1 : Hp} {D : Addr} {Qd : Hp → Prop} (Pv : Nat → Hp → Prop) (h0 : Pv 0 (upd H1 D (.lst [])))
    (hs : ∀ i H, i < n → Pv i H → g (.int (lo + i)) (wipe σ vs) H fun σ2 H2 => wipe σ2 vs = wipe σ vs ∧ tt σ2 H2 fun b H3 =>
      if b = true then te σ2 H3 fun y H4 => ∃ acc, H4 D = some (.lst acc) ∧ acc.length < sizeLine ∧ Pv (i + 1) (upd H4 D (.lst (acc ++ [y]))) else Pv (i + 1) H3) (hd : ∀ H, Pv n H → Qd H) :
    ∃ W : Nat → Nat → Hp → Prop, (∃ m, W 0 m (upd H1 D (.lst []))) ∧ ∀ i m H, W i m H →
      ((Itr lo n).stop i H ∧ Qd H) ∨ ((Itr lo n).go i H ∧ ∃ Nx : Hp → Prop, (∀ H', Nx H' → ∃ m', m' < m ∧ W (i + 1) m' H') ∧ ∀ x H', (Itr lo n).yld i H x H' → g x (wipe σ vs) H' fun σ2 H2 => wipe σ2 vs = wipe σ vs ∧ tt σ2 H2 fun b H3 =>
        if b = true then te σ2 H3 fun y H4 => ∃ acc, H4 D = some (.lst acc) ∧ acc.length < sizeLine ∧ Nx (upd H4 D (.lst (acc ++ [y]))) else Nx H3) := by
  refine ⟨fun i m H => m = n - i ∧ i ≤ n ∧ Pv i H, ⟨n, by simp, Nat.zero_le _, h0⟩, ?_⟩
  rintro i m H ⟨rfl, hi, p⟩
  by_cases hlt : i < n
  · refine .inr ⟨hlt, Pv (i + 1), fun H' p' => ⟨n - (i + 1), by omega, rfl, hlt, p'⟩, fun x H' y => ?_⟩
    obtain ⟨e, y⟩ := y
    subst e y
    exact hs i _ hlt p
  · have e : i = n := by omega
    subst e
    exact .inl ⟨Nat.le_refl _, hd H p⟩
theorem lc_list {K : PySem.W.Frag} {a : Addr} {xs : List V} {g : TG} {tt : TT} {te : TE} {vs : List Nat} {σ : St} {H1 : Hp} {D : Addr} {Qd : Hp → Prop} (Pv : Nat → Hp → Prop) (h0 : Pv 0 (upd H1 D (.lst []))) (hl : ∀ i H, i ≤ xs.length → Pv i H → SqL K H a xs)
    (hs : ∀ i x H, xs[i]? = some x → Pv i H → g x (wipe σ vs) H fun σ2 H2 => wipe σ2 vs = wipe σ vs ∧ tt σ2 H2 fun b H3 =>
      if b = true then te σ2 H3 fun y H4 => ∃ acc, H4 D = some (.lst acc) ∧ acc.length < sizeLine ∧ Pv (i + 1) (upd H4 D (.lst (acc ++ [y]))) else Pv (i + 1) H3) (hd : ∀ H, Pv xs.length H → Qd H) :
    ∃ W : Nat → Nat → Hp → Prop, (∃ m, W 0 m (upd H1 D (.lst []))) ∧ ∀ i m H, W i m H →
      ((Itl K a).stop i H ∧ Qd H) ∨ ((Itl K a).go i H ∧ ∃ Nx : Hp → Prop, (∀ H', Nx H' → ∃ m', m' < m ∧ W (i + 1) m' H') ∧ ∀ x H', (Itl K a).yld i H x H' → g x (wipe σ vs) H' fun σ2 H2 => wipe σ2 vs = wipe σ vs ∧ tt σ2 H2 fun b H3 =>
        if b = true then te σ2 H3 fun y H4 => ∃ acc, H4 D = some (.lst acc) ∧ acc.length < sizeLine ∧ Nx (upd H4 D (.lst (acc ++ [y]))) else Nx H3) := by
  refine ⟨fun i m H => m = xs.length - i ∧ i ≤ xs.length ∧ Pv i H, ⟨xs.length, by simp, Nat.zero_le _, h0⟩, ?_⟩
  rintro i m H ⟨rfl, hi, p⟩
  have q := hl i H hi p
  by_cases hlt : i < xs.length
  · refine .inr ⟨⟨xs, xs[i], q, by simp [hlt]⟩, Pv (i + 1), fun H' p' => ⟨xs.length - (i + 1), by omega, rfl, hlt, p'⟩, fun x H' y => ?_⟩
    obtain ⟨e, y⟩ := y
    subst e
    exact hs i x _ (y xs q) p
  · have e : i = xs.length := by omega
    subst e
    exact .inl ⟨⟨xs, q, Nat.le_refl _⟩, hd H p⟩
def blkC (N : List Str) (sc scope : Scope) (own : List (Str × Nat)) : Bool :=
  (match scope.kind with | .function => true | _ => false) && (scope.names.all fun y => decide (scope.names.lookup y.1 = some y.2)) && (own.all fun p => decide (N[p.2]? = some p.1)) &&
    (scope.names.all fun y => match y.2 with
      | .free => (match sc.names.lookup y.1 with | some .cell => true | some .free => true | _ => false)
      | .local => decide (y.1 ∈ own.map (·.1)) || decide (y.1 ∉ N)
      | .cell => decide (y.1 ∈ own.map (·.1)) || decide (y.1 ∉ N)
      | _ => true)
theorem blkOk_by {N : List Str} {sc scope : Scope} {own : List (Str × Nat)} (h : blkC N sc scope own = true) : BlkOk N sc scope own := by
  unfold blkC at h
  simp only [Bool.and_eq_true, List.all_eq_true, decide_eq_true_eq] at h
  obtain ⟨⟨⟨h1, h2⟩, h3⟩, h4⟩ := h
  refine ⟨?_, h2, h3, fun y hy e => ?_, fun y hy e => ?_⟩
  · split at h1
    · assumption
    · cases h1
  · have q := h4 y hy
    simp only [e] at q
    split at q <;> first | exact .inl (by assumption) | exact .inr (by assumption) | cases q
  · have q := h4 y hy
    rcases e with e | e <;> (simp only [e, Bool.or_eq_true, decide_eq_true_eq] at q; exact q)
end L2
namespace L2
open PySem PySem.Spec PyProof.Rows
section
variable {prog : Program} {w : World} {A : Around} {R : Result → Shared → Prop} {s : Shared} {elt t0 i0 t1 i1 : Expr} {ifs0 ifs1 : List Expr} {scope : Scope} {pos : Pos} {it acc : Value} {env : Env}
end
section
variable {X : Cx}
end
end L2
namespace L2
open PySem PySem.Spec PyProof.Rows
section
variable {κ : Type} [DecidableEq κ]
end
section
variable {P : Program} {w : World} {H : Hp} {h : Heap} {a : Addr}
end
section
variable {X : Cx} {pins : List (Addr × Obj)} {σ : St} {H : Hp} {s : Shared} {a : Addr} {y v : V} {u r : Value} {o : Option V} {A : Around} {E : Value → Shared → Prop}
end
section
variable {X : Cx} {pins : List (Addr × Obj)} {σ : St} {H : Hp} {s : Shared} {a : Addr} {kvs : List (Key × V)} {k : Key} {u : Value} {A : Around} {E : Value → Shared → Prop}
end
def NoSl (i : Expr) : Prop := ∀ ov iv, subscripted i false ov iv = operate [ov, iv] (getItem ov iv)
theorem subD_of {prog : Program} {w : World} {A : Around} {E : Value → Shared → Prop} {s : Shared} {env : Env} {value slice : Expr} {pos : Pos} {T id : String} {Q : Value → Shared → Prop}
    (hl : typeLookup (.type T) "__getitem__" = pure (some (.builtin id))) (hs : NoSl slice)
    (h : wpAny (model prog w) A (eval value env) (fun o s₁ => wpAny (model prog w) A (eval slice env) (fun i s₂ => s₂.TypeIs o T ∧ wpAny (model prog w) A (getItem o i) Q E s₂) E s₁) E s) :
    wpAny (model prog w) A (eval (.Subscript value slice pos) env) Q E s := by
  refine Subscript_ (wpAny_mono h (fun o s₁ h₁ => wpAny_mono h₁ (fun i s₂ h₂ => ?_) fun _ _ x => x) fun _ _ x => x)
  obtain ⟨hT, h₂⟩ := h₂
  unfold subscriptTail
  refine wpAny_bind ?_
  rw [getitemInPython_of_ne hT.not_modules]
  refine wpAny_bind (wpAny_specialOf hT hl ?_)
  have fin : wpAny (model prog w) A (subscripted slice false o i) (fun r s₃ => wpAny (model prog w) A (letTemporaryGo value o r >>= fun _ => pure r) Q E s₃) E s₂ := by
    rw [hs o i]
    exact wpAny_operating (wpAny_mono h₂ (fun r s₃ h₃ => wpAny_bind (wpAny_letTemporaryGo (wpAny_pure h₃))) fun _ _ x => x)
  first
    | exact wpAny_pure (wpAny_bind fin)
    | exact wpAny_bind (wpAny_pure (wpAny_bind fin))
    | exact wpAny_bind fin
section
variable {X : Cx} {o i e value : Expr} {pos pos' tpos : Pos} {td ty tv : TE}
end
section
variable {X : Cx} {pos : Pos}
end
section
variable {X : Cx} {pins : List (Addr × Obj)} {σ : St} {H : Hp} {s : Shared} {a : Addr} {y d : V} {u r : Value} {o : Option V} {A : Around} {E : Value → Shared → Prop}
end
section
variable {X : Cx} {o e f : Expr} {apos cpos : Pos} {td ty tx : TE}
end
section
variable {X : Cx} {pins : List (Addr × Obj)} {σ : St} {H : Hp} {s : Shared} {a : Addr} {kvs : List (Key × V)} {A : Around} {E : Value → Shared → Prop}
end
section
variable {X : Cx} {pins : List (Addr × Obj)} {σ : St} {H : Hp} {s : Shared} {a : Addr} {y : V} {u : Value} {A : Around} {E : Value → Shared → Prop}
end
end L2
namespace L2
open PySem PySem.Spec PyProof.Rows
section
variable {prog : Program} {w : World} {A : Around} {E : Value → Shared → Prop}
end
section
variable {X : Cx}
end
end L2
namespace L2
open PySem PySem.Spec PyProof.Rows
section
variable {X : Cx} {pins : List (Addr × Obj)} {σ : St} {H : Hp} {s : Shared} {h' : Heap}
end
section
variable {X : Cx}
theorem pi_one {tg : Expr} {pins : List (Addr × Obj)} {σ : St} {H : Hp} {s : Shared} {R : It → Hp → Prop} {J : It} {tn : Nat → Heap → Prop} {tk : Nat} (I : Inv X pins σ H s) (o : Obj)
    (T : Turn X.prog X.w X.K tg J [s.heap.objs.size] s.heap.objs.size tn) (st : tn 0 (s.heap.push o)) (q : R J H) : PIE X pins σ tg R (.ref s.heap.objs.size) { s with heap := s.heap.push o, toks := tk } := by
  refine ⟨s.heap.objs.size, [s.heap.objs.size], tn, J, H, rfl, I.kept fun b ob e => Heap.get?_push_of_some _ e, T, st, fun b hb => ?_, q⟩
  have e : b = s.heap.objs.size := by simpa using hb
  subst e
  exact I.fpOk (Nat.le_refl _) (I.hok.fresh (Nat.le_refl _))
end
def Itc (lo c : Int) (n : Nat) : It := ⟨fun i _ => i < n, fun i H x H' => H' = H ∧ x = .int (lo + (i : Nat) * c), fun i _ => n ≤ i⟩
theorem turn_rangeC {P : Program} {w : World} {K : PySem.W.Frag} {tg : Expr} (it : Addr) (lo c : Int) (n : Nat) : Turn P w K tg (Itc lo c n) [it] it (fun i h => IsRangeIter h it (lo + (i : Nat) * c) ((n : Int) - (i : Nat)) c) where
  mem := by simp
  obj := fun i h st b hb => by
    have e : b = it := by simpa using hb
    subst e
    exact ⟨_, st, fun v z => nomatch z⟩
  keep := fun i h h' st k => k it (by simp) _ st
  item := by
    intro X hP hw hK hc i pins s σ H E I hf st hg
    subst hP hw hK
    obtain ⟨f0, f1, f2, f3, f4, f5⟩ := hf it (by simp)
    have W := Walks.range (prog := X.prog) (w := X.w) (I.ok.hd hc) it lo c n
    refine W.item i s _ _ hg st fun v h' tk hv st' kk => ?_
    obtain ⟨t, rfl⟩ := hv
    have I1 : Inv X pins σ H { s with heap := h', toks := tk } := I.turned (fun b o hb e => kk b o (by simpa using hb) e) f0 f1 f3 f4 f5
    exact ⟨_, rfl, go_of (s := { s with heap := h', toks := tk }) (n := "range_iterator") st' rfl rfl (by decide) ⟨.int (lo + (i : Nat) * c), H, I1, ⟨t, rfl⟩, ⟨rfl, rfl⟩, st', fun b hb => (hf b hb).1⟩⟩
  done := by
    intro X hP hw hK hc i pins s σ H E I hf st hg
    subst hP hw hK
    obtain ⟨f0, f1, f2, f3, f4, f5⟩ := hf it (by simp)
    exact wpAny_pyNext_range_end (I.ok.hd hc) st (by have : n ≤ i := hg; omega) fun h' eb => ⟨rfl, I.turned (t' := s.toks) (fun b o hb e => eb b o hb e) f0 f1 f3 f4 f5⟩
  self := fun A i s Q E st h => wpAny_pyIter_rangeiter st h
def RgC (i j c : Int) (n : Nat) : Prop := c ≠ 0 ∧ c.natAbs < 1073741824 ∧ Builtin.Range.small i j c = true ∧ Builtin.Range.rangeSize i j c = n
theorem RgC.neg {i j : Int} (ha : -(2 ^ 62) ≤ i) (ha' : i < 2 ^ 62) (hb : -(2 ^ 62) ≤ j) (hb' : j < 2 ^ 62) : RgC i j (-1) (i - j).toNat :=
  ⟨by decide, by decide, PySem.W.small_down ha ha' hb hb', PySem.W.rangeSize_downNat i j⟩
def iRng3 (ta : TA) : TI := fun σ H R => ta σ H fun vs H1 => ∃ (i j c : Int) (n : Nat), vs = [.int i, .int j, .int c] ∧ RgC i j c n ∧ R (Itc i c n) H1
section
variable {X : Cx} {tg : Expr}
theorem pi_range3 {a b c : Expr} {ta : TA} {p pos : Pos} (hg : Gl X "range") (hm : X.mg "range" = none) (ha : PA X [a, b, c] ta)
    (hs : starEach [a, b, c] X.env = (false, eval a X.env) :: starEach [b, c] X.env := by rfl) (hpl : (backTo pos (starEach [b, c] X.env)).any (·.1) = false := by rfl) :
    PI X tg (.Call (.Name "range" p) [a, b, c] [] pos) (iRng3 ta) := by
  intro pins s σ H R I h
  refine Call_ (ld_blt I hg hm boot_range (PyProof.Rows.callWith_type1 (thn (ha pos pins s σ H _ I h) fun us s1 ⟨vs, H1, I1, r1, q1⟩ => ?_) hs hpl))
  obtain ⟨i, j, k, n, e, ⟨c0, c1, c2, c3⟩, q⟩ := q1
  subst e
  cases r1 with
  | cons r rr =>
    cases rr with
    | cons r' rr =>
      cases rr with
      | cons r'' rr =>
        cases rr
        obtain ⟨t, rfl⟩ := r
        obtain ⟨t', rfl⟩ := r'
        obtain ⟨t'', rfl⟩ := r''
        refine call_range_3 c0 ?_ (.inl (PyProof.noPylong_small c1))
        refine wpAny_pyIter_range (IsRange.new ..) c2 ?_
        have I2 : Inv X pins σ H1 { s1 with heap := s1.heap.push { cls := .type "range", data := .fields #[.int i t, .int j t', .int k t''] } } := I1.kept (t' := s1.toks) fun b o e => Heap.get?_push_of_some _ e
        refine pi_one (tk := s1.toks) I2 _ (turn_rangeC _ i k n) ?_ q
        have e1 : i + ((0 : Nat) : Int) * k = i := by simp
        have e2 : (n : Int) - ((0 : Nat) : Int) = Builtin.Range.rangeSize i j k := by rw [c3]; simp
        show IsRangeIter _ _ (i + ((0 : Nat) : Int) * k) ((n : Int) - ((0 : Nat) : Int)) k
        rw [e1, e2]
        exact Heap.get?_push_size _ rfl
end
theorem for_rangeC {lo c : Int} {n : Nat} {g : TG} {tb : TS} {D : Ends} {σ : St} {H : Hp} (Pv : Nat → St → Hp → Prop) (h0 : Pv 0 σ H)
    (hs : ∀ i σ H, i < n → Pv i σ H → g (.int (lo + (i : Nat) * c)) σ H fun σ2 H2 => tb { D with nx := Pv (i + 1), ct := Pv (i + 1), bk := D.nx } σ2 H2) (hd : ∀ σ H, Pv n σ H → D.nx σ H) :
    ∃ W : Nat → Nat → St → Hp → Prop, (∃ m, W 0 m σ H) ∧ ∀ i m σ H, W i m σ H →
      ((Itc lo c n).stop i H ∧ D.nx σ H) ∨ ((Itc lo c n).go i H ∧ ∃ N : St → Hp → Prop, (∀ σ' H', N σ' H' → ∃ m', m' < m ∧ W (i + 1) m' σ' H') ∧ ∀ x H', (Itc lo c n).yld i H x H' → g x σ H' fun σ2 H2 => tb { D with nx := N, ct := N, bk := D.nx } σ2 H2) := by
  refine ⟨fun i m σ H => m = n - i ∧ i ≤ n ∧ Pv i σ H, ⟨n, by simp, Nat.zero_le _, h0⟩, ?_⟩
  rintro i m σ H ⟨rfl, hi, p⟩
  by_cases hlt : i < n
  · refine .inr ⟨hlt, Pv (i + 1), fun σ' H' p' => ⟨n - (i + 1), by omega, rfl, hlt, p'⟩, fun x H' y => ?_⟩
    obtain ⟨e, y⟩ := y
    subst e y
    exact hs i σ _ hlt p
  · have e : i = n := by omega
    subst e
    exact .inl ⟨Nat.le_refl _, hd σ H p⟩
section
variable {X : Cx} {tg : Expr}
end
section
variable {prog : Program} {w : World} {A : Around} {E : Value → Shared → Prop} {s : Shared}
end
section
variable {X : Cx} {pins : List (Addr × Obj)} {σ : St} {H : Hp} {s : Shared} {d : Addr} {o : Obj}
end
section
variable {P : Program} {w : World} {K : PySem.W.Frag} {tg : Expr} {d : Addr} {o : Obj} {es : Array DictEntry} {ep : Nat}
end
section
variable {X : Cx} {tg e : Expr} {td : TE} {apos cpos : Pos}
end
end L2
section 
namespace Bits
open PySem PyProof.Rows
theorem nat_and_mul_pow (k : Nat) : ∀ a b : Nat, a < 2 ^ k → a &&& (b * 2 ^ k) = 0 := by
  induction k with
  | zero =>
    intro a b h
    have h0 : a = 0 := by
      rw [Nat.pow_zero] at h
      omega
    subst h0
    simp
  | succ k ih =>
    intro a b h
    have hm : (b * 2 ^ (k + 1)) = (b * 2 ^ k) * 2 := by rw [Nat.pow_succ, Nat.mul_assoc]
    have hlt : a / 2 < 2 ^ k := by
      rw [Nat.pow_succ] at h
      generalize 2 ^ k = m at h ⊢
      omega
    have i := ih (a / 2) b hlt
    rw [hm]
    generalize b * 2 ^ k = B at i ⊢
    have e : (a &&& (B * 2)) / 2 = a / 2 &&& (B * 2) / 2 := Nat.and_div_two
    have e2 : (B * 2) / 2 = B := by omega
    have o := @Nat.and_mod_two_eq_one a (B * 2)
    rw [e2, i] at e
    omega
theorem natCast_mul_pow (m k : Nat) : (m : Int) * 2 ^ k = ((m * 2 ^ k : Nat) : Int) := by
  rw [two_pow_cast]
  first
    | exact (Int.natCast_mul _ _).symm
    | simp
theorem bitOr_join {a b : Int} {k : Nat} (h0 : 0 ≤ a) (h1 : a < 2 ^ k) (hb : 0 ≤ b) : Builtin.bitOr a (b * 2 ^ k) = a + b * 2 ^ k := by
  obtain ⟨n, rfl⟩ := Int.eq_ofNat_of_zero_le h0
  obtain ⟨m, rfl⟩ := Int.eq_ofNat_of_zero_le hb
  have hn : n < 2 ^ k := by
    rw [two_pow_cast] at h1
    omega
  have e : Builtin.bitAnd (n : Int) ((m * 2 ^ k : Nat) : Int) = 0 := by
    rw [bitAnd_pp (by omega) (by omega), Int.toNat_natCast, Int.toNat_natCast, nat_and_mul_pow k n m hn] <;> rfl
  rw [natCast_mul_pow, bitOr_and, e]
  omega
end Bits
end 
section 
namespace TL
open PySem PySem.Builtin PySem.Builtin.Str PySem.StrLaws
end TL
end 
namespace L2
open PySem PySem.Spec PyProof.Rows
section
variable {X : Cx} {pins : List (Addr × Obj)} {σ : St} {H : Hp} {s : Shared} {Q : VK}
end
section
variable {X : Cx}
end
section
variable {X : Cx} {o e : Expr} {to te : TE}
end
end L2
namespace L2
open PySem PySem.Spec PyProof.Rows
section
variable {X : Cx}
end
end L2
namespace Att
open PySem PySem.W PySem.Calls PyProof.Rows
section
variable {prog : Program} {w : World} {A : Around} {E : Value → Shared → Prop} {s : Shared} {K : Frag}
end
end Att
namespace L2
open PySem PySem.Spec PyProof.Rows
end L2
namespace L2
open PySem PySem.Spec PyProof.Rows
end L2
namespace L2
open PySem PySem.Spec PyProof.Rows
def inClass (s : Stmt) (j : Nat) : Stmt := match s with
  | .ClassDef _ _ _ body _ _ _ _ _ _ _ => body.getD j (.Pass ⟨0, 0, 0, 0⟩)
  | _ => .Pass ⟨0, 0, 0, 0⟩
def defArgs (s : Stmt) : Arguments := match s with
  | .FunctionDef _ a _ _ _ _ _ _ _ _ => a
  | _ => { posonlyargs := [], args := [], vararg := none, kwonlyargs := [], kw_defaults := [], kwarg := none, defaults := [] }
def defBody (s : Stmt) : List Stmt := match s with
  | .FunctionDef _ _ b _ _ _ _ _ _ _ => b
  | _ => []
def defScope (s : Stmt) : Scope := match s with
  | .FunctionDef _ _ _ _ _ _ sc _ _ _ => sc
  | _ => { kind := .function, names := [], isGenerator := false, isCoroutine := false }
abbrev CX0 : CXT := fun _ _ _ _ _ _ => False
abbrev E0 : XK := fun _ _ _ => False
theorem pass0 {X : Cx} : Passes CX0 X E0 := fun _ _ _ _ _ _ _ h => h.elim
structure Fun (K : PySem.W.Frag) (x qual : Str) (st : Stmt) (f : Addr) (fd : FuncData) : Prop where
  ex : ∃ (oc : Value) (od : Option Addr) (kV doc pm : Value) (an : Option Addr) (cdv ct : Value) (osl : Array (Option Value)),
    fd = PySem.W.fnOf x qual (defArgs st) (defBody st) (defScope st) .none kV doc pm an cdv ct ∧ K.lookup f = some ⟨oc, od, .func fd, osl⟩ ∧ PySem.W.codeIn K cdv qual = true
  kp : PySem.W.keepIn K (.ref f) = true
section
variable {P : Program} {w : World} {K : PySem.W.Frag} {mg : Str → Option Value} {base : Heap}
theorem Fun.ok {x qual : Str} {st : Stmt} {f : Addr} {fd : FuncData} {N ps : List Str} {k : Nat} {sp : Sp} (F : Fun K x qual st f fd) (S : FnScope N ps (defScope st)) (len : ∀ vs H Q E, sp vs H Q E → vs.length = ps.length)
    (hbody : ∀ (cdv : Value) (A : Around) (outer : List Env) (s : Shared) (H : Hp) (vs : List V) (Q : VK) (E : XK), Room k (A.deeper (envOfC qual (defScope st) s.heap.objs.size f cdv)) → sp vs H Q E →
      ∃ t, PSs (cxOf CX0 P w K mg base N qual (defScope st) f cdv A outer s H E).nox (defBody st) t ∧ t { nx := fun _ H' => Q .non H', rt := Q } (start N vs) H) : FnOk P w K mg base CX0 (k + 1) f fd ps sp := by
  obtain ⟨oc, od, kV, doc, pm, an, cdv, ct, osl, rfl, lk, hcd⟩ := F.ex
  refine fn_of lk hcd S len fun A outer s H vs Q E hr hsp => ?_
  obtain ⟨t, h, q⟩ := hbody cdv A outer s H vs Q E hr hsp
  exact ⟨t, h.nox, q⟩
theorem Fun.binds {x qual : Str} {st : Stmt} {f : Addr} {fd : FuncData} {ps : List Str} (F : Fun K x qual st f fd)
    (h : ∀ (kV doc pm : Value) (an : Option Addr) (cdv ct : Value) (us : List Value), us.length = ps.length → bindArgs (PySem.W.fnOf x qual (defArgs st) (defBody st) (defScope st) .none kV doc pm an cdv ct) ⟨us, []⟩ = pure (ps.zip us)) : Binds K fd ps [] := by
  obtain ⟨oc, od, kV, doc, pm, an, cdv, ct, osl, rfl, lk, hcd⟩ := F.ex
  exact .all (h kV doc pm an cdv ct)
theorem fun_mk {x qual : Str} {st : Stmt} {f : Addr} {oc : Value} {od an : Option Addr} {osl : Array (Option Value)} {kV doc pm cdv ct : Value} (l : K.lookup f = some ⟨oc, od, .func (PySem.W.fnOf x qual (defArgs st) (defBody st) (defScope st) .none kV doc pm an cdv ct), osl⟩)
    (c : PySem.W.codeIn K cdv qual = true) (k : PySem.W.keepIn K (.ref f) = true) : Fun K x qual st f (PySem.W.fnOf x qual (defArgs st) (defBody st) (defScope st) .none kV doc pm an cdv ct) := ⟨⟨oc, od, kV, doc, pm, an, cdv, ct, osl, rfl, l, c⟩, k⟩
end
section
variable {X : Cx}
theorem pv (i : Nat) {x : Str} {pos : Pos} (hN : X.N[i]? = some x := by rfl) (hv : Vis X.env.scope x := by first | exact Or.inl rfl | exact Or.inr (Or.inl rfl) | exact Or.inr (Or.inr rfl)) (hd : (x == ("__debug__" : Str)) = false := by decide)
    (hcd : (x == ("__classdict__" : Str)) = false := by decide) : PE X (.Name x pos) (tVar i) := pe_var hN hv hd hcd
end
theorem iteF {A B : Prop} (h : B) : if false = true then A else B := by
  rw [if_neg Bool.false_ne_true]
  exact h
theorem iteT {A B : Prop} (h : A) : if true = true then A else B := by
  rw [if_pos rfl]
  exact h
theorem ite2 {c A B : Prop} [Decidable c] (h1 : c → A) (h2 : ¬ c → B) : if c then A else B := by
  by_cases h : c
  · rw [if_pos h]
    exact h1 h
  · rw [if_neg h]
    exact h2 h
def Same (H H' : Hp) : Prop := ∀ b o, H b = some o → H' b = some o
theorem Same.trans {H H1 H2 : Hp} (a : Same H H1) (b : Same H1 H2) : Same H H2 := fun c o h => b c o (a c o h)
theorem Same.free {H H' : Hp} (e : Same H H') {l : Addr} (h : H' l = Option.none) : H l = Option.none := by
  cases q : H l with
  | none => rfl
  | some o =>
    rw [e l o q] at h
    cases h
section
variable {κ : Type} [DecidableEq κ]
end
theorem at_of {xs : List V} {z : Int} {j : Nat} {v : V} (e : z = (j : Int)) (h : xs[j]? = some v) : atI xs z = some v := by
  rw [e]
  exact atI_nat h
theorem nd_ix {α : Type} {l : List α} (hN : l.Nodup) {i j : Nat} {x : α} (a : l[i]? = some x) (b : l[j]? = some x) : i = j := by
  obtain ⟨h1, e1⟩ := List.getElem?_eq_some_iff.mp a
  obtain ⟨h2, e2⟩ := List.getElem?_eq_some_iff.mp b
  exact (List.getElem_inj hN).mp (e1.trans e2.symm)
theorem Same.made {H H1 : Hp} {x dx C : Addr} (nx : H x = Option.none) (nd : H dx = Option.none) (k : ∀ b o, (upd (upd H dx (.own x)) x (.ins C dx [])) b = some o → b ≠ x → H1 b = some o) : Same H H1 := fun b o e =>
  k b o (by rw [upd_ne (ne_of_none e nx), upd_ne (ne_of_none e nd)]; exact e) (ne_of_none e nx)
end L2
end
section
section
set_option Elab.async false
set_option linter.all false
set_option maxRecDepth 100000
set_option maxHeartbeats 2000000
namespace L2
open PySem PySem.Spec PyProof.Rows
open PySem.W (WData Codec OpenSpec Well WellAll ReadsW ReadsAllW)
/-! ### an answer as data -/
mutual
/-- x stands for the datum d, lists and tuples all the way -/
inductive Dw (K : PySem.W.Frag) (H : Hp) : V → WData → Prop
  | non : Dw K H .non .none
  | bl (b : Bool) : Dw K H (.bl b) (.bool b)
  | int (i : Int) : Dw K H (.int i) (.int i)
  | str (x : Str) : Dw K H (.str x) (.str x)
  | byt (b : Array UInt8) : Dw K H (.byt b) (.bytes b.toList)
  | lst {a : Addr} {xs : List V} {ds : List WData} : SqL K H a xs → DwAll K H xs ds → Dw K H (.ref a) (.list ds)
  | tup {a : Addr} {xs : List V} {ds : List WData} : SqT K H a xs → DwAll K H xs ds → Dw K H (.ref a) (.tuple ds)
inductive DwAll (K : PySem.W.Frag) (H : Hp) : List V → List WData → Prop
  | nil : DwAll K H [] []
  | cons {v : V} {vs : List V} {d : WData} {ds : List WData} : Dw K H v d → DwAll K H vs ds → DwAll K H (v :: vs) (d :: ds)
end
theorem dw_ints {K : PySem.W.Frag} {H : Hp} : ∀ ns : List Int, DwAll K H (ns.map V.int) (ns.map WData.int)
  | [] => .nil
  | n :: r => .cons (.int n) (dw_ints r)
theorem ints_dw {K : PySem.W.Frag} {H : Hp} : ∀ (ns : List Int) (xs : List V), DwAll K H xs (ns.map WData.int) → xs = ns.map V.int
  | [], xs, h => by
    cases h
    rfl
  | n :: r, xs, h => by
    cases h with
    | cons h1 h2 =>
      cases h1
      rw [ints_dw r _ h2] <;> rfl
section
variable {P : Program} {w : World} {K : PySem.W.Frag} {H : Hp} {h : Heap} {R : PySem.W.WRecords} {cl : Str → Option Addr}
theorem sqL_at {a : Addr} {xs : List V} (hok : HOk P w H h) (KX : K.In h) (q : SqL K H a xs) : ∃ (its : List Value) (o : Obj) (n : Nat), Vals xs its ∧ h.get? a = some o ∧ o.cls = .type "list" ∧ o.data = .seq its.toArray n := by
  rcases q with q | ⟨o, its, n, e, hc, _, hd, _, hv⟩
  · obtain ⟨_, its, n, hv, e⟩ := (show ObjOk P w H h a (.lst xs) from q.ok hok)
    exact ⟨its, _, n, hv, e, rfl, rfl⟩
  · exact ⟨its.toList, o, n, hv, KX _ _ e, hc, by simp [hd]⟩
theorem sqT_at {a : Addr} {xs : List V} (hok : HOk P w H h) (KX : K.In h) (q : SqT K H a xs) : ∃ (its : List Value) (o : Obj) (n : Nat), Vals xs its ∧ h.get? a = some o ∧ o.cls = .type "tuple" ∧ o.data = .seq its.toArray n := by
  rcases q with q | ⟨o, its, n, e, hc, hd, _, hv⟩
  · obtain ⟨_, its, hv, o, e, hc, n, hd⟩ := (show ObjOk P w H h a (.tup xs) from q.ok hok)
    exact ⟨its, o, n, hv, e, hc, hd⟩
  · exact ⟨its.toList, o, n, hv, KX _ _ e, hc, by simp [hd]⟩
mutual
theorem Dw.reads (hok : HOk P w H h) (KX : K.In h) : ∀ (d : WData) (v : V) (u : Value), Dw K H v d → RelV v u → ∃ as, ReadsW R cl h u d as
  | .none, _, _, x, r => by
    cases x
    cases r
    exact ⟨_, ReadsW.none⟩
  | .bool b, _, _, x, r => by
    cases x
    cases r
    exact ⟨_, ReadsW.bool b⟩
  | .int i, _, _, x, r => by
    cases x
    obtain ⟨t, rfl⟩ := r
    exact ⟨_, ReadsW.int i t⟩
  | .str s, _, _, x, r => by
    cases x
    obtain ⟨t, rfl⟩ := r
    exact ⟨_, ReadsW.str s t⟩
  | .bytes b, _, _, x, r => by
    cases x
    obtain ⟨t, rfl⟩ := r
    exact ⟨_, ReadsW.bytes _ t⟩
  | .list ds, _, _, x, r => by
    cases x with
    | lst hs ha =>
      cases r
      obtain ⟨its, o, n, rv, ho, hc, hd⟩ := sqL_at hok KX hs
      obtain ⟨as, hr⟩ := Dw.readsAll hok KX ds _ its ha rv
      exact ⟨_, ReadsW.list ho hc hd hr⟩
  | .tuple ds, _, _, x, r => by
    cases x with
    | tup hs ha =>
      cases r
      obtain ⟨its, o, n, rv, ho, hc, hd⟩ := sqT_at hok KX hs
      obtain ⟨as, hr⟩ := Dw.readsAll hok KX ds _ its ha rv
      exact ⟨_, ReadsW.tuple ho hc hd hr⟩
  | .float _, _, _, x, _ => by cases x
  | .dict _, _, _, x, _ => by cases x
  | .bytearray _, _, _, x, _ => by cases x
  | .set _, _, _, x, _ => by cases x
  | .frozenset _, _, _, x, _ => by cases x
  | .obj _ _, _, _, x, _ => by cases x
theorem Dw.readsAll (hok : HOk P w H h) (KX : K.In h) : ∀ (ds : List WData) (vs : List V) (us : List Value), DwAll K H vs ds → Vals vs us → ∃ as, ReadsAllW R cl h us ds as
  | [], _, _, x, r => by
    cases x
    cases r
    exact ⟨_, ReadsAllW.nil⟩
  | d :: ds, _, _, x, r => by
    cases x with
    | cons h1 h2 =>
      cases r with
      | cons r1 r2 =>
        obtain ⟨as, q1⟩ := Dw.reads hok KX d _ _ h1 r1
        obtain ⟨bs, q2⟩ := Dw.readsAll hok KX ds _ _ h2 r2
        exact ⟨_, ReadsAllW.cons q1 q2⟩
end
end
/-! ### the arguments -/
mutual
/-- data that a codec tells -/
def plW : WData → Bool
  | .none => true
  | .bool _ => true
  | .int _ => true
  | .str _ => true
  | .bytes _ => true
  | .list xs => plWs xs
  | .tuple xs => plWs xs
  | _ => false
def plWs : List WData → Bool
  | [] => true
  | x :: r => plW x && plWs r
end
theorem plWs_map {α : Type} {f : α → WData} (h : ∀ a, plW (f a) = true) : ∀ l : List α, plWs (l.map f) = true
  | [] => rfl
  | x :: r => by
    show (plW (f x) && plWs (r.map f)) = true
    rw [h x, plWs_map h r] <;> rfl
theorem pl_enc : ∀ (c : Codec) (a : c.denote), plW (c.enc a) = true
  | .unit, _ => rfl
  | .bool, _ => rfl
  | .int _ _, _ => rfl
  | .nat _ _, _ => rfl
  | .u8, _ => rfl
  | .bytes _ _, _ => rfl
  | .text _ _ _ _, _ => rfl
  | .list _ _ c, a => plWs_map (fun x => pl_enc c x) a
  | .pair c d, a => by
    show (plW (c.enc a.1) && (plW (d.enc a.2) && true)) = true
    rw [pl_enc c a.1, pl_enc d a.2] <;> rfl
  | .triple c d e, a => by
    show (plW (c.enc a.1) && (plW (d.enc a.2.1) && (plW (e.enc a.2.2) && true))) = true
    rw [pl_enc c a.1, pl_enc d a.2.1, pl_enc e a.2.2] <;> rfl
  | .option c, none => rfl
  | .option c, some x => pl_enc c x
theorem pl_encAll : ∀ (cs : List Codec) (a : Codec.denoteAll cs), plWs (Codec.encAll cs a) = true
  | [], _ => rfl
  | c :: cs, a => by
    show (plW (c.enc a.1) && plWs (Codec.encAll cs a.2)) = true
    rw [pl_enc c a.1, pl_encAll cs a.2] <;> rfl
theorem weight_mem : ∀ {xs : List WData} {d : WData}, d ∈ xs → d.weight ≤ WData.weightAll xs
  | [], d, h => absurd h (by simp)
  | x :: r, d, h => by
    show d.weight ≤ x.weight + 1 + WData.weightAll r
    rcases List.mem_cons.mp h with e | m
    · rw [e]
      omega
    · have z := weight_mem m
      omega
def toV : Value → V
  | .none => .non
  | .bool b => .bl b
  | .int i _ => .int i
  | .str x _ => .str x
  | .bytes b _ => .byt b
  | .ref a => .ref a
  | _ => .non
/-- a value of the arguments, its objects among A -/
def OkU (A : List Addr) : Value → Prop
  | .none => True
  | .bool _ => True
  | .int _ _ => True
  | .str _ _ => True
  | .bytes _ _ => True
  | .ref a => a ∈ A
  | _ => False
theorem OkU.mono {A B : List Addr} (h : ∀ a ∈ A, a ∈ B) : ∀ {u : Value}, OkU A u → OkU B u := fun {u} x => by
  cases u with
  | ref a => exact h a x
  | none => trivial
  | bool b => trivial
  | int i t => trivial
  | str s t => trivial
  | bytes b t => trivial
  | _ => exact False.elim x
theorem relV_toV {A : List Addr} {u : Value} (x : OkU A u) : RelV (toV u) u := by
  cases u with
  | ref a => rfl
  | none => rfl
  | bool b => rfl
  | int i t => exact ⟨t, rfl⟩
  | str s t => exact ⟨t, rfl⟩
  | bytes b t => exact ⟨t, rfl⟩
  | _ => exact False.elim x
theorem vals_toV {A : List Addr} : ∀ {vs : List Value}, (∀ u ∈ vs, OkU A u) → Vals (vs.map toV) vs
  | [], _ => .nil
  | u :: r, h => .cons (relV_toV (h u (List.mem_cons_self ..))) (vals_toV fun x hx => h x (List.mem_cons_of_mem _ hx))
/-- an object of the arguments -/
def ArgOb (h : Heap) (A : List Addr) (a : Addr) : Prop := ∃ vs : List Value, vs.length ≤ sizeLine ∧ (∀ u ∈ vs, OkU A u) ∧
  (h.get? a = some { cls := .type "list", data := .seq vs.toArray } ∨ h.get? a = some { cls := .type "tuple", data := .seq vs.toArray })
theorem ArgOb.mono {h : Heap} {A B : List Addr} {a : Addr} (k : ∀ a ∈ A, a ∈ B) (x : ArgOb h A a) : ArgOb h B a := by
  obtain ⟨vs, h1, h2, h3⟩ := x
  exact ⟨vs, h1, fun u hu => (h2 u hu).mono k, h3⟩
theorem wellAll_len {P : Params} {h : Heap} : ∀ {vs : List Value} {ds : List WData}, WellAll P h vs ds → vs.length = ds.length
  | _, _, .nil => rfl
  | _, _, .cons _ b => by
    show _ + 1 = _ + 1
    rw [wellAll_len b]
theorem well_list {P : Params} {h : Heap} {v : Value} {ds : List WData} (x : Well P h v (.list ds)) : ∃ (a : Addr) (vs : List Value), v = .ref a ∧ h.get? a = some { cls := .type "list", data := .seq vs.toArray } ∧ WellAll P h vs ds := by
  cases x with
  | list ho hall => exact ⟨_, _, rfl, ho, hall⟩
theorem well_tuple {P : Params} {h : Heap} {v : Value} {ds : List WData} (x : Well P h v (.tuple ds)) : ∃ (a : Addr) (vs : List Value), v = .ref a ∧ h.get? a = some { cls := .type "tuple", data := .seq vs.toArray } ∧ WellAll P h vs ds := by
  cases x with
  | tuple ho hall => exact ⟨_, _, rfl, ho, hall⟩
theorem well_cons {P : Params} {h : Heap} {us : List Value} {d : WData} {ds : List WData} (x : WellAll P h us (d :: ds)) : ∃ (v : Value) (vs : List Value), us = v :: vs ∧ Well P h v d ∧ WellAll P h vs ds := by
  cases x with
  | cons a b => exact ⟨_, _, rfl, a, b⟩
theorem line_of {n : Nat} (h : n ≤ 1048576) : n ≤ sizeLine := Nat.le_trans h (by decide)
section
variable {P : Params} {h : Heap}
mutual
theorem area_one : ∀ (d : WData) (v : Value), Well P h v d → plW d = true → d.weight ≤ 1048576 → ∃ A : List Addr, OkU A v ∧ ∀ a ∈ A, ArgOb h A a
  | .none, _, x, _, _ => by
    cases x
    exact ⟨[], trivial, fun a m => absurd m (by simp)⟩
  | .bool b, _, x, _, _ => by
    cases x
    exact ⟨[], trivial, fun a m => absurd m (by simp)⟩
  | .int i, _, x, _, _ => by
    cases x
    exact ⟨[], trivial, fun a m => absurd m (by simp)⟩
  | .str s, _, x, _, _ => by
    cases x
    exact ⟨[], trivial, fun a m => absurd m (by simp)⟩
  | .bytes b, _, x, _, _ => by
    cases x
    exact ⟨[], trivial, fun a m => absurd m (by simp)⟩
  | .list ds, _, x, p, z => by
    obtain ⟨a, vs, rfl, ho, hall⟩ := well_list x
    have z2 : WData.weightAll ds ≤ 1048576 := z
    obtain ⟨A, h1, h2⟩ := area_all ds _ hall p fun d hd => Nat.le_trans (weight_mem hd) z2
    have k : ∀ b ∈ A, b ∈ a :: A := fun b hb => List.mem_cons_of_mem _ hb
    refine ⟨a :: A, List.mem_cons_self .., fun b hb => ?_⟩
    rcases List.mem_cons.mp hb with e | m
    · rw [e]
      exact ⟨vs, line_of (by rw [wellAll_len hall]; exact Nat.le_trans (PySem.W.length_le_weightAllW ds) z2), fun u hu => (h1 u hu).mono k, .inl ho⟩
    · exact (h2 b m).mono k
  | .tuple ds, _, x, p, z => by
    obtain ⟨a, vs, rfl, ho, hall⟩ := well_tuple x
    have z2 : WData.weightAll ds ≤ 1048576 := z
    obtain ⟨A, h1, h2⟩ := area_all ds _ hall p fun d hd => Nat.le_trans (weight_mem hd) z2
    have k : ∀ b ∈ A, b ∈ a :: A := fun b hb => List.mem_cons_of_mem _ hb
    refine ⟨a :: A, List.mem_cons_self .., fun b hb => ?_⟩
    rcases List.mem_cons.mp hb with e | m
    · rw [e]
      exact ⟨vs, line_of (by rw [wellAll_len hall]; exact Nat.le_trans (PySem.W.length_le_weightAllW ds) z2), fun u hu => (h1 u hu).mono k, .inr ho⟩
    · exact (h2 b m).mono k
  | .float _, _, _, p, _ => Bool.noConfusion (show false = true from p)
  | .dict _, _, _, p, _ => Bool.noConfusion (show false = true from p)
  | .bytearray _, _, _, p, _ => Bool.noConfusion (show false = true from p)
  | .set _, _, _, p, _ => Bool.noConfusion (show false = true from p)
  | .frozenset _, _, _, p, _ => Bool.noConfusion (show false = true from p)
  | .obj _ _, _, _, p, _ => Bool.noConfusion (show false = true from p)
theorem area_all : ∀ (ds : List WData) (vs : List Value), WellAll P h vs ds → plWs ds = true → (∀ d ∈ ds, d.weight ≤ 1048576) → ∃ A : List Addr, (∀ u ∈ vs, OkU A u) ∧ ∀ a ∈ A, ArgOb h A a
  | [], _, x, _, _ => by
    cases x
    exact ⟨[], fun u m => absurd m (by simp), fun a m => absurd m (by simp)⟩
  | d :: ds, _, x, p, z => by
    obtain ⟨v, vs, rfl, x1, x2⟩ := well_cons x
    have q : plW d = true ∧ plWs ds = true := Bool.and_eq_true_iff.mp p
    obtain ⟨A, a1, a2⟩ := area_one d v x1 q.1 (z d (List.mem_cons_self ..))
    obtain ⟨B, b1, b2⟩ := area_all ds vs x2 q.2 fun e he => z e (List.mem_cons_of_mem _ he)
    have kA : ∀ b ∈ A, b ∈ A ++ B := fun b hb => List.mem_append.mpr (.inl hb)
    have kB : ∀ b ∈ B, b ∈ A ++ B := fun b hb => List.mem_append.mpr (.inr hb)
    refine ⟨A ++ B, fun u hu => ?_, fun b hb => ?_⟩
    · rcases List.mem_cons.mp hu with e | m
      · rw [e]
        exact a1.mono kA
      · exact (b1 u m).mono kB
    · rcases List.mem_append.mp hb with m | m
      · exact (a2 b m).mono kA
      · exact (b2 b m).mono kB
end
end
/-- what is tracked of an argument's object -/
def hoOf (o : Obj) : Option HO := match o.data with
  | .seq vs _ => if (o.cls == Value.type "list") = true then some (.frz o (.lst (vs.toList.map toV))) else some (.frz o (.tup (vs.toList.map toV)))
  | _ => none
def argH (K : PySem.W.Frag) (h : Heap) (A : List Addr) : Hp := fun b => if b ∈ A then (if (K.lookup b).isNone = true then (h.get? b).bind hoOf else none) else none
/-- nothing is tracked but what is known to the object -/
def OnlyF (H : Hp) : Prop := ∀ b, H b = none ∨ ∃ o u, H b = some (.frz o u)
theorem hoOf_lst (vs : List Value) : hoOf { cls := .type "list", data := .seq vs.toArray } = some (.frz { cls := .type "list", data := .seq vs.toArray } (.lst (vs.map toV))) := by
  show (if (Value.type "list" == Value.type "list") = true then some (HO.frz { cls := .type "list", data := .seq vs.toArray } (.lst (vs.toArray.toList.map toV))) else some (HO.frz { cls := .type "list", data := .seq vs.toArray } (.tup (vs.toArray.toList.map toV)))) = _
  rw [if_pos (beq_self_eq_true _)]
theorem hoOf_tup (vs : List Value) : hoOf { cls := .type "tuple", data := .seq vs.toArray } = some (.frz { cls := .type "tuple", data := .seq vs.toArray } (.tup (vs.map toV))) := by
  show (if (Value.type "tuple" == Value.type "list") = true then some (HO.frz { cls := .type "tuple", data := .seq vs.toArray } (.lst (vs.toArray.toList.map toV))) else some (HO.frz { cls := .type "tuple", data := .seq vs.toArray } (.tup (vs.toArray.toList.map toV)))) = _
  rw [if_neg (by decide)]
section
variable {P : Program} {w : World} {K : PySem.W.Frag} {h : Heap} {A : List Addr}
theorem argH_at {b : Addr} {o : Obj} (hb : b ∈ A) (hk : K.lookup b = none) (e : h.get? b = some o) : argH K h A b = hoOf o := by
  unfold argH
  rw [if_pos hb, hk, if_pos (show (none : Option Obj).isNone = true from rfl), e] <;> rfl
theorem of_argH {b : Addr} {u : HO} (q : argH K h A b = some u) : b ∈ A ∧ K.lookup b = none := by
  unfold argH at q
  by_cases hb : b ∈ A
  · rw [if_pos hb] at q
    cases hk : K.lookup b with
    | none => exact ⟨hb, rfl⟩
    | some o =>
      rw [hk, if_neg (by simp)] at q
      cases q
  · rw [if_neg hb] at q
    cases q
/-- what stands tracked -/
theorem argH_is (ar : ∀ a ∈ A, ArgOb h A a) {b : Addr} {u : HO} (q : argH K h A b = some u) : K.lookup b = none ∧ ∃ vs : List Value, vs.length ≤ sizeLine ∧ (∀ u ∈ vs, OkU A u) ∧
    ((h.get? b = some { cls := .type "list", data := .seq vs.toArray } ∧ u = .frz { cls := .type "list", data := .seq vs.toArray } (.lst (vs.map toV))) ∨
     (h.get? b = some { cls := .type "tuple", data := .seq vs.toArray } ∧ u = .frz { cls := .type "tuple", data := .seq vs.toArray } (.tup (vs.map toV)))) := by
  obtain ⟨hb, hk⟩ := of_argH q
  obtain ⟨vs, h1, h2, h3⟩ := ar b hb
  refine ⟨hk, vs, h1, h2, ?_⟩
  rcases h3 with e | e
  · rw [argH_at hb hk e, hoOf_lst] at q
    exact .inl ⟨e, (Option.some.inj q).symm⟩
  · rw [argH_at hb hk e, hoOf_tup] at q
    exact .inr ⟨e, (Option.some.inj q).symm⟩
theorem argH_only (ar : ∀ a ∈ A, ArgOb h A a) : OnlyF (argH K h A) := fun b => by
  cases q : argH K h A b with
  | none => exact .inl rfl
  | some u =>
    obtain ⟨_, vs, _, _, ⟨_, e⟩ | ⟨_, e⟩⟩ := argH_is ar q
    · exact .inr ⟨_, _, by rw [e]⟩
    · exact .inr ⟨_, _, by rw [e]⟩
theorem argH_ok (ar : ∀ a ∈ A, ArgOb h A a) : HOk P w (argH K h A) h := fun b u q => by
  obtain ⟨_, vs, h1, h2, ⟨e, rfl⟩ | ⟨e, rfl⟩⟩ := argH_is ar q
  · exact ⟨e, by rw [List.length_map]; exact h1, vs, _, vals_toV h2, e⟩
  · exact ⟨e, by rw [List.length_map]; exact h1, vs, vals_toV h2, _, e, rfl, _, rfl⟩
theorem seq_inj {c c' : Value} {vs us : List Value} (e : (some { cls := c, data := .seq vs.toArray } : Option Obj) = some { cls := c', data := .seq us.toArray }) : c = c' ∧ vs = us := by
  have e1 := Option.some.inj e
  have e2 : c = c' := congrArg Obj.cls e1
  have e3 : Data.seq vs.toArray = Data.seq us.toArray := congrArg Obj.data e1
  injection e3 with e4
  refine ⟨e2, ?_⟩
  have e5 := congrArg Array.toList e4
  simpa using e5
/-- a list argument -/
theorem argL (KX : K.In h) (ar : ∀ a ∈ A, ArgOb h A a) {a : Addr} {vs : List Value} (ha : a ∈ A) (e : h.get? a = some { cls := .type "list", data := .seq vs.toArray }) : (∀ u ∈ vs, OkU A u) ∧ SqL K (argH K h A) a (vs.map toV) := by
  obtain ⟨us, h1, h2, h3⟩ := ar a ha
  have hu : us = vs := by
    rcases h3 with q | q
    · rw [e] at q
      exact (seq_inj q).2.symm
    · rw [e] at q
      exact absurd (Value.type.inj (seq_inj q).1) (by decide)
  subst hu
  refine ⟨h2, ?_⟩
  cases hk : K.lookup a with
  | none => exact .inl (.inr ⟨_, by rw [argH_at ha hk e, hoOf_lst]⟩)
  | some o =>
    have e2 := KX a o hk
    rw [e] at e2
    obtain rfl := Option.some.inj e2
    exact .inr ⟨_, us.toArray, _, hk, rfl, rfl, rfl, by rw [List.size_toArray]; exact h1, by simpa using vals_toV h2⟩
theorem argT (KX : K.In h) (ar : ∀ a ∈ A, ArgOb h A a) {a : Addr} {vs : List Value} (ha : a ∈ A) (e : h.get? a = some { cls := .type "tuple", data := .seq vs.toArray }) : (∀ u ∈ vs, OkU A u) ∧ SqT K (argH K h A) a (vs.map toV) := by
  obtain ⟨us, h1, h2, h3⟩ := ar a ha
  have hu : us = vs := by
    rcases h3 with q | q
    · rw [e] at q
      exact absurd (Value.type.inj (seq_inj q).1) (by decide)
    · rw [e] at q
      exact (seq_inj q).2.symm
  subst hu
  refine ⟨h2, ?_⟩
  cases hk : K.lookup a with
  | none => exact .inl (.inr ⟨_, by rw [argH_at ha hk e, hoOf_tup]⟩)
  | some o =>
    have e2 := KX a o hk
    rw [e] at e2
    obtain rfl := Option.some.inj e2
    exact .inr ⟨_, us.toArray, _, hk, rfl, rfl, by rw [List.size_toArray]; exact h1, by simpa using vals_toV h2⟩
mutual
theorem dw_one {Pm : Params} (KX : K.In h) (ar : ∀ a ∈ A, ArgOb h A a) : ∀ (d : WData) (v : Value), Well Pm h v d → plW d = true → OkU A v → Dw K (argH K h A) (toV v) d
  | .none, _, x, _, _ => by
    cases x
    exact .non
  | .bool b, _, x, _, _ => by
    cases x
    exact .bl b
  | .int i, _, x, _, _ => by
    cases x
    exact .int i
  | .str s, _, x, _, _ => by
    cases x
    exact .str s
  | .bytes b, _, x, _, _ => by
    cases x
    have z := Dw.byt (K := K) (H := argH K h A) b.toArray
    exact z
  | .list ds, _, x, p, hu => by
    obtain ⟨a, vs, rfl, ho, hall⟩ := well_list x
    obtain ⟨h2, hs⟩ := argL KX ar hu ho
    exact .lst hs (dw_all KX ar ds _ hall p h2)
  | .tuple ds, _, x, p, hu => by
    obtain ⟨a, vs, rfl, ho, hall⟩ := well_tuple x
    obtain ⟨h2, hs⟩ := argT KX ar hu ho
    exact .tup hs (dw_all KX ar ds _ hall p h2)
  | .float _, _, _, p, _ => Bool.noConfusion (show false = true from p)
  | .dict _, _, _, p, _ => Bool.noConfusion (show false = true from p)
  | .bytearray _, _, _, p, _ => Bool.noConfusion (show false = true from p)
  | .set _, _, _, p, _ => Bool.noConfusion (show false = true from p)
  | .frozenset _, _, _, p, _ => Bool.noConfusion (show false = true from p)
  | .obj _ _, _, _, p, _ => Bool.noConfusion (show false = true from p)
theorem dw_all {Pm : Params} (KX : K.In h) (ar : ∀ a ∈ A, ArgOb h A a) : ∀ (ds : List WData) (vs : List Value), WellAll Pm h vs ds → plWs ds = true → (∀ u ∈ vs, OkU A u) → DwAll K (argH K h A) (vs.map toV) ds
  | [], _, x, _, _ => by
    cases x
    exact .nil
  | d :: ds, _, x, p, hu => by
    obtain ⟨v, vs, rfl, x1, x2⟩ := well_cons x
    have q : plW d = true ∧ plWs ds = true := Bool.and_eq_true_iff.mp p
    exact .cons (dw_one KX ar d v x1 q.1 (hu _ (List.mem_cons_self ..))) (dw_all KX ar ds vs x2 q.2 fun u m => hu u (List.mem_cons_of_mem _ m))
end
end
/-! ### the call -/
theorem spec_call {P : Program} {w : World} {K : PySem.W.Frag} {mg mb : Str → Option Value} {CX : CXT} {k : Nat} {fa : Addr} {fd : FuncData} {ps : List Str} {sp : Sp} {s₁ : Shared} {vals : List Value} {ds : List WData} {R : PySem.W.WRecords} {cl : Str → Option Addr} {d0 : WData}
    (KX : K.In s₁.heap) (hns : s₁.heap.Ns mainGlobals mg) (hb : s₁.heap.Ns builtinsNs mb) (hbb : ∀ x : Str, x ≠ "__name__" → mb x = bootBuiltins x) (hlim : s₁.heap.NoLimit) (hg : s₁.gens = #[])
    (hwl : WellAll w.params s₁.heap vals ds) (hpl : plWs ds = true) (hwt : ∀ d ∈ ds, d.weight ≤ 1048576) (hr : Room k callerA)
    (F : ∀ base : Heap, K.In base → base.Ns mainGlobals mg → FnOk P w K mg base CX k fa fd ps sp) (hbind : ∀ (s : Shared) (us : List Value), us.length = ps.length → BindsTo s fd ⟨us, []⟩ (ps.zip us)) (hlen : ds.length = ps.length)
    (hsp : ∀ (H : Hp) (xs : List V), OnlyF H → DwAll K H xs ds → sp xs H (fun v H' => Dw K H' v d0) fun _ _ _ => False)
    (hCX : ∀ H e s', CX [] H s₁ (fun _ _ _ => False) e s' → False) :
    codeAny (model P w) callerA (.call (.ref fa) ⟨vals, []⟩) (fun r s' => ∃ u as, r = .ok (.ret u) ∧ ReadsW R cl s'.heap u d0 as ∧ OldK s₁.heap s'.heap ∧ s'.os = s₁.os ∧ AllBare s'.gens) s₁ := by
  obtain ⟨A, ho, ar⟩ := area_all ds vals hwl hpl hwt
  have hO : OnlyF (argH K s₁.heap A) := argH_only ar
  have hok : HOk P w (argH K s₁.heap A) s₁.heap := argH_ok ar
  have hS := dw_all KX ar ds vals hwl hpl ho
  have hV := vals_toV ho
  have hK : ∀ b u, argH K s₁.heap A b = some u → K.lookup b = none := fun b u q => (argH_is ar q).1
  have noA : ∀ {b : Addr} {o : Obj} {es : Array DictEntry} {ep : Nat}, s₁.heap.get? b = some o → o.data = .dict es ep → argH K s₁.heap A b = none := fun {b o es ep} e d => by
    cases q : argH K s₁.heap A b with
    | none => rfl
    | some u =>
      obtain ⟨_, vs, _, _, ⟨e2, _⟩ | ⟨e2, _⟩⟩ := argH_is ar q
      · rw [e2] at e
        cases e
        have d' : Data.seq vs.toArray _ = Data.dict es ep := d
        cases d'
      · rw [e2] at e
        cases e
        have d' : Data.seq vs.toArray _ = Data.dict es ep := d
        cases d'
  generalize argH K s₁.heap A = H at hO hok hS hK noA
  have base_of : ∀ {b : Addr} {o : Obj}, s₁.heap.get? b = some o → H b = none → (hidT s₁.heap H).get? b = some o := fun e n => hidT_get e n
  have nsK : ∀ {b : Addr} {m : Str → Option Value}, s₁.heap.Ns b m → (hidT s₁.heap H).Ns b m := fun {b m} ⟨o, es, ep, e, d, r⟩ => ⟨o, es, ep, base_of e (noA e d), d, r⟩
  have nK : ∀ b o, K.lookup b = some o → H b = none := fun b o e => by
    cases q : H b with
    | none => rfl
    | some u =>
      rw [hK b u q] at e
      cases e
  have hKb : K.In (hidT s₁.heap H) := fun b o e => base_of (KX b o e) (nK b o e)
  have hM : Mod K mg (hidT s₁.heap H) := ⟨hKb, nsK hns, ⟨mb, nsK hb, hbb⟩, let ⟨mc, h1, h2⟩ := hlim; ⟨mc, nsK h1, h2⟩⟩
  have e0 : Env0 P w K mg (hidT s₁.heap H) callerA [] s₁ H := ⟨rfl, hM, fun b o e => of_hidT e, Nat.le_of_eq (hidT_size _ _), trivial, fun b hb => absurd (show b ∈ ([] : List Addr) from hb) (by simp), hok, .of_eq hg⟩
  have hl : vals.length = ps.length := by rw [wellAll_len hwl]; exact hlen
  refine codeAny_mono ((F _ hKb (nsK hns)).run callerA [] s₁ H ⟨vals, []⟩ vals (vals.map toV) _ _ hr e0 (hbind s₁ vals hl) hV (hsp H _ hO hS)) fun r s' x => ?_
  cases r with
  | error e => exact (hCX H e s' x).elim
  | ok fl =>
    cases fl with
    | next => exact False.elim x
    | brk => exact False.elim x
    | cont => exact False.elim x
    | ret u =>
      obtain ⟨v, H', os, bare, un, hok', r', q⟩ := x
      have kept : ∀ b o, s₁.heap.get? b = some o → s'.heap.get? b = some o := fun b o e => by
        cases q2 : H b with
        | none => exact un.keep b o e q2 (by intro z; exact absurd (show b ∈ ([] : List Addr) from z) (by simp)) (by simp)
        | some u2 =>
          rcases hO b with z | ⟨ob, u3, z⟩
          · rw [q2] at z
            cases z
          · have z2 := un.frzs b ob _ z
            obtain ⟨e1, _⟩ := hok b _ z
            obtain ⟨e2, _⟩ := hok' b _ z2
            rw [e] at e1
            cases e1
            exact e2
      have KX' : K.In s'.heap := fun b o e => kept b o (KX b o e)
      obtain ⟨as, hrd⟩ := Dw.reads (R := R) (cl := cl) hok' KX' d0 v u q r'
      exact ⟨u, as, rfl, hrd, OldK.of_keep kept, os, bare⟩
/-! ### the row -/
theorem layable_weight {ds : List WData} (h : WData.layableAll ds = true) : ∀ d ∈ ds, d.weight ≤ 1048576 := fun d hd =>
  (PySem.W.layableW_iff.mp (List.all_eq_true.mp h d hd)).2.2
theorem encAll_len : ∀ (cs : List Codec) (a : Codec.denoteAll cs), (Codec.encAll cs a).length = cs.length
  | [], _ => rfl
  | c :: cs, a => by
    show (Codec.encAll cs a.2).length + 1 = cs.length + 1
    rw [encAll_len cs a.2]
/-- the goal that k_headS leaves (case hc), from the promise of the row's def: whatever the arguments that the codecs let and the row asks for, the def gives what stands for enc (f ..) -/
theorem walk_spec {r : OpenSpec} {k : Nat} {q : Program} {loose : List Str} {XP : (Str → Option Value) → Heap → Prop} {YP : World → Heap → Prop} {d : DefRec} {K : Params → PySem.W.Frag} {CX : World → CXT} {ps : List Str} {sp : World → Sp}
    (hwell : r.wellSaid = true) (hdf : d.params.defaults = []) (hlen : r.args.length = ps.length) (hr : Room k callerA)
    (hY : ∀ (w : World) (h : Heap), YP w h → (K w.params).In h)
    (F : ∀ (w : World) (mg : Str → Option Value) (fa : Addr) (h : Heap), YP w h → (K w.params).In h → h.Ns mainGlobals mg → mg d.name = some (.ref fa) →
      ∃ fd : FuncData, (∀ (s : Shared) (us : List Value), us.length = ps.length → BindsTo s fd ⟨us, []⟩ (ps.zip us)) ∧
        ∀ base : Heap, (K w.params).In base → base.Ns mainGlobals mg → FnOk r.prog w (K w.params) mg base (CX w) k fa fd ps (sp w))
    (hsp : ∀ (w : World) (H : Hp) (xs : List V) (a : Codec.denoteAll r.args), OnlyF H → Codec.withinAll r.args a = true → Codec.app r.args r.asked a = true → DwAll (K w.params) H xs (Codec.encAll r.args a) →
      sp w xs H (fun v H' => Dw (K w.params) H' v (r.ret.enc (Codec.app r.args r.f a))) fun _ _ _ => False)
    (hCX : ∀ (w : World) (H : Hp) (s : Shared) (e : Value) (s' : Shared), CX w [] H s (fun _ _ _ => False) e s' → False) :
    PySem.W.WalkOS q loose XP YP r d [] (fun f vs => PySem.call f vs) := by
  intro w s_0 s₁ mg mb G Y fa o pm cd doc dV kV ho hd hcd hD hmg hg args vals as hpre hlay hrd hwl hlo
  obtain ⟨a, e1, e2⟩ := PySem.W.os_pre_some hpre
  obtain ⟨e3, hwi⟩ := Codec.encAll_of_decAll r.args args a e1
  subst e3
  have KX := hY w _ Y
  obtain ⟨fd, hb, hF⟩ := F w mg fa _ Y KX G.T.g hmg
  refine PySem.W.enter_call (codeAny_mono (spec_call (R := []) (cl := classAt s_0.heap) (d0 := r.ret.enc (Codec.app r.args r.f a)) KX G.T.g G.T.b G.T.builtins G.T.nolimit hg hwl (pl_encAll _ _) (layable_weight hlay) hr hF hb (by rw [encAll_len]; exact hlen)
    (fun H xs hO hS => hsp w H xs a hO hwi e2 hS) fun H e s' => hCX w H s₁ e s') fun r' s' hq => ?_)
  obtain ⟨u, as', rfl, h1, h2, h3, h4⟩ := hq
  exact ⟨.inl ⟨u, _, as', rfl, fun _ => rfl, h1, (OpenSpec.post_iff hwell hwi _ _).mpr rfl, fun z => Bool.noConfusion (show false = true from z)⟩, h2, h3, h4⟩
/-- the same where the promise hangs on the written part alone -/
theorem walk_specK {r : OpenSpec} {k : Nat} {q : Program} {loose : List Str} {XP : (Str → Option Value) → Heap → Prop} {YP : World → Heap → Prop} {d : DefRec} {K : Params → PySem.W.Frag} {CX : CXT} {ps : List Str} {sp : PySem.W.Frag → Sp}
    (hwell : r.wellSaid = true) (hdf : d.params.defaults = []) (hlen : r.args.length = ps.length) (hr : Room k callerA)
    (hY : ∀ (w : World) (h : Heap), YP w h → (K w.params).In h)
    (F : ∀ (w : World) (mg : Str → Option Value) (fa : Addr) (h : Heap), YP w h → (K w.params).In h → h.Ns mainGlobals mg → mg d.name = some (.ref fa) →
      ∃ fd : FuncData, (∀ (s : Shared) (us : List Value), us.length = ps.length → BindsTo s fd ⟨us, []⟩ (ps.zip us)) ∧
        ∀ base : Heap, (K w.params).In base → base.Ns mainGlobals mg → FnOk r.prog w (K w.params) mg base CX k fa fd ps (sp (K w.params)))
    (hsp : ∀ (K : PySem.W.Frag) (H : Hp) (xs : List V) (a : Codec.denoteAll r.args), OnlyF H → Codec.withinAll r.args a = true → Codec.app r.args r.asked a = true → DwAll K H xs (Codec.encAll r.args a) →
      sp K xs H (fun v H' => Dw K H' v (r.ret.enc (Codec.app r.args r.f a))) fun _ _ _ => False)
    (hCX : ∀ (H : Hp) (s : Shared) (e : Value) (s' : Shared), CX [] H s (fun _ _ _ => False) e s' → False) :
    PySem.W.WalkOS q loose XP YP r d [] (fun f vs => PySem.call f vs) :=
  walk_spec (K := K) (CX := fun _ => CX) (sp := fun w => sp (K w.params)) hwell hdf hlen hr hY F (fun w H xs a h1 h2 h3 h4 => hsp (K w.params) H xs a h1 h2 h3 h4) fun _ H s e s' => hCX H s e s'
end L2
-- rests on (row put in by the clerk, for the bench that shows a file only what it spells): KE.SpHead KE.OsShapes
end
end
section
/-! More rules over the layer: an item of a list in an augmented store; a call of a def that a local name holds; an item of a table of the module; heaps. -/
set_option Elab.async false
set_option linter.all false
set_option maxRecDepth 100000
namespace L2
open PySem PySem.Spec PyProof.Rows
section
variable {X : Cx}
def rGetL (K : PySem.W.Frag) : V → V → Hp → VK → Prop := fun x y H Q => ∃ p xs i v, x = .ref p ∧ y = .int i ∧ 0 ≤ i ∧ SqL K H p xs ∧ atI xs i = some v ∧ Q v H
theorem get_list : PGet X (rGetL X.K) := by
  intro pins s σ H x y v u Q I rx ry h
  obtain ⟨p, xs, i, z, rfl, rfl, h0, hq, he, q⟩ := h
  cases rx
  obtain ⟨t, rfl⟩ := ry
  obtain ⟨its, r, pl, hz⟩ := I.list hq
  obtain ⟨j, h1, h2, h3, h4, h5⟩ := atI_get he
  obtain ⟨w, ew, rw'⟩ := r.get h2
  have hn := line63
  have hl := r.length
  have hj : i.toNat = j := by
    rw [seqIndex_of h0 h5] at h1
    exact Option.some.inj h1
  exact wpAny_getItem_list pl.isList h0 (by omega) (by rw [hj]; simpa using ew) ⟨z, H, I, rw', q⟩
/-- the same within a comprehension's block: K by its own name -/
theorem ix_l (K : PySem.W.Frag) {X : Cx} (h : X.K = K := by rfl) : IxR X (rIxL K) := by
  subst h
  exact ix_list
theorem len_l (K : PySem.W.Frag) {X : Cx} (h : X.K = K := by rfl) : CallR X (.builtin "len") (fun xs H Q => ∃ p ys, xs = [.ref p] ∧ (SqL K H p ys ∨ SqT K H p ys) ∧ Q (.int ys.length) H) := by
  subst h
  exact call_len_seq
theorem pe_fldK (K : PySem.W.Frag) {X : Cx} {e : Expr} {f : Str} {pos : Pos} {ta : TE} (he : PE X e ta) (hb : attributeBase e f X.env (eval e X.env) = eval e X.env) (h : X.K = K := by rfl) : PE X (.Attribute e f pos) (tFld K ta f) := by
  subst h
  exact pe_fld he hb
/-- a def that may be called through a value -/
structure FnAny (P : Program) (w : World) (K : PySem.W.Frag) (mg : Str → Option Value) (base : Heap) (k : Nat) (f : Addr) (sp : Sp) : Prop where
  ex : ∃ (fd : FuncData) (ps : List Str), FnOk P w K mg base CX0 k f fd ps sp ∧ Binds K fd ps []
  kp : PySem.W.keepIn K (.ref f) = true
def tCallV (P : Program) (w : World) (K : PySem.W.Frag) (mg : Str → Option Value) (base : Heap) (k i : Nat) (t : TA) : TE := fun σ H Q => ∃ (f : Addr) (sp : Sp), σ[i]? = some (some (.ref f)) ∧ FnAny P w K mg base k f sp ∧ t σ H fun vs H1 => sp vs H1 Q E0
theorem pe_callV {k i : Nat} {x : Str} {p pos : Pos} {e : Expr} {es : List Expr} {t : TA} (hr : Room k X.A) (hN : X.N[i]? = some x) (hv : Vis X.env.scope x) (ha : PA X (e :: es) t)
    (hdb : (x == ("__debug__" : Str)) = false := by decide) (hcd : (x == ("__classdict__" : Str)) = false := by decide)
    (he : starEach (e :: es) X.env = (false, eval e X.env) :: starEach es X.env := by rfl) (hpl : (backTo pos (starEach es X.env)).any (·.1) = false := by rfl) :
    PE X (.Call (.Name x p) (e :: es) [] pos) (tCallV X.prog X.w X.K X.mg X.base k i t) := by
  intro pins s σ H Q I h
  obtain ⟨f, sp, hi, FA, h⟩ := h
  obtain ⟨⟨fd, ps, F, hb⟩, kp⟩ := FA
  refine wpAny_Call_Name_kw (thn (pe_var hN hv hdb hcd pins s σ H (fun v H' => v = .ref f ∧ H' = H) I ⟨_, hi, rfl, rfl⟩) fun u s1 ⟨v, H1, I1, r1, ev, eH⟩ => ?_)
  subst ev eH
  obtain rfl : u = Value.ref f := r1
  refine PySem.W.callWith_K (h₀ := X.base) I.ok.mod.kin kp (thn (ha pos pins s1 σ _ _ I1 h) fun us s2 ⟨vs, H2, I2, r, q⟩ => ⟨I2.kIn, ?_⟩) he hpl
  exact run_fn (ds := []) (dvs := []) F hr hb .nil pass0 I2 r (by rw [List.append_nil]; exact q)
/-- a table of the module's own, its keys nats -/
structure TabK (K : PySem.W.Frag) (d : Addr) (es : Array DictEntry) : Prop where
  ex : ∃ ep : Nat, K.lookup d = some { cls := .type "dict", dict := none, data := .dict es ep, slots := #[] }
  keys : ∀ e ∈ es, ∃ k, Value.isInt k e.key = true ∧ e.hash = hashInt k
def tabC (es : Array DictEntry) : Bool := es.toList.all fun e => match e.key with
  | .int k _ => e.hash == hashInt k
  | _ => false
theorem tabC_keys {es : Array DictEntry} (h : tabC es = true) : ∀ e ∈ es, ∃ k, Value.isInt k e.key = true ∧ e.hash = hashInt k := fun e he => by
  have q := List.all_eq_true.mp h e (by simpa using he)
  revert q
  cases ek : e.key <;> intro q
  case int k t => exact ⟨k, by simp [Value.isInt], by simpa using q⟩
  all_goals cases q
/-- what a table holds at a key -/
def tabGet (es : Array DictEntry) (k : Int) : Option Value := (es.toList.find? fun e => Value.isInt k e.key).map (·.val)
theorem tabGet_eq (es : Array DictEntry) (k : Int) : findBy Value.isInt es k = tabGet es k := by
  unfold findBy tabGet
  rw [Array.find?_toList]
theorem tab_mk {K : PySem.W.Frag} {d : Addr} {o : Obj} {es : Array DictEntry} {ep : Nat} (l : K.lookup d = some o) (e : o = { cls := .type "dict", dict := none, data := .dict es ep, slots := #[] }) (t : tabC es = true) : TabK K d es :=
  ⟨⟨ep, by rw [l, e]⟩, tabC_keys t⟩
def tTab (es : Array DictEntry) (ty : TE) : TE := fun σ H Q => ty σ H fun y H1 => ∃ n u v, y = .int n ∧ tabGet es n = some u ∧ RelV v u ∧ Q v H1
theorem pe_tab {x : Str} {d : Addr} {es : Array DictEntry} {i : Expr} {ty : TE} {p pos : Pos} (hg : Gl X x) (hm : X.mg x = some (.ref d)) (T : TabK X.K d es) (hi : PE X i ty) (hs : NoSl i) (hd : (x == ("__debug__" : Str)) = false := by decide) :
    PE X (.Subscript (.Name x p) i pos) (tTab es ty) := by
  intro pins s σ H Q I h
  refine subD_of PySem.F.slot_dict_getitem.lookup hs (thn (pe_glob (v := .ref d) hg hm rfl hd pins s σ H (fun v H' => v = .ref d ∧ H' = H) I ⟨rfl, rfl⟩) fun u s1 ⟨x, H1, I1, rx, ex, eH⟩ => ?_)
  subst ex eH
  obtain rfl : u = Value.ref d := rx
  refine thn (hi pins s1 σ _ _ I1 h) fun iv s2 ⟨y, H2, I2, ry, n, u2, v, ey, hf, rv, q2⟩ => ?_
  subst ey
  obtain ⟨t, rfl⟩ := ry
  obtain ⟨ep, lk⟩ := T.ex
  have M : s2.heap.MapOf (intKind X.prog X.w) d (findBy Value.isInt es) := ⟨_, es, ep, I2.kIn d _ lk, ⟨rfl, rfl, rfl⟩, rfl, T.keys, fun _ => rfl⟩
  exact ⟨M.typeIs, wpAny_getItem_of (intKind_is X.prog X.w n t) M ((tabGet_eq es n).trans hf) ⟨v, H2, I2.tok _, rv, q2⟩⟩
end
/-! ### the module's defs and a class's methods, by their names -/
structure Df (K : PySem.W.Frag) (mg : Str → Option Value) (x : Str) (st : Stmt) (ps : List Str) : Prop where
  ex : ∃ (f : Addr) (fd : FuncData), Fun K x x st f fd ∧ Binds K fd ps [] ∧ mg x = some (.ref f)
structure Mt (K : PySem.W.Frag) (C : Addr) (m qual : Str) (st : Stmt) (ps : List Str) : Prop where
  ex : ∃ (f : Addr) (fd : FuncData), Fun K m qual st f fd ∧ Binds K fd ps [] ∧ Meth K C m f
section
variable {X : Cx}
theorem pe_df {k : Nat} {x : Str} {st : Stmt} {ps : List Str} {sp : Sp} {p pos : Pos} {e : Expr} {es : List Expr} {t : TA} (D : Df X.K X.mg x st ps) (G : ∀ f fd, Fun X.K x x st f fd → FnOk X.prog X.w X.K X.mg X.base CX0 k f fd ps sp) (hr : Room k X.A) (hg : Gl X x) (ha : PA X (e :: es) t)
    (hdb : (x == ("__debug__" : Str)) = false := by decide) (he : starEach (e :: es) X.env = (false, eval e X.env) :: starEach es X.env := by rfl) (hpl : (backTo pos (starEach es X.env)).any (·.1) = false := by rfl) :
    PE X (.Call (.Name x p) (e :: es) [] pos) (tCall sp [] E0 t) := by
  obtain ⟨f, fd, F, b, m⟩ := D.ex
  exact pe_call (G f fd F) hr hg m F.kp b .nil pass0 ha hdb he hpl
/-- how a method's call runs -/
def methRun (X : Cx) (o : Expr) (m : Str) (apos pos : Pos) (es : List Expr) (pl : Sem Bool) : Sem Value :=
  eval o X.env >>= fun ov => standAt apos.atName >>= fun _ => holding [ov] (getMethod ov m pl) >>= fun r => callWith pos r.1 r.2 (backTo pos (starEach es X.env)) (backToKw pos (keywordEach [] X.env))
theorem pe_mt {k : Nat} {C : Addr} {m qual : Str} {st : Stmt} {ps : List Str} {sp : Sp} {apos pos : Pos} {o e : Expr} {es : List Expr} {ta : TE} {t : TA} {pl : Sem Bool} (ho : PE X o ta) (c : Cls X.K C) (D : Mt X.K C m qual st ps) (G : ∀ f fd, Fun X.K m qual st f fd → FnOk X.prog X.w X.K X.mg X.base CX0 k f fd ps sp) (hr : Room k X.A) (ha : PA X (e :: es) t)
    (hst : starEach (e :: es) X.env = (false, eval e X.env) :: starEach es X.env := by rfl) (hpl : (backTo pos (starEach es X.env)).any (·.1) = false := by rfl)
    (ht : eval (.Call (.Attribute o m apos) (e :: es) [] pos) X.env = methRun X o m apos pos (e :: es) pl := by rfl) :
    PE X (.Call (.Attribute o m apos) (e :: es) [] pos) (tMeth C m sp [] E0 ta t) := by
  obtain ⟨f, fd, F, b, mm⟩ := D.ex
  exact pe_meth ho c mm (G f fd F) hr b .nil pass0 ha hst hpl (ht.trans rfl)
theorem pe_mt0 {k : Nat} {C : Addr} {m qual : Str} {st : Stmt} {ps : List Str} {sp : Sp} {apos pos : Pos} {o : Expr} {ta : TE} {pl : Sem Bool} (ho : PE X o ta) (c : Cls X.K C) (D : Mt X.K C m qual st ps) (G : ∀ f fd, Fun X.K m qual st f fd → FnOk X.prog X.w X.K X.mg X.base CX0 k f fd ps sp) (hr : Room k X.A)
    (ht : eval (.Call (.Attribute o m apos) [] [] pos) X.env = methRun X o m apos pos [] pl := by rfl) :
    PE X (.Call (.Attribute o m apos) [] [] pos) (tMeth C m sp [] E0 ta tNil) := by
  obtain ⟨f, fd, F, b, mm⟩ := D.ex
  exact pe_meth0 ho c mm (G f fd F) hr b .nil pass0 (ht.trans rfl)
end
/-! ### lists of naturals -/
def nats (l : List Nat) : List V := l.map fun (n : Nat) => V.int (n : Int)
theorem nats_len (l : List Nat) : (nats l).length = l.length := List.length_map _
theorem nats_get {l : List Nat} {j x : Nat} (h : l[j]? = some x) : (nats l)[j]? = some (V.int (x : Int)) := by
  unfold nats
  rw [List.getElem?_map, h]
  rfl
theorem nats_of {l : List Nat} {j : Nat} {v : V} (h : (nats l)[j]? = some v) : ∃ x, l[j]? = some x ∧ v = V.int (x : Int) := by
  unfold nats at h
  rw [List.getElem?_map] at h
  cases e : l[j]? with
  | none =>
    rw [e] at h
    cases h
  | some x =>
    rw [e] at h
    exact ⟨x, rfl, (Option.some.inj h).symm⟩
theorem at_ints {l : List Nat} {z : Int} {j x : Nat} (e : z = (j : Int)) (h : l[j]? = some x) : atI (nats l) z = some (V.int (x : Int)) := at_of e (nats_get h)
theorem nats_append (l m : List Nat) : nats (l ++ m) = nats l ++ nats m := List.map_append
theorem nats_set (l : List Nat) (j x : Nat) : (nats l).set j (V.int (x : Int)) = nats (l.set j x) := by
  unfold nats
  rw [List.map_set]
theorem ixN_nat {n j : Nat} {z : Int} (e : z = (j : Int)) (h : j < n) : ixN n z = some j := by
  subst e
  unfold ixN
  rw [if_pos (by omega), if_pos (by omega)]
  rfl
theorem get_tab {n j : Nat} {f : Nat → Nat} (h : j < n) : ((List.range n).map f)[j]? = some (f j) := by
  rw [List.getElem?_map, List.getElem?_range h]
  rfl
theorem set_tab {n j x : Nat} {f : Nat → Nat} (h : j < n) : ((List.range n).map f).set j x = (List.range n).map fun u => if u = j then x else f u := by
  refine List.ext_getElem? fun i => ?_
  by_cases hi : i < n
  · rw [get_tab hi, List.getElem?_set]
    by_cases e : j = i
    · subst e
      rw [if_pos rfl, if_pos (by simpa using h), if_pos rfl]
    · rw [if_neg e, get_tab hi, if_neg fun q => e q.symm]
  · rw [List.getElem?_eq_none (by simpa using hi), List.getElem?_eq_none (by simpa using hi)]
theorem nats_int (l : List Nat) : nats l = (l.map fun (n : Nat) => (n : Int)).map V.int := by
  unfold nats
  rw [List.map_map]
  rfl
theorem cut_tail (v : V) (m : List V) : cutV (v :: m) (some 1) none = m := by
  have e : HT.sIx (v :: m).length 0 (some 1) = 1 := (HT.sIx_nat (v :: m).length 0 1).trans (by rw [List.length_cons]; omega)
  unfold cutV
  rw [e]
  show m.take (m.length + 1 - 1) = m
  rw [Nat.add_sub_cancel, List.take_length]
theorem cut_nat (xs : List V) (i j : Nat) (h : i ≤ j) (hj : j ≤ xs.length) : cutV xs (some (i : Int)) (some (j : Int)) = (xs.drop i).take (j - i) := by
  unfold cutV
  rw [HT.sIx_nat, HT.sIx_nat, Nat.min_eq_left (Nat.le_trans h hj), Nat.min_eq_left hj]
/-- a comprehension without a test -/
theorem tYes_T {σ : St} {H : Hp} {A B : Hp → Prop} (h : A H) : tYes σ H fun b H3 => if b = true then A H3 else B H3 := by
  show if true = true then A H else B H
  rw [if_pos rfl]
  exact h
/-! ### heaps -/
theorem Same.rfl' {H : Hp} : Same H H := fun _ _ h => h
theorem Same.new {H : Hp} {p : Addr} {o : HO} (h : H p = none) : Same H (upd H p o) := fun b u e => by
  rw [upd_ne (ne_of_none e h)]
  exact e
/-- a new thing is written again -/
theorem Same.put {H H' : Hp} {p : Addr} {o : HO} (s : Same H H') (h : H p = none) : Same H (upd H' p o) := fun b u e => by
  rw [upd_ne (ne_of_none e h)]
  exact s b u e
end L2
end
section
set_option Elab.async false
set_option linter.all false
set_option maxRecDepth 100000
set_option maxHeartbeats 4000000
/-! The program's plain defs: what is chosen. -/
namespace Rv
open PySem PySem.Spec PyProof.Rows L2
open Km457 (Valley at_)
def top (i : Nat) : Stmt := PySem.Challenge.pw_roadvotes_s01_answers.main.body.getD i (.Pass ⟨0, 0, 0, 0⟩)
abbrev sRoad : Stmt := top 6
abbrev sTable : Stmt := top 7
abbrev sOther : Stmt := top 8
abbrev sAll : Stmt := top 9
abbrev sBelow : Stmt := top 10
abbrev sChosen : Stmt := top 11
abbrev sOfAll : Stmt := top 12
abbrev sCount : Stmt := top 13
abbrev sBeats : Stmt := top 14
abbrev sThat : Stmt := top 15
abbrev sUnb : Stmt := top 16
abbrev sLeft : Stmt := top 17
abbrev sBits : Stmt := top 25
abbrev sCb : Stmt := top 26
abbrev cValley : Stmt := top 5
abbrev mInit : Stmt := inClass cValley 0
abbrev mBegin : Stmt := inClass cValley 1
abbrev mHasVillage : Stmt := inClass cValley 2
abbrev mHasVoter : Stmt := inClass cValley 3
abbrev mState : Stmt := inClass cValley 4
abbrev mRestore : Stmt := inClass cValley 5
abbrev mKeep : Stmt := inClass cValley 6
abbrev mTakeBack : Stmt := inClass cValley 7
abbrev mDoAgain : Stmt := inClass cValley 8
abbrev mAddVillage : Stmt := inClass cValley 9
abbrev mSetRoad : Stmt := inClass cValley 10
abbrev mAddVoter : Stmt := inClass cValley 11
abbrev mMoveVoter : Stmt := inClass cValley 12
abbrev mDropVoter : Stmt := inClass cValley 13
abbrev mDistances : Stmt := inClass cValley 14
abbrev mFromHome : Stmt := inClass cValley 15
abbrev mChosen : Stmt := inClass cValley 16
abbrev mChosenIf : Stmt := inClass cValley 17
abbrev mChosenBoth : Stmt := inClass cValley 18
abbrev mChosenWith : Stmt := inClass cValley 19
abbrev mSwayed : Stmt := inClass cValley 20
abbrev mVotersOf : Stmt := inClass cValley 21
/-- what the top's names hold -/
structure Txt (K : PySem.W.Frag) (mg : Str → Option Value) (C : Addr) : Prop where
  len : mg "len" = none
  range : mg "range" = none
  sum : mg "sum" = none
  min : mg "min" = none
  list : mg "list" = none
  tuple : mg "tuple" = none
  sorted : mg "sorted" = none
  set : mg "set" = none
  longest : ∃ t, mg "LONGEST_ROAD" = some (.int 1000 t)
  villages : ∃ t, mg "MOST_VILLAGES" = some (.int 12 t)
  voters : ∃ t, mg "MOST_VOTERS" = some (.int 11 t)
  taken : ∃ t, mg "MOST_TAKEN_BACK" = some (.int 20 t)
  notThere : ∃ t, mg "NOT_THERE" = some (.int (-2) t)
  noVoters : ∃ t, mg "NO_VOTERS" = some (.int (-6) t)
  outOf : ∃ t, mg "OUT_OF_RANGE" = some (.int (-22) t)
  full : ∃ t, mg "FULL" = some (.int (-28) t)
  noRoad : ∃ t, mg "NO_ROAD" = some (.int (-33) t)
  longRow : ∃ t, mg "LONGEST_ROW" = some (.int 5 t)
  cl : Cls K C
  nU : NoAttr K C "ups"
  nR : NoAttr K C "roads"
  nT : NoAttr K C "told"
  nB : NoAttr K C "to_take_back"
  nG : NoAttr K C "to_do_again"
  road : Df K mg "is_road_length" sRoad ["far"]
  table : Df K mg "distance_table" sTable ["ups", "roads"]
  other : Df K mg "with_other_told" sOther ["told", "i", "v"]
  all : Df K mg "all_votes" sAll ["told"]
  below : Df K mg "votes_below" sBelow ["ups", "votes"]
  chosen : Df K mg "chosen_place" sChosen ["ups", "told"]
  ofAll : Df K mg "distance_of_all" sOfAll ["table", "told", "v"]
  count : Df K mg "count_rather" sCount ["table", "told", "v", "w"]
  beats : Df K mg "beats" sBeats ["table", "told", "v", "w"]
  that : Df K mg "places_that_beat" sThat ["table", "told", "v"]
  unb : Df K mg "unbeaten_places" sUnb ["table", "told"]
  left : Df K mg "left_of_row" sLeft ["table", "told", "places"]
  bits : Df K mg "as_bits" sBits ["members"]
  cb : Df K mg "count_and_bits" sCb ["members"]
  hasVillage : Mt K C "has_village" "Valley.has_village" Rv.mHasVillage ["self", "v"]
  hasVoter : Mt K C "has_voter" "Valley.has_voter" Rv.mHasVoter ["self", "i"]
  begin_ : Mt K C "begin" "Valley.begin" Rv.mBegin ["self"]
  state : Mt K C "state" "Valley.state" Rv.mState ["self"]
  restore : Mt K C "restore" "Valley.restore" Rv.mRestore ["self", "kept"]
  keep : Mt K C "keep_for_taking_back" "Valley.keep_for_taking_back" Rv.mKeep ["self"]
  takeBack : Mt K C "take_back" "Valley.take_back" Rv.mTakeBack ["self"]
  doAgain : Mt K C "do_again" "Valley.do_again" Rv.mDoAgain ["self"]
  addVillage : Mt K C "add_village" "Valley.add_village" Rv.mAddVillage ["self", "up", "far"]
  setRoad : Mt K C "set_road" "Valley.set_road" Rv.mSetRoad ["self", "v", "far"]
  addVoter : Mt K C "add_voter" "Valley.add_voter" Rv.mAddVoter ["self", "v"]
  moveVoter : Mt K C "move_voter" "Valley.move_voter" Rv.mMoveVoter ["self", "i", "v"]
  dropVoter : Mt K C "drop_voter" "Valley.drop_voter" Rv.mDropVoter ["self", "i"]
  distances : Mt K C "distances" "Valley.distances" Rv.mDistances ["self"]
  fromHome : Mt K C "distances_from_home" "Valley.distances_from_home" Rv.mFromHome ["self", "i"]
  mChosen : Mt K C "chosen" "Valley.chosen" Rv.mChosen ["self"]
  chosenIf : Mt K C "chosen_if" "Valley.chosen_if" Rv.mChosenIf ["self", "i", "v"]
  chosenBoth : Mt K C "chosen_if_both" "Valley.chosen_if_both" Rv.mChosenBoth ["self", "i", "j", "v", "w"]
  chosenWith : Mt K C "chosen_with" "Valley.chosen_with" Rv.mChosenWith ["self", "v"]
  swayed : Mt K C "swayed_by" "Valley.swayed_by" Rv.mSwayed ["self", "i"]
  votersOf : Mt K C "voters_of" "Valley.voters_of" Rv.mVotersOf ["self", "v"]
section
variable {P : Program} {w : World} {K : PySem.W.Frag} {mg : Str → Option Value} {base : Heap} {C : Addr}
/-! ### is_road_length -/
def spRoad : Sp := fun vs H Q _ => ∃ z : Int, vs = [.int z] ∧ Q (.bl (decide (1 ≤ z ∧ z ≤ 1000))) H
theorem scRoad : FnScope ["far"] ["far"] (defScope sRoad) := ⟨rfl, rfl, rfl, by decide +kernel, rfl, by decide +kernel, by decide +kernel⟩
theorem ok_road {f : Addr} {fd : FuncData} (F : Fun K "is_road_length" "is_road_length" sRoad f fd) (T : Txt K mg C) : FnOk P w K mg base CX0 1 f fd ["far"] spRoad := by
  refine F.ok scRoad (fun vs H Q E h => ?_) (fun cdv A outer s H vs Q E hr h => ?_)
  · obtain ⟨z, rfl, _⟩ := h
    rfl
  · obtain ⟨z, rfl, k⟩ := h
    obtain ⟨t, hl⟩ := T.longest
    refine ⟨_, pss_one (ps_ret (pe_chain op_le op_le pe_int (pv 0) (pe_glob (v := .int 1000) rfl hl ⟨t, rfl⟩))), ?_⟩
    refine ⟨_, rfl, _, _, rfl, rfl, _, rfl, ite2 (fun c => ?_) (fun c => ?_)⟩
    · refine ⟨_, _, rfl, rfl, ?_⟩
      have c1 : (1 : Int) ≤ z := of_decide_eq_true c
      have e : decide (z ≤ 1000) = decide (1 ≤ z ∧ z ≤ 1000) := by simp [c1]
      show Q (V.bl (decide (z ≤ 1000))) H
      rw [e]
      exact k
    · have c1 : ¬ (1 : Int) ≤ z := fun q => c (decide_eq_true q)
      have e : decide (1 ≤ z ∧ z ≤ 1000) = false := by simp [c1]
      rw [e] at k
      exact k
/-! ### all_votes -/
def spAll : Sp := fun vs H Q _ => ∃ (t : Addr) (l : List Nat), vs = [.ref t] ∧ H t = some (.lst (nats l)) ∧ l.length ≤ 100 ∧ ∀ (H' : Hp) (p : Addr), H p = none → H' p = some (.lst (nats (oddL l))) → Same H H' → Q (.ref p) H'
theorem scAll : FnScope ["told"] ["told"] (defScope sAll) := ⟨rfl, rfl, rfl, by decide +kernel, rfl, by decide +kernel, by decide +kernel⟩
theorem ok_all {f : Addr} {fd : FuncData} (F : Fun K "all_votes" "all_votes" sAll f fd) (T : Txt K mg C) : FnOk P w K mg base CX0 1 f fd ["told"] spAll := by
  refine F.ok scAll (fun vs H Q E h => ?_) (fun cdv A outer s H vs Q E hr h => ?_)
  · obtain ⟨t, l, rfl, _⟩ := h
    rfl
  · obtain ⟨t, l, rfl, ht, hl, k⟩ := h
    refine ⟨_, pss_cons (ps_if (pt_cmpR op_eq (pe_op op_mod (pe_callB call_len_seq (by rfl) T.len PySem.boot_len (pa_cons (pv 0) pa_nil)) pe_int) pe_int (nomark _)) (pss_one (ps_ret (pe_op op_cat (pv 0) (pe_lst (pa_cons pe_int pa_nil))))) pss_nil)
      (pss_one (ps_ret (pe_callTy call_list_of (by rfl) T.list PySem.Pv.boot_list (pa_cons (pv 0) pa_nil)))), ?_⟩
    refine ⟨_, rfl, t, _, rfl, .inl (SqL.of ht), _, _, rfl, rfl, (by show (0 : Int) < 2; decide), rfl, _, rfl, ite2 (fun c => ?_) (fun c => ?_)⟩
    · have c1 : l.length % 2 = 0 := by
        have q := of_decide_eq_true c
        rw [nats_len] at q
        injection q with q
        omega
      refine ⟨_, rfl, (by show 1 ≤ sizeLine; decide), fun p0 hp0 => ⟨t, p0, nats l, nats [0], rfl, rfl, ?_, upd_same, ?_, fun p hp => ?_⟩⟩
      · rw [upd_ne (ne_of_none ht hp0)]
        exact ht
      · rw [nats_len, nats_len]
        exact Nat.le_trans (Nat.add_le_add_right hl 1) (by decide)
      · have hp' : H p = none := by
          rw [upd_ne (fun q => by rw [q, upd_same] at hp; cases hp)] at hp
          exact hp
        refine k _ p hp' ?_ ((Same.new hp0).put hp')
        rw [upd_same]
        unfold oddL
        rw [if_pos c1, nats_append]
    · have c1 : ¬ l.length % 2 = 0 := fun q => c (by
        refine decide_eq_true (congrArg V.int ?_)
        rw [nats_len]
        omega)
      refine ⟨_, rfl, t, _, rfl, .inl (SqL.of ht), fun p hp => ?_⟩
      refine k _ p hp ?_ (Same.new hp)
      rw [upd_same]
      unfold oddL
      rw [if_neg c1]
/-! ### votes_below -/
def spBelow : Sp := fun vs H Q _ => ∃ (u v : Addr) (s : Valley) (V : List Nat), vs = [.ref u, .ref v] ∧ H u = some (.lst (nats (ups s))) ∧ H v = some (.lst (nats V)) ∧ Ok s ∧ s.length ≤ 12 ∧ (∀ x ∈ V, x < s.length) ∧
  ∀ (H' : Hp) (p : Addr), H p = none → H' p = some (.lst (nats ((List.range s.length).map (B s V)))) → Same H H' → Q (.ref p) H'
theorem scBelow : FnScope ["ups", "votes", "below", "v"] ["ups", "votes"] (defScope sBelow) := ⟨rfl, rfl, rfl, by decide +kernel, rfl, by decide +kernel, by decide +kernel⟩
theorem zeros (n : Nat) : (List.replicate n [V.int 0]).flatten = nats ((List.range n).map fun _ => 0) := by
  induction n with
  | zero => rfl
  | succ n ih =>
    rw [List.replicate_succ', List.flatten_append, ih, List.range_succ, List.map_append, nats_append]
    rfl
theorem ok_below {f : Addr} {fd : FuncData} (F : Fun K "votes_below" "votes_below" sBelow f fd) (T : Txt K mg C) : FnOk P w K mg base CX0 1 f fd ["ups", "votes"] spBelow := by
  refine F.ok scBelow (fun vs H Q E h => ?_) (fun cdv A outer sh H vs Q E hr h => ?_)
  · obtain ⟨u, v, s, vo, rfl, _⟩ := h
    rfl
  · obtain ⟨u, v, s, vo, rfl, hu, hv, ok, hn, hV, k⟩ := h
    refine ⟨_, pss_cons (ps_set (i := 2) scBelow.nd rfl (Or.inl rfl) (pe_op op_rep (pe_lst (pa_cons pe_int pa_nil)) (pe_callB call_len_seq (by rfl) T.len PySem.boot_len (pa_cons (pv 0) pa_nil))))
      (pss_cons (ps_for PassesOwn.never rfl (pi_list (pv 1)) (pg_name (i := 3) scBelow.nd rfl (Or.inl rfl)) (pss_one (ps_augS (pv 2) (pv 3) get_list pe_int ip_add set_list)))
      (pss_cons (ps_for PassesOwn.never rfl (pi_range3 (by rfl) T.range (pa_cons (pe_op op_sub (pe_callB call_len_seq (by rfl) T.len PySem.boot_len (pa_cons (pv 0) pa_nil)) pe_int) (pa_cons pe_int (pa_cons (pe_un un_neg pe_int) pa_nil)))) (pg_name (i := 3) scBelow.nd rfl (Or.inl rfl))
        (pss_one (ps_augS (pv 2) (pe_ix ix_list (pv 0) (pv 3) (fun _ _ => rfl)) get_list (pe_ix ix_list (pv 2) (pv 3) (fun _ _ => rfl)) ip_add set_list)))
      (pss_one (ps_ret (pv 2))))), ?_⟩
    refine ⟨(by show 1 ≤ sizeLine; decide), fun p0 hp0 => ?_⟩
    have hu0 := Same.new (o := .lst [V.int 0]) hp0 _ _ hu
    have hv0 := Same.new (o := .lst [V.int 0]) hp0 _ _ hv
    refine ⟨_, rfl, u, _, rfl, .inl (SqL.of hu0), p0, _, _, rfl, rfl, upd_same, ?_, ?_, ?_, fun p hp => ?_⟩
    · omega
    · rw [nats_len, ups_len]
      omega
    · rw [nats_len, ups_len, Int.toNat_natCast]
      show 1 * s.length ≤ sizeLine
      exact Nat.le_trans (by omega : 1 * s.length ≤ 12) (by decide)
    rw [nats_len, ups_len, Int.toNat_natCast]
    have hp' : H p = none := (Same.new hp0).free hp
    have s0 : Same H (upd (upd H p0 (.lst [V.int 0])) p (.lst (List.replicate s.length [V.int 0]).flatten)) := (Same.new hp0).put hp'
    refine ⟨_, rfl, v, rfl, ⟨_, SqL.of (s0 _ _ hv)⟩, for_list (K := K) (a := v) (xs := nats vo) (fun i σ H' => ∃ y : Option L2.V, σ = [some (.ref u), some (.ref v), some (.ref p), y] ∧ Same H H' ∧ H' p = some (.lst (nats ((List.range s.length).map (tally vo i)))))
      ⟨none, rfl, s0, ?_⟩ (fun i σ H' _ ⟨_, _, e, _⟩ => SqL.of (e _ _ hv)) ?_ ?_⟩
    · rw [upd_same, zeros]
      exact congrArg (fun f => some (HO.lst (nats ((List.range s.length).map f)))) (funext fun z => (tally_zero vo z).symm)
    · rintro i y σ H' hi ⟨y0, rfl, e, hb⟩
      obtain ⟨x, hx, rfl⟩ := nats_of hi
      have hxs : x < s.length := hV x (List.mem_of_getElem? hx)
      refine ⟨_, rfl, _, rfl, p, _, _, _, rfl, rfl, (by omega), SqL.of hb, at_ints rfl (get_tab hxs), _, _, rfl, rfl, p, _, _, x, rfl, rfl, hb, ixN_nat rfl (by rw [nats_len, List.length_map, List.length_range]; exact hxs), ?_⟩
      refine ⟨_, rfl, e.put hp', ?_⟩
      rw [upd_same]
      have q := nats_set ((List.range s.length).map (tally vo i)) x (tally vo i x + 1)
      rw [set_tab hxs] at q
      have e2 : (fun z => if z = x then tally vo i x + 1 else tally vo i z) = tally vo (i + 1) := funext fun z => (tally_step hx z).symm
      rw [e2] at q
      exact congrArg (fun z => some (HO.lst z)) q
    · rintro σ H2 ⟨y0, rfl, e, hb⟩
      rw [nats_len] at hb
      have ef : tally vo vo.length = N s vo (s.length - 1) := funext fun z => tally_all hV z
      rw [ef] at hb
      have hpos := ok.pos
      refine ⟨_, rfl, u, _, rfl, .inl (SqL.of (e _ _ hu)), _, _, rfl, rfl, _, rfl, _, _, _, _, rfl, RgC.neg ?_ ?_ (by decide) (by decide), for_rangeC (n := _) (fun i σ H' => ∃ y : Option L2.V, σ = [some (.ref u), some (.ref v), some (.ref p), y] ∧ Same H H' ∧ H' p = some (.lst (nats ((List.range s.length).map (N s vo (s.length - 1 - i))))))
        ⟨y0, rfl, e, hb⟩ ?_ ?_⟩
      · rw [nats_len, ups_len]
        omega
      · rw [nats_len, ups_len]
        omega
      · rw [nats_len, ups_len]
        rintro i σ H' hi ⟨y, rfl, e2, hb2⟩
        have hi' : i < s.length - 1 := by omega
        obtain ⟨k0, hk0⟩ : ∃ k0, s.length - 1 - i = k0 + 1 := ⟨s.length - 2 - i, by omega⟩
        have ez : ((s.length : Nat) : Int) - 1 + (i : Nat) * (-1) = ((k0 + 1 : Nat) : Int) := by omega
        have hk1 : k0 + 1 < s.length := by omega
        have hup := ok.up (k0 + 1) (by omega) hk1
        have hus : (at_ s (k0 + 1)).up < s.length := by omega
        rw [hk0] at hb2
        rw [ez]
        refine ⟨_, rfl, _, rfl, _, rfl, u, _, _, _, rfl, rfl, SqL.of (e2 _ _ hu), at_ints rfl (ups_get hk1), p, _, _, _, rfl, rfl, (by omega), SqL.of hb2, at_ints rfl (get_tab hus),
          _, rfl, _, rfl, p, _, _, _, rfl, rfl, SqL.of hb2, at_ints rfl (get_tab hk1), _, _, rfl, rfl, p, _, _, (at_ s (k0 + 1)).up, rfl, rfl, hb2, ixN_nat rfl (by rw [nats_len, List.length_map, List.length_range]; exact hus), ?_⟩
        refine ⟨_, rfl, e2.put hp', ?_⟩
        rw [upd_same, show s.length - 1 - (i + 1) = k0 by omega]
        have q := nats_set ((List.range s.length).map (N s vo (k0 + 1))) (at_ s (k0 + 1)).up (N s vo (k0 + 1) (at_ s (k0 + 1)).up + N s vo (k0 + 1) (k0 + 1))
        rw [set_tab hus] at q
        have e3 : (fun z => if z = (at_ s (k0 + 1)).up then N s vo (k0 + 1) (at_ s (k0 + 1)).up + N s vo (k0 + 1) (k0 + 1) else N s vo (k0 + 1) z) = N s vo k0 := funext fun z => by
          rw [N_step ok hV hk1 z]
          split
          · next h => rw [h]
          · rfl
        rw [e3] at q
        exact congrArg (fun z => some (HO.lst z)) q
      · rw [nats_len, ups_len]
        rintro σ H' ⟨y, rfl, e2, hb2⟩
        have ei : s.length - 1 - (((s.length : Nat) : Int) - 1 - 0).toNat = 0 := by omega
        have ef2 : N s vo 0 = B s vo := funext fun z => N_last ok hV z
        rw [ei, ef2] at hb2
        exact ⟨_, rfl, k H' p hp' hb2 e2⟩
/-! ### chosen_place -/
def spChosen : Sp := fun vs H Q _ => ∃ (u t : Addr) (s : Valley) (l : List Nat), vs = [.ref u, .ref t] ∧ H u = some (.lst (nats (ups s))) ∧ H t = some (.lst (nats l)) ∧ Ok s ∧ s.length ≤ 12 ∧ (∀ x ∈ l, x < s.length) ∧ l.length ≤ 100 ∧
  ∀ H' : Hp, Same H H' → Q (.int (Km459.chosen s l : Nat)) H'
theorem scChosen : FnScope ["ups", "told", "votes", "below", "place", "v"] ["ups", "told"] (defScope sChosen) := ⟨rfl, rfl, rfl, by decide +kernel, rfl, by decide +kernel, by decide +kernel⟩
theorem ok_chosen {f : Addr} {fd : FuncData} (F : Fun K "chosen_place" "chosen_place" sChosen f fd) (T : Txt K mg C) : FnOk P w K mg base CX0 2 f fd ["ups", "told"] spChosen := by
  refine F.ok scChosen (fun vs H Q E h => ?_) (fun cdv A outer sh H vs Q E hr h => ?_)
  · obtain ⟨u, t, s, l, rfl, _⟩ := h
    rfl
  · obtain ⟨u, t, s, l, rfl, hu, ht, ok, hn, hl, hlen, k⟩ := h
    refine ⟨_, pss_cons (ps_set (i := 2) scChosen.nd rfl (Or.inl rfl) (pe_df T.all (fun _ _ F => ok_all F T) hr rfl (pa_cons (pv 1) pa_nil)))
      (pss_cons (ps_set (i := 3) scChosen.nd rfl (Or.inl rfl) (pe_df T.below (fun _ _ F => ok_below F T) hr rfl (pa_cons (pv 0) (pa_cons (pv 2) pa_nil))))
      (pss_cons (ps_set (i := 4) scChosen.nd rfl (Or.inl rfl) pe_int)
      (pss_cons (ps_for PassesOwn.never rfl (pi_range2 (by rfl) T.range (pa_cons pe_int (pa_cons (pe_callB call_len_seq (by rfl) T.len PySem.boot_len (pa_cons (pv 0) pa_nil)) pa_nil))) (pg_name (i := 5) scChosen.nd rfl (Or.inl rfl))
        (pss_one (ps_if (pt_cmpR op_gt (pe_op op_mul pe_int (pe_ix ix_list (pv 3) (pv 5) (fun _ _ => rfl))) (pe_callB call_len_seq (by rfl) T.len PySem.boot_len (pa_cons (pv 2) pa_nil)) (nomark _))
          (pss_one (ps_set (i := 4) scChosen.nd rfl (Or.inl rfl) (pv 5))) pss_nil)))
      (pss_one (ps_ret (pv 4)))))), ?_⟩
    refine ⟨_, rfl, t, l, rfl, ht, hlen, fun H1 p hp hp1 e1 => ?_⟩
    refine ⟨_, rfl, _, rfl, u, p, s, oddL l, rfl, e1 _ _ hu, hp1, ok, hn, oddL_lt ok hl, fun H2 q hq hq2 e2 => ?_⟩
    have e12 := e1.trans e2
    have hpos := ok.pos
    refine ⟨_, rfl, u, _, rfl, .inl (SqL.of (e12 _ _ hu)), _, _, rfl, ⟨by decide, by decide, ?_, ?_⟩, for_range (lo := 1) (fun i σ H' => ∃ y : Option L2.V, σ = [some (.ref u), some (.ref t), some (.ref p), some (.ref q), some (.int (cho (oddL l).length (B s (oddL l)) i : Nat)), y] ∧ H' = H2) ⟨none, rfl, rfl⟩ ?_ ?_⟩
    · rw [nats_len, ups_len]
      omega
    · rw [nats_len, ups_len]
      omega
    · rw [nats_len, ups_len]
      rintro i σ H' hi ⟨y, rfl, rfl⟩
      have hi' : i + 1 < s.length := by omega
      have ez : (1 : Int) + (i : Nat) = ((i + 1 : Nat) : Int) := by omega
      rw [ez]
      refine ⟨_, rfl, _, rfl, q, _, _, _, rfl, rfl, SqL.of hq2, at_ints rfl (get_tab hi'), _, _, rfl, rfl, .inl ⟨by decide, by decide⟩, _, rfl, p, _, rfl, .inl (SqL.of (e2 _ _ hp1)), _, _, rfl, rfl, _, rfl, ite2 (fun c => ?_) (fun c => ?_)⟩
      · have c1 : (oddL l).length < 2 * B s (oddL l) (i + 1) := by
          have z := of_decide_eq_true c
          rw [nats_len] at z
          omega
        refine ⟨_, rfl, some (V.int ((i + 1 : Nat) : Int)), ?_, rfl⟩
        have ec : cho (oddL l).length (B s (oddL l)) (i + 1) = i + 1 := if_pos c1
        rw [ec]
        rfl
      · have c1 : ¬ (oddL l).length < 2 * B s (oddL l) (i + 1) := fun z => c (decide_eq_true (by rw [nats_len]; omega))
        refine ⟨some (V.int ((i + 1 : Nat) : Int)), ?_, rfl⟩
        have ec : cho (oddL l).length (B s (oddL l)) (i + 1) = cho (oddL l).length (B s (oddL l)) i := if_neg c1
        rw [ec]
        rfl
    · rw [nats_len, ups_len]
      rintro σ H' ⟨y, rfl, rfl⟩
      refine ⟨_, rfl, ?_⟩
      have ei : (((s.length : Nat) : Int) - 1).toNat = s.length - 1 := by omega
      rw [ei, ← chosen_cho ok hl]
      exact k _ e12
end
end Rv
end
section
set_option Elab.async false
set_option linter.all false
set_option maxRecDepth 100000
set_option maxHeartbeats 4000000
/-! The program's plain defs: over a table of distances. -/
namespace Rv
open PySem PySem.Spec PyProof.Rows L2
open Km457 (Valley at_ far)
section
variable {P : Program} {w : World} {K : PySem.W.Frag} {mg : Str → Option Value} {base : Heap} {C : Addr}
/-- row v of the table -/
def rowOf (s : Valley) (v : Nat) : List Nat := (List.range s.length).map (far s v)
/-- a table of distances stands at p -/
def TabAt (s : Valley) (H : Hp) (p : Addr) : Prop := ∃ as : List Addr, H p = some (.lst (as.map V.ref)) ∧ as.length = s.length ∧ ∀ (v : Nat) (a : Addr), as[v]? = some a → H a = some (.lst (nats (rowOf s v)))
theorem TabAt.same {s : Valley} {H H' : Hp} {p : Addr} (h : TabAt s H p) (e : Same H H') : TabAt s H' p := by
  obtain ⟨as, h1, h2, h3⟩ := h
  exact ⟨as, e _ _ h1, h2, fun v a ha => e _ _ (h3 v a ha)⟩
theorem TabAt.row {s : Valley} {H : Hp} {p : Addr} (h : TabAt s H p) {v : Nat} (hv : v < s.length) : ∃ (a : Addr) (xs : List V), H p = some (.lst xs) ∧ xs[v]? = some (.ref a) ∧ H a = some (.lst (nats (rowOf s v))) := by
  obtain ⟨as, h1, h2, h3⟩ := h
  obtain ⟨a, ha⟩ : ∃ a, as[v]? = some a := ⟨_, List.getElem?_eq_getElem (by omega)⟩
  exact ⟨a, _, h1, by rw [List.getElem?_map, ha]; rfl, h3 v a ha⟩
theorem TabAt.len {s : Valley} {H : Hp} {p : Addr} (h : TabAt s H p) : ∃ xs : List V, H p = some (.lst xs) ∧ xs.length = s.length := by
  obtain ⟨as, h1, h2, h3⟩ := h
  exact ⟨_, h1, by rw [List.length_map, h2]⟩
theorem row_get {s : Valley} {v w : Nat} (hw : w < s.length) : (rowOf s v)[w]? = some (far s v w) := get_tab hw
/-! ### count_rather -/
def spCount : Sp := fun vs H Q _ => ∃ (p t : Addr) (s : Valley) (l : List Nat) (v w : Nat), vs = [.ref p, .ref t, .int (v : Int), .int (w : Int)] ∧ TabAt s H p ∧ H t = some (.lst (nats l)) ∧ (∀ x ∈ l, x < s.length) ∧ l.length ≤ 100 ∧ v < s.length ∧ w < s.length ∧
  ∀ H' : Hp, Same H H' → Q (.int (Km459.rather s l v w : Nat)) H'
theorem scCount : FnScope ["table", "told", "v", "w", "home"] ["table", "told", "v", "w"] (defScope sCount) := ⟨rfl, rfl, rfl, by decide +kernel, rfl, by decide +kernel, by decide +kernel⟩
theorem ok_count {f : Addr} {fd : FuncData} (F : Fun K "count_rather" "count_rather" sCount f fd) (T : Txt K mg C) : FnOk P w K mg base CX0 1 f fd ["table", "told", "v", "w"] spCount := by
  refine F.ok scCount (fun vs H Q E h => ?_) (fun cdv A outer sh H vs Q E hr h => ?_)
  · obtain ⟨p, t, s, l, v, w', rfl, _⟩ := h
    rfl
  · obtain ⟨p, t, s, l, v, w', rfl, hT, ht, hl, hn, hv, hw, k⟩ := h
    refine ⟨_, pss_one (ps_ret (pe_callB call_len_seq (by rfl) T.len PySem.boot_len (pa_cons (pe_lc (own := [("home", 4)]) rfl scCount.nd (pi_list (pv 1)) (blkOk_by (by rfl))
      (fun _ _ _ _ _ => pg_name (i := 4) scCount.nd rfl (Or.inl rfl))
      (fun _ _ _ _ _ => pts_one (pt_cmpR op_lt (pe_ix (ix_l K) (pe_ix (ix_l K) (pv 0) (pv 4) (fun _ _ => rfl)) (pv 2) (fun _ _ => rfl)) (pe_ix (ix_l K) (pe_ix (ix_l K) (pv 0) (pv 4) (fun _ _ => rfl)) (pv 3) (fun _ _ => rfl)) (nomark _)))
      (fun _ _ _ _ _ => pv 4)) pa_nil))), ?_⟩
    refine ⟨_, rfl, t, rfl, ⟨_, SqL.of ht⟩, fun D hD => lc_list (K := K) (a := t) (xs := nats l) (fun i H' => Same H H' ∧ H' D = some (.lst (nats ((l.take i).filter fun x => decide (far s x v < far s x w'))))) ⟨Same.new hD, upd_same⟩ (fun i H' _ ⟨e, _⟩ => SqL.of (e _ _ ht)) ?_ ?_⟩
    · rintro i y H' hi ⟨e, hD'⟩
      obtain ⟨x, hx, rfl⟩ := nats_of hi
      have hxs : x < s.length := hl x (List.mem_of_getElem? hx)
      obtain ⟨a, xs, h1, h2, h3⟩ := (hT.same e).row hxs
      refine ⟨rfl, _, rfl, _, rfl, p, _, _, _, rfl, rfl, SqL.of h1, at_of rfl h2, _, rfl, a, _, _, _, rfl, rfl, SqL.of h3, at_ints rfl (row_get hv),
        _, rfl, _, rfl, p, _, _, _, rfl, rfl, SqL.of h1, at_of rfl h2, _, rfl, a, _, _, _, rfl, rfl, SqL.of h3, at_ints rfl (row_get hw), _, _, rfl, rfl, _, rfl, ite2 (fun c => ?_) (fun c => ?_)⟩
      · have c1 : far s x v < far s x w' := by
          have := of_decide_eq_true c
          omega
        refine ⟨_, rfl, _, hD', ?_, e.put hD, ?_⟩
        · rw [nats_len]
          refine Nat.lt_of_le_of_lt (List.length_filter_le _ _) (Nat.lt_of_le_of_lt (List.length_take_le' _ _) (Nat.lt_of_le_of_lt hn (by decide)))
        · rw [upd_same, take_snoc hx, List.filter_append, List.filter_cons, if_pos (by simpa using c1), List.filter_nil, nats_append]
          rfl
      · have c1 : ¬ far s x v < far s x w' := fun q => c (decide_eq_true (by omega))
        refine ⟨e, ?_⟩
        rw [take_snoc hx, List.filter_append, List.filter_cons, if_neg (by simpa using c1), List.filter_nil, List.append_nil]
        exact hD'
    · rintro H' ⟨e, hD'⟩
      rw [nats_len, List.take_length] at hD'
      refine ⟨D, _, rfl, .inl (SqL.of hD'), ?_⟩
      rw [nats_len]
      exact k H' e
/-! ### beats -/
def spBeats : Sp := fun vs H Q _ => ∃ (p t : Addr) (s : Valley) (l : List Nat) (v w : Nat), vs = [.ref p, .ref t, .int (v : Int), .int (w : Int)] ∧ TabAt s H p ∧ H t = some (.lst (nats l)) ∧ (∀ x ∈ l, x < s.length) ∧ l.length ≤ 100 ∧ v < s.length ∧ w < s.length ∧
  ∀ H' : Hp, Same H H' → Q (.bl (Km459.beats s l v w)) H'
theorem scBeats : FnScope ["table", "told", "v", "w"] ["table", "told", "v", "w"] (defScope sBeats) := ⟨rfl, rfl, rfl, by decide +kernel, rfl, by decide +kernel, by decide +kernel⟩
theorem ok_beats {f : Addr} {fd : FuncData} (F : Fun K "beats" "beats" sBeats f fd) (T : Txt K mg C) :
    FnOk P w K mg base CX0 2 f fd ["table", "told", "v", "w"] spBeats := by
  refine F.ok scBeats (fun vs H Q E h => ?_) (fun cdv A outer sh H vs Q E hr h => ?_)
  · obtain ⟨p, t, s, l, v, w', rfl, _⟩ := h
    rfl
  · obtain ⟨p, t, s, l, v, w', rfl, hT, ht, hl, hn, hv, hw, k⟩ := h
    refine ⟨_, pss_one (ps_ret (pe_cmpR op_gt (pe_df T.count (fun _ _ F => ok_count F T) hr rfl (pa_cons (pv 0) (pa_cons (pv 1) (pa_cons (pv 2) (pa_cons (pv 3) pa_nil)))))
      (pe_df T.count (fun _ _ F => ok_count F T) hr rfl (pa_cons (pv 0) (pa_cons (pv 1) (pa_cons (pv 3) (pa_cons (pv 2) pa_nil))))) (nomark _))), ?_⟩
    refine ⟨_, rfl, _, rfl, _, rfl, _, rfl, p, t, s, l, v, w', rfl, hT, ht, hl, hn, hv, hw, fun H1 e1 => ?_⟩
    refine ⟨_, rfl, _, rfl, _, rfl, _, rfl, p, t, s, l, w', v, rfl, hT.same e1, e1 _ _ ht, hl, hn, hw, hv, fun H2 e2 => ?_⟩
    refine ⟨_, _, rfl, rfl, ?_⟩
    have e : decide (((Km459.rather s l w' v : Nat) : Int) < ((Km459.rather s l v w' : Nat) : Int)) = Km459.beats s l v w' := by
      unfold Km459.beats
      refine decide_eq_decide.mpr ?_
      omega
    show Q (V.bl (decide (((Km459.rather s l w' v : Nat) : Int) < ((Km459.rather s l v w' : Nat) : Int)))) H2
    rw [e]
    exact k H2 (e1.trans e2)
end
end Rv
end
section
set_option Elab.async false
set_option linter.all false
set_option maxRecDepth 100000
set_option maxHeartbeats 4000000
/-! The program's plain defs: places that beat, unbeaten ones, a row, sums, bits. -/
namespace Rv
open PySem PySem.Spec PyProof.Rows L2
open Km457 (Valley at_ far)
section
variable {P : Program} {w : World} {K : PySem.W.Frag} {mg : Str → Option Value} {base : Heap} {C : Addr}
/-! ### places_that_beat -/
def spThat : Sp := fun vs H Q _ => ∃ (p t : Addr) (s : Valley) (l : List Nat) (v : Nat), vs = [.ref p, .ref t, .int (v : Int)] ∧ TabAt s H p ∧ H t = some (.lst (nats l)) ∧ (∀ x ∈ l, x < s.length) ∧ l.length ≤ 100 ∧ s.length ≤ 12 ∧ v < s.length ∧
  ∀ (H' : Hp) (q : Addr), H q = none → H' q = some (.lst (nats ((List.range s.length).filter fun x => Km459.beats s l x v))) → Same H H' → Q (.ref q) H'
theorem scThat : FnScope ["table", "told", "v", "w"] ["table", "told", "v"] (defScope sThat) := ⟨rfl, rfl, rfl, by decide +kernel, rfl, by decide +kernel, by decide +kernel⟩
theorem ok_that {f : Addr} {fd : FuncData} (F : Fun K "places_that_beat" "places_that_beat" sThat f fd) (T : Txt K mg C) : FnOk P w K mg base CX0 3 f fd ["table", "told", "v"] spThat := by
  refine F.ok scThat (fun vs H Q E h => ?_) (fun cdv A outer sh H vs Q E hr h => ?_)
  · obtain ⟨p, t, s, l, v, rfl, _⟩ := h
    rfl
  · obtain ⟨p, t, s, l, v, rfl, hT, ht, hl, hn, hs, hv, k⟩ := h
    refine ⟨_, pss_one (ps_ret (pe_lc (own := [("w", 3)]) rfl scThat.nd (pi_range1 (by rfl) T.range (pa_cons (pe_callB call_len_seq (by rfl) T.len PySem.boot_len (pa_cons (pv 0) pa_nil)) pa_nil)) (blkOk_by (by rfl))
      (fun _ _ _ _ _ => pg_name (i := 3) scThat.nd rfl (Or.inl rfl))
      (fun _ _ _ _ _ => pts_one (pt_val (pe_df T.beats (fun _ _ F => ok_beats F T) hr rfl (pa_cons (pv 0) (pa_cons (pv 1) (pa_cons (pv 3) (pa_cons (pv 2) pa_nil)))))))
      (fun _ _ _ _ _ => pv 3))), ?_⟩
    obtain ⟨xs, h1, h2⟩ := hT.len
    refine ⟨_, rfl, p, _, rfl, .inl (SqL.of h1), _, rfl, by omega, by omega, fun D hD => ?_⟩
    refine lc_range (lo := 0) (fun i H' => Same H H' ∧ H' D = some (.lst (nats ((List.range i).filter fun x => Km459.beats s l x v)))) ⟨Same.new hD, upd_same⟩ ?_ ?_
    · rintro i H' hi ⟨e, hD'⟩
      have hi' : i < s.length := by omega
      have z : (0 : Int) + (i : Int) = (i : Int) := by omega
      refine ⟨rfl, _, rfl, _, rfl, _, rfl, _, rfl, p, t, s, l, i, v, ?_, hT.same e, e _ _ ht, hl, hn, hi', hv, fun H2 e2 => ⟨_, rfl, ?_⟩⟩
      · rw [z]
        rfl
      · cases c : Km459.beats s l i v with
        | true =>
          rw [if_pos rfl]
          refine ⟨_, rfl, _, e2 _ _ hD', ?_, (e.trans e2).put hD, ?_⟩
          · rw [nats_len]
            refine Nat.lt_of_le_of_lt (List.length_filter_le _ _) ?_
            rw [List.length_range]
            exact Nat.lt_of_lt_of_le hi' (Nat.le_trans hs (by decide))
          · rw [upd_same, List.range_succ, List.filter_append, List.filter_cons, if_pos c, List.filter_nil, nats_append, z]
            rfl
        | false =>
          rw [if_neg (by decide)]
          refine ⟨e.trans e2, ?_⟩
          rw [List.range_succ, List.filter_append, List.filter_cons, if_neg (by rw [c]; decide), List.filter_nil, List.append_nil]
          exact e2 _ _ hD'
    · rintro H' ⟨e, hD'⟩
      rw [h2, Int.toNat_natCast] at hD'
      exact k H' D hD hD' e
/-! ### unbeaten_places -/
def spUnb : Sp := fun vs H Q _ => ∃ (p t : Addr) (s : Valley) (l : List Nat), vs = [.ref p, .ref t] ∧ TabAt s H p ∧ H t = some (.lst (nats l)) ∧ (∀ x ∈ l, x < s.length) ∧ l.length ≤ 100 ∧ s.length ≤ 12 ∧
  ∀ (H' : Hp) (q : Addr), H q = none → H' q = some (.lst (nats (Km459.unbeaten s l))) → Same H H' → Q (.ref q) H'
theorem scUnb : FnScope ["table", "told", "v"] ["table", "told"] (defScope sUnb) := ⟨rfl, rfl, rfl, by decide +kernel, rfl, by decide +kernel, by decide +kernel⟩
theorem unb_iff (s : Valley) (l : List Nat) (v : Nat) : ((List.range s.length).all fun w => !Km459.beats s l w v) = decide (((List.range s.length).filter fun x => Km459.beats s l x v).length = 0) := by
  rw [Bool.eq_iff_iff, List.all_eq_true, decide_eq_true_iff, List.length_eq_zero_iff, List.filter_eq_nil_iff]
  simp
theorem ok_unb {f : Addr} {fd : FuncData} (F : Fun K "unbeaten_places" "unbeaten_places" sUnb f fd) (T : Txt K mg C) :
    FnOk P w K mg base CX0 4 f fd ["table", "told"] spUnb := by
  refine F.ok scUnb (fun vs H Q E h => ?_) (fun cdv A outer sh H vs Q E hr h => ?_)
  · obtain ⟨p, t, s, l, rfl, _⟩ := h
    rfl
  · obtain ⟨p, t, s, l, rfl, hT, ht, hl, hn, hs, k⟩ := h
    refine ⟨_, pss_one (ps_ret (pe_lc (own := [("v", 2)]) rfl scUnb.nd (pi_range1 (by rfl) T.range (pa_cons (pe_callB call_len_seq (by rfl) T.len PySem.boot_len (pa_cons (pv 0) pa_nil)) pa_nil)) (blkOk_by (by rfl))
      (fun _ _ _ _ _ => pg_name (i := 2) scUnb.nd rfl (Or.inl rfl))
      (fun _ _ _ _ _ => pts_one (pt_cmpR op_eq (pe_callB (len_l K) (by rfl) T.len PySem.boot_len (pa_cons (pe_df T.that (fun _ _ F => ok_that F T) hr rfl (pa_cons (pv 0) (pa_cons (pv 1) (pa_cons (pv 2) pa_nil)))) pa_nil)) pe_int (nomark _)))
      (fun _ _ _ _ _ => pv 2))), ?_⟩
    obtain ⟨xs, h1, h2⟩ := hT.len
    refine ⟨_, rfl, p, _, rfl, .inl (SqL.of h1), _, rfl, by omega, by omega, fun D hD => ?_⟩
    refine lc_range (lo := 0) (fun i H' => Same H H' ∧ H' D = some (.lst (nats ((List.range i).filter fun v => (List.range s.length).all fun w => !Km459.beats s l w v)))) ⟨Same.new hD, upd_same⟩ ?_ ?_
    · rintro i H' hi ⟨e, hD'⟩
      have hi' : i < s.length := by omega
      have z : (0 : Int) + (i : Int) = (i : Int) := by omega
      refine ⟨rfl, _, rfl, _, rfl, _, rfl, p, t, s, l, i, ?_, hT.same e, e _ _ ht, hl, hn, hs, hi', fun H2 q hq hq2 e2 => ⟨q, _, rfl, .inl (SqL.of hq2), rfl, _, rfl, ?_⟩⟩
      · rw [z]
        rfl
      · rw [nats_len]
        have u := unb_iff s l i
        refine ite2 (fun c => ?_) (fun c => ?_)
        · have c1 : ((List.range s.length).filter fun x => Km459.beats s l x i).length = 0 := by
            have q := of_decide_eq_true c
            injection q with q
            omega
          rw [decide_eq_true c1] at u
          refine ⟨_, rfl, _, e2 _ _ hD', ?_, (e.trans e2).put hD, ?_⟩
          · rw [nats_len]
            refine Nat.lt_of_le_of_lt (List.length_filter_le _ _) ?_
            rw [List.length_range]
            exact Nat.lt_of_lt_of_le hi' (Nat.le_trans hs (by decide))
          · rw [upd_same, List.range_succ, List.filter_append, List.filter_cons, if_pos u, List.filter_nil, nats_append, z]
            rfl
        · have c1 : ¬ ((List.range s.length).filter fun x => Km459.beats s l x i).length = 0 := fun q => c (decide_eq_true (by rw [q]; rfl))
          rw [decide_eq_false c1] at u
          refine ⟨e.trans e2, ?_⟩
          rw [List.range_succ, List.filter_append, List.filter_cons, if_neg (by rw [u]; decide), List.filter_nil, List.append_nil]
          exact e2 _ _ hD'
    · rintro H' ⟨e, hD'⟩
      rw [h2, Int.toNat_natCast] at hD'
      exact k H' D hD hD' e
/-! ### left_of_row -/
def spLeft : Sp := fun vs H Q _ => ∃ (p t r : Addr) (s : Valley) (l : List Nat) (v : Nat) (m : List Nat), vs = [.ref p, .ref t, .ref r] ∧ TabAt s H p ∧ H t = some (.lst (nats l)) ∧ (∀ x ∈ l, x < s.length) ∧ l.length ≤ 100 ∧ H r = some (.lst (nats (v :: m))) ∧ (∀ x ∈ v :: m, x < s.length) ∧
  ∀ H' : Hp, Same H H' → Q (.int (Km459.rowGo s l v m : Nat)) H'
theorem scLeft : FnScope ["table", "told", "places", "left", "v"] ["table", "told", "places"] (defScope sLeft) := ⟨rfl, rfl, rfl, by decide +kernel, rfl, by decide +kernel, by decide +kernel⟩
theorem ok_left {f : Addr} {fd : FuncData} (F : Fun K "left_of_row" "left_of_row" sLeft f fd) (T : Txt K mg C) : FnOk P w K mg base CX0 3 f fd ["table", "told", "places"] spLeft := by
  refine F.ok scLeft (fun vs H Q E h => ?_) (fun cdv A outer sh H vs Q E hr h => ?_)
  · obtain ⟨p, t, r, s, l, v, m, rfl, _⟩ := h
    rfl
  · obtain ⟨p, t, r, s, l, v, m, rfl, hT, ht, hl, hn, hr', hm, k⟩ := h
    refine ⟨_, pss_cons (ps_set (i := 3) scLeft.nd rfl (Or.inl rfl) (pe_ix ix_list (pv 2) pe_int (fun _ _ => rfl)))
      (pss_cons (ps_for PassesOwn.never rfl (pi_list (pe_slice sl_list (pv 2) (po_some pe_int) po_none)) (pg_name (i := 4) scLeft.nd rfl (Or.inl rfl))
        (pss_one (ps_if (pt_val (pe_df T.beats (fun _ _ F => ok_beats F T) hr rfl (pa_cons (pv 0) (pa_cons (pv 1) (pa_cons (pv 4) (pa_cons (pv 3) pa_nil)))))) (pss_one (ps_set (i := 3) scLeft.nd rfl (Or.inl rfl) (pv 4))) pss_nil)))
      (pss_one (ps_ret (pv 3)))), ?_⟩
    refine ⟨_, rfl, r, _, _, _, rfl, rfl, SqL.of hr', at_of (j := 0) (v := V.int (v : Int)) rfl rfl, ?_⟩
    refine ⟨_, rfl, 1, rfl, r, _, rfl, SqL.of hr', fun c hc => ⟨c, rfl, ⟨_, SqL.of upd_same⟩, ?_⟩⟩
    have ec : cutV (nats (v :: m)) (some 1) none = nats m := cut_tail _ _
    have s1 : Same H (upd H c (.lst (cutV (nats (v :: m)) (some 1) none))) := Same.new hc
    refine for_list (K := K) (a := c) (xs := nats m) (fun i σ H' => ∃ y : Option V, σ = [some (.ref p), some (.ref t), some (.ref r), some (.int (Km459.rowGo s l v (m.take i) : Nat)), y] ∧ Same (upd H c (.lst (cutV (nats (v :: m)) (some 1) none))) H')
      ⟨none, rfl, Same.rfl'⟩ (fun i σ H' _ ⟨_, _, e⟩ => SqL.of (by have q := e c _ upd_same; rw [ec] at q; exact q)) ?_ ?_
    · rintro i y σ H' hi ⟨y0, rfl, e⟩
      obtain ⟨x, hx, rfl⟩ := nats_of hi
      have hxs : x < s.length := hm x (List.mem_cons_of_mem _ (List.mem_of_getElem? hx))
      have hg : Km459.rowGo s l v (m.take i) < s.length := rowGo_lt _ _ (hm v List.mem_cons_self) fun z hz => hm z (List.mem_cons_of_mem _ (List.mem_of_mem_take hz))
      refine ⟨_, rfl, _, rfl, _, rfl, _, rfl, p, t, s, l, x, _, rfl, hT.same (s1.trans e), (s1.trans e) _ _ ht, hl, hn, hxs, hg, fun H2 e2 => ⟨_, rfl, ?_⟩⟩
      have rs := rowGo_snoc s l (m.take i) v x
      rw [← take_snoc hx] at rs
      cases c2 : Km459.beats s l x (Km459.rowGo s l v (m.take i)) with
      | true =>
        rw [c2, if_pos rfl] at rs
        show if true = true then _ else _
        refine iteT ?_
        refine ⟨_, rfl, some (V.int (x : Int)), ?_, e.trans e2⟩
        rw [rs]
        rfl
      | false =>
        rw [c2, if_neg (by decide)] at rs
        show if false = true then _ else _
        refine iteF ?_
        refine ⟨some (V.int (x : Int)), ?_, e.trans e2⟩
        rw [rs]
        rfl
    · rintro σ H' ⟨y0, rfl, e⟩
      refine ⟨_, rfl, ?_⟩
      rw [nats_len, List.take_length]
      exact k H' (s1.trans e)
/-! ### distance_of_all -/
def spOfAll : Sp := fun vs H Q _ => ∃ (p t : Addr) (s : Valley) (l : List Nat) (v : Nat), vs = [.ref p, .ref t, .int (v : Int)] ∧ Ok s ∧ TabAt s H p ∧ H t = some (.lst (nats l)) ∧ (∀ x ∈ l, x < s.length) ∧ l.length ≤ 100 ∧ v < s.length ∧
  ∀ H' : Hp, Same H H' → Q (.int (Km459.total ⟨s, l⟩ v : Nat)) H'
theorem scOfAll : FnScope ["table", "told", "v", "home"] ["table", "told", "v"] (defScope sOfAll) := ⟨rfl, rfl, rfl, by decide +kernel, rfl, by decide +kernel, by decide +kernel⟩
theorem int_sum : ∀ l : List Nat, (l.map fun (n : Nat) => (n : Int)).sum = (l.sum : Nat)
  | [] => rfl
  | x :: l => by
    rw [List.map_cons, List.sum_cons, List.sum_cons, int_sum l]
    omega
theorem total_eq {s : Valley} (h : Ok s) {l : List Nat} (hl : ∀ x ∈ l, x < s.length) {v : Nat} (hv : v < s.length) : Km459.total ⟨s, l⟩ v = (l.map (far s v)).sum := by
  unfold Km459.total
  rw [sum_eq]
  exact congrArg List.sum (List.map_congr_left fun x hx => far_comm h (hl x hx) hv)
theorem ok_ofAll {f : Addr} {fd : FuncData} (F : Fun K "distance_of_all" "distance_of_all" sOfAll f fd) (T : Txt K mg C) : FnOk P w K mg base CX0 1 f fd ["table", "told", "v"] spOfAll := by
  refine F.ok scOfAll (fun vs H Q E h => ?_) (fun cdv A outer sh H vs Q E hr h => ?_)
  · obtain ⟨p, t, s, l, v, rfl, _⟩ := h
    rfl
  · obtain ⟨p, t, s, l, v, rfl, ok, hT, ht, hl, hn, hv, k⟩ := h
    refine ⟨_, pss_one (ps_ret (pe_callB (cr_sum rfl) (by rfl) T.sum (by decide +kernel) (pa_cons (pe_lc (own := [("home", 3)]) rfl scOfAll.nd (pi_list (pv 1)) (blkOk_by (by rfl))
      (fun _ _ _ _ _ => pg_name (i := 3) scOfAll.nd rfl (Or.inl rfl))
      (fun _ _ _ _ _ => pts_nil)
      (fun _ _ _ _ _ => pe_ix (ix_l K) (pe_ix (ix_l K) (pv 0) (pv 2) (fun _ _ => rfl)) (pv 3) (fun _ _ => rfl))) pa_nil))), ?_⟩
    refine ⟨_, rfl, t, rfl, ⟨_, SqL.of ht⟩, fun D hD => lc_list (K := K) (a := t) (xs := nats l) (fun i H' => Same H H' ∧ H' D = some (.lst (nats ((l.take i).map (far s v))))) ⟨Same.new hD, upd_same⟩ (fun i H' _ ⟨e, _⟩ => SqL.of (e _ _ ht)) ?_ ?_⟩
    · rintro i y H' hi ⟨e, hD'⟩
      obtain ⟨x, hx, rfl⟩ := nats_of hi
      have hxs : x < s.length := hl x (List.mem_of_getElem? hx)
      obtain ⟨a, xs, h1, h2, h3⟩ := (hT.same e).row hv
      refine ⟨rfl, tYes_T ?_⟩
      refine ⟨_, rfl, _, rfl, p, _, _, _, rfl, rfl, SqL.of h1, at_of rfl h2, _, rfl, a, _, _, _, rfl, rfl, SqL.of h3, at_ints rfl (row_get hxs), _, hD', ?_, e.put hD, ?_⟩
      · rw [nats_len, List.length_map]
        exact Nat.lt_of_le_of_lt (List.length_take_le' _ _) (Nat.lt_of_le_of_lt hn (by decide))
      · rw [upd_same, take_snoc hx, List.map_append, nats_append]
        rfl
    · rintro H' ⟨e, hD'⟩
      rw [nats_len, List.take_length, nats_int] at hD'
      refine ⟨D, _, rfl, SqL.of hD', ?_⟩
      rw [int_sum, ← total_eq ok hl hv]
      exact k H' e
/-! ### as_bits, count_and_bits -/
def spBits : Sp := fun vs H Q _ => ∃ (a : Addr) (l : List Nat), vs = [.ref a] ∧ H a = some (.lst (nats l)) ∧ l.Pairwise (· < ·) ∧ (∀ x ∈ l, x < 100) ∧ ∀ H' : Hp, Same H H' → Q (.int (Km459.bits l : Nat)) H'
theorem scBits : FnScope ["members", "bits", "k"] ["members"] (defScope sBits) := ⟨rfl, rfl, rfl, by decide +kernel, rfl, by decide +kernel, by decide +kernel⟩
theorem ok_bits {f : Addr} {fd : FuncData} (F : Fun K "as_bits" "as_bits" sBits f fd) : FnOk P w K mg base CX0 1 f fd ["members"] spBits := by
  refine F.ok scBits (fun vs H Q E h => ?_) (fun cdv A outer sh H vs Q E hr h => ?_)
  · obtain ⟨a, l, rfl, _⟩ := h
    rfl
  · obtain ⟨a, l, rfl, ha, hp, hl, k⟩ := h
    refine ⟨_, pss_cons (ps_set (i := 1) scBits.nd rfl (Or.inl rfl) pe_int)
      (pss_cons (ps_for PassesOwn.never rfl (pi_list (pv 0)) (pg_name (i := 2) scBits.nd rfl (Or.inl rfl)) (pss_one (ps_set (i := 1) scBits.nd rfl (Or.inl rfl) (pe_op op_or (pv 1) (pe_op op_shl pe_int (pv 2))))))
      (pss_one (ps_ret (pv 1)))), ?_⟩
    refine ⟨_, rfl, a, rfl, ⟨_, SqL.of ha⟩, for_list (K := K) (a := a) (xs := nats l) (fun i σ H' => ∃ y : Option V, σ = [some (.ref a), some (.int (Km459.bits (l.take i) : Nat)), y] ∧ H' = H) ⟨none, rfl, rfl⟩ (fun i σ H' _ ⟨_, _, e⟩ => by subst e; exact SqL.of ha) ?_ ?_⟩
    · rintro i y σ H' hi ⟨y0, rfl, rfl⟩
      obtain ⟨x, hx, rfl⟩ := nats_of hi
      have hx1 := hl x (List.mem_of_getElem? hx)
      refine ⟨_, rfl, _, rfl, _, _, rfl, rfl, ⟨by omega, by omega, by decide⟩, _, _, rfl, rfl, some (V.int (x : Int)), ?_, rfl⟩
      have lt := take_bits hp hx
      have lt' : ((Km459.bits (l.take i) : Nat) : Int) < 2 ^ x := by
        have := Int.ofNat_lt.mpr lt
        rw [Int.natCast_pow] at this
        exact this
      have j := Bits.bitOr_join (a := ((Km459.bits (l.take i) : Nat) : Int)) (b := 1) (k := x) (by omega) lt' (by decide)
      have e : ((Km459.bits (l.take (i + 1)) : Nat) : Int) = Builtin.bitOr ((Km459.bits (l.take i) : Nat) : Int) (1 * 2 ^ ((x : Int)).toNat) := by
        rw [take_snoc hx, bits_snoc, Int.toNat_natCast, j, Int.natCast_add, Int.natCast_pow, Int.one_mul]
        rfl
      rw [e]
      rfl
    · rintro σ H' ⟨y0, rfl, rfl⟩
      refine ⟨_, rfl, ?_⟩
      rw [nats_len, List.take_length]
      exact k _ Same.rfl'
def spCb : Sp := fun vs H Q _ => ∃ (a : Addr) (l : List Nat), vs = [.ref a] ∧ H a = some (.lst (nats l)) ∧ l.Pairwise (· < ·) ∧ (∀ x ∈ l, x < 100) ∧
  ∀ (H' : Hp) (p : Addr), H p = none → H' p = some (.lst (nats [l.length, Km459.bits l])) → Same H H' → Q (.ref p) H'
theorem scCb : FnScope ["members"] ["members"] (defScope sCb) := ⟨rfl, rfl, rfl, by decide +kernel, rfl, by decide +kernel, by decide +kernel⟩
theorem ok_cb {f : Addr} {fd : FuncData} (F : Fun K "count_and_bits" "count_and_bits" sCb f fd) (T : Txt K mg C) : FnOk P w K mg base CX0 2 f fd ["members"] spCb := by
  refine F.ok scCb (fun vs H Q E h => ?_) (fun cdv A outer sh H vs Q E hr h => ?_)
  · obtain ⟨a, l, rfl, _⟩ := h
    rfl
  · obtain ⟨a, l, rfl, ha, hp, hl, k⟩ := h
    refine ⟨_, pss_one (ps_ret (pe_lst (pa_cons (pe_callB call_len_seq (by rfl) T.len PySem.boot_len (pa_cons (pv 0) pa_nil)) (pa_cons (pe_df T.bits (fun _ _ F => ok_bits F) hr rfl (pa_cons (pv 0) pa_nil)) pa_nil)))), ?_⟩
    refine ⟨_, rfl, a, _, rfl, .inl (SqL.of ha), _, rfl, a, l, rfl, ha, hp, hl, fun H1 e1 => ⟨(by show 2 ≤ sizeLine; decide), fun p hp' => ?_⟩⟩
    have hp0 := e1.free hp'
    refine k _ p hp0 ?_ (e1.put hp0)
    rw [upd_same, nats_len]
    rfl
end
end Rv
end
section
set_option Elab.async false
set_option linter.all false
set_option maxRecDepth 100000
set_option maxHeartbeats 4000000
/-! distance_table. -/
namespace Rv
open PySem PySem.Spec PyProof.Rows L2
open Km457 (Valley at_ far)
/-- a table that grows: rows as, row w of g w items -/
structure Grow (s : Valley) (H H' : Hp) (p : Addr) (as : List Addr) (g : Nat → Nat) : Prop where
  tab : H' p = some (.lst (as.map V.ref))
  hp : H p = none
  nd : as.Nodup
  np : p ∉ as
  fr : ∀ a ∈ as, H a = none
  same : Same H H'
  rows : ∀ w a, as[w]? = some a → H' a = some (.lst (nats ((List.range (g w)).map (far s w))))
theorem Grow.keep {s : Valley} {H H' H2 : Hp} {p : Addr} {as : List Addr} {g : Nat → Nat} (G : Grow s H H' p as g) (e : Same H' H2) : Grow s H H2 p as g :=
  ⟨e _ _ G.tab, G.hp, G.nd, G.np, G.fr, G.same.trans e, fun w a h => e _ _ (G.rows w a h)⟩
theorem Grow.congr {s : Valley} {H H' : Hp} {p : Addr} {as : List Addr} {g g' : Nat → Nat} (G : Grow s H H' p as g) (e : ∀ w, w < as.length → g w = g' w) : Grow s H H' p as g' :=
  ⟨G.tab, G.hp, G.nd, G.np, G.fr, G.same, fun w a h => by
    rw [← e w (List.getElem?_eq_some_iff.mp h).1]
    exact G.rows w a h⟩
/-- one row has an item more -/
theorem Grow.row {s : Valley} {H H' : Hp} {p : Addr} {as : List Addr} {g : Nat → Nat} (G : Grow s H H' p as g) {w : Nat} {a : Addr} (ha : as[w]? = some a) :
    Grow s H (upd H' a (.lst (nats ((List.range (g w)).map (far s w)) ++ [V.int (far s w (g w) : Nat)]))) p as (fun x => if x = w then g w + 1 else g x) := by
  have hm : a ∈ as := List.mem_of_getElem? ha
  have npa : p ≠ a := fun q => G.np (by rw [q]; exact hm)
  refine ⟨by rw [upd_ne npa]; exact G.tab, G.hp, G.nd, G.np, G.fr, G.same.put (G.fr a hm), fun x b hb => ?_⟩
  by_cases e : x = w
  · subst e
    have eb : b = a := Option.some.inj (hb.symm.trans ha)
    subst eb
    rw [upd_same, if_pos rfl, List.range_succ, List.map_append, nats_append]
    rfl
  · have nb : b ≠ a := fun q => e (nd_ix G.nd hb (by rw [q]; exact ha))
    rw [upd_ne nb, if_neg e]
    exact G.rows x b hb
section
variable {P : Program} {w : World} {K : PySem.W.Frag} {mg : Str → Option Value} {base : Heap} {C : Addr}
def spTable : Sp := fun vs H Q _ => ∃ (u r : Addr) (s : Valley), vs = [.ref u, .ref r] ∧ H u = some (.lst (nats (ups s))) ∧ H r = some (.lst (nats (longs s))) ∧ Ok s ∧ s.length ≤ 12 ∧
  ∀ (H' : Hp) (p : Addr), H p = none → TabAt s H' p → Same H H' → Q (.ref p) H'
theorem scTable : FnScope ["ups", "roads", "table", "v", "row", "w", "far"] ["ups", "roads"] (defScope sTable) := ⟨rfl, rfl, rfl, by decide +kernel, rfl, by decide +kernel, by decide +kernel⟩
theorem ok_table {f : Addr} {fd : FuncData} (F : Fun K "distance_table" "distance_table" sTable f fd) (T : Txt K mg C) : FnOk P w K mg base CX0 1 f fd ["ups", "roads"] spTable := by
  refine F.ok scTable (fun vs H Q E h => ?_) (fun cdv A outer sh H vs Q E hr h => ?_)
  · obtain ⟨u, r, s, rfl, _⟩ := h
    rfl
  · obtain ⟨u, r, s, rfl, hu, hr', ok, hn, k⟩ := h
    refine ⟨_, pss_cons (ps_set (i := 2) scTable.nd rfl (Or.inl rfl) (pe_lst (pa_cons (pe_lst (pa_cons pe_int pa_nil)) pa_nil)))
      (pss_cons (ps_for PassesOwn.never rfl (pi_range2 (by rfl) T.range (pa_cons pe_int (pa_cons (pe_callB call_len_seq (by rfl) T.len PySem.boot_len (pa_cons (pv 0) pa_nil)) pa_nil))) (pg_name (i := 3) scTable.nd rfl (Or.inr rfl))
        (pss_cons (ps_setLc (i := 4) (own := [("far", 6)]) rfl scTable.nd rfl rfl rfl (pi_list (pe_ix ix_list (pv 2) (pe_ix ix_list (pv 0) (pv 3) (fun _ _ => rfl)) (fun _ _ => rfl))) (blkOk_by (by rfl))
          (fun _ _ _ _ _ => pg_name (i := 6) scTable.nd rfl (Or.inl rfl))
          (fun _ _ _ _ _ => pts_nil)
          (fun _ _ _ _ _ => pe_op op_add (pv 6) (pe_ix (ix_l K) (pv 1) (pv 3) (fun _ _ => rfl))))
        (pss_cons (ps_for PassesOwn.never rfl (pi_range1 (by rfl) T.range (pa_cons (pv 3) pa_nil)) (pg_name (i := 5) scTable.nd rfl (Or.inl rfl))
          (pss_one (ps_expr (pe_bm PySem.F.plainAttrs_list PySem.F.slot_list_append PySem.F.type_list_append mt_append (pe_ix ix_list (pv 2) (pv 5) (fun _ _ => rfl)) (pa_cons (pe_ix ix_list (pv 4) (pv 5) (fun _ _ => rfl)) pa_nil)))))
        (pss_cons (ps_expr (pe_bm PySem.F.plainAttrs_list PySem.F.slot_list_append PySem.F.type_list_append mt_append (pv 4) (pa_cons pe_int pa_nil)))
        (pss_one (ps_expr (pe_bm PySem.F.plainAttrs_list PySem.F.slot_list_append PySem.F.type_list_append mt_append (pv 2) (pa_cons (pv 4) pa_nil))))))))
      (pss_one (ps_ret (pv 2)))), ?_⟩
    have hpos := ok.pos
    refine ⟨(by show 1 ≤ sizeLine; decide), fun r0 hr0 => ⟨(by show 1 ≤ sizeLine; decide), fun p hp => ?_⟩⟩
    have hp' : H p = none := (Same.new hr0).free hp
    have npr : p ≠ r0 := fun q => by rw [q, upd_same] at hp; cases hp
    have s0 : Same H (upd (upd H r0 (.lst [V.int 0])) p (.lst [V.ref r0])) := (Same.new hr0).put hp'
    have G0 : Grow s H (upd (upd H r0 (.lst [V.int 0])) p (.lst [V.ref r0])) p [r0] (fun _ => 1) := by
      refine ⟨upd_same, hp', by simp, by simpa using npr, fun a ha => ?_, s0, fun w' a ha => ?_⟩
      · have e : a = r0 := by simpa using ha
        rw [e]
        exact hr0
      · match w', ha with
        | 0, ha =>
          have e : r0 = a := Option.some.inj ha
          subst e
          rw [upd_ne (fun q => npr q.symm), upd_same]
          show some (HO.lst [V.int 0]) = some (HO.lst [V.int (far s 0 0 : Nat)])
          rw [far_self ok hpos]
          rfl
        | w' + 1, ha => simp at ha
    refine ⟨_, rfl, u, _, rfl, .inl (SqL.of (s0 _ _ hu)), _, _, rfl, ⟨by decide, by decide, ?_, ?_⟩, for_range (lo := 1) (fun i σ H' => ∃ (as : List Addr) (y3 y4 y5 y6 : Option V), σ = [some (.ref u), some (.ref r), some (.ref p), y3, y4, y5, y6] ∧ as.length = i + 1 ∧ Grow s H H' p as (fun _ => i + 1))
      ⟨[r0], none, none, none, none, rfl, rfl, G0⟩ ?_ ?_⟩
    · rw [nats_len, ups_len]
      omega
    · rw [nats_len, ups_len]
      omega
    · rw [nats_len, ups_len]
      rintro i σ H1 hi ⟨as, y3, y4, y5, y6, rfl, hlen, G⟩
      have hi' : i + 1 < s.length := by omega
      have ez : (1 : Int) + (i : Nat) = ((i + 1 : Nat) : Int) := by omega
      rw [ez]
      have hup := ok.up (i + 1) (by omega) hi'
      obtain ⟨a, ha⟩ : ∃ a, as[(at_ s (i + 1)).up]? = some a := ⟨_, List.getElem?_eq_getElem (by omega)⟩
      have hrow := G.rows _ a ha
      -- row
      refine ⟨_, rfl, _, rfl, _, rfl, u, _, _, _, rfl, rfl, SqL.of (G.same _ _ hu), at_ints rfl (ups_get hi'), p, _, _, _, rfl, rfl, SqL.of G.tab, at_of (j := (at_ s (i + 1)).up) (v := V.ref a) rfl (by rw [List.getElem?_map, ha]; rfl), a, rfl, ⟨_, SqL.of hrow⟩, fun D hD => ?_⟩
      refine lc_list (K := K) (a := a) (xs := nats ((List.range (i + 1)).map (far s (at_ s (i + 1)).up))) (fun j H' => Same H1 H' ∧ H' D = some (.lst (nats ((List.range j).map (far s (i + 1)))))) ⟨Same.new hD, upd_same⟩ (fun j H' _ ⟨e, _⟩ => SqL.of (e _ _ hrow)) ?_ ?_
      · rintro j y H' hj ⟨e, hD'⟩
        obtain ⟨x, hx, rfl⟩ := nats_of hj
        have hji : j < i + 1 := by
          have := (List.getElem?_eq_some_iff.mp hx).1
          rw [List.length_map, List.length_range] at this
          exact this
        rw [get_tab hji] at hx
        cases hx
        refine ⟨rfl, tYes_T ?_⟩
        refine ⟨_, rfl, _, rfl, _, rfl, r, _, _, _, rfl, rfl, SqL.of ((G.same.trans e) _ _ hr'), at_ints rfl (longs_get hi'), _, _, rfl, rfl, _, hD', ?_, e.put hD, ?_⟩
        · rw [nats_len, List.length_map, List.length_range]
          exact Nat.lt_of_lt_of_le hji (Nat.le_trans (by omega : i + 1 ≤ 12) (by decide))
        · rw [upd_same, List.range_succ, List.map_append, nats_append]
          show some (HO.lst (_ ++ [V.int (((far s (at_ s (i + 1)).up j : Nat) : Int) + ((at_ s (i + 1)).long : Nat))])) = some (HO.lst (_ ++ [V.int ((far s (i + 1) j : Nat) : Int)]))
          rw [far_new ok hji hi']
          rfl
      · rintro H2 ⟨e, hD'⟩
        rw [nats_len, List.length_map, List.length_range] at hD'
        have G2 := G.keep e
        have hD0 : H D = none := G.same.free hD
        have nDp : D ≠ p := fun q => by rw [q, G.tab] at hD; cases hD
        have nDa : D ∉ as := fun q => by
          obtain ⟨x, hx⟩ := List.getElem?_of_mem q
          rw [G.rows x D hx] at hD
          cases hD
        -- for w in range(v): table[w].append(row[w])
        refine ⟨_, rfl, _, rfl, by omega, by omega, for_range (lo := 0) (fun j σ H' => ∃ (y5' y6' : Option V), σ = [some (.ref u), some (.ref r), some (.ref p), some (.int ((i + 1 : Nat) : Int)), some (.ref D), y5', y6'] ∧ Grow s H H' p as (fun x => if x < j then i + 2 else i + 1) ∧ H' D = some (.lst (nats ((List.range (i + 1)).map (far s (i + 1))))))
          ⟨_, _, rfl, G2.congr (fun x _ => by rw [if_neg (by omega)]), hD'⟩ ?_ ?_⟩
        · rintro j σ H3 hj ⟨y5', y6', rfl, G3, hD3⟩
          have hj' : j < i + 1 := by omega
          have ej : (0 : Int) + (j : Nat) = (j : Int) := by omega
          rw [ej]
          obtain ⟨b, hb⟩ : ∃ b, as[j]? = some b := ⟨_, List.getElem?_eq_getElem (by omega)⟩
          have hrow3 := G3.rows j b hb
          rw [if_neg (Nat.lt_irrefl j)] at hrow3
          refine ⟨_, rfl, _, rfl, p, _, _, _, rfl, rfl, SqL.of G3.tab, at_of (j := j) (v := V.ref b) rfl (by rw [List.getElem?_map, hb]; rfl), .inl ⟨rfl, _, SqL.of hrow3⟩, _, rfl, _, rfl, D, _, _, _, rfl, rfl, SqL.of hD3, at_ints rfl (get_tab hj'), b, _, _, rfl, rfl, hrow3, ?_, ?_⟩
          · rw [nats_len, List.length_map, List.length_range]
            exact Nat.lt_of_le_of_lt (by omega : i + 1 ≤ 12) (by decide)
          · have nDb : D ≠ b := fun q => nDa (by rw [q]; exact List.mem_of_getElem? hb)
            have G4 := G3.row hb
            simp only [if_neg (Nat.lt_irrefl j)] at G4
            rw [far_comm ok (show j < s.length by omega) hi'] at G4
            refine ⟨_, _, rfl, G4.congr (fun x hx => ?_), by rw [upd_ne nDb]; exact hD3⟩
            by_cases q : x = j
            · rw [if_pos q, if_pos (by omega)]
            · rw [if_neg q]
              by_cases q2 : x < j
              · rw [if_pos q2, if_pos (by omega)]
              · rw [if_neg q2, if_neg (by omega)]
        · rintro σ H3 ⟨y5', y6', rfl, G3, hD3⟩
          -- row.append(0); table.append(row)
          refine ⟨_, rfl, .inl ⟨rfl, _, SqL.of hD3⟩, D, _, _, rfl, rfl, hD3, ?_, ?_⟩
          · rw [nats_len, List.length_map, List.length_range]
            exact Nat.lt_of_le_of_lt (by omega : i + 1 ≤ 12) (by decide)
          have ht3 : (upd H3 D (.lst (nats ((List.range (i + 1)).map (far s (i + 1))) ++ [V.int 0]))) p = some (.lst (as.map V.ref)) := by
            rw [upd_ne (fun q => nDp q.symm)]
            exact G3.tab
          refine ⟨_, rfl, .inl ⟨rfl, _, SqL.of ht3⟩, _, rfl, p, _, _, rfl, rfl, ht3, ?_, ?_⟩
          · rw [List.length_map, hlen]
            exact Nat.lt_of_le_of_lt (by omega : i + 1 ≤ 12) (by decide)
          refine ⟨as ++ [D], _, _, _, _, rfl, by rw [List.length_append, hlen]; rfl, ?_⟩
          refine ⟨?_, hp', ?_, ?_, ?_, (G3.same.put hD0).put hp', fun x b hb => ?_⟩
          · rw [upd_same, List.map_append]
            rfl
          · rw [List.nodup_append]
            refine ⟨G3.nd, by simp, fun x hx y hy => ?_⟩
            have ey : y = D := by simpa using hy
            rw [ey]
            exact fun q => nDa (by rw [← q]; exact hx)
          · intro q
            rcases List.mem_append.mp q with q | q
            · exact G3.np q
            · have z : p = D := by simpa using q
              exact nDp z.symm
          · intro b hb
            rcases List.mem_append.mp hb with q | q
            · exact G3.fr b q
            · have eb : b = D := by simpa using q
              rw [eb]
              exact hD0
          · by_cases q : x < as.length
            · rw [List.getElem?_append_left q] at hb
              have nbp : b ≠ p := fun z => G3.np (by rw [← z]; exact List.mem_of_getElem? hb)
              have nbD : b ≠ D := fun z => nDa (by rw [← z]; exact List.mem_of_getElem? hb)
              rw [upd_ne nbp, upd_ne nbD]
              have z := G3.rows x b hb
              rw [if_pos (show x < _ by omega)] at z
              exact z
            · have hx : x = as.length := by
                have := (List.getElem?_eq_some_iff.mp hb).1
                rw [List.length_append] at this
                simp at this
                omega
              subst hx
              rw [List.getElem?_append_right (Nat.le_refl _)] at hb
              have eb : b = D := by simpa using hb.symm
              subst eb
              have z : nats ((List.range (i + 1 + 1)).map (far s (i + 1))) = nats ((List.range (i + 1)).map (far s (i + 1))) ++ [V.int 0] := by
                rw [List.range_succ, List.map_append, nats_append]
                show _ ++ [V.int ((far s (i + 1) (i + 1) : Nat) : Int)] = _
                rw [far_self ok hi']
                rfl
              rw [upd_ne nDp, upd_same, hlen, z]
    · rw [nats_len, ups_len]
      rintro σ H1 ⟨as, y3, y4, y5, y6, rfl, hlen, G⟩
      have e : (((s.length : Nat) : Int) - 1).toNat + 1 = s.length := by omega
      rw [e] at hlen G
      exact ⟨_, rfl, k H1 p hp' ⟨as, G.tab, hlen, G.rows⟩ G.same⟩
end
end Rv
end
section
set_option Elab.async false
set_option linter.all false
set_option maxRecDepth 100000
set_option maxHeartbeats 4000000
/-! The valley's methods that only look. -/
namespace Rv
open PySem PySem.Spec PyProof.Rows L2
open Km457 (Valley at_ far)
open Km459 (Sea)
/-- no field bears a method's name -/
def meths : List Str := ["begin", "has_village", "has_voter", "state", "restore", "keep_for_taking_back", "take_back", "do_again", "add_village", "set_road", "add_voter", "move_voter", "drop_voter", "distances", "distances_from_home", "chosen", "chosen_if", "chosen_if_both", "chosen_with", "swayed_by", "voters_of"]
/-- the object at va holds the sea -/
structure SeaAt (C : Addr) (H : Hp) (va : Addr) (s : Sea) : Prop where
  ex : ∃ (dx : Addr) (fs : List (Str × V)) (u r t : Addr), H va = some (.ins C dx fs) ∧ fs.lookup ("ups" : Str) = some (.ref u) ∧ fs.lookup ("roads" : Str) = some (.ref r) ∧ fs.lookup ("told" : Str) = some (.ref t) ∧
    H u = some (.lst (nats (ups s.valley))) ∧ H r = some (.lst (nats (longs s.valley))) ∧ H t = some (.lst (nats s.votes)) ∧ ∀ m ∈ meths, fs.lookup m = none
theorem SeaAt.same {C : Addr} {H H' : Hp} {va : Addr} {s : Sea} (h : SeaAt C H va s) (e : Same H H') : SeaAt C H' va s := by
  obtain ⟨dx, fs, u, r, t, h1, h2, h3, h4, h5, h6, h7, h8⟩ := h.ex
  exact ⟨dx, fs, u, r, t, e _ _ h1, h2, h3, h4, e _ _ h5, e _ _ h6, e _ _ h7, h8⟩
theorem chosen_lt {s : Valley} (h : Ok s) {votes : List Nat} (hv : ∀ x ∈ votes, x < s.length) : Km459.chosen s votes < s.length := by
  rw [chosen_cho h hv]
  have a := cho_le (oddL votes).length (B s (oddL votes)) (s.length - 1)
  have b := h.pos
  omega
theorem vote_get {s : Sea} {i : Nat} (h : i < s.votes.length) : s.votes[i]? = some (s.votes.getD i 0) := by
  rw [List.getD_eq_getElem?_getD, List.getElem?_eq_getElem h]
  rfl
theorem vote_lt {s : Sea} (G : Good s) {i : Nat} (h : i < s.votes.length) : s.votes.getD i 0 < s.valley.length := G.lt _ (List.mem_of_getElem? (vote_get h))
theorem lied_lt {s : Sea} (G : Good s) {i v : Nat} (hv : v < s.valley.length) : Km459.lied s i v < s.valley.length := chosen_lt G.ok (set_lt G.lt hv)
theorem good_lt {s : Sea} (G : Good s) {v : Nat} (hv : v < s.valley.length) : ∀ x ∈ s.votes ++ [v], x < s.valley.length := fun x hx => by
  rcases List.mem_append.mp hx with e | e
  · exact G.lt x e
  · have e' : x = v := by simpa using e
    rw [e']
    exact hv
section
variable {P : Program} {w : World} {K : PySem.W.Frag} {mg : Str → Option Value} {base : Heap} {C : Addr}
/-! ### has_village, has_voter -/
def spHasVillage (C : Addr) : Sp := fun vs H Q _ => ∃ (va : Addr) (z : Int) (s : Sea), vs = [.ref va, .int z] ∧ SeaAt C H va s ∧ Q (.bl (decide (z < (s.valley.length : Nat)))) H
theorem scHasVillage : FnScope ["self", "v"] ["self", "v"] (defScope mHasVillage) := ⟨rfl, rfl, rfl, by decide +kernel, rfl, by decide +kernel, by decide +kernel⟩
theorem ok_hasVillage {f : Addr} {fd : FuncData} (F : Fun K "has_village" "Valley.has_village" mHasVillage f fd) (T : Txt K mg C) : FnOk P w K mg base CX0 1 f fd ["self", "v"] (spHasVillage C) := by
  refine F.ok scHasVillage (fun vs H Q E h => ?_) (fun cdv A outer sh H vs Q E hr h => ?_)
  · obtain ⟨va, z, s, rfl, _⟩ := h
    rfl
  · obtain ⟨va, z, s, rfl, S, k⟩ := h
    obtain ⟨dx, fs, u, r, t, h1, h2, h3, h4, h5, h6, h7, h8⟩ := S.ex
    refine ⟨_, pss_one (ps_ret (pe_cmpR op_lt (pv 1) (pe_callB call_len_seq (by rfl) T.len PySem.boot_len (pa_cons (pe_fld (pv 0) rfl) pa_nil)) (nomark _))), ?_⟩
    refine ⟨_, rfl, _, rfl, va, C, dx, fs, _, rfl, h1, T.cl, T.nU, h2, u, _, rfl, .inl (SqL.of h5), _, _, rfl, rfl, ?_⟩
    rw [nats_len, ups_len]
    exact k
def spHasVoter (C : Addr) : Sp := fun vs H Q _ => ∃ (va : Addr) (z : Int) (s : Sea), vs = [.ref va, .int z] ∧ SeaAt C H va s ∧ Q (.bl (decide (z < (s.votes.length : Nat)))) H
theorem scHasVoter : FnScope ["self", "i"] ["self", "i"] (defScope mHasVoter) := ⟨rfl, rfl, rfl, by decide +kernel, rfl, by decide +kernel, by decide +kernel⟩
theorem ok_hasVoter {f : Addr} {fd : FuncData} (F : Fun K "has_voter" "Valley.has_voter" mHasVoter f fd) (T : Txt K mg C) : FnOk P w K mg base CX0 1 f fd ["self", "i"] (spHasVoter C) := by
  refine F.ok scHasVoter (fun vs H Q E h => ?_) (fun cdv A outer sh H vs Q E hr h => ?_)
  · obtain ⟨va, z, s, rfl, _⟩ := h
    rfl
  · obtain ⟨va, z, s, rfl, S, k⟩ := h
    obtain ⟨dx, fs, u, r, t, h1, h2, h3, h4, h5, h6, h7, h8⟩ := S.ex
    refine ⟨_, pss_one (ps_ret (pe_cmpR op_lt (pv 1) (pe_callB call_len_seq (by rfl) T.len PySem.boot_len (pa_cons (pe_fld (pv 0) rfl) pa_nil)) (nomark _))), ?_⟩
    refine ⟨_, rfl, _, rfl, va, C, dx, fs, _, rfl, h1, T.cl, T.nT, h4, t, _, rfl, .inl (SqL.of h7), _, _, rfl, rfl, ?_⟩
    rw [nats_len]
    exact k
/-! ### distances, chosen, chosen_if -/
def spDistances (C : Addr) : Sp := fun vs H Q _ => ∃ (va : Addr) (s : Sea), vs = [.ref va] ∧ SeaAt C H va s ∧ Good s ∧ ∀ (H' : Hp) (p : Addr), H p = none → TabAt s.valley H' p → Same H H' → Q (.ref p) H'
theorem scDistances : FnScope ["self"] ["self"] (defScope mDistances) := ⟨rfl, rfl, rfl, by decide +kernel, rfl, by decide +kernel, by decide +kernel⟩
theorem ok_distances {f : Addr} {fd : FuncData} (F : Fun K "distances" "Valley.distances" mDistances f fd) (T : Txt K mg C) : FnOk P w K mg base CX0 2 f fd ["self"] (spDistances C) := by
  refine F.ok scDistances (fun vs H Q E h => ?_) (fun cdv A outer sh H vs Q E hr h => ?_)
  · obtain ⟨va, s, rfl, _⟩ := h
    rfl
  · obtain ⟨va, s, rfl, S, G, k⟩ := h
    obtain ⟨dx, fs, u, r, t, h1, h2, h3, h4, h5, h6, h7, h8⟩ := S.ex
    refine ⟨_, pss_one (ps_ret (pe_df T.table (fun _ _ F => ok_table F T) hr rfl (pa_cons (pe_fld (pv 0) rfl) (pa_cons (pe_fld (pv 0) rfl) pa_nil)))), ?_⟩
    exact ⟨_, rfl, va, C, dx, fs, _, rfl, h1, T.cl, T.nU, h2, _, rfl, va, C, dx, fs, _, rfl, h1, T.cl, T.nR, h3, u, r, s.valley, rfl, h5, h6, G.ok, G.len, k⟩
def spMChosen (C : Addr) : Sp := fun vs H Q _ => ∃ (va : Addr) (s : Sea), vs = [.ref va] ∧ SeaAt C H va s ∧ Good s ∧ ∀ H' : Hp, Same H H' → Q (.int (Km459.chosen s.valley s.votes : Nat)) H'
theorem scMChosen : FnScope ["self"] ["self"] (defScope mChosen) := ⟨rfl, rfl, rfl, by decide +kernel, rfl, by decide +kernel, by decide +kernel⟩
theorem ok_mChosen {f : Addr} {fd : FuncData} (F : Fun K "chosen" "Valley.chosen" mChosen f fd) (T : Txt K mg C) : FnOk P w K mg base CX0 3 f fd ["self"] (spMChosen C) := by
  refine F.ok scMChosen (fun vs H Q E h => ?_) (fun cdv A outer sh H vs Q E hr h => ?_)
  · obtain ⟨va, s, rfl, _⟩ := h
    rfl
  · obtain ⟨va, s, rfl, S, G, k⟩ := h
    obtain ⟨dx, fs, u, r, t, h1, h2, h3, h4, h5, h6, h7, h8⟩ := S.ex
    refine ⟨_, pss_one (ps_ret (pe_df T.chosen (fun _ _ F => ok_chosen F T) hr rfl (pa_cons (pe_fld (pv 0) rfl) (pa_cons (pe_fld (pv 0) rfl) pa_nil)))), ?_⟩
    exact ⟨_, rfl, va, C, dx, fs, _, rfl, h1, T.cl, T.nU, h2, _, rfl, va, C, dx, fs, _, rfl, h1, T.cl, T.nT, h4, u, t, s.valley, s.votes, rfl, h5, h7, G.ok, G.len, G.lt, Nat.le_trans G.few (by decide), k⟩
/-! ### with_other_told -/
def spOther : Sp := fun vs H Q _ => ∃ (t : Addr) (l : List Nat) (i v : Nat), vs = [.ref t, .int (i : Int), .int (v : Int)] ∧ H t = some (.lst (nats l)) ∧ i < l.length ∧ ∀ (H' : Hp) (p : Addr), H p = none → H' p = some (.lst (nats (l.set i v))) → Same H H' → Q (.ref p) H'
theorem scOther : FnScope ["told", "i", "v", "other"] ["told", "i", "v"] (defScope sOther) := ⟨rfl, rfl, rfl, by decide +kernel, rfl, by decide +kernel, by decide +kernel⟩
theorem ok_other {f : Addr} {fd : FuncData} (F : Fun K "with_other_told" "with_other_told" sOther f fd) (T : Txt K mg C) : FnOk P w K mg base CX0 1 f fd ["told", "i", "v"] spOther := by
  refine F.ok scOther (fun vs H Q E h => ?_) (fun cdv A outer sh H vs Q E hr h => ?_)
  · obtain ⟨t, l, i, v, rfl, _⟩ := h
    rfl
  · obtain ⟨t, l, i, v, rfl, ht, hi, k⟩ := h
    refine ⟨_, pss_cons (ps_set (i := 3) scOther.nd rfl (Or.inl rfl) (pe_callTy call_list_of (by rfl) T.list PySem.Pv.boot_list (pa_cons (pv 0) pa_nil)))
      (pss_cons (ps_asg (pv 2) (pg_sub (pv 3) (pv 1) set_list))
      (pss_one (ps_ret (pv 3)))), ?_⟩
    refine ⟨_, rfl, t, _, rfl, .inl (SqL.of ht), fun p hp => ?_⟩
    refine ⟨_, rfl, _, rfl, _, rfl, p, _, _, i, rfl, rfl, upd_same, ixN_nat rfl (by rw [nats_len]; exact hi), ?_⟩
    rw [upd_upd, nats_set]
    exact ⟨_, rfl, k _ p hp upd_same (Same.new hp)⟩
/-! ### chosen_if, chosen_if_both, chosen_with -/
def spChosenIf (C : Addr) : Sp := fun vs H Q _ => ∃ (va : Addr) (s : Sea) (i v : Nat), vs = [.ref va, .int (i : Int), .int (v : Int)] ∧ SeaAt C H va s ∧ Good s ∧ i < s.votes.length ∧ v < s.valley.length ∧ ∀ H' : Hp, Same H H' → Q (.int (Km459.lied s i v : Nat)) H'
theorem scChosenIf : FnScope ["self", "i", "v"] ["self", "i", "v"] (defScope mChosenIf) := ⟨rfl, rfl, rfl, by decide +kernel, rfl, by decide +kernel, by decide +kernel⟩
theorem ok_chosenIf {f : Addr} {fd : FuncData} (F : Fun K "chosen_if" "Valley.chosen_if" mChosenIf f fd) (T : Txt K mg C) : FnOk P w K mg base CX0 3 f fd ["self", "i", "v"] (spChosenIf C) := by
  refine F.ok scChosenIf (fun vs H Q E h => ?_) (fun cdv A outer sh H vs Q E hr h => ?_)
  · obtain ⟨va, s, i, v, rfl, _⟩ := h
    rfl
  · obtain ⟨va, s, i, v, rfl, S, G, hi, hv, k⟩ := h
    obtain ⟨dx, fs, u, r, t, h1, h2, h3, h4, h5, h6, h7, h8⟩ := S.ex
    refine ⟨_, pss_one (ps_ret (pe_df T.chosen (fun _ _ F => ok_chosen F T) hr rfl (pa_cons (pe_fld (pv 0) rfl) (pa_cons (pe_df T.other (fun _ _ F => ok_other F T) (hr.mono (by decide)) rfl (pa_cons (pe_fld (pv 0) rfl) (pa_cons (pv 1) (pa_cons (pv 2) pa_nil)))) pa_nil)))), ?_⟩
    refine ⟨_, rfl, va, C, dx, fs, _, rfl, h1, T.cl, T.nU, h2, _, rfl, va, C, dx, fs, _, rfl, h1, T.cl, T.nT, h4, _, rfl, _, rfl, t, _, i, v, rfl, h7, hi, fun H1 p hp hp1 e => ?_⟩
    refine ⟨u, p, s.valley, s.votes.set i v, rfl, e _ _ h5, hp1, G.ok, G.len, set_lt G.lt hv, ?_, fun H' e' => k H' (e.trans e')⟩
    rw [List.length_set]
    exact Nat.le_trans G.few (by decide)
def spChosenBoth (C : Addr) : Sp := fun vs H Q _ => ∃ (va : Addr) (s : Sea) (i j v x : Nat), vs = [.ref va, .int (i : Int), .int (j : Int), .int (v : Int), .int (x : Int)] ∧ SeaAt C H va s ∧ Good s ∧ i < s.votes.length ∧ j < s.votes.length ∧ v < s.valley.length ∧ x < s.valley.length ∧ ∀ H' : Hp, Same H H' → Q (.int (Km459.lied2 s i j v x : Nat)) H'
theorem scChosenBoth : FnScope ["self", "i", "j", "v", "w", "told"] ["self", "i", "j", "v", "w"] (defScope mChosenBoth) := ⟨rfl, rfl, rfl, by decide +kernel, rfl, by decide +kernel, by decide +kernel⟩
theorem ok_chosenBoth {f : Addr} {fd : FuncData} (F : Fun K "chosen_if_both" "Valley.chosen_if_both" mChosenBoth f fd) (T : Txt K mg C) : FnOk P w K mg base CX0 3 f fd ["self", "i", "j", "v", "w"] (spChosenBoth C) := by
  refine F.ok scChosenBoth (fun vs H Q E h => ?_) (fun cdv A outer sh H vs Q E hr h => ?_)
  · obtain ⟨va, s, i, j, v, x, rfl, _⟩ := h
    rfl
  · obtain ⟨va, s, i, j, v, x, rfl, S, G, hi, hj, hv, hx, k⟩ := h
    obtain ⟨dx, fs, u, r, t, h1, h2, h3, h4, h5, h6, h7, h8⟩ := S.ex
    refine ⟨_, pss_cons (ps_set (i := 5) scChosenBoth.nd rfl (Or.inl rfl) (pe_df T.other (fun _ _ F => ok_other F T) (hr.mono (by decide)) rfl (pa_cons (pe_fld (pv 0) rfl) (pa_cons (pv 1) (pa_cons (pv 3) pa_nil)))))
      (pss_one (ps_ret (pe_df T.chosen (fun _ _ F => ok_chosen F T) hr rfl (pa_cons (pe_fld (pv 0) rfl) (pa_cons (pe_df T.other (fun _ _ F => ok_other F T) (hr.mono (by decide)) rfl (pa_cons (pv 5) (pa_cons (pv 2) (pa_cons (pv 4) pa_nil)))) pa_nil))))), ?_⟩
    refine ⟨_, rfl, va, C, dx, fs, _, rfl, h1, T.cl, T.nT, h4, _, rfl, _, rfl, t, _, i, v, rfl, h7, hi, fun H1 p hp hp1 e => ?_⟩
    refine ⟨_, rfl, va, C, dx, fs, _, rfl, e _ _ h1, T.cl, T.nU, h2, _, rfl, _, rfl, _, rfl, p, _, j, x, rfl, hp1, ?_, fun H2 q hq hq1 e2 => ?_⟩
    · rw [List.length_set]
      exact hj
    have e12 := e.trans e2
    refine ⟨u, q, s.valley, (s.votes.set i v).set j x, rfl, e12 _ _ h5, hq1, G.ok, G.len, set_lt (set_lt G.lt hv) hx, ?_, fun H' e' => k H' (e12.trans e')⟩
    rw [List.length_set, List.length_set]
    exact Nat.le_trans G.few (by decide)
def spChosenWith (C : Addr) : Sp := fun vs H Q _ => ∃ (va : Addr) (s : Sea) (v : Nat), vs = [.ref va, .int (v : Int)] ∧ SeaAt C H va s ∧ Good s ∧ v < s.valley.length ∧ ∀ H' : Hp, Same H H' → Q (.int (Km459.chosen s.valley (s.votes ++ [v]) : Nat)) H'
theorem scChosenWith : FnScope ["self", "v"] ["self", "v"] (defScope mChosenWith) := ⟨rfl, rfl, rfl, by decide +kernel, rfl, by decide +kernel, by decide +kernel⟩
theorem ok_chosenWith {f : Addr} {fd : FuncData} (F : Fun K "chosen_with" "Valley.chosen_with" mChosenWith f fd) (T : Txt K mg C) : FnOk P w K mg base CX0 3 f fd ["self", "v"] (spChosenWith C) := by
  refine F.ok scChosenWith (fun vs H Q E h => ?_) (fun cdv A outer sh H vs Q E hr h => ?_)
  · obtain ⟨va, s, v, rfl, _⟩ := h
    rfl
  · obtain ⟨va, s, v, rfl, S, G, hv, k⟩ := h
    obtain ⟨dx, fs, u, r, t, h1, h2, h3, h4, h5, h6, h7, h8⟩ := S.ex
    refine ⟨_, pss_one (ps_ret (pe_df T.chosen (fun _ _ F => ok_chosen F T) hr rfl (pa_cons (pe_fld (pv 0) rfl) (pa_cons (pe_op op_cat (pe_fld (pv 0) rfl) (pe_lst (pa_cons (pv 1) pa_nil))) pa_nil)))), ?_⟩
    refine ⟨_, rfl, va, C, dx, fs, _, rfl, h1, T.cl, T.nU, h2, _, rfl, va, C, dx, fs, _, rfl, h1, T.cl, T.nT, h4, _, rfl, (by show 1 ≤ sizeLine; decide), fun p0 hp0 => ⟨t, p0, nats s.votes, nats [v], rfl, rfl, ?_, upd_same, ?_, fun p hp => ?_⟩⟩
    · rw [upd_ne (ne_of_none h7 hp0)]
      exact h7
    · rw [nats_len, nats_len]
      have := G.few
      exact Nat.le_trans (Nat.add_le_add_right this 1) (by decide)
    · have hp' : H p = none := by
        rw [upd_ne (fun q => by rw [q, upd_same] at hp; cases hp)] at hp
        exact hp
      have e : Same H (upd (upd H p0 (.lst (nats [v]))) p (.lst (nats s.votes ++ nats [v]))) := (Same.new hp0).put hp'
      have hg := good_lt G hv
      refine ⟨u, p, s.valley, s.votes ++ [v], rfl, e _ _ h5, ?_, G.ok, G.len, hg, ?_, fun H' e' => k H' (e.trans e')⟩
      · rw [nats_append]
        exact upd_same
      · rw [List.length_append]
        have := G.few
        exact Nat.le_trans (Nat.add_le_add_right this 1) (by decide)
/-! ### distances_from_home, voters_of -/
def spFromHome (C : Addr) : Sp := fun vs H Q _ => ∃ (va : Addr) (s : Sea) (i : Nat), vs = [.ref va, .int (i : Int)] ∧ SeaAt C H va s ∧ Good s ∧ i < s.votes.length ∧ ∀ (H' : Hp) (a : Addr), H' a = some (.lst (nats (rowOf s.valley (s.votes.getD i 0)))) → Same H H' → Q (.ref a) H'
theorem scFromHome : FnScope ["self", "i"] ["self", "i"] (defScope mFromHome) := ⟨rfl, rfl, rfl, by decide +kernel, rfl, by decide +kernel, by decide +kernel⟩
theorem ok_fromHome {f : Addr} {fd : FuncData} (F : Fun K "distances_from_home" "Valley.distances_from_home" mFromHome f fd) (T : Txt K mg C) : FnOk P w K mg base CX0 3 f fd ["self", "i"] (spFromHome C) := by
  refine F.ok scFromHome (fun vs H Q E h => ?_) (fun cdv A outer sh H vs Q E hr h => ?_)
  · obtain ⟨va, s, i, rfl, _⟩ := h
    rfl
  · obtain ⟨va, s, i, rfl, S, G, hi, k⟩ := h
    obtain ⟨dx, fs, u, r, t, h1, h2, h3, h4, h5, h6, h7, h8⟩ := S.ex
    refine ⟨_, pss_one (ps_ret (pe_ix ix_list (pe_mt0 (pv 0) T.cl T.distances (fun _ _ F => ok_distances F T) hr) (pe_ix ix_list (pe_fld (pv 0) rfl) (pv 1) (fun _ _ => rfl)) (fun _ _ => rfl))), ?_⟩
    refine ⟨_, rfl, va, dx, fs, rfl, h1, h8 _ (by decide), va, s, rfl, S, G, fun H1 p hp hT e1 => ?_⟩
    obtain ⟨a, xs, g1, g2, g3⟩ := hT.row (vote_lt G hi)
    refine ⟨_, rfl, va, C, dx, fs, _, rfl, e1 _ _ h1, T.cl, T.nT, h4, _, rfl, t, _, _, _, rfl, rfl, SqL.of (e1 _ _ h7), at_ints rfl (vote_get hi), p, _, _, _, rfl, rfl, SqL.of g1, at_of rfl g2, k H1 a g3 e1⟩
def spVotersOf (C : Addr) : Sp := fun vs H Q _ => ∃ (va : Addr) (s : Sea) (v : Nat), vs = [.ref va, .int (v : Int)] ∧ SeaAt C H va s ∧ Good s ∧ ∀ (H' : Hp) (p : Addr), H p = none → H' p = some (.lst (nats ((List.range s.votes.length).filter fun i => s.votes.getD i 0 == v))) → Same H H' → Q (.ref p) H'
theorem scVotersOf : FnScope ["self", "v", "i"] ["self", "v"] (defScope mVotersOf) := ⟨rfl, rfl, rfl, by decide +kernel, rfl, by decide +kernel, by decide +kernel⟩
theorem ok_votersOf {f : Addr} {fd : FuncData} (F : Fun K "voters_of" "Valley.voters_of" mVotersOf f fd) (T : Txt K mg C) : FnOk P w K mg base CX0 1 f fd ["self", "v"] (spVotersOf C) := by
  refine F.ok scVotersOf (fun vs H Q E h => ?_) (fun cdv A outer sh H vs Q E hr h => ?_)
  · obtain ⟨va, s, v, rfl, _⟩ := h
    rfl
  · obtain ⟨va, s, v, rfl, S, G, k⟩ := h
    obtain ⟨dx, fs, u, r, t, h1, h2, h3, h4, h5, h6, h7, h8⟩ := S.ex
    refine ⟨_, pss_one (ps_ret (pe_lc (own := [("i", 2)]) rfl scVotersOf.nd (pi_range1 (by rfl) T.range (pa_cons (pe_callB call_len_seq (by rfl) T.len PySem.boot_len (pa_cons (pe_fld (pv 0) rfl) pa_nil)) pa_nil)) (blkOk_by (by rfl))
      (fun _ _ _ _ _ => pg_name (i := 2) scVotersOf.nd rfl (Or.inl rfl))
      (fun _ _ _ _ _ => pts_one (pt_cmpR op_eq (pe_ix (ix_l K) (pe_fldK K (pv 0) rfl) (pv 2) (fun _ _ => rfl)) (pv 1) (nomark _)))
      (fun _ _ _ _ _ => pv 2))), ?_⟩
    refine ⟨_, rfl, va, C, dx, fs, _, rfl, h1, T.cl, T.nT, h4, t, _, rfl, .inl (SqL.of h7), _, rfl, ?_, ?_, fun D hD => ?_⟩
    · omega
    · rw [nats_len]
      have := G.few
      omega
    refine lc_range (lo := 0) (fun j H' => Same H H' ∧ H' D = some (.lst (nats ((List.range j).filter fun i => s.votes.getD i 0 == v)))) ⟨Same.new hD, upd_same⟩ ?_ ?_
    · rw [nats_len]
      rintro j H' hj ⟨e, hD'⟩
      have hj' : j < s.votes.length := by omega
      have ez : (0 : Int) + (j : Nat) = (j : Int) := by omega
      refine ⟨rfl, _, rfl, va, C, dx, fs, _, rfl, e _ _ h1, T.cl, T.nT, h4, _, rfl, t, _, _, _, rfl, rfl, SqL.of (e _ _ h7), at_ints ez (vote_get hj'), _, rfl, rfl, _, rfl, ite2 (fun c => ?_) (fun c => ?_)⟩
      · have c1 : (s.votes.getD j 0 == v) = true := by
          have q := of_decide_eq_true c
          injection q with q
          exact beq_iff_eq.mpr (by omega)
        refine ⟨_, rfl, _, hD', ?_, e.put hD, ?_⟩
        · rw [nats_len]
          refine Nat.lt_of_le_of_lt (List.length_filter_le _ _) ?_
          rw [List.length_range]
          have := G.few
          exact Nat.lt_of_lt_of_le hj' (Nat.le_trans this (by decide))
        · rw [upd_same, List.range_succ, List.filter_append, List.filter_cons, if_pos c1, List.filter_nil, nats_append, ez]
          rfl
      · have c1 : ¬ (s.votes.getD j 0 == v) = true := fun q => c (decide_eq_true (by rw [beq_iff_eq.mp q]))
        refine ⟨e, ?_⟩
        rw [List.range_succ, List.filter_append, List.filter_cons, if_neg c1, List.filter_nil, List.append_nil]
        exact hD'
    · rw [nats_len, Int.toNat_natCast]
      rintro H2 ⟨e, hD'⟩
      exact k H2 D hD hD' e
end
end Rv
end
section
set_option Elab.async false
set_option linter.all false
set_option maxRecDepth 100000
set_option maxHeartbeats 4000000
/-! A set of small whole numbers: its table, as it is filled and as it is walked. -/
namespace Rv
open PySem
/-- numbers that rise -/
def Up (xs : Array Nat) : Prop := ∀ i j, i < j → j < xs.size → xs.getD i 0 < xs.getD j 0
theorem getD_at {xs : Array Nat} {i d : Nat} (h : i < xs.size) : xs.getD i d = xs.getD i 0 := by
  simp [Array.getD, h]
theorem below_go (xs : Array Nat) (j : Nat) (up : Up xs) : ∀ (fuel lo hi : Nat), hi - lo ≤ fuel → lo ≤ hi → hi ≤ xs.size → (∀ i, i < lo → xs.getD i 0 < j) → (∀ i, hi ≤ i → i < xs.size → j ≤ xs.getD i 0) →
    ∃ r, SetTable.below.go xs j fuel lo hi = r ∧ r ≤ xs.size ∧ (∀ i, i < r → xs.getD i 0 < j) ∧ ∀ i, r ≤ i → i < xs.size → j ≤ xs.getD i 0 := by
  intro fuel
  induction fuel with
  | zero =>
    intro lo hi h1 h2 h3 a b
    exact ⟨lo, rfl, by omega, a, fun i h => b i (by omega)⟩
  | succ fuel ih =>
    intro lo hi h1 h2 h3 a b
    unfold SetTable.below.go
    by_cases c : lo < hi
    · rw [if_pos c]
      have hm : (lo + hi) / 2 < xs.size := by omega
      dsimp only
      rw [getD_at hm]
      by_cases e : xs.getD ((lo + hi) / 2) 0 < j
      · rw [if_pos e]
        refine ih _ _ (by omega) (by omega) h3 (fun i hi' => ?_) b
        by_cases q : i = (lo + hi) / 2
        · rw [q]
          exact e
        · exact Nat.lt_trans (up i _ (by omega) hm) e
      · rw [if_neg e]
        refine ih _ _ (by omega) (by omega) (by omega) a fun i h5 h6 => ?_
        by_cases q : i = (lo + hi) / 2
        · rw [q]
          omega
        · have := up ((lo + hi) / 2) i (by omega) h6
          omega
    · rw [if_neg c]
      exact ⟨lo, rfl, by omega, a, fun i h => b i (by omega)⟩
theorem below_is {xs : Array Nat} {j : Nat} (up : Up xs) : SetTable.below xs j ≤ xs.size ∧ (∀ i, i < SetTable.below xs j → xs.getD i 0 < j) ∧ ∀ i, SetTable.below xs j ≤ i → i < xs.size → j ≤ xs.getD i 0 := by
  obtain ⟨r, e, h⟩ := below_go xs j up xs.size 0 xs.size (by omega) (by omega) (by omega) (fun i h => absurd h (by omega)) (fun i h h' => absurd h' (by omega))
  have e' : SetTable.below xs j = r := e
  rw [e']
  exact h
theorem below_zero {xs : Array Nat} (up : Up xs) : SetTable.below xs 0 = 0 := by
  obtain ⟨h1, h2, h3⟩ := below_is (j := 0) up
  by_cases q : SetTable.below xs 0 = 0
  · exact q
  · have := h2 0 (by omega)
    omega
theorem below_next {xs : Array Nat} (up : Up xs) {i : Nat} (hi : i < xs.size) : SetTable.below xs (xs.getD i 0 + 1) = i + 1 := by
  obtain ⟨h1, h2, h3⟩ := below_is (j := xs.getD i 0 + 1) up
  have a : ¬ SetTable.below xs (xs.getD i 0 + 1) ≤ i := fun q => by
    have := h3 i q hi
    omega
  have b : ¬ i + 1 < SetTable.below xs (xs.getD i 0 + 1) := fun q => by
    have := h2 (i + 1) q
    have := up i (i + 1) (by omega) (by omega)
    omega
  omega
/-- where a walk stands before its i-th item -/
def slotAt (xs : Array Nat) : Nat → Nat
  | 0 => 0
  | i + 1 => xs.getD i 0 + 1
theorem below_slot {xs : Array Nat} (up : Up xs) {i : Nat} (hi : i ≤ xs.size) : SetTable.below xs (slotAt xs i) = i := by
  cases i with
  | zero => exact below_zero up
  | succ i => exact below_next up (by omega)
/-! ### rising lists -/
theorem up_list {xs : Array Nat} (h : xs.toList.Pairwise (· < ·)) : Up xs := fun i j hij hj => by
  have := List.pairwise_iff_getElem.mp h i j (by simpa using (by omega : i < xs.size)) (by simpa using hj) hij
  have hi : i < xs.size := by omega
  simpa [Array.getD, hi, hj] using this
theorem inc_ext : ∀ {l m : List Nat}, l.Pairwise (· < ·) → m.Pairwise (· < ·) → (∀ x, x ∈ l ↔ x ∈ m) → l = m
  | [], [], _, _, _ => rfl
  | [], b :: m, _, _, h => absurd ((h b).mpr List.mem_cons_self) (by simp)
  | a :: l, [], _, _, h => absurd ((h a).mp List.mem_cons_self) (by simp)
  | a :: l, b :: m, hl, hm, h => by
    have e : a = b := by
      rcases List.mem_cons.mp ((h a).mp List.mem_cons_self) with q | q
      · exact q
      · rcases List.mem_cons.mp ((h b).mpr List.mem_cons_self) with q' | q'
        · exact q'.symm
        · have h1 := List.rel_of_pairwise_cons hl q'
          have h2 := List.rel_of_pairwise_cons hm q
          omega
    subst e
    refine congrArg (List.cons a) (inc_ext hl.of_cons hm.of_cons fun x => ⟨fun hx => ?_, fun hx => ?_⟩)
    · rcases List.mem_cons.mp ((h x).mp (List.mem_cons_of_mem _ hx)) with q | q
      · have := List.rel_of_pairwise_cons hl hx
        omega
      · exact q
    · rcases List.mem_cons.mp ((h x).mpr (List.mem_cons_of_mem _ hx)) with q | q
      · have := List.rel_of_pairwise_cons hm hx
        omega
      · exact q
/-- one more among rising numbers -/
theorem put_up {l : List Nat} {p j : Nat} (h : l.Pairwise (· < ·)) (h1 : ∀ i x, i < p → l[i]? = some x → x < j) (h2 : ∀ i x, p ≤ i → l[i]? = some x → j < x) : (l.take p ++ j :: l.drop p).Pairwise (· < ·) := by
  refine List.pairwise_append.mpr ⟨h.sublist (List.take_sublist _ _), List.pairwise_cons.mpr ⟨fun x hx => ?_, h.sublist (List.drop_sublist _ _)⟩, fun x hx y hy => ?_⟩
  · obtain ⟨i, hi⟩ := List.mem_iff_getElem?.mp hx
    rw [List.getElem?_drop] at hi
    exact h2 _ x (by omega) hi
  · obtain ⟨i, hi⟩ := List.mem_iff_getElem?.mp hx
    rw [List.getElem?_take] at hi
    split at hi
    · next c =>
      have hxj := h1 i x c hi
      rcases List.mem_cons.mp hy with q | q
      · omega
      · obtain ⟨k, hk⟩ := List.mem_iff_getElem?.mp q
        rw [List.getElem?_drop] at hk
        have := h2 _ y (by omega) hk
        omega
    · cases hi
end Rv
end
section
set_option Elab.async false
set_option linter.all false
set_option maxRecDepth 100000
set_option maxHeartbeats 4000000
namespace Rv
open PySem
theorem ins_list {α : Type} (xs : Array α) (p : Nat) (x : α) : (SetTable.insertAt xs p x).toList = xs.toList.take p ++ x :: xs.toList.drop p := by
  unfold SetTable.insertAt
  have e : List.take (xs.size - p) (List.drop p xs.toList) = List.drop p xs.toList := List.take_of_length_le (by rw [List.length_drop, Array.length_toList]; omega)
  simp [e]
theorem ins_size {α : Type} (xs : Array α) (p : Nat) (x : α) (h : p ≤ xs.size) : (SetTable.insertAt xs p x).size = xs.size + 1 := by
  rw [← Array.length_toList, ins_list, List.length_append, List.length_take, List.length_cons, List.length_drop, Array.length_toList]
  omega
theorem has_none (j : Nat) : SetTable.has #[] j = false := by
  unfold SetTable.has
  simp
/-- a number is laid at a free place -/
theorem lay_of {t : SetTable} {es : Array (Int × Value)} {h : Int} {x : Value} {j : Nat} (hf : t.freeSlot h = some (j, false)) (hd : t.dummies = #[]) (up : t.place.toList.Pairwise (· < ·)) (nj : j ∉ t.place.toList) (hs : t.place.size = es.size) (hm : es.size + 1 ≤ t.mask) :
    ∃ p, p ≤ es.size ∧ layNew t es h x = (SetTable.insertAt es p (h, x), { t with place := SetTable.insertAt t.place p j }, false, false) ∧ (t.place.toList.take p ++ j :: t.place.toList.drop p).Pairwise (· < ·) := by
  obtain ⟨b1, b2, b3⟩ := below_is (j := j) (up_list up)
  refine ⟨SetTable.below t.place j, by omega, ?_, put_up up (fun i y hi hy => ?_) fun i y hi hy => ?_⟩
  · unfold layNew
    rw [hf]
    have hp : t.put j = ({ t with place := SetTable.insertAt t.place (SetTable.below t.place j) j }, SetTable.below t.place j) := by
      unfold SetTable.put
      rw [hd, has_none]
      simp only [Bool.false_eq_true, if_false]
    dsimp only
    rw [hp]
    have ft : SetTable.fits { t with place := SetTable.insertAt t.place (SetTable.below t.place j) j } (SetTable.insertAt es (SetTable.below t.place j) (h, x)).size = true := by
      unfold SetTable.fits SetTable.fill
      dsimp only
      rw [ins_size _ _ _ b1, ins_size _ _ _ (by omega), hd]
      simp
      omega
    dsimp only
    unfold SetTable.orStandIn
    rw [if_pos ft, ft]
    rfl
  · have q := b2 i hi
    have hlt : i < t.place.size := by omega
    have e : t.place.getD i 0 = y := by
      rw [Array.getElem?_toList] at hy
      simp [Array.getD, hlt]
      exact (Array.getElem?_eq_some_iff.mp hy).2
    omega
  · rw [Array.getElem?_toList] at hy
    obtain ⟨hlt, e0⟩ := Array.getElem?_eq_some_iff.mp hy
    have q := b3 i hi hlt
    have e : t.place.getD i 0 = y := by
      simp [Array.getD, hlt]
      exact e0
    have ne : j ≠ y := fun z => nj (by
      rw [z, ← e0]
      simp)
    omega
/-- the place a number has of its own is free -/
theorem free_own {t : SetTable} {k : Nat} (up : t.place.toList.Pairwise (· < ·)) (hd : t.dummies = #[]) (hk : k < t.mask + 1) (hk2 : k < 12) (nk : k ∉ t.place.toList) : t.freeSlot (k : Int) = some (k, false) := by
  have hb : SetTable.bits (k : Int) = k := by
    unfold SetTable.bits
    omega
  have e : t.slot k = .empty := by
    unfold SetTable.slot
    dsimp only
    rw [hd, has_none]
    rw [if_neg (fun z => ?_)]
    · rfl
    · have z' : t.place[SetTable.below t.place k]? = some k := by simpa using z
      exact nk (by
        obtain ⟨hlt, e0⟩ := Array.getElem?_eq_some_iff.mp z'
        rw [← e0]
        simp)
  unfold SetTable.freeSlot SetTable.probe
  obtain ⟨f, hf⟩ : ∃ f, 10 * SetTable.turns t.mask = f + 1 := ⟨10 * SetTable.turns t.mask - 1, by unfold SetTable.turns; omega⟩
  rw [hf]
  unfold SetTable.probe.go
  have ej : (t.probeStart (k : Int)).j = k := by
    unfold SetTable.probeStart
    rw [hb]
    exact Nat.mod_eq_of_lt hk
  have ed : (t.probeStart (k : Int)).dummy = none := rfl
  rw [ej, e, ed]
  rfl
/-! ### eight places -/
def pick8 (a b c d e f g h : Bool) : List Nat := (if a then [0] else []) ++ (if b then [1] else []) ++ (if c then [2] else []) ++ (if d then [3] else []) ++ (if e then [4] else []) ++ (if f then [5] else []) ++ (if g then [6] else []) ++ (if h then [7] else [])
def free8 (l : List Nat) : Bool := decide (4 < l.length) || (List.range 12).all fun k => match SetTable.freeSlot { mask := 7, place := l.toArray, dummies := #[], finger := 0, led := true, moves := 0, plain := true } (k : Int) with
  | some (j, false) => decide (j < 8) && !l.contains j
  | _ => false
theorem free8_all : ∀ a b c d e f g h : Bool, free8 (pick8 a b c d e f g h) = true := by decide +kernel
theorem pick8_of {l : List Nat} (up : l.Pairwise (· < ·)) (h8 : ∀ x ∈ l, x < 8) : l = pick8 (l.contains 0) (l.contains 1) (l.contains 2) (l.contains 3) (l.contains 4) (l.contains 5) (l.contains 6) (l.contains 7) := by
  have e : pick8 (l.contains 0) (l.contains 1) (l.contains 2) (l.contains 3) (l.contains 4) (l.contains 5) (l.contains 6) (l.contains 7) = (List.range 8).filter fun x => l.contains x := by
    show _ = [0, 1, 2, 3, 4, 5, 6, 7].filter fun x => l.contains x
    unfold pick8
    simp only [List.filter_cons, List.filter_nil]
    cases l.contains 0 <;> cases l.contains 1 <;> cases l.contains 2 <;> cases l.contains 3 <;> cases l.contains 4 <;> cases l.contains 5 <;> cases l.contains 6 <;> cases l.contains 7 <;> rfl
  rw [e]
  refine inc_ext up ((List.pairwise_lt_range).filter _) fun x => ?_
  rw [List.mem_filter, List.mem_range, List.contains_iff_mem]
  exact ⟨fun h => ⟨h8 x h, h⟩, fun h => h.2⟩
theorem free_same {t t' : SetTable} (h1 : t.mask = t'.mask) (h2 : t.place = t'.place) (h3 : t.dummies = t'.dummies) (h : Int) : t.freeSlot h = t'.freeSlot h := by
  have hs : ∀ j, t.slot j = t'.slot j := fun j => by
    unfold SetTable.slot
    rw [h2, h3]
  have ha : ∀ p, t.advance p = t'.advance p := fun p => by
    unfold SetTable.advance
    rw [h1]
  have hg : ∀ (f : Int → Nat → Int) (n : Nat) (p : SetTable.Probe), SetTable.probe.go t (f h) h n p = SetTable.probe.go t' (f h) h n p := fun f n => by
    induction n with
    | zero => intro p; rfl
    | succ n ih =>
      intro p
      unfold SetTable.probe.go
      rw [hs]
      cases t'.slot p.j with
      | empty => rfl
      | dummy => dsimp only; rw [ha, ih]
      | live i => dsimp only; rw [ha, ih]
  unfold SetTable.freeSlot SetTable.probe SetTable.probeStart
  rw [h1]
  exact congrArg (fun z => match z with
    | some (SetTable.Met.empty j dummy) => some (dummy.getD j, dummy.isSome)
    | _ => none) (hg (fun h _ => h + 1) _ _)
theorem free_eight {t : SetTable} {k : Nat} (up : t.place.toList.Pairwise (· < ·)) (hd : t.dummies = #[]) (hm : t.mask = 7) (h8 : ∀ x ∈ t.place.toList, x < 8) (h4 : t.place.size ≤ 4) (hk : k < 12) : ∃ j, t.freeSlot (k : Int) = some (j, false) ∧ j < 8 ∧ j ∉ t.place.toList := by
  have q := free8_all (t.place.toList.contains 0) (t.place.toList.contains 1) (t.place.toList.contains 2) (t.place.toList.contains 3) (t.place.toList.contains 4) (t.place.toList.contains 5) (t.place.toList.contains 6) (t.place.toList.contains 7)
  rw [← pick8_of up h8] at q
  unfold free8 at q
  rw [Bool.or_eq_true] at q
  rcases q with q | q
  · have := of_decide_eq_true q
    rw [Array.length_toList] at this
    omega
  · have z := List.all_eq_true.mp q k (List.mem_range.mpr hk)
    rw [← free_same (t := t) (t' := { mask := 7, place := t.place.toList.toArray, dummies := #[], finger := 0, led := true, moves := 0, plain := true }) hm rfl hd] at z
    revert z
    cases e : t.freeSlot (k : Int) with
    | none => intro z; cases z
    | some r =>
      obtain ⟨j, b⟩ := r
      cases b with
      | true => intro z; cases z
      | false =>
        intro z
        have z' : (decide (j < 8) && !t.place.toList.contains j) = true := z
        rw [Bool.and_eq_true, Bool.not_eq_true'] at z'
        refine ⟨j, rfl, of_decide_eq_true z'.1, fun hj => ?_⟩
        rw [List.contains_iff_mem.mpr hj] at z'
        exact Bool.noConfusion z'.2
end Rv
end
section
set_option Elab.async false
set_option linter.all false
set_option maxRecDepth 100000
set_option maxHeartbeats 4000000
namespace Rv
open PySem
/-- one more in a clean table -/
def fLay (mask : Nat) (acc : Option (Array (Option Nat) × Nat)) (h : Int) : Option (Array (Option Nat) × Nat) := do
  let (owner, k) ← acc
  let j ← SetTable.layClean.free mask owner (SetTable.turns mask) (SetTable.bits h % (mask + 1)) (SetTable.bits h)
  pure (owner.setIfInBounds j (some k), k + 1)
theorem clean_eq (mask : Nat) (hs : Array Int) : SetTable.layClean mask hs = (hs.toList.foldl (fLay mask) (some (Array.replicate (mask + 1) none, 0))).map (·.1) := by
  rw [Array.foldl_toList]
  rfl
structure OW (ow : Array (Option Nat)) (P : List Int) : Prop where
  size : ow.size = 32
  fwd : ∀ (k : Nat) (h : Int), P[k]? = some h → ow.getD h.toNat none = some k
  bwd : ∀ j k : Nat, ow.getD j none = some k → P[k]? = some (j : Int)
theorem ow_step {ow : Array (Option Nat)} {P : List Int} (o : OW ow P) {n : Nat} (hn : n < 12) (nn : (n : Int) ∉ P) : fLay 31 (some (ow, P.length)) (n : Int) = some (ow.setIfInBounds n (some P.length), P.length + 1) ∧ OW (ow.setIfInBounds n (some P.length)) (P ++ [(n : Int)]) := by
  have hb : SetTable.bits (n : Int) = n := by
    unfold SetTable.bits
    omega
  have hs := o.size
  have en : ow.getD n none = none := by
    cases e : ow.getD n none with
    | none => rfl
    | some k => exact absurd (List.mem_of_getElem? (o.bwd n k e)) nn
  have ef : SetTable.layClean.free 31 ow (SetTable.turns 31) (SetTable.bits (n : Int) % (31 + 1)) (SetTable.bits (n : Int)) = some n := by
    rw [hb, Nat.mod_eq_of_lt (by omega)]
    show SetTable.layClean.free 31 ow (45 + 1) n n = some n
    unfold SetTable.layClean.free
    have er : SetTable.runEnd 31 n + 1 - n = 9 + 1 := by
      unfold SetTable.runEnd
      rw [if_pos (by omega)]
      omega
    have e0 : (ow.getD (n + 0) (some 0)).isNone = true := by
      have : ow.getD (n + 0) (some 0) = none := by
        have hlt : n < ow.size := by omega
        simp only [Array.getD, Nat.add_zero, hlt, dif_pos] at en ⊢
        exact en
      rw [this]
      rfl
    have eq : (List.range (SetTable.runEnd 31 n + 1 - n)).find? (fun k => (ow.getD (n + k) (some 0)).isNone) = some 0 := by
      rw [er, List.range_succ_eq_map, List.find?_cons, e0]
    rw [eq]
    rfl
  refine ⟨?_, ?_, fun k h hk => ?_, fun j k hj => ?_⟩
  · show (SetTable.layClean.free 31 ow _ _ _ >>= fun j => _) = _
    rw [ef]
    rfl
  · rw [Array.size_setIfInBounds]
    exact hs
  · by_cases c : k < P.length
    · rw [List.getElem?_append_left c] at hk
      have q := o.fwd k h hk
      have hne : n ≠ h.toNat := fun z => by
        rw [← z, en] at q
        cases q
      simp only [Array.getD_eq_getD_getElem?] at q ⊢
      rw [Array.getElem?_setIfInBounds, if_neg hne]
      exact q
    · rw [List.getElem?_append_right (by omega)] at hk
      have ek : k = P.length := by
        rcases Nat.lt_or_ge (k - P.length) 1 with z | z
        · omega
        · rw [List.getElem?_eq_none (by simpa using z)] at hk
          cases hk
      subst ek
      rw [Nat.sub_self] at hk
      have eh : h = (n : Int) := (Option.some.inj hk).symm
      subst eh
      simp only [Array.getD_eq_getD_getElem?, Int.toNat_natCast]
      rw [Array.getElem?_setIfInBounds, if_pos rfl, if_pos (by omega)]
      rfl
  · simp only [Array.getD_eq_getD_getElem?] at hj
    rw [Array.getElem?_setIfInBounds] at hj
    by_cases c : n = j
    · subst c
      rw [if_pos rfl, if_pos (by omega)] at hj
      have ek : P.length = k := by simpa using hj
      subst ek
      rw [List.getElem?_append_right (Nat.le_refl _), Nat.sub_self]
      rfl
    · rw [if_neg c] at hj
      have q := o.bwd j k (by simpa only [Array.getD_eq_getD_getElem?] using hj)
      rw [List.getElem?_append_left (List.getElem?_eq_some_iff.mp q).1]
      exact q
theorem ow_all : ∀ (hs P : List Int) (ow : Array (Option Nat)), OW ow P → (P ++ hs).Nodup → (∀ h ∈ hs, ∃ n : Nat, n < 12 ∧ h = n) → ∃ ow', hs.foldl (fLay 31) (some (ow, P.length)) = some (ow', (P ++ hs).length) ∧ OW ow' (P ++ hs)
  | [], P, ow, o, _, _ => ⟨ow, by rw [List.append_nil]; rfl, by rw [List.append_nil]; exact o⟩
  | h :: hs, P, ow, o, nd, sm => by
    obtain ⟨n, hn, rfl⟩ := sm h List.mem_cons_self
    have nn : (n : Int) ∉ P := fun z => (List.nodup_append.mp nd).2.2 _ z _ List.mem_cons_self rfl
    obtain ⟨e, o'⟩ := ow_step o hn nn
    have ea : P ++ (n : Int) :: hs = (P ++ [(n : Int)]) ++ hs := by simp
    obtain ⟨ow', e1, o1⟩ := ow_all hs (P ++ [(n : Int)]) _ o' (by rw [← ea]; exact nd) fun x hx => sm x (List.mem_cons_of_mem _ hx)
    refine ⟨ow', ?_, by rw [ea]; exact o1⟩
    rw [List.foldl_cons, e, ea, ← e1, List.length_append]
    rfl
theorem ow_nil : OW (Array.replicate (31 + 1) none) [] := ⟨by simp, fun k h hk => by simp at hk, fun j k hj => by
  simp only [Array.getD_eq_getD_getElem?, Array.getElem?_replicate] at hj
  split at hj <;> simp at hj⟩
/-- the places in use, each with whose it is -/
def liveOf (ow : Array (Option Nat)) : List (Nat × Nat) := (List.range (31 + 1)).filterMap fun j => (ow.getD j none).map (j, ·)
theorem live_up (ow : Array (Option Nat)) : (liveOf ow).Pairwise fun a b => a.1 < b.1 := by
  unfold liveOf
  refine List.pairwise_filterMap.mpr ((List.pairwise_lt_range (n := 31 + 1)).imp fun {a b} hab x hx y hy => ?_)
  obtain ⟨k, _, rfl⟩ := Option.map_eq_some_iff.mp hx
  obtain ⟨k', _, rfl⟩ := Option.map_eq_some_iff.mp hy
  exact hab
theorem live_mem {ow : Array (Option Nat)} {j k : Nat} : (j, k) ∈ liveOf ow ↔ j < 32 ∧ ow.getD j none = some k := by
  unfold liveOf
  rw [List.mem_filterMap]
  constructor
  · rintro ⟨a, ha, e⟩
    obtain ⟨k', h', e'⟩ := Option.map_eq_some_iff.mp e
    injection e' with e1 e2
    subst e1 e2
    exact ⟨List.mem_range.mp ha, h'⟩
  · rintro ⟨h1, h2⟩
    exact ⟨j, List.mem_range.mpr h1, by rw [h2]; rfl⟩
theorem relay_of {t : SetTable} {es : Array (Int × Value)} (hn : es.size = 5) (nd : (es.toList.map (·.1)).Nodup) (sm : ∀ e ∈ es.toList, ∃ n : Nat, n < 12 ∧ e.1 = n) :
    ∃ es' pl, relayAll t es (SetTable.grown es.size) = (es', { mask := 31, place := pl, dummies := #[], finger := t.finger, led := t.led, moves := t.movedTo 31, plain := t.plain }, false) ∧ pl.toList.Pairwise (· < ·) ∧ pl.toList.map Int.ofNat = es'.toList.map (·.1) := by
  obtain ⟨ow, e1, o⟩ := ow_all (es.toList.map (·.1)) [] _ ow_nil (by simpa using nd) fun h hh => by
    obtain ⟨e, he, rfl⟩ := List.mem_map.mp hh
    exact sm e he
  rw [List.nil_append] at e1 o
  have el : t.relaid (es.map (·.1)) (SetTable.grown es.size) = some ({ mask := 31, place := ((liveOf ow).map (·.1)).toArray, dummies := #[], finger := t.finger, led := t.led, moves := t.movedTo 31, plain := t.plain }, ((liveOf ow).map (·.2)).toArray) := by
    rw [hn]
    show SetTable.laid 31 _ _ _ _ _ = _
    unfold SetTable.laid
    rw [clean_eq, Array.toList_map]
    show Option.bind (Option.map _ (List.foldl (fLay 31) (some (Array.replicate (31 + 1) none, ([] : List Int).length)) _)) _ = _
    rw [e1]
    rfl
  have lt_of : ∀ {j k : Nat}, (j, k) ∈ liveOf ow → ∃ e, es[k]? = some e ∧ e.1 = (j : Int) := fun {j k} hm => by
    have q := o.bwd j k (live_mem.mp hm).2
    rw [List.getElem?_map, Array.getElem?_toList] at q
    obtain ⟨e, h1, h2⟩ := Option.map_eq_some_iff.mp q
    exact ⟨e, h1, h2⟩
  have ndo : ((liveOf ow).map (·.2)).Nodup := by
    refine List.pairwise_map.mpr ((live_up ow).imp_of_mem fun {a b} ha hb hab z => ?_)
    obtain ⟨e, h1, h2⟩ := lt_of (j := a.1) (k := a.2) ha
    obtain ⟨e', h1', h2'⟩ := lt_of (j := b.1) (k := b.2) hb
    rw [← z, h1] at h1'
    have ee := Option.some.inj h1'
    subst ee
    omega
  have per : ((liveOf ow).map (·.2)).Perm (List.range es.size) := by
    refine (List.perm_ext_iff_of_nodup ndo List.nodup_range).mpr fun k => ?_
    rw [List.mem_range]
    constructor
    · intro h
      obtain ⟨⟨j, k'⟩, hm, rfl⟩ := List.mem_map.mp h
      obtain ⟨e, h1, _⟩ := lt_of hm
      exact (Array.getElem?_eq_some_iff.mp h1).1
    · intro h
      have hk : (es.toList.map (·.1))[k]? = some es[k].1 := by
        rw [List.getElem?_map, Array.getElem?_toList, Array.getElem?_eq_getElem h]
        rfl
      obtain ⟨n, hn12, en⟩ := sm es[k] (by simp)
      have q := o.fwd k _ hk
      rw [en, Int.toNat_natCast] at q
      exact List.mem_map.mpr ⟨(n, k), live_mem.mpr ⟨by omega, q⟩, rfl⟩
  have fm : ∀ l : List (Nat × Nat), (∀ p ∈ l, ∃ e, es[p.2]? = some e ∧ e.1 = (p.1 : Int)) → ((l.map (·.2)).filterMap (es[·]?)).map (·.1) = (l.map (·.1)).map Int.ofNat := by
    intro l
    induction l with
    | nil => intro _; rfl
    | cons p l ih =>
      intro h
      obtain ⟨e, h1, h2⟩ := h p List.mem_cons_self
      rw [List.map_cons, List.filterMap_cons, h1, List.map_cons, ih fun q hq => h q (List.mem_cons_of_mem _ hq), List.map_cons, List.map_cons, h2]
      rfl
  have fm' := fm (liveOf ow) fun p hp => lt_of (j := p.1) (k := p.2) hp
  have ees : (((liveOf ow).map (·.2)).toArray.filterMap (es[·]?)).toList = ((liveOf ow).map (·.2)).filterMap (es[·]?) := by simp
  refine ⟨((liveOf ow).map (·.2)).toArray.filterMap (es[·]?), ((liveOf ow).map (·.1)).toArray, ?_, ?_, ?_⟩
  · unfold relayAll
    rw [el]
    dsimp only
    have sz : (((liveOf ow).map (·.2)).toArray.filterMap (es[·]?)).size = ((liveOf ow).map (·.1)).toArray.size := by
      rw [← Array.length_toList, ees, ← List.length_map (f := (·.1)), fm']
      simp
    have c1 : coversAll ((liveOf ow).map (·.2)).toArray es.size = true := by
      unfold coversAll
      exact List.isPerm_iff.mpr per
    have c2 : SetTable.fits { mask := 31, place := ((liveOf ow).map (·.1)).toArray, dummies := #[], finger := t.finger, led := t.led, moves := t.movedTo 31, plain := t.plain } (((liveOf ow).map (·.2)).toArray.filterMap (es[·]?)).size = true := by
      unfold SetTable.fits SetTable.fill
      rw [sz]
      have l5 := per.length_eq
      rw [List.length_map, List.length_range, hn] at l5
      simp [l5]
    rw [c1, c2]
    rfl
  · exact List.pairwise_map.mpr (live_up ow)
  · rw [ees]
    exact fm'.symm
end Rv
end
section
set_option Elab.async false
set_option linter.all false
set_option maxRecDepth 100000
set_option maxHeartbeats 4000000
namespace Rv
open PySem
/-- a table that is known -/
structure Tb (t : SetTable) (es : Array (Int × Value)) : Prop where
  led : t.led = true
  plain : t.plain = true
  dum : t.dummies = #[]
  up : t.place.toList.Pairwise (· < ·)
  size : t.place.size = es.size
  kind : (t.mask = 7 ∧ es.size ≤ 4 ∧ ∀ x ∈ t.place.toList, x < 8) ∨ (t.mask = 31 ∧ t.place.toList.map Int.ofNat = es.toList.map (·.1))
/-- whether a set's order is the text's -/
abbrev byT (w : World) : Bool := w.params.followText "set-order"
/-- what a set of small numbers holds -/
structure SetH (w : World) (l : List Nat) (n : Nat) (es : Array (Int × Value)) (t : SetTable) : Prop where
  el : ∀ e ∈ es.toList, ∃ (k : Nat) (tk : Tok), k < 12 ∧ e = ((k : Int), .int (k : Int) tk)
  nd : (es.toList.map (·.1)).Nodup
  mem : ∀ k : Nat, k ∈ l ↔ (k : Int) ∈ es.toList.map (·.1)
  few : es.size ≤ n
  fits : t.fits es.size = true
  tab : byT w = true ∨ Tb t es
def SetW (w : World) (h : Heap) (a : Addr) (l : List Nat) (n : Nat) : Prop := ∃ o es ep t, h.get? a = some o ∧ o.ExactSet ∧ o.data = .set es ep t ∧ SetH w l n es t
theorem hash_small : ∀ k : Nat, k < 12 → hashInt (k : Int) = k := by decide
section
variable {prog : Program} {w : World} {A : Around} {E : Value → Shared → Prop} {s : Shared}
theorem SetH.elems {l : List Nat} {n : Nat} {es : Array (Int × Value)} {t : SetTable} (x : SetH w l n es t) : ElemsOf (intKind prog w) es.toList := fun e he => by
  obtain ⟨k, tk, hk, rfl⟩ := x.el e he
  exact ⟨⟨k, intKind_is _ _ _ _, (hash_small k hk).symm⟩, rfl⟩
theorem put_at {h : Heap} {a : Addr} {o : Obj} {es es' : Array (Int × Value)} {ep : Nat} {t t' : SetTable} (ho : h.get? a = some o) (hd : o.data = .set es ep t) : (h.update a (Obj.putSet es' t')).get? a = some { o with data := .set es' (ep + 1) t' } := by
  rw [← putSet_of es' t' hd]
  exact Heap.get?_update_self (Obj.putSet es' t') ho (by rw [putSet_of es' t' hd]; rfl)
/-- one more number is laid, the table known -/
theorem lay_tb {es : Array (Int × Value)} {t : SetTable} {l : List Nat} {n k : Nat} {x : Value} (b : Tb t es) (x0 : SetH w l n es t) (hk : k < 12) (hn : n < 12) (nk : (k : Int) ∉ es.toList.map (·.1)) :
    ∃ p t1, p ≤ es.size ∧ layNew t es (k : Int) x = (SetTable.insertAt es p ((k : Int), x), t1, false, false) ∧ t1.plain = true ∧ (Tb t1 (SetTable.insertAt es p ((k : Int), x)) ∧ t1.tooFull = false ∨
      (t1.led = true ∧ es.size = 4 ∧ t1.tooFull = true)) := by
  have hfew := x0.few
  rcases b.kind with ⟨m7, h4, h8⟩ | ⟨m31, hpl⟩
  · obtain ⟨j, hf, hj, nj⟩ := free_eight b.up b.dum m7 h8 (by rw [b.size]; exact h4) hk
    obtain ⟨p, hp, e, up'⟩ := lay_of (x := x) hf b.dum b.up nj b.size (by rw [m7]; omega)
    have sz : (SetTable.insertAt t.place p j).size = es.size + 1 := by rw [ins_size _ _ _ (by rw [b.size]; exact hp), b.size]
    refine ⟨p, _, hp, e, b.plain, ?_⟩
    by_cases c : es.size = 4
    · refine .inr ⟨b.led, c, ?_⟩
      unfold SetTable.tooFull SetTable.fill
      dsimp only
      rw [sz, b.dum, m7, c]
      rfl
    · refine .inl ⟨⟨b.led, b.plain, b.dum, by rw [ins_list]; exact up', by rw [sz, ins_size _ _ _ hp], .inl ⟨m7, by rw [ins_size _ _ _ hp]; omega, fun y hy => ?_⟩⟩, ?_⟩
      · rw [ins_list] at hy
        rcases List.mem_append.mp hy with q | q
        · exact h8 y (List.mem_of_mem_take q)
        · rcases List.mem_cons.mp q with q | q
          · omega
          · exact h8 y (List.mem_of_mem_drop q)
      · unfold SetTable.tooFull SetTable.fill
        dsimp only
        rw [sz, b.dum, m7]
        exact decide_eq_false (by simp; omega)
  · have nk' : k ∉ t.place.toList := fun z => nk (by
      rw [← hpl]
      exact List.mem_map.mpr ⟨k, z, rfl⟩)
    have hf := free_own b.up b.dum (by rw [m31]; omega) hk nk'
    obtain ⟨p, hp, e, up'⟩ := lay_of (x := x) hf b.dum b.up nk' b.size (by rw [m31]; omega)
    have sz : (SetTable.insertAt t.place p k).size = es.size + 1 := by rw [ins_size _ _ _ (by rw [b.size]; exact hp), b.size]
    refine ⟨p, _, hp, e, b.plain, .inl ⟨⟨b.led, b.plain, b.dum, by rw [ins_list]; exact up', by rw [sz, ins_size _ _ _ hp], .inr ⟨m31, ?_⟩⟩, ?_⟩⟩
    · rw [ins_list, ins_list, List.map_append, List.map_append, List.map_cons, List.map_cons, List.map_take, List.map_drop, List.map_take, List.map_drop, hpl]
      rfl
    · unfold SetTable.tooFull SetTable.fill
      dsimp only
      rw [sz, b.dum, m31]
      exact decide_eq_false (by simp; omega)
theorem SetH.perm {l : List Nat} {n : Nat} {es es' : Array (Int × Value)} {t t' : SetTable} (x : SetH w l n es t) (p : es'.toList.Perm es.toList) (f : t'.fits es'.size = true) (b : byT w = true ∨ Tb t' es') : SetH w l n es' t' :=
  ⟨fun e he => x.el e (p.mem_iff.mp he), (p.map _).nodup_iff.mpr x.nd, fun k => (x.mem k).trans ((p.map (·.1)).mem_iff).symm, by rw [← Array.length_toList, p.length_eq, Array.length_toList]; exact x.few, f, b⟩
theorem add_W {a : Addr} {l : List Nat} {n k : Nat} {tk : Tok} {Q : Bool → Shared → Prop} (hk : k < 12) (hS : SetW w s.heap a l n) (hn : n < 12)
    (h : ∀ h' b, Heap.SameBut a s.heap h' → SetW w h' a (k :: l) (n + 1) → Q b { s with heap := h' }) : wpAny (model prog w) A (setAddHashed a (.int (k : Int) tk) (hashInt (k : Int))) Q E s := by
  obtain ⟨o, es, ep, t, ho, hex, hd, x⟩ := hS
  have hel : ElemsOf (intKind prog w) es.toList := x.elems
  have hfew := x.few
  have hkey : (intKind prog w).is (k : Int) (.int (k : Int) tk) = true := intKind_is _ _ _ _
  have hb : es.size < scanBound := by unfold scanBound; omega
  unfold setAddHashed setAddHashedIn
  refine wpAny_holding (wpAny_bind (wpAny_setState_of ho hd x.fits ?_))
  dsimp only
  rw [byScan_of (knd := intKind prog w) (x := .int (k : Int) tk) rfl hb hel]
  simp only [↓reduceIte]
  unfold setAddByScan
  refine wpAny_bind (wpAny_bind (wpAny_rule (wpAny_bind (wpAny_setScan_of (knd := intKind prog w) hkey ho hd x.fits hel ?_))))
  cases hr : List.findIdx? (fun e => (intKind prog w).is (k : Int) e.2) es.toList with
  | some j =>
    dsimp only
    obtain ⟨hj, hpj, _⟩ := List.findIdx?_eq_some_iff_getElem.mp hr
    have hin : (k : Int) ∈ es.toList.map (·.1) := by
      obtain ⟨k', tk', hk', e⟩ := x.el _ (List.getElem_mem hj)
      rw [e] at hpj
      obtain ⟨t', e'⟩ := Value.isInt_shape (k := (k : Int)) (v := .int (k' : Int) tk') hpj
      injection e' with e' _
      refine List.mem_map.mpr ⟨_, List.getElem_mem hj, ?_⟩
      rw [e]
      exact e'
    refine wpAny_pure (wpAny_pure ?_)
    have q := h s.heap false (Heap.SameBut.refl a s.heap) ⟨o, es, ep, t, ho, hex, hd, x.el, x.nd, fun k' => ?_, by omega, x.fits, x.tab⟩
    · exact q
    · rw [List.mem_cons, x.mem k']
      exact ⟨fun z => z.elim (fun z => z ▸ hin) id, .inr⟩
  | none =>
    dsimp only
    have nin : (k : Int) ∉ es.toList.map (·.1) := fun z => by
      obtain ⟨e, he, ek⟩ := List.mem_map.mp z
      obtain ⟨k', tk', hk', e0⟩ := x.el e he
      have q := List.findIdx?_eq_none_iff.mp hr e he
      rw [e0] at q ek
      have ek' : (k' : Int) = (k : Int) := ek
      rw [← ek'] at q
      rw [show (intKind prog w).is (k' : Int) (.int (k' : Int) tk') = true from intKind_is _ _ _ _] at q
      cases q
    have hh : hashInt (k : Int) = (k : Int) := hash_small k hk
    rw [hh]
    -- what holds whatever way it is laid
    have all : ∀ (es1 : Array (Int × Value)) (t1 : SetTable), es1.toList.Perm (es.toList ++ [((k : Int), .int (k : Int) tk)]) → t1.fits es1.size = true → (byT w = true ∨ Tb t1 es1) → SetH w (k :: l) (n + 1) es1 t1 := fun es1 t1 p f b => by
      refine ⟨fun e he => ?_, ?_, fun k' => ?_, ?_, f, b⟩
      · rcases List.mem_append.mp (p.mem_iff.mp he) with q | q
        · exact x.el e q
        · exact ⟨k, tk, hk, by simpa using q⟩
      · refine (p.map (·.1)).nodup_iff.mpr ?_
        rw [List.map_append]
        refine List.nodup_append.mpr ⟨x.nd, by simp, fun u hu v hv z => ?_⟩
        have hv' : v = (k : Int) := by simpa using hv
        rw [z, hv'] at hu
        exact nin hu
      · rw [List.mem_cons, x.mem k', (p.map (·.1)).mem_iff, List.map_append, List.mem_append]
        constructor
        · rintro (z | z)
          · exact .inr (by rw [z]; simp)
          · exact .inl z
        · rintro (z | z)
          · exact .inr z
          · have : (k' : Int) = (k : Int) := by simpa using z
            exact .inl (by omega)
      · rw [← Array.length_toList, p.length_eq, List.length_append, Array.length_toList]
        show es.size + 1 ≤ n + 1
        omega
    have hperm := layNew_perm t es (k : Int) (.int (k : Int) tk)
    have hfits := layNew_fits t es (k : Int) (.int (k : Int) tk)
    rw [Array.toList_push] at hperm
    have tbl : byT w = true ∨ Tb t es := x.tab
    -- the table behind it
    have nxt : ∀ es1 t1 wd gv, layNew t es (k : Int) (.int (k : Int) tk) = (es1, t1, wd, gv) → byT w = true ∨ (Tb t1 es1 ∧ t1.tooFull = false) ∨ ∃ es2 t2, relayAll t1 es1 (SetTable.grown es1.size) = (es2, t2, false) ∧ Tb t2 es2 ∧ wd = false ∧ t1.tooFull = true := by
      intro es1 t1 wd gv e
      rcases tbl with z | b
      · exact .inl z
      · refine .inr ?_
        obtain ⟨p, t1', hp, e', pl, q⟩ := lay_tb (x := .int (k : Int) tk) b x hk hn nin
        rw [e] at e'
        injection e' with e1 e2
        injection e2 with e2 e3
        injection e3 with e3 e4
        subst e1 e2 e3 e4
        rcases q with ⟨q1, q2⟩ | ⟨q1, q2, q3⟩
        · exact .inl ⟨q1, q2⟩
        · refine .inr ?_
          rw [e] at hperm
          have x1 := fun (f : t1.fits _ = true) z => all _ t1 hperm f z
          have s5 : (SetTable.insertAt es p ((k : Int), Value.int (k : Int) tk)).size = 5 := by rw [ins_size _ _ _ hp, q2]
          have nd1 : ((SetTable.insertAt es p ((k : Int), Value.int (k : Int) tk)).toList.map (·.1)).Nodup := by
            refine (hperm.map (·.1)).nodup_iff.mpr ?_
            rw [List.map_append]
            refine List.nodup_append.mpr ⟨x.nd, by simp, fun u hu v hv z => ?_⟩
            have hv' : v = (k : Int) := by simpa using hv
            rw [z, hv'] at hu
            exact nin hu
          obtain ⟨es2, pl2, r1, r2, r3⟩ := relay_of (t := t1) s5 nd1 fun e he => by
            rcases List.mem_append.mp (hperm.mem_iff.mp he) with z | z
            · obtain ⟨k', _, hk', rfl⟩ := x.el e z
              exact ⟨k', hk', rfl⟩
            · have z' : e = ((k : Int), .int (k : Int) tk) := by simpa using z
              exact ⟨k, hk, by rw [z']⟩
          refine ⟨es2, _, r1, ⟨q1, pl, rfl, r2, ?_, .inr ⟨rfl, r3⟩⟩, rfl, q3⟩
          have := congrArg List.length r3
          rw [List.length_map, List.length_map, Array.length_toList, Array.length_toList] at this
          exact this
    generalize hL : layNew t es (k : Int) (.int (k : Int) tk) = L at hperm hfits ⊢
    obtain ⟨es1, t1, wd, gv⟩ := L
    have nx := nxt es1 t1 wd gv hL
    dsimp only at hperm hfits ⊢
    have sz1 : es1.size < scanBound := by
      rw [← Array.length_toList, hperm.length_eq, List.length_append, Array.length_toList]
      unfold scanBound
      show es.size + 1 < 4096
      omega
    have gw : ∀ (b : Bool) (s₁ : Shared) (Q' : Unit → Shared → Prop), Q' () s₁ → wpAny (model prog w) A (match b with | true => rule "set.scan.the-table-gave-way" | false => pure ()) Q' E s₁ := fun b s₁ Q' hq => by
      cases b
      · exact wpAny_pure hq
      · exact wpAny_rule hq
    refine wpAny_bind (gw _ _ _ ?_)
    -- the value's hash is its own
    have tail : wpAny (model prog w) A (do
        storeSet a es1 t1
        if (!wd && t1.tooFull) = true then do
            (match (relayAll t1 es1 (SetTable.grown es1.size)).2.2 with | true => rule "set.scan.the-table-gave-way" | false => pure ())
            storeSet a (relayAll t1 es1 (SetTable.grown es1.size)).1 (relayAll t1 es1 (SetTable.grown es1.size)).2.1
            pure (some true)
          else pure (some true)) (fun r s' => wpAny (model prog w) A (match r with | some added => pure added | none => setAddHashedIn a (.int (k : Int) tk) (k : Int) 99999) Q E s') E s := by
      refine wpAny_bind (wpAny_storeSet_of ho hd ?_ (fits_of_scanBound sz1))
      have ho1 := put_at (es' := es1) (t' := t1) ho hd
      have sb1 := Heap.SameBut.update s.heap a (Obj.putSet es1 t1)
      by_cases c : (!wd && t1.tooFull) = true
      · rw [if_pos c]
        refine wpAny_bind (gw _ _ _ ?_)
        have rp := relayAll_perm t1 es1 (SetTable.grown es1.size)
        have rf := relayAll_fits t1 es1 (SetTable.grown es1.size)
        have sz2 : (relayAll t1 es1 (SetTable.grown es1.size)).1.size < scanBound := by
          rw [← Array.length_toList, rp.length_eq, Array.length_toList]
          exact sz1
        refine wpAny_bind (wpAny_storeSet_of ho1 rfl ?_ (fits_of_scanBound sz2))
        have ho2 := put_at (es' := (relayAll t1 es1 (SetTable.grown es1.size)).1) (t' := (relayAll t1 es1 (SetTable.grown es1.size)).2.1) ho1 rfl
        refine wpAny_pure (wpAny_pure (h _ true (sb1.trans (Heap.SameBut.update _ a _)) ⟨_, _, _, _, ho2, hex, rfl, all _ _ (rp.trans hperm) rf ?_⟩))
        rcases nx with z | ⟨_, z⟩ | ⟨es2, t2, e, b2, _, _⟩
        · exact .inl z
        · rw [z] at c
          simp at c
        · rw [e]
          exact .inr b2
      · rw [if_neg c]
        refine wpAny_pure (wpAny_pure (h _ true sb1 ⟨_, _, _, _, ho1, hex, rfl, all _ _ hperm hfits ?_⟩))
        rcases nx with z | ⟨z, _⟩ | ⟨es2, t2, _, _, z1, z2⟩
        · exact .inl z
        · exact .inr z
        · rw [z1, z2] at c
          exact absurd rfl c
    split
    · refine wpAny_bind ?_
      rw [hashByValue_scannable 8 (x := .int (k : Int) tk) rfl]
      refine wpAny_pure ?_
      exact tail
    · refine wpAny_bind (wpAny_pure ?_)
      exact tail
end
end Rv
end
section
set_option Elab.async false
set_option linter.all false
set_option maxRecDepth 100000
set_option maxHeartbeats 4000000
namespace Rv
open PySem PySem.Spec PyProof.Rows
/-- the numbers that were met -/
def met (val : Nat → Nat) : Nat → List Nat
  | 0 => []
  | i + 1 => val i :: met val i
theorem met_mem (val : Nat → Nat) : ∀ (i k : Nat), k ∈ met val i ↔ ∃ j, j < i ∧ val j = k
  | 0, k => by
    show k ∈ ([] : List Nat) ↔ _
    exact ⟨fun h => (by cases h), fun ⟨j, h, _⟩ => absurd h (by omega)⟩
  | i + 1, k => by
    show k ∈ val i :: met val i ↔ _
    rw [List.mem_cons, met_mem val i k]
    constructor
    · rintro (rfl | ⟨j, h, e⟩)
      · exact ⟨i, by omega, rfl⟩
      · exact ⟨j, by omega, e⟩
    · rintro ⟨j, h, e⟩
      by_cases z : j = i
      · rw [← e, z]
        exact .inl rfl
      · exact .inr ⟨j, by omega, e⟩
theorem SetW.at {w : World} {h h' : Heap} {a : Addr} {l : List Nat} {n : Nat} (x : SetW w h a l n) (e : ∀ o, h.get? a = some o → h'.get? a = some o) : SetW w h' a l n := by
  obtain ⟨o, es, ep, t, ho, r⟩ := x
  exact ⟨o, es, ep, t, e _ ho, r⟩
section
variable {prog : Program} {w : World} {A : Around} {R : Result → Shared → Prop} {I : Addr} {fp wr : List Addr} {G : Array GenState → Array GenState → Prop} {n : Nat} {P : Nat → Value → Prop} {St : Nat → Shared → Prop}
theorem fill_W (W : WalksS prog w A.in1 I fp wr G n P St) (a : Addr) (na : a ∉ fp) (val : Nat → Nat) (hval : ∀ i v, P i v → i < n → val i < 12 ∧ ∃ t, v = .int (val i : Int) t) (hn : n ≤ 12) :
    ∀ (k i : Nat) (s : Shared), n - i = k → i ≤ n → St i s → SetW w s.heap a (met val i) i →
      (∀ s', Moved (a :: wr) G s s' → SetW w s'.heap a (met val n) n → R (.ok (.ret .none)) s') → codeAny (model prog w) A (.builtin "set.update.loop" ⟨[.ref a, .ref I], []⟩) R s := by
  have naw : a ∉ wr := fun z => na (W.sub _ z)
  have sub : ∀ b ∈ wr, b ∈ a :: wr := fun b z => List.mem_cons_of_mem _ z
  intro k
  induction k with
  | zero =>
    intro i s hk hi st hS fin
    obtain rfl : i = n := by omega
    refine codeAny_builtin PyProof.Rows.F.entry_set_update_loop ?_
    rw [Around.under_plainId PyProof.Rows.F.plain_set_update_loop _]
    show wpAny _ A.in1 (pyNext (Value.ref I) >>= _) _ _ s
    refine wpAny_bind (W.done s _ _ st fun s' mv => ?_)
    show wpAny _ A.in1 (ret (.none : Value)) _ _ s'
    exact wpAny_pure (fin s' (mv.mono sub) (hS.at fun o e => mv.heap a o naw e))
  | succ k ih =>
    intro i s hk hi st hS fin
    have lt : i < n := by omega
    refine codeAny_builtin PyProof.Rows.F.entry_set_update_loop ?_
    rw [Around.under_plainId PyProof.Rows.F.plain_set_update_loop _]
    show wpAny _ A.in1 (pyNext (Value.ref I) >>= _) _ _ s
    refine wpAny_bind (W.item i s _ _ lt st fun v s' hP st' mv => ?_)
    obtain ⟨h12, t, rfl⟩ := hval i v hP lt
    have hS' : SetW w s'.heap a (met val i) i := hS.at fun o e => mv.heap a o naw e
    show wpAny _ A.in1 (holding [Value.int (val i : Int) t] (setAdd a (.int (val i : Int) t)) >>= _) _ _ s'
    refine wpAny_bind (wpAny_holding ?_)
    unfold setAdd
    refine wpAny_holding (wpAny_bind ((intKind prog w).pyHash (k := (val i : Int)) (intKind_is _ _ _ _) ?_))
    refine add_W (s := { s' with toks := s'.toks + 1 }) h12 hS' (by omega) fun h' b sb hS2 => ?_
    refine wpAny_pure ⟨plainId_quiet PyProof.Rows.F.plain_set_update_loop _, ih (i + 1) _ (by omega) lt (W.frame _ s' _ _ st' (Nat.le_succ _) fun c hc o e => ?_) hS2 fun s2 mv2 hS3 => ?_⟩
    · rw [sb.2 c (fun z : c = a => na (by rw [← z]; exact hc))]
      exact e
    · refine fin s2 (Moved.trans W.gtrans ((mv.mono sub).then_heap (Nat.le_succ _) fun c o hc e => ?_) mv2) hS3
      rw [sb.2 c (fun z : c = a => hc (by rw [z]; exact List.mem_cons_self))]
      exact e
end
/-- a set that is new -/
abbrev newSetObj (w : World) : Obj := { cls := .type "set", dict := none, data := .set #[] 0 (.fresh 0 0 (!byT w)) }
theorem newSet_W {w : World} {h : Heap} {a : Addr} (e : h.get? a = some (newSetObj w)) : SetW w h a [] 0 :=
  ⟨_, #[], 0, _, e, ⟨rfl, rfl, rfl⟩, rfl, fun x hx => by simp at hx, by simp, fun k => by simp, Nat.le_refl _, rfl, by
    cases z : byT w with
    | true => exact .inl rfl
    | false => exact .inr ⟨rfl, rfl, rfl, by simp [SetTable.fresh], rfl, .inl ⟨rfl, by simp, by simp [SetTable.fresh]⟩⟩⟩
section
variable {prog : Program} {w : World} {A : Around} {E : Value → Shared → Prop} {s : Shared}
theorem code_new (v : Value) {Q1 : Value → Shared → Prop} (h : Q1 (.ref s.heap.objs.size) { s with heap := s.heap.push (newSetObj w) }) :
    codeAny (model prog w) A (.call (.builtin "set.__new__") ⟨[.type "set", v], []⟩) (wants Q1 E) s := by
  refine codeAny_of_tree ?_
  show wpAny _ A.in1 (checkBuiltinCall "set.__new__" ⟨[.type "set", v], []⟩ >>= fun _ => again (.builtin "set.__new__" ⟨[.type "set", v], []⟩)) _ _ s
  refine wpAny_bind (wpAny_of_eq (PySem.F.newCall_set_1 v) (wpAny_pure ⟨plainId_quiet PySem.F.plain_set_new _, codeAny_builtin PySem.F.entry_set_new ?_⟩))
  rw [Around.under_plainId PySem.F.plain_set_new _]
  unfold Builtin.«set.__new__» Builtin.Frozenset.newClass
  have sub0 := sub_set_self
  obtain ⟨hp, g, d, tk, os⟩ := s
  dsimp only
  wp_walk
  refine wpAny_askSetting (wpAny_pure ?_)
  dsimp only
  simp only [newObj]
  exact wpAny_bind (wpAny_alloc (wpAny_pure (wpAny_pure h)))
theorem call_setW {x0 : Addr} {its : Array Value} {val : Nat → Nat} {Q : Value → Shared → Prop} (hh : A.handled = none) (hl : s.heap.IsList x0 its) (hv : ∀ i v, its[i]? = some v → val i < 12 ∧ ∃ t, v = .int (val i : Int) t) (hn : its.size ≤ 12)
    (h : ∀ (h' : Heap) (tk : Nat), SetW w h' s.heap.objs.size (met val its.size) its.size → (∀ b o, s.heap.get? b = some o → h'.get? b = some o) → Q (.ref s.heap.objs.size) { s with heap := h', toks := tk }) :
    wpAny (model prog w) A (call (.type "set") [.ref x0]) Q E s := by
  obtain ⟨c, tl, hmro⟩ := PySem.F.called_set.mro
  have hmade := PySem.F.called_set.made
  have hsub := PySem.F.called_set.sub
  refine wpAny_call (codeAny_of_tree ?_)
  show wpAny _ _ (callAny (.type "set") ⟨[.ref x0], []⟩) _ _ _
  refine wpAny_pure ⟨Code.quiet_builtin _ (by decide +kernel), codeAny_builtin PySem.F.entry_type_call ?_⟩
  rw [Around.under_plain (weight_type_call_type "set" [.ref x0] []) rfl]
  have n1 := PySem.F.called_set.notType
  have n2 := PySem.F.called_set.canCreate
  have n3 := PySem.F.typeCall_set_1 (.ref x0)
  repeat (any_goals (first | assumption | wp_step))
  refine codeAny_mono (code_new (w := w) (.ref x0) (E := E) (Q1 := fun ob s1 => ob = .ref s.heap.objs.size ∧ s1 = { s with heap := s.heap.push (newSetObj w) }) ⟨rfl, rfl⟩) fun r s1 hr => ?_
  cases r with
  | error e => exact hr
  | ok fl =>
    cases fl with
    | ret ob =>
      obtain ⟨rfl, rfl⟩ := hr
      have hS : (s.heap.push (newSetObj w)).get? s.heap.objs.size = some (newSetObj w) := Heap.get?_push_size _ rfl
      have hT : Shared.TypeIs { s with heap := s.heap.push (newSetObj w) } (.ref s.heap.objs.size) "set" := ⟨_, hS, rfl⟩
      have n4 := PySem.F.called_set.init.lookup
      have n5 := PySem.F.called_set.init.bind (.ref s.heap.objs.size)
      repeat (any_goals (first | assumption | wp_step))
      refine codeAny_mono (codeAny_call_builtin (R := wants (fun r s2 => r = .none ∧ ∃ h' tk, s2 = { s with heap := h', toks := tk } ∧ SetW w h' s.heap.objs.size (met val its.size) its.size ∧
          (∀ b o, s.heap.get? b = some o → h'.get? b = some o)) E) PySem.F.called_set.init.plain PySem.F.entry_set_init (check_set_init_1 hT ?_)) fun r2 s2 hr2 => ?_
      · obtain ⟨ol, hol, hcl, nl, hdl⟩ := hl
        obtain ⟨ocls, odict, odata, oslots⟩ := ol
        simp only at hcl hdl
        subst hcl hdl
        have hol' : (s.heap.push (newSetObj w)).get? x0 = some { cls := .type "list", dict := odict, data := .seq its nl, slots := oslots } := Heap.get?_push_of_some _ hol
        have k1 := PySem.F.sub_list_set
        have k2 := PySem.F.sub_list_frozenset
        have k3 : (Value.type "list" == Value.type "dict") = false := by decide
        have hl1 : (s.heap.push (newSetObj w)).IsList x0 its := ⟨_, hol', rfl, nl, rfl⟩
        unfold Builtin.«set.__init__» noKeywords Builtin.Frozenset.updateFrom
        generalize hPI : pyIter = PI
        wp_walk
        subst hPI
        refine wpAny_pyIter_list hl1 (wpAny_bind (wpAny_runValue ?_))
        have lt : x0 < s.heap.objs.size := Heap.lt_size hol
        have ne1 : x0 ≠ (s.heap.push (newSetObj w)).objs.size := by
          rw [Heap.size_push]
          exact Nat.ne_of_lt (Nat.lt_succ_of_lt lt)
        have ne2 : s.heap.objs.size ∉ [(s.heap.push (newSetObj w)).objs.size, x0] := by
          rw [Heap.size_push]
          simp only [List.mem_cons, List.not_mem_nil, or_false, not_or]
          exact ⟨Nat.ne_of_lt (Nat.lt_succ_self _), fun z => absurd lt (by rw [← z]; exact Nat.lt_irrefl _)⟩
        refine fill_W ((Walks.list (by simp [hh]) _ x0 ne1 its).toS) s.heap.objs.size ne2 val (fun i v e _ => hv i v e) hn its.size 0 _ rfl (Nat.zero_le _) ⟨⟨_, Heap.get?_push_size _ rfl, rfl, rfl⟩, hl1.push _⟩ (newSet_W (Heap.get?_push_of_some _ hS)) ?_
        intro s' mv hS'
        rw [Moved.eq_with mv]
        show wpAny _ _ _ _ _ _
        refine wpAny_pure ?_
        show wpAny _ _ (ret (.none : Value)) _ _ _
        refine wpAny_pure ⟨rfl, s'.heap, s'.toks, rfl, hS', fun b o e => ?_⟩
        have hb := Heap.lt_size e
        refine mv.heap b o (fun z => ?_) (Heap.get?_push_of_some _ (Heap.get?_push_of_some _ e))
        rcases List.mem_cons.mp z with z | z
        · exact absurd hb (by rw [z]; exact Nat.lt_irrefl _)
        · have z' := List.mem_singleton.mp z
          rw [Heap.size_push] at z'
          exact absurd hb (by rw [z']; exact Nat.not_lt_of_le (Nat.le_succ _))
      · cases r2 with
        | error e => exact hr2
        | ok fl2 =>
          cases fl2 with
          | ret r =>
            obtain ⟨rfl, h', tk, rfl, hS', hk'⟩ := hr2
            repeat (any_goals (first | assumption | wp_step))
            exact h _ _ hS' hk'
          | _ => exact hr2.elim
    | _ => exact hr.elim
end
end Rv
end
section
set_option Elab.async false
set_option linter.all false
set_option maxRecDepth 100000
set_option maxHeartbeats 4000000
namespace Rv
open PySem PySem.Spec PyProof.Rows
theorem pick_go {α : Type} (next : Nat → Nat) : ∀ (fuel k : Nat) (left : List α) (out : Array α), fuel = left.length → (pickOrder.go next fuel k left out).toList.Perm (out.toList ++ left)
  | 0, k, left, out, h => by
    have : left = [] := List.length_eq_zero_iff.mp h.symm
    subst this
    rw [List.append_nil]
    exact List.Perm.refl _
  | fuel + 1, k, left, out, h => by
    unfold pickOrder.go
    have hp : 0 < left.length := by omega
    have hlt : next k % left.length < left.length := Nat.mod_lt _ hp
    rw [List.getElem?_eq_getElem hlt]
    dsimp only
    refine (pick_go next fuel (k + 1) _ _ (by rw [List.length_eraseIdx_of_lt hlt]; omega)).trans ?_
    rw [Array.toList_push, List.append_assoc]
    refine List.Perm.append_left _ ?_
    rw [List.eraseIdx_eq_take_drop_succ]
    have e : left = left.take (next k % left.length) ++ left[next k % left.length] :: left.drop (next k % left.length + 1) := by
      rw [← List.drop_eq_getElem_cons hlt, List.take_append_drop]
    exact (List.perm_middle (l₁ := left.take (next k % left.length)) (l₂ := left.drop (next k % left.length + 1))).symm.trans (List.Perm.of_eq e.symm)
theorem pick_perm {α : Type} (next : Nat → Nat) (xs : Array α) : (pickOrder next xs).toList.Perm xs.toList := by
  have := pick_go next xs.size 0 xs.toList #[] (by simp)
  simpa [pickOrder] using this
/-- the order in which a set is walked -/
def ordW (w : World) (a : Addr) (ep : Nat) (es : Array (Int × Value)) : Array (Int × Value) := if byT w then pickOrder (w.params.setOrder a ep) es else es
theorem ord_perm (w : World) (a : Addr) (ep : Nat) (es : Array (Int × Value)) : (ordW w a ep es).toList.Perm es.toList := by
  unfold ordW
  split
  · exact pick_perm _ _
  · exact List.Perm.refl _
theorem ord_size (w : World) (a : Addr) (ep : Nat) (es : Array (Int × Value)) : (ordW w a ep es).size = es.size := by
  rw [← Array.length_toList, (ord_perm w a ep es).length_eq, Array.length_toList]
def slotW (w : World) (t : SetTable) (i : Nat) : Nat := if byT w then 0 else slotAt t.place i
/-- the set at a, just as it is -/
structure Rdy (w : World) (a : Addr) (es : Array (Int × Value)) (ep : Nat) (t : SetTable) (h : Heap) : Prop where
  ex : ∃ o, h.get? a = some o ∧ o.ExactSet ∧ o.data = .set es ep t
  fits : t.fits es.size = true
  tab : byT w = true ∨ Tb t es
theorem Rdy.at {w : World} {a : Addr} {es : Array (Int × Value)} {ep : Nat} {t : SetTable} {h h' : Heap} (x : Rdy w a es ep t h) (e : ∀ o, h.get? a = some o → h'.get? a = some o) : Rdy w a es ep t h' := by
  obtain ⟨⟨o, ho, r⟩, f, b⟩ := x
  exact ⟨⟨o, e _ ho, r⟩, f, b⟩
theorem Rdy.typeIs {w : World} {a : Addr} {es : Array (Int × Value)} {ep : Nat} {t : SetTable} {s : Shared} (x : Rdy w a es ep t s.heap) : s.TypeIs (.ref a) "set" := by
  obtain ⟨⟨o, ho, hx, _⟩, _⟩ := x
  exact ⟨o, ho, hx.1⟩
section
variable {prog : Program} {w : World} {A : Around} {E : Value → Shared → Prop} {s : Shared} {a : Addr} {es : Array (Int × Value)} {ep : Nat} {t : SetTable}
theorem next_W {i : Nat} {Q : Option (Value × Nat) → Shared → Prop} (x : Rdy w a es ep t s.heap) (hi : i ≤ es.size) (h : Q ((ordW w a ep es)[i]?.map fun e => (e.2, slotW w t (i + 1))) s) : wpAny (model prog w) A (setNext a (slotW w t i) i ep) Q E s := by
  obtain ⟨⟨o, ho, hx, hd⟩, f, b⟩ := x
  unfold setNext
  refine wpAny_bind (wpAny_setState_of ho hd f ?_)
  dsimp only
  unfold setsByText
  refine wpAny_bind (wpAny_bind (wpAny_askSetting (wpAny_pure ?_)))
  show wpAny _ _ (if w.params.followText "set-order" = true then _ else _) _ _ _
  cases c : w.params.followText "set-order" with
  | true =>
    have cb : byT w = true := c
    rw [if_pos rfl]
    have e1 : slotW w t i = 0 := by unfold slotW; rw [if_pos cb]
    have e2 : slotW w t (i + 1) = 0 := by unfold slotW; rw [if_pos cb]
    have e3 : ordW w a ep es = pickOrder (w.params.setOrder a ep) es := by unfold ordW; rw [if_pos cb]
    rw [e2, e3] at h
    rw [e1]
    rw [if_neg (by simp)]
    refine wpAny_bind ?_
    unfold setWalk
    refine wpAny_bind (wpAny_setState_of ho hd f ?_)
    dsimp only
    unfold setsByText
    refine wpAny_bind (wpAny_bind (wpAny_askSetting (wpAny_pure ?_)))
    show wpAny _ _ (if w.params.followText "set-order" = true then _ else _) _ _ _
    rw [c, if_pos rfl]
    refine wpAny_bind (wpAny_askSetting (wpAny_pure ?_))
    exact wpAny_pure h
  | false =>
    have cb : ¬ byT w = true := fun z => by
      have z' : w.params.followText "set-order" = true := z
      rw [c] at z'
      cases z'
    obtain ⟨led, pl, dum, up, sz, _⟩ := b.resolve_left cb
    have e1 : slotW w t i = slotAt t.place i := by unfold slotW; rw [if_neg cb]
    have e2 : slotW w t (i + 1) = slotAt t.place (i + 1) := by unfold slotW; rw [if_neg cb]
    have e3 : ordW w a ep es = es := by unfold ordW; rw [if_neg cb]
    rw [e2, e3] at h
    rw [e1]
    rw [if_neg (by simp)]
    show wpAny _ _ (if (!t.plain && decide (es.size > 1)) = true then _ else _) _ _ _
    rw [pl]
    rw [if_neg (by simp)]
    show wpAny _ _ ((if (!t.led && !es.isEmpty) = true then unsupported "set:maker-not-led" else pure PUnit.unit) >>= _) _ _ _
    rw [led]
    rw [if_neg (by simp)]
    refine wpAny_bind (wpAny_pure ?_)
    rw [below_slot (up_list up) (by omega)]
    by_cases q : i < es.size
    · have hq : i < t.place.size := by omega
      have g1 : es[i]? = some es[i] := Array.getElem?_eq_getElem q
      have g2 : t.place[i]? = some t.place[i] := Array.getElem?_eq_getElem hq
      have g3 : slotAt t.place (i + 1) = t.place[i] + 1 := by
        show t.place.getD i 0 + 1 = _
        simp [Array.getD, hq]
      rw [g1, g3] at h
      rw [g1, g2]
      exact wpAny_pure h
    · have g1 : es[i]? = none := Array.getElem?_eq_none (by omega)
      rw [g1] at h
      rw [g1]
      exact wpAny_pure h
/-! ### the walk -/
theorem slot_iter : Slot "set_iterator" "__iter__" "set_iterator.__iter__" :=
  .of (owner := "set_iterator") (n := "__iter__") (by rw [typeLookup_type, builtinLookup_eq_fast]; kernel_rfl) (by decide +kernel) (by decide +kernel) (by decide +kernel)
    (.inl (by decide +kernel)) (by rw [isSubtype_type]; kernel_rfl)
theorem slot_next : Slot "set_iterator" "__next__" "set_iterator.__next__" :=
  .of (owner := "set_iterator") (n := "__next__") (by rw [typeLookup_type, builtinLookup_eq_fast]; kernel_rfl) (by decide +kernel) (by decide +kernel) (by decide +kernel)
    (.inl (by decide +kernel)) (by rw [isSubtype_type]; kernel_rfl)
theorem entry_next : entryFor table "set_iterator.__next__" = some Builtin.«set_iterator.__next__» := entryFor_of_tree (by kernel_rfl)
theorem entry_iter : entryFor table "set_iterator.__iter__" = some Builtin.«dict_keyiterator.__iter__» :=
  entryFor_alias (id' := "dict_keyiterator.__iter__") (by kernel_rfl) rfl (by decide +kernel) (by kernel_rfl)
theorem entry_set_iter : entryFor table "set.__iter__" = some Builtin.«frozenset.__iter__» :=
  entryFor_alias (id' := "frozenset.__iter__") (by kernel_rfl) rfl (by decide +kernel) (by kernel_rfl)
theorem args_next (v : Value) : argsOk "set_iterator.__next__" ⟨[v], []⟩ := by
  unfold argsOk
  kernel_rfl
theorem args_iter (v : Value) : argsOk "set_iterator.__iter__" ⟨[v], []⟩ := by
  unfold argsOk
  kernel_rfl
/-- a walk through the set at a, before its i-th item -/
def ItW (w : World) (I a : Addr) (n ep : Nat) (t : SetTable) (i : Nat) (h : Heap) : Prop := ∃ o, h.get? I = some o ∧ o.cls = .type "set_iterator" ∧ o.data = .fields #[.int (slotW w t i : Int) 0, .int (i : Int) 0, .ref a, .int (n : Int) 0, .int (ep : Int) 0]
theorem ItW.typeIs {I : Addr} {n i : Nat} (x : ItW w I a n ep t i s.heap) : s.TypeIs (.ref I) "set_iterator" := by
  obtain ⟨o, ho, hc, _⟩ := x
  exact ⟨o, ho, hc⟩
end
end Rv
end
section
set_option Elab.async false
set_option linter.all false
set_option maxRecDepth 100000
set_option maxHeartbeats 4000000
namespace Rv
open PySem PySem.Spec PyProof.Rows
section
variable {prog : Program} {w : World} {A : Around} {E : Value → Shared → Prop} {s : Shared} {a : Addr} {es : Array (Int × Value)} {ep : Nat} {t : SetTable}
theorem next_item {I : Addr} {i : Nat} {e : Int × Value} {Q : Option Value → Shared → Prop} (z : ItW w I a es.size ep t i s.heap) (x : Rdy w a es ep t s.heap) (hi : i < es.size) (he : (ordW w a ep es)[i]? = some e)
    (h : ∀ h', ItW w I a es.size ep t (i + 1) h' → Heap.SameBut I s.heap h' → Q (some e.2) { s with heap := h' }) : wpAny (model prog w) A (pyNext (.ref I)) Q E s := by
  obtain ⟨o, ho, hc, hd⟩ := id z
  obtain ⟨⟨os, hos, hxs, hds⟩, f, _⟩ := id x
  unfold pyNext
  refine wpAny_bind (wpAny_attempt (wpAny_callSpecial?_slot (name := Str.ofString "__next__") z.typeIs slot_next (wpAny_call_entry slot_next z.typeIs entry_next ?_ (args_next _))))
  unfold Builtin.«set_iterator.__next__»
  refine wpAny_bind (wpAny_pure ?_)
  refine wpAny_bind (wpAny_fieldsOf ho hd ?_)
  refine wpAny_bind (wpAny_setEntries_of hos hds f ?_)
  rw [if_neg (by simp)]
  dsimp only
  refine wpAny_bind (next_W (i := i) (ep := ep) x (by omega) ?_)
  rw [he]
  dsimp only [Option.map]
  refine wpAny_bind (wpAny_setField ho hd (by simp) ?_)
  have ho1 := Heap.get?_update_self (Obj.mapFields (·.setIfInBounds 0 (rawInt (slotW w t (i + 1) : Int)))) ho (Obj.isFreed_of_fields (Obj.data_mapFields hd _))
  have hd1 := Obj.data_mapFields hd (·.setIfInBounds 0 (rawInt (slotW w t (i + 1) : Int)))
  refine wpAny_bind (wpAny_setField ho1 hd1 (by simp) ?_)
  have ho2 := Heap.get?_update_self (Obj.mapFields (·.setIfInBounds 1 (rawInt ((i : Int) + 1)))) ho1 (Obj.isFreed_of_fields (Obj.data_mapFields hd1 _))
  have hd2 := Obj.data_mapFields hd1 (·.setIfInBounds 1 (rawInt ((i : Int) + 1)))
  refine wpAny_pure ⟨e.2, rfl, wpAny_pure (h _ ⟨_, ho2, ?_, ?_⟩ ((Heap.SameBut.update ..).trans (Heap.SameBut.update ..)))⟩
  · exact (Obj.cls_mapFields ..).trans ((Obj.cls_mapFields ..).trans hc)
  · rw [hd2]
    simp [rawInt]
theorem next_end {I : Addr} {Q : Option Value → Shared → Prop} (hh : A.handled = none) (z : ItW w I a es.size ep t es.size s.heap) (x : Rdy w a es ep t s.heap)
    (h : ∀ h', Heap.ExtBut I s.heap h' → Q none { s with heap := h' }) : wpAny (model prog w) A (pyNext (.ref I)) Q E s := by
  obtain ⟨o, ho, hc, hd⟩ := id z
  obtain ⟨⟨os, hos, hxs, hds⟩, f, _⟩ := id x
  unfold pyNext
  refine wpAny_bind (wpAny_attempt (wpAny_callSpecial?_slot (name := Str.ofString "__next__") z.typeIs slot_next (wpAny_call_entry slot_next z.typeIs entry_next ?_ (args_next _))))
  unfold Builtin.«set_iterator.__next__»
  refine wpAny_bind (wpAny_pure ?_)
  refine wpAny_bind (wpAny_fieldsOf ho hd ?_)
  refine wpAny_bind (wpAny_setEntries_of hos hds f ?_)
  rw [if_neg (by simp)]
  dsimp only
  refine wpAny_bind (next_W (i := es.size) (ep := ep) x (Nat.le_refl _) ?_)
  rw [show (ordW w a ep es)[es.size]? = none from Array.getElem?_eq_none (by rw [ord_size]; exact Nat.le_refl _)]
  dsimp only [Option.map]
  refine wpAny_bind (wpAny_setField ho hd (by simp) ?_)
  refine wpAny_bind ?_
  simp only [newExc, newTuple]
  refine wpAny_bind (wpAny_newObj_type ?_ (by size_fits))
  refine wpAny_bind (m := firstArgMember _ _) (wpAny_of_eq (a := Value.none) (by first | rfl | (simp only [firstArgMember]; rfl)) ?_)
  refine wpAny_newObj_type ?_ (by size_fits)
  simp only [raiseNew]
  refine wpAny_bind (wpAny_handled ?_)
  rw [show A.in1.handled = none from hh]
  refine wpAny_bind (wpAny_pure (wpAny_throw ?_))
  refine wpAny_bind (wpAny_isInstance (T := "StopIteration") (b := true) ⟨_, Heap.get?_push_size _ rfl, rfl⟩ isSubtype_stop ?_)
  exact wpAny_pure (h _ (((Heap.SameBut.update ..).extBut.push _).push _))
theorem walks_W (hh : A.handled = none) (I : Addr) (ne : a ≠ I) : Walks prog w A I [I, a] [I] es.size (fun i v => ∃ e, (ordW w a ep es)[i]? = some e ∧ v = e.2) (fun i h => ItW w I a es.size ep t i h ∧ Rdy w a es ep t h) where
  sub := fun b hb => by
    have : b = I := by simpa using hb
    simp [this]
  frame := fun _ _ _ st hk => ⟨(by
    obtain ⟨o, ho, r⟩ := st.1
    exact ⟨o, hk I (by simp) o ho, r⟩), st.2.at fun o e => hk a (by simp) o e⟩
  item := fun i s Q E hi st hQ => by
    obtain ⟨e, he⟩ : ∃ e, (ordW w a ep es)[i]? = some e := ⟨_, Array.getElem?_eq_getElem (by rw [ord_size]; exact hi)⟩
    refine next_item st.1 st.2 hi he fun h' z sb => ?_
    exact hQ _ h' s.toks ⟨e, he, rfl⟩ ⟨z, st.2.at fun o eo => sb.extBut a o ne eo⟩ fun b o hb eo => sb.extBut b o (fun q => hb (by simp [q])) eo
  done := fun s Q E st hQ => next_end hh st.1 st.2 fun h' he => hQ h' s.toks fun b o hb eo => he b o (fun q => hb (by simp [q])) eo
  self := fun i s Q E st hQ => by
    refine wpAny_pyIter_slot st.1.typeIs slot_iter (wpAny_call_entry slot_iter st.1.typeIs entry_iter ?_ (args_iter _))
    show wpAny _ _ (ret (.ref I)) _ _ s
    exact wpAny_pure ⟨_, rfl, "set_iterator", _, st.1.typeIs, slot_next.lookup, hQ⟩
theorem iter_W {Q : Value → Shared → Prop} (x : Rdy w a es ep t s.heap) (h : Q (.ref s.heap.objs.size) { s with heap := s.heap.push { cls := .type "set_iterator", data := .fields #[.int (slotW w t 0 : Int) 0, .int ((0 : Nat) : Int) 0, .ref a, .int (es.size : Int) 0, .int (ep : Int) 0] } }) :
    wpAny (model prog w) A (pyIter (.ref a)) Q E s := by
  obtain ⟨⟨os, hos, hxs, hds⟩, f, b⟩ := id x
  refine wpAny_pyIter_slot x.typeIs PySem.F.slot_set_iter (wpAny_call_entry PySem.F.slot_set_iter x.typeIs entry_set_iter ?_ (PySem.F.args_set_iter_1 _))
  unfold Builtin.«frozenset.__iter__»
  refine wpAny_bind ?_
  unfold Builtin.Frozenset.slot0
  refine wpAny_bind (wpAny_pure ?_)
  refine wpAny_pure ?_
  unfold Builtin.Frozenset.sizeOf
  refine wpAny_bind (wpAny_bind (wpAny_setEntries_of hos hds f (wpAny_pure ?_)))
  unfold setDrawn
  refine wpAny_bind (wpAny_bind (wpAny_setState_of hos hds f ?_))
  dsimp only
  unfold setsByText
  refine wpAny_bind (wpAny_bind (wpAny_askSetting (wpAny_pure (wpAny_pure ?_))))
  have nd : (!w.params.followText "set-order" && (!t.plain && decide (es.size > 1))) = false := by
    rcases b with z | z
    · have z' : w.params.followText "set-order" = true := z
      rw [z']
      rfl
    · rw [z.plain]
      simp
  show wpAny _ _ (if (!w.params.followText "set-order" && (!t.plain && decide (es.size > 1))) = true then _ else _) _ _ _
  rw [nd, if_neg (by simp)]
  refine wpAny_bind (wpAny_pure ?_)
  refine wpAny_bind (wpAny_setEpoch_of hos hds f ?_)
  refine wpAny_bind (wpAny_newObj_type (wpAny_pure ⟨_, rfl, "set_iterator", _, ⟨_, Heap.get?_push_size _ rfl, rfl⟩, slot_next.lookup, ?_⟩))
  have e0 : slotW w t 0 = 0 := by
    unfold slotW
    split <;> rfl
  rw [e0] at h
  exact h
theorem hint_W {Q : Bool → Shared → Prop} (hT : s.TypeIs (.ref a) "set") (h : Q false s) : wpAny (model prog w) A (Builtin.List.listLengthHint (.ref a)) Q E s := by
  unfold Builtin.List.listLengthHint
  refine wpAny_bind (wpAny_specialOf hT PySem.F.slot_set_len.lookup ?_)
  generalize hid : ("set.__len__" : String) = id0
  wp_delta
  rw [show splitId id0 = some ("set", "__len__") from by subst hid; decide +kernel]
  subst hid
  refine wpAny_bind (wpAny_isInstance (T := "set") (b := true) hT (by rw [isSubtype_type]; kernel_rfl) ?_)
  refine wpAny_ite_split (fun z => absurd z (by decide)) (fun _ => ?_)
  refine wpAny_ite_split (fun _ => ?_) (fun z => absurd (by decide +kernel) z)
  exact wpAny_bind (wpAny_typeOf hT (wpAny_pure h))
theorem src_W : PySem.W.KdlSrc prog w "set" a a es.size (fun i v => ∃ e, (ordW w a ep es)[i]? = some e ∧ v = e.2) (Rdy w a es ep t) where
  type := fun _ x => x.typeIs
  there := fun h x => by
    obtain ⟨⟨o, ho, _⟩, _⟩ := x
    exact ⟨Heap.lt_size ho, Heap.lt_size ho⟩
  keep := fun _ _ x hk => x.at fun o e => hk a (.inl rfl) o e
  notList := by decide
  notTuple := by decide
  hint := fun _ _ _ _ x hq => hint_W x.typeIs hq
  iter := fun A s hh x => ⟨_, _, fun E Q hq => iter_W x hq, walks_W hh _ (by
    obtain ⟨⟨o, ho, _⟩, _⟩ := x
    exact Nat.ne_of_lt (Heap.lt_size ho)), ⟨_, Heap.get?_push_size _ rfl, rfl, rfl⟩, x.at fun o e => Heap.get?_push_of_some _ e⟩
theorem ints_of : ∀ (us : List Value) (xs : List (Int × Value)), us.length = xs.length → (∀ (i : Nat) (v : Value), us[i]? = some v → ∃ e, xs[i]? = some e ∧ v = e.2) → (∀ e ∈ xs, ∃ (k : Nat) (tk : Tok), k < 12 ∧ e = ((k : Int), .int (k : Int) tk)) → IntsAre us (xs.map (·.1))
  | [], [], _, _, _ => .nil
  | [], _ :: _, h, _, _ => by cases h
  | _ :: _, [], h, _, _ => by cases h
  | u :: us, e :: xs, h, g, q => by
    obtain ⟨e', he, hu⟩ := g 0 u rfl
    have ee : e = e' := Option.some.inj he
    subst ee
    obtain ⟨k, tk, _, rfl⟩ := q e List.mem_cons_self
    subst hu
    exact .cons (k : Int) tk (ints_of us xs (Nat.succ.inj h) (fun i v hv => g (i + 1) v hv) fun e he => q e (List.mem_cons_of_mem _ he))
theorem nat_list : ∀ l : List Int, (∀ z ∈ l, ∃ k : Nat, z = k) → (l.map Int.toNat).map (fun (k : Nat) => (k : Int)) = l
  | [], _ => rfl
  | z :: l, h => by
    obtain ⟨k, rfl⟩ := h z List.mem_cons_self
    rw [List.map_cons, List.map_cons, nat_list l fun y hy => h y (List.mem_cons_of_mem _ hy), Int.toNat_natCast]
/-- sorted(..) of a set of small numbers -/
theorem sorted_W {l : List Nat} {n : Nat} {Q : Value → Shared → Prop} (hh : A.handled = none) (hS : SetW w s.heap a l n) (hn : n ≤ 12)
    (h : ∀ (D : Addr) (h' : Heap) (tk c : Nat) (out : Array Value) (ms : List Nat), s.heap.get? D = none → (∀ b o, s.heap.get? b = some o → h'.get? b = some o) → h'.get? D = some { cls := .type "list", data := .seq out c } → IntsAre out.toList (ms.map fun (k : Nat) => (k : Int)) → ms.Pairwise (· < ·) → (∀ k, k ∈ ms ↔ k ∈ l) → ms.length ≤ 12 → Q (.ref D) { s with heap := h', toks := tk }) :
    wpAny (model prog w) A (call (.builtin "sorted") [.ref a]) Q E s := by
  obtain ⟨o, es, ep, t, ho, hx, hd, x⟩ := hS
  have rd : Rdy w a es ep t s.heap := ⟨⟨o, ho, hx, hd⟩, x.fits, x.tab⟩
  have hfew := x.few
  refine PySem.Calls.call_function_entry kind_sorted plain_sorted entry_sorted (args_sorted1 _) ?_
  unfold Builtin.«sorted»
  refine wpAny_bind (m := checkCount "sorted" 1 1 _) (wpAny_pure ?_)
  have h12 : (12 : Nat) ≤ sizeLine := by decide
  refine wpAny_bind (PySem.W.kdu_collect (A := A.in1) src_W hh rd (by omega) fun h1 tk acc hk hacc => ?_)
  have hlen : acc.toList.length = es.size := by
    rw [Array.length_toList]
    exact hacc.1
  refine wpAny_bind (wpAny_newList ?_ (by omega))
  have hoL : (h1.push { cls := .type "list", data := .seq acc.toList.toArray }).get? h1.objs.size = some (seqObj "list" acc.toList.toArray 0) := Heap.get?_push_size _ rfl
  have op := ord_perm w a ep es
  have hi : IntsAre acc.toList ((ordW w a ep es).toList.map (·.1)) := ints_of _ _ (by rw [hlen, Array.length_toList, ord_size]) (fun i v hv => by
    obtain ⟨e, h1, h2⟩ := hacc.2 i v (by rw [← Array.getElem?_toList]; exact hv)
    exact ⟨e, by rw [Array.getElem?_toList]; exact h1, h2⟩) fun e he => x.el e (op.mem_iff.mp he)
  refine wpAny_bind (wpAny_holding (wpAny_call_entry slot_list_sort ⟨_, hoL, rfl⟩ entry_list_sort (list_sort_tree hoL hi (by omega) fun out ns a1 a2 a3 => ⟨_, rfl, ?_⟩) (args_list_sort _)))
  obtain ⟨c, hat⟩ := sortedHeap_at (vs := acc.toList) (out := out) hoL
  have pm := a2.trans (op.map (·.1))
  have nat : ∀ z ∈ ns, ∃ k : Nat, z = k := fun z hz => by
    obtain ⟨e, he, rfl⟩ := List.mem_map.mp (pm.mem_iff.mp hz)
    obtain ⟨k, tk', _, rfl⟩ := x.el e he
    exact ⟨k, rfl⟩
  have en := nat_list ns nat
  have nd : ns.Nodup := pm.nodup_iff.mpr x.nd
  refine wpAny_pure ⟨_, rfl, h h1.objs.size _ tk c out (ns.map Int.toNat) ?_ (fun b o e => ?_) hat (by rw [en]; exact a1) ?_ (fun k => ?_) (by rw [List.length_map, pm.length_eq, List.length_map, Array.length_toList]; omega)⟩
  · cases q : s.heap.get? h1.objs.size with
    | none => rfl
    | some o1 => exact absurd (Heap.lt_size (hk _ _ q)) (Nat.lt_irrefl _)
  · have e1 := hk b o e
    have lt := Heap.lt_size e1
    rw [sortedHeap_old (Nat.ne_of_lt lt) (by rw [size_push']; exact Nat.lt_succ_of_lt lt)]
    exact Heap.get?_push_of_some _ e1
  · rw [← en] at nd a3
    have nd' : (ns.map Int.toNat).Nodup := by
      have := List.pairwise_map.mp nd
      exact this.imp fun {u v} hne z => hne (by rw [z])
    have a3' := List.pairwise_map.mp a3
    have := List.Pairwise.and a3' nd'
    exact this.imp fun {u v} hh => by
      obtain ⟨h1, h2⟩ := hh
      omega
  · rw [x.mem k, ← pm.mem_iff, List.mem_map]
    constructor
    · rintro ⟨z, hz, rfl⟩
      obtain ⟨k', rfl⟩ := nat z hz
      exact hz
    · intro hz
      exact ⟨_, hz, rfl⟩
end
end Rv
end
section
set_option Elab.async false
set_option linter.all false
set_option maxRecDepth 100000
set_option maxHeartbeats 4000000
/-! sorted(set(..)) over the layer. -/
namespace L2
open PySem PySem.Spec PyProof.Rows
theorem hok_none {P : Program} {w : World} {H : Hp} {h : Heap} {a : Addr} (x : HOk P w H h) (e : h.get? a = none) : H a = none := by
  cases q : H a with
  | none => rfl
  | some u =>
    have y := x a u q
    have no : ∀ o, h.get? a = some o → False := fun o z => by
      rw [e] at z
      cases z
    refine False.elim ?_
    clear q
    cases u with
    | lst xs => obtain ⟨_, _, _, _, z⟩ := y; exact no _ z
    | tup xs => obtain ⟨_, _, _, o, z, _⟩ := y; exact no _ z
    | dK kvs => obtain ⟨_, _, _, _, o, _, _, z, _⟩ := y; exact no _ z
    | dT kvs => obtain ⟨_, _, _, _, o, _, _, z, _⟩ := y; exact no _ z
    | set S n => obtain ⟨o, _, _, _, z, _⟩ := y; exact no _ z
    | ins C dx fs => obtain ⟨_, _, _, z, _⟩ := y; exact no _ z
    | own y0 => obtain ⟨_, z⟩ := y; exact no _ z
    | xd fs => obtain ⟨_, ⟨_, _, _, z, _⟩, _⟩ := y; exact no _ z
    | rng lo hi => obtain ⟨_, _, _, z⟩ := y; exact no _ z
    | frz ob u => obtain ⟨z, _⟩ := y; exact no _ z
    | tbl ps => exact no _ (show h.get? a = some _ from y)
    | met f y0 => exact no _ (show h.get? a = some _ from y)
    | ext φ => obtain ⟨_, ⟨_, z⟩, _⟩ := y; exact no _ z
section
variable {X : Cx} {pins : List (Addr × Obj)} {σ : List (Option V)} {H : Hp} {s : Shared} {h' : Heap}
theorem Inv.laidN {a : Addr} {o : HO} {t' : Nat} (I : Inv X pins σ H s) (k : ∀ b u, s.heap.get? b = some u → h'.get? b = some u) (hp : s.heap.get? a = none) (new : ObjOk X.prog X.w (upd H a o) h' a o) : Inv X pins σ (upd H a o) { s with heap := h', toks := t' } := by
  have hn := hok_none I.hok hp
  have nb : ∀ b u, s.heap.get? b = some u → b ≠ a := fun b u q z => by
    rw [z, hp] at q
    cases q
  refine I.un ⟨fun b u q _ _ _ => k b u q, fun b u q _ _ _ => ⟨u.slots, k b u q⟩, fun b u q n _ => ?_, fun b u q _ => ⟨u, k b u q⟩, fun b xs q => ?_, fun b u xs q => ?_, fun b ps q => ⟨#[], ?_⟩⟩ fun b u e => ?_
  · rw [upd_ne (nb b u q)]
    exact n
  · rw [upd_ne (ne_of_none q hn)]
    exact q
  · rw [upd_ne (ne_of_none q hn)]
    exact q
  · rw [upd_ne (ne_of_none q hn), q]
    simp
  · by_cases hb : b = a
    · subst hb
      rw [upd_same] at e
      cases e
      exact new
    · rw [upd_ne hb] at e
      exact (I.hok b u e).stay (fun c v _ q => k c v q) (fun c q => by rw [upd_ne (ne_of_none q hn)]; exact q) fun c xs q => by rw [upd_ne (ne_of_none q hn)]; exact q
end
/-- a set of small numbers -/
def setO (w : World) (a : Addr) (l : List Nat) : HO := .ext fun h => Rv.SetW w h a l 12
section
variable {X : Cx}
def rSet (K : PySem.W.Frag) (w : World) : List V → Hp → VK → Prop := fun vs H Q => ∃ (a : Addr) (ns : List Nat), vs = [V.ref a] ∧ SqL K H a (nats ns) ∧ ns.length ≤ 12 ∧ (∀ x ∈ ns, x < 12) ∧
  ∀ (p : Addr) (l : List Nat), (∀ k, k ∈ l ↔ k ∈ ns) → H p = none → Q (.ref p) (upd H p (setO w p l))
theorem cr_set (hc : X.calm = true) : CallR X (.type "set") (rSet X.K X.w) := by
  intro pins s σ H vs us Q I r h
  obtain ⟨a, ns, rfl, hs, hn, h12, q⟩ := h
  obtain ⟨its, rv, hl, _⟩ := I.list hs
  rw [Vals.ref1 r]
  have len := rv.length
  rw [nats_len] at len
  refine Rv.call_setW (its := its.toArray) (val := fun i => ns.getD i 0) (I.ok.hd hc) hl.isList (fun i v hv => ?_) (by simpa using (by omega : its.length ≤ 12)) fun h' tk hS hk => ?_
  · have hv' : its[i]? = some v := by simpa using hv
    have hi : i < ns.length := by
      rw [len]
      exact (List.getElem?_eq_some_iff.mp hv').1
    have hg : (nats ns)[i]? = some (V.int (ns.getD i 0 : Int)) := nats_get (by rw [List.getElem?_eq_getElem hi, List.getD_eq_getElem?_getD, List.getElem?_eq_getElem hi]; rfl)
    obtain ⟨u, e, ru⟩ := rv.get hg
    rw [hv'] at e
    obtain rfl := Option.some.inj e
    obtain ⟨t, rfl⟩ := ru
    refine ⟨h12 _ ?_, t, rfl⟩
    rw [List.getD_eq_getElem?_getD, List.getElem?_eq_getElem hi]
    exact List.getElem_mem hi
  · have sz : its.toArray.size = ns.length := by simp [len]
    rw [sz] at hS
    refine ⟨.ref _, upd H s.heap.objs.size (setO X.w s.heap.objs.size (Rv.met (fun i => ns.getD i 0) ns.length)), I.laid (t' := tk) hk (Nat.le_refl _) ?_, rfl, q _ _ (fun k => ?_) (I.hok.fresh (Nat.le_refl _))⟩
    · have hS12 : Rv.SetW X.w h' s.heap.objs.size (Rv.met (fun i => ns.getD i 0) ns.length) 12 := by
        obtain ⟨o, es, ep, t, h1, h2, h3, x⟩ := hS
        exact ⟨o, es, ep, t, h1, h2, h3, x.el, x.nd, x.mem, Nat.le_trans x.few hn, x.fits, x.tab⟩
      refine ⟨hS12, ?_, fun h1 h2 x e => x.at e⟩
      obtain ⟨o, _, _, _, h1, _⟩ := hS12
      exact ⟨o, h1⟩
    · rw [Rv.met_mem]
      constructor
      · rintro ⟨j, hj, rfl⟩
        show ns.getD j 0 ∈ ns
        rw [List.getD_eq_getElem?_getD, List.getElem?_eq_getElem hj]
        exact List.getElem_mem hj
      · intro hk'
        obtain ⟨j, hj, rfl⟩ := List.mem_iff_getElem.mp hk'
        refine ⟨j, hj, ?_⟩
        show ns.getD j 0 = _
        rw [List.getD_eq_getElem?_getD, List.getElem?_eq_getElem hj]
        rfl
def rSortedSet (w : World) : List V → Hp → VK → Prop := fun vs H Q => ∃ (a : Addr) (l : List Nat), vs = [V.ref a] ∧ H a = some (setO w a l) ∧
  ∀ (ms : List Nat) (p : Addr), ms.Pairwise (· < ·) → (∀ k, k ∈ ms ↔ k ∈ l) → H p = none → Q (.ref p) (upd H p (.lst (nats ms)))
theorem cr_sortedSet (hc : X.calm = true) : CallR X (.builtin "sorted") (rSortedSet X.w) := by
  intro pins s σ H vs us Q I r h
  obtain ⟨a, l, rfl, ha, q⟩ := h
  rw [Vals.ref1 r]
  obtain ⟨hS, _, _⟩ := I.hok a _ ha
  refine Rv.sorted_W (I.ok.hd hc) hS (Nat.le_refl _) fun D h' tk c out ms hD hk hat hi up mem sm => ?_
  have len := hi.length
  have vv : Vals (nats ms) out.toList := by
    rw [nats_int]
    exact vals_of_ints hi
  refine ⟨.ref _, upd H D (.lst (nats ms)), I.laidN (t' := tk) hk hD ⟨?_, out.toList, c, vv, ?_⟩, rfl, q ms D up mem (hok_none I.hok hD)⟩
  · rw [nats_len]
    exact Nat.le_trans sm (by decide)
  · simpa using hat
end
end L2
end
section
set_option Elab.async false
set_option linter.all false
set_option maxRecDepth 100000
set_option maxHeartbeats 4000000
/-! swayed_by. -/
namespace Rv
open PySem PySem.Spec PyProof.Rows L2
open Km457 (Valley at_ far)
open Km459 (Sea)
theorem sways_eq {s : Sea} (G : Good s) {i : Nat} {ms : List Nat} (up : ms.Pairwise (· < ·)) (mem : ∀ k, k ∈ ms ↔ k ∈ (List.range s.valley.length).map (Km459.lied s i)) : ms = Km459.sways s i := by
  refine inc_ext up ((List.pairwise_lt_range).filter _) fun k => ?_
  rw [mem k]
  show _ ↔ k ∈ (List.range s.valley.length).filter ((List.range s.valley.length).map (Km459.lied s i)).contains
  rw [List.mem_filter, List.contains_iff_mem, List.mem_range]
  refine ⟨fun h => ⟨?_, h⟩, fun h => h.2⟩
  obtain ⟨v, hv, rfl⟩ := List.mem_map.mp h
  exact lied_lt G (List.mem_range.mp hv)
section
variable {P : Program} {w : World} {K : PySem.W.Frag} {mg : Str → Option Value} {base : Heap} {C : Addr}
def spSwayed (C : Addr) : Sp := fun vs H Q _ => ∃ (va : Addr) (s : Sea) (i : Nat), vs = [.ref va, .int (i : Int)] ∧ SeaAt C H va s ∧ Good s ∧ i < s.votes.length ∧ ∀ (H' : Hp) (p : Addr), H p = none → H' p = some (.lst (nats (Km459.sways s i))) → Same H H' → Q (.ref p) H'
theorem scSwayed : FnScope ["self", "i", "v"] ["self", "i"] (defScope mSwayed) := ⟨rfl, rfl, rfl, by decide +kernel, rfl, by decide +kernel, by decide +kernel⟩
theorem ok_swayed {f : Addr} {fd : FuncData} (F : Fun K "swayed_by" "Valley.swayed_by" mSwayed f fd) (T : Txt K mg C) : FnOk P w K mg base CX0 4 f fd ["self", "i"] (spSwayed C) := by
  refine F.ok scSwayed (fun vs H Q E h => ?_) (fun cdv A outer sh H vs Q E hr h => ?_)
  · obtain ⟨va, s, i, rfl, _⟩ := h
    rfl
  · obtain ⟨va, s, i, rfl, S, G, hi, k⟩ := h
    obtain ⟨dx, fs, u, r, t, h1, h2, h3, h4, h5, h6, h7, h8⟩ := S.ex
    refine ⟨_, pss_one (ps_ret (pe_callB (cr_sortedSet rfl) (by rfl) T.sorted (by decide +kernel) (pa_cons (pe_callTy (cr_set rfl) (by rfl) T.set (by decide +kernel) (pa_cons
      (pe_lc (own := [("v", 2)]) rfl scSwayed.nd (pi_range1 (by rfl) T.range (pa_cons (pe_callB call_len_seq (by rfl) T.len PySem.boot_len (pa_cons (pe_fld (pv 0) rfl) pa_nil)) pa_nil)) (blkOk_by (by rfl))
      (fun _ _ _ _ _ => pg_name (i := 2) scSwayed.nd rfl (Or.inl rfl))
      (fun _ _ _ _ _ => pts_nil)
      (fun _ _ _ _ _ => pe_mt (pv 0) T.cl T.chosenIf (fun _ _ F => ok_chosenIf F T) hr (pa_cons (pv 1) (pa_cons (pv 2) pa_nil)))) pa_nil)) pa_nil))), ?_⟩
    refine ⟨_, rfl, va, C, dx, fs, _, rfl, h1, T.cl, T.nU, h2, u, _, rfl, .inl (SqL.of h5), _, rfl, ?_, ?_, fun D hD => ?_⟩
    · omega
    · rw [nats_len, ups_len]
      have := G.len
      omega
    refine lc_range (lo := 0) (fun j H' => Same H H' ∧ H' D = some (.lst (nats ((List.range j).map (Km459.lied s i))))) ⟨Same.new hD, upd_same⟩ ?_ ?_
    · rw [nats_len, ups_len]
      rintro j H' hj ⟨e, hD'⟩
      have hj' : j < s.valley.length := by omega
      have ez : (0 : Int) + (j : Nat) = (j : Int) := by omega
      rw [ez]
      refine ⟨rfl, tYes_T ?_⟩
      refine ⟨_, rfl, va, dx, fs, rfl, e _ _ h1, h8 _ (by decide), _, rfl, _, rfl, va, s, i, j, rfl, S.same e, G, hi, hj', fun H2 e2 => ?_⟩
      refine ⟨_, e2 _ _ hD', ?_, (e.trans e2).put hD, ?_⟩
      · rw [nats_len, List.length_map, List.length_range]
        have := G.len
        exact Nat.lt_of_lt_of_le hj' (Nat.le_trans this (by decide))
      · rw [upd_same, List.range_succ, List.map_append, nats_append]
        rfl
    · rw [nats_len, ups_len, Int.toNat_natCast]
      rintro H2 ⟨e, hD'⟩
      refine ⟨D, _, rfl, SqL.of hD', ?_, fun x hx => ?_, fun p l mem hp => ?_⟩
      · rw [List.length_map, List.length_range]
        exact G.len
      · obtain ⟨v, hv, rfl⟩ := List.mem_map.mp hx
        exact Nat.lt_of_lt_of_le (lied_lt G (List.mem_range.mp hv)) G.len
      · refine ⟨p, l, rfl, upd_same, fun ms q up mem2 hq => ?_⟩
        have hp0 : H p = none := e.free hp
        have e2 : Same H (upd H2 p (setO w p l)) := e.put hp0
        have hq0 : H q = none := e2.free hq
        refine k _ q hq0 ?_ (e2.put hq0)
        rw [upd_same, sways_eq G up fun k => (mem2 k).trans (mem k)]
end
end Rv
end
section
set_option Elab.async false
set_option linter.all false
set_option maxRecDepth 100000
set_option maxHeartbeats 4000000
/-! The calls that only look. -/
namespace Rv
open PySem PySem.Spec PyProof.Rows L2
open Km457 (Valley at_ far)
open Km459 (Sea Call)
abbrev vChosen : Stmt := top 33
abbrev vRather : Stmt := top 34
abbrev vUnb : Stmt := top 35
abbrev vBeaten : Stmt := top 36
abbrev vRow : Stmt := top 37
abbrev vLie : Stmt := top 38
abbrev vBest : Stmt := top 39
/-- what a call that only looks answers -/
def seen (s : Sea) (x : Call) : List Int := Km459Neutral.told (Km459.act ⟨s, [], []⟩ x).2
def zs (l : List Int) : List V := l.map V.int
/-- the promise of a call that only looks -/
def spVo (C : Addr) (p : Int) : Sp := fun vs H Q _ => ∃ (va nb : Addr) (s : Sea) (nums : List Int) (x : Call), vs = [.ref va, .ref nb] ∧ SeaAt C H va s ∧ Good s ∧ H nb = some (.lst (zs nums)) ∧ Req p nums x ∧
  ∀ (H' : Hp) (q : Addr), H q = none → H' q = some (.lst (zs (seen s x))) → Same H H' → Q (.ref q) H'
theorem spVo_len {C : Addr} {p : Int} (vs : List V) (H : Hp) (Q : VK) (E : XK) (h : spVo C p vs H Q E) : vs.length = (["valley", "numbers"] : List Str).length := by
  obtain ⟨va, nb, s, nums, x, rfl, _⟩ := h
  rfl
/-- a new list of one number is handed back -/
theorem ret1 {H : Hp} {z : Int} {ans : List Int} {Q : VK} (k : ∀ (H' : Hp) (q : Addr), H q = none → H' q = some (.lst (zs ans)) → Same H H' → Q (.ref q) H') {H1 : Hp} (e : Same H H1) (ea : ans = [z]) : ∀ p, H1 p = none → Q (.ref p) (upd H1 p (.lst [V.int z])) := fun p hp => by
  have h0 := e.free hp
  refine k _ p h0 ?_ (e.put h0)
  rw [upd_same, ea]
  rfl
theorem ret2 {H : Hp} {z y : Int} {ans : List Int} {Q : VK} (k : ∀ (H' : Hp) (q : Addr), H q = none → H' q = some (.lst (zs ans)) → Same H H' → Q (.ref q) H') {H1 : Hp} (e : Same H H1) (ea : ans = [z, y]) : ∀ p, H1 p = none → Q (.ref p) (upd H1 p (.lst [V.int z, V.int y])) := fun p hp => by
  have h0 := e.free hp
  refine k _ p h0 ?_ (e.put h0)
  rw [upd_same, ea]
  rfl
theorem one_le : 1 ≤ sizeLine := by decide
theorem two_le : 2 ≤ sizeLine := by decide
section
variable {P : Program} {w : World} {K : PySem.W.Frag} {mg : Str → Option Value} {base : Heap} {C : Addr}
/-! ### vo_chosen -/
theorem scVChosen : FnScope ["valley", "numbers", "place"] ["valley", "numbers"] (defScope vChosen) := ⟨rfl, rfl, rfl, by decide +kernel, rfl, by decide +kernel, by decide +kernel⟩
theorem ok_vChosen {f : Addr} {fd : FuncData} (F : Fun K "vo_chosen" "vo_chosen" vChosen f fd) (T : Txt K mg C) : FnOk P w K mg base CX0 4 f fd ["valley", "numbers"] (spVo C 6) := by
  refine F.ok scVChosen spVo_len (fun cdv A outer sh H vs Q E hr h => ?_)
  obtain ⟨va, nb, s, nums, x, rfl, S, G, hnb, rq, k⟩ := h
  cases rq
  obtain ⟨dx, fs, u, r, t, h1, h2, h3, h4, h5, h6, h7, h8⟩ := S.ex
  obtain ⟨t6, hc6⟩ := T.noVoters
  refine ⟨_, pss_cons (ps_if (pt_cmpR op_eq (pe_callB call_len_seq (by rfl) T.len PySem.boot_len (pa_cons (pe_fld (pv 0) rfl) pa_nil)) pe_int (nomark _)) (pss_one (ps_ret (pe_lst (pa_cons (pe_glob (v := .int (-6)) rfl hc6 ⟨t6, rfl⟩) pa_nil)))) pss_nil)
    (pss_cons (ps_set (i := 2) scVChosen.nd rfl (Or.inl rfl) (pe_mt0 (pv 0) T.cl T.mChosen (fun _ _ F => ok_mChosen F T) hr))
    (pss_one (ps_ret (pe_lst (pa_cons (pv 2) (pa_cons (pe_df T.ofAll (fun _ _ F => ok_ofAll F T) (hr.mono (by decide)) rfl (pa_cons (pe_mt0 (pv 0) T.cl T.distances (fun _ _ F => ok_distances F T) (hr.mono (by decide))) (pa_cons (pe_fld (pv 0) rfl) (pa_cons (pv 2) pa_nil)))) pa_nil)))))), ?_⟩
  refine ⟨_, rfl, va, C, dx, fs, _, rfl, h1, T.cl, T.nT, h4, t, _, rfl, .inl (SqL.of h7), rfl, _, rfl, ite2 (fun c => ?_) (fun c => ?_)⟩
  · have c1 : s.votes = [] := by
      have q := of_decide_eq_true c
      rw [nats_len] at q
      injection q with q
      exact List.length_eq_zero_iff.mp (by omega)
    refine ⟨one_le, ret1 k Same.rfl' ?_⟩
    show Km459Neutral.told (if s.votes = [] then _ else _) = _
    rw [if_pos c1]
    rfl
  · have c1 : ¬ s.votes = [] := fun q => c (decide_eq_true (by rw [nats_len, q]; rfl))
    refine ⟨_, rfl, va, dx, fs, rfl, h1, h8 _ (by decide), va, s, rfl, S, G, fun H1 e1 => ?_⟩
    have S1 := S.same e1
    refine ⟨_, rfl, _, rfl, va, dx, fs, rfl, e1 _ _ h1, h8 _ (by decide), va, s, rfl, S1, G, fun H2 p hp hT e2 => ?_⟩
    have e12 := e1.trans e2
    refine ⟨_, rfl, va, C, dx, fs, _, rfl, e12 _ _ h1, T.cl, T.nT, h4, _, rfl, p, t, s.valley, s.votes, _, rfl, G.ok, hT, e12 _ _ h7, G.lt, Nat.le_trans G.few (by decide), chosen_lt G.ok G.lt, fun H3 e3 => ⟨two_le, ret2 k (e12.trans e3) ?_⟩⟩
    show Km459Neutral.told (if s.votes = [] then _ else _) = _
    rw [if_neg c1]
    rfl
/-! ### vo_unbeaten, vo_beaten -/
theorem nums_told (a b : Nat) : nats [a, b] = zs [(a : Int), (b : Int)] := rfl
theorem scVUnb : FnScope ["valley", "numbers"] ["valley", "numbers"] (defScope vUnb) := ⟨rfl, rfl, rfl, by decide +kernel, rfl, by decide +kernel, by decide +kernel⟩
theorem ok_vUnb {f : Addr} {fd : FuncData} (F : Fun K "vo_unbeaten" "vo_unbeaten" vUnb f fd) (T : Txt K mg C) : FnOk P w K mg base CX0 5 f fd ["valley", "numbers"] (spVo C 8) := by
  refine F.ok scVUnb spVo_len (fun cdv A outer sh H vs Q E hr h => ?_)
  obtain ⟨va, nb, s, nums, x, rfl, S, G, hnb, rq, k⟩ := h
  cases rq
  obtain ⟨dx, fs, u, r, t, h1, h2, h3, h4, h5, h6, h7, h8⟩ := S.ex
  refine ⟨_, pss_one (ps_ret (pe_df T.cb (fun _ _ F => ok_cb F T) (hr.mono (by decide)) rfl (pa_cons (pe_df T.unb (fun _ _ F => ok_unb F T) hr rfl (pa_cons (pe_mt0 (pv 0) T.cl T.distances (fun _ _ F => ok_distances F T) (hr.mono (by decide))) (pa_cons (pe_fld (pv 0) rfl) pa_nil))) pa_nil))), ?_⟩
  refine ⟨_, rfl, va, dx, fs, rfl, h1, h8 _ (by decide), va, s, rfl, S, G, fun H1 p hp hT e1 => ?_⟩
  refine ⟨_, rfl, va, C, dx, fs, _, rfl, e1 _ _ h1, T.cl, T.nT, h4, p, t, s.valley, s.votes, rfl, hT, e1 _ _ h7, G.lt, Nat.le_trans G.few (by decide), G.len, fun H2 q hq hq2 e2 => ?_⟩
  refine ⟨q, _, rfl, hq2, range_up _ _, fun x hx => ?_, fun H3 q3 hq3 hq4 e3 => ?_⟩
  · have := List.mem_range.mp ((List.mem_filter.mp hx).1)
    have := G.len
    omega
  · have e13 := e1.trans (e2.trans e3)
    have hq0 : H q3 = none := (e1.trans e2).free hq3
    exact k H3 q3 hq0 hq4 e13
theorem nat_lt_iff (a b : Nat) : decide ((a : Int) < (b : Int)) = decide (a < b) := decide_eq_decide.mpr (by omega)
theorem scVBeaten : FnScope ["valley", "numbers", "v"] ["valley", "numbers"] (defScope vBeaten) := ⟨rfl, rfl, rfl, by decide +kernel, rfl, by decide +kernel, by decide +kernel⟩
theorem ok_vBeaten {f : Addr} {fd : FuncData} (F : Fun K "vo_beaten" "vo_beaten" vBeaten f fd) (T : Txt K mg C) : FnOk P w K mg base CX0 4 f fd ["valley", "numbers"] (spVo C 9) := by
  refine F.ok scVBeaten spVo_len (fun cdv A outer sh H vs Q E hr h => ?_)
  obtain ⟨va, nb, s, nums, x, rfl, S, G, hnb, rq, k⟩ := h
  cases rq with
  | beaten v =>
  obtain ⟨dx, fs, u, r, t, h1, h2, h3, h4, h5, h6, h7, h8⟩ := S.ex
  obtain ⟨t2, hc2⟩ := T.notThere
  refine ⟨_, pss_cons (ps_set (i := 2) scVBeaten.nd rfl (Or.inl rfl) (pe_ix ix_list (pv 1) pe_int (fun _ _ => rfl)))
    (pss_cons (ps_if (pt_not (pt_val (pe_mt (pv 0) T.cl T.hasVillage (fun _ _ F => ok_hasVillage F T) (hr.mono (by decide)) (pa_cons (pv 2) pa_nil)))) (pss_one (ps_ret (pe_lst (pa_cons (pe_glob (v := .int (-2)) rfl hc2 ⟨t2, rfl⟩) pa_nil)))) pss_nil)
    (pss_one (ps_ret (pe_df T.cb (fun _ _ F => ok_cb F T) (hr.mono (by decide)) rfl (pa_cons (pe_df T.that (fun _ _ F => ok_that F T) hr rfl (pa_cons (pe_mt0 (pv 0) T.cl T.distances (fun _ _ F => ok_distances F T) (hr.mono (by decide))) (pa_cons (pe_fld (pv 0) rfl) (pa_cons (pv 2) pa_nil)))) pa_nil))))), ?_⟩
  refine ⟨_, rfl, nb, _, _, _, rfl, rfl, SqL.of hnb, at_of (j := 0) (v := V.int (v : Int)) rfl rfl, ?_⟩
  refine ⟨_, rfl, va, dx, fs, rfl, h1, h8 _ (by decide), _, rfl, va, _, s, rfl, S, _, rfl, ?_⟩
  rw [nat_lt_iff]
  refine ite2 (fun c => ?_) (fun c => ?_)
  · have c1 : s.valley.length ≤ v := by
      have : ¬ v < s.valley.length := fun z => by rw [decide_eq_true z] at c; cases c
      omega
    refine ⟨one_le, ret1 k Same.rfl' ?_⟩
    show Km459Neutral.told (if s.valley.length ≤ v then _ else _) = _
    rw [if_pos c1]
    rfl
  · have c1 : v < s.valley.length := by
      by_cases z : v < s.valley.length
      · exact z
      · exact absurd (by rw [decide_eq_false z]; rfl) c
    refine ⟨_, rfl, va, dx, fs, rfl, h1, h8 _ (by decide), va, s, rfl, S, G, fun H1 p hp hT e1 => ?_⟩
    refine ⟨_, rfl, va, C, dx, fs, _, rfl, e1 _ _ h1, T.cl, T.nT, h4, _, rfl, p, t, s.valley, s.votes, v, rfl, hT, e1 _ _ h7, G.lt, Nat.le_trans G.few (by decide), G.len, c1, fun H2 q hq hq2 e2 => ?_⟩
    refine ⟨q, _, rfl, hq2, range_up _ _, fun x hx => ?_, fun H3 q3 hq3 hq4 e3 => ?_⟩
    · have := List.mem_range.mp ((List.mem_filter.mp hx).1)
      have := G.len
      omega
    · refine k H3 q3 ((e1.trans e2).free hq3) ?_ (e1.trans (e2.trans e3))
      rw [hq4]
      show _ = some (HO.lst (zs (Km459Neutral.told (if s.valley.length ≤ v then _ else _))))
      rw [if_neg (by omega)]
      rfl
/-! ### vo_rather -/
theorem dec_not {a : Prop} [Decidable a] (h : (!decide a) = true) : ¬ a := fun z => by
  rw [decide_eq_true z] at h
  cases h
theorem dec_is {a : Prop} [Decidable a] (h : ¬ (!decide a) = true) : a := by
  by_cases z : a
  · exact z
  · exact absurd (by rw [decide_eq_false z]; rfl) h
theorem scVRather : FnScope ["valley", "numbers", "v", "w", "table"] ["valley", "numbers"] (defScope vRather) := ⟨rfl, rfl, rfl, by decide +kernel, rfl, by decide +kernel, by decide +kernel⟩
theorem ok_vRather {f : Addr} {fd : FuncData} (F : Fun K "vo_rather" "vo_rather" vRather f fd) (T : Txt K mg C) : FnOk P w K mg base CX0 3 f fd ["valley", "numbers"] (spVo C 7) := by
  refine F.ok scVRather spVo_len (fun cdv A outer sh H vs Q E hr h => ?_)
  obtain ⟨va, nb, s, nums, x, rfl, S, G, hnb, rq, k⟩ := h
  cases rq with
  | rather v w' =>
  obtain ⟨dx, fs, u, r, t, h1, h2, h3, h4, h5, h6, h7, h8⟩ := S.ex
  obtain ⟨t2, hc2⟩ := T.notThere
  refine ⟨_, pss_cons (ps_set (i := 2) scVRather.nd rfl (Or.inl rfl) (pe_ix ix_list (pv 1) pe_int (fun _ _ => rfl)))
    (pss_cons (ps_set (i := 3) scVRather.nd rfl (Or.inl rfl) (pe_ix ix_list (pv 1) pe_int (fun _ _ => rfl)))
    (pss_cons (ps_if (pw_or (pt_not (pt_val (pe_mt (pv 0) T.cl T.hasVillage (fun _ _ F => ok_hasVillage F T) (hr.mono (by decide)) (pa_cons (pv 2) pa_nil)))) (pw_or1 (pt_not (pt_val (pe_mt (pv 0) T.cl T.hasVillage (fun _ _ F => ok_hasVillage F T) (hr.mono (by decide)) (pa_cons (pv 3) pa_nil)))))).pt (pss_one (ps_ret (pe_lst (pa_cons (pe_glob (v := .int (-2)) rfl hc2 ⟨t2, rfl⟩) pa_nil)))) pss_nil)
    (pss_cons (ps_set (i := 4) scVRather.nd rfl (Or.inl rfl) (pe_mt0 (pv 0) T.cl T.distances (fun _ _ F => ok_distances F T) hr))
    (pss_one (ps_ret (pe_lst (pa_cons (pe_df T.count (fun _ _ F => ok_count F T) (hr.mono (by decide)) rfl (pa_cons (pv 4) (pa_cons (pe_fld (pv 0) rfl) (pa_cons (pv 2) (pa_cons (pv 3) pa_nil)))))
      (pa_cons (pe_df T.count (fun _ _ F => ok_count F T) (hr.mono (by decide)) rfl (pa_cons (pv 4) (pa_cons (pe_fld (pv 0) rfl) (pa_cons (pv 3) (pa_cons (pv 2) pa_nil))))) pa_nil)))))))), ?_⟩
  refine ⟨_, rfl, nb, _, _, _, rfl, rfl, SqL.of hnb, at_of (j := 0) (v := V.int (v : Int)) rfl rfl, ?_⟩
  refine ⟨_, rfl, nb, _, _, _, rfl, rfl, SqL.of hnb, at_of (j := 1) (v := V.int (w' : Int)) rfl rfl, ?_⟩
  have bad : s.valley.length ≤ v ∨ s.valley.length ≤ w' → ∀ p, H p = none → Q (.ref p) (upd H p (.lst [V.int (-2)])) := fun z => ret1 k Same.rfl' (by
    show Km459Neutral.told (if s.valley.length ≤ v ∨ s.valley.length ≤ w' then _ else _) = _
    rw [if_pos z]
    rfl)
  refine ⟨_, rfl, va, dx, fs, rfl, h1, h8 _ (by decide), _, rfl, va, _, s, rfl, S, _, rfl, ?_⟩
  rw [nat_lt_iff]
  refine ite2 (fun c => ?_) (fun c => ?_)
  · have := dec_not c
    exact ⟨one_le, bad (.inl (by omega))⟩
  · have cv := dec_is c
    refine ⟨_, rfl, va, dx, fs, rfl, h1, h8 _ (by decide), _, rfl, va, _, s, rfl, S, _, rfl, ?_⟩
    rw [nat_lt_iff]
    refine ite2 (fun c => ?_) (fun c => ?_)
    · have := dec_not c
      exact ⟨one_le, bad (.inr (by omega))⟩
    · have cw := dec_is c
      refine ⟨_, rfl, va, dx, fs, rfl, h1, h8 _ (by decide), va, s, rfl, S, G, fun H1 p hp hT e1 => ?_⟩
      refine ⟨_, rfl, _, rfl, va, C, dx, fs, _, rfl, e1 _ _ h1, T.cl, T.nT, h4, _, rfl, _, rfl, p, t, s.valley, s.votes, v, w', rfl, hT, e1 _ _ h7, G.lt, Nat.le_trans G.few (by decide), cv, cw, fun H2 e2 => ?_⟩
      have e12 := e1.trans e2
      refine ⟨_, rfl, _, rfl, va, C, dx, fs, _, rfl, e12 _ _ h1, T.cl, T.nT, h4, _, rfl, _, rfl, p, t, s.valley, s.votes, w', v, rfl, hT.same e2, e12 _ _ h7, G.lt, Nat.le_trans G.few (by decide), cw, cv, fun H3 e3 => ⟨two_le, ret2 k (e12.trans e3) ?_⟩⟩
      show Km459Neutral.told (if s.valley.length ≤ v ∨ s.valley.length ≤ w' then _ else _) = _
      rw [if_neg (by omega)]
      rfl
/-! ### vo_lie -/
theorem scVLie : FnScope ["valley", "numbers", "i", "v", "place"] ["valley", "numbers"] (defScope vLie) := ⟨rfl, rfl, rfl, by decide +kernel, rfl, by decide +kernel, by decide +kernel⟩
theorem ok_vLie {f : Addr} {fd : FuncData} (F : Fun K "vo_lie" "vo_lie" vLie f fd) (T : Txt K mg C) : FnOk P w K mg base CX0 4 f fd ["valley", "numbers"] (spVo C 11) := by
  refine F.ok scVLie spVo_len (fun cdv A outer sh H vs Q E hr h => ?_)
  obtain ⟨va, nb, s, nums, x, rfl, S, G, hnb, rq, k⟩ := h
  cases rq with
  | lie i v =>
  obtain ⟨dx, fs, u, r, t, h1, h2, h3, h4, h5, h6, h7, h8⟩ := S.ex
  obtain ⟨t2, hc2⟩ := T.notThere
  refine ⟨_, pss_cons (ps_set (i := 2) scVLie.nd rfl (Or.inl rfl) (pe_ix ix_list (pv 1) pe_int (fun _ _ => rfl)))
    (pss_cons (ps_set (i := 3) scVLie.nd rfl (Or.inl rfl) (pe_ix ix_list (pv 1) pe_int (fun _ _ => rfl)))
    (pss_cons (ps_if (pw_or (pt_not (pt_val (pe_mt (pv 0) T.cl T.hasVoter (fun _ _ F => ok_hasVoter F T) (hr.mono (by decide)) (pa_cons (pv 2) pa_nil)))) (pw_or1 (pt_not (pt_val (pe_mt (pv 0) T.cl T.hasVillage (fun _ _ F => ok_hasVillage F T) (hr.mono (by decide)) (pa_cons (pv 3) pa_nil)))))).pt (pss_one (ps_ret (pe_lst (pa_cons (pe_glob (v := .int (-2)) rfl hc2 ⟨t2, rfl⟩) pa_nil)))) pss_nil)
    (pss_cons (ps_set (i := 4) scVLie.nd rfl (Or.inl rfl) (pe_mt (pv 0) T.cl T.chosenIf (fun _ _ F => ok_chosenIf F T) hr (pa_cons (pv 2) (pa_cons (pv 3) pa_nil))))
    (pss_one (ps_ret (pe_lst (pa_cons (pv 4) (pa_cons (pe_ix ix_list (pe_mt (pv 0) T.cl T.fromHome (fun _ _ F => ok_fromHome F T) hr (pa_cons (pv 2) pa_nil)) (pv 4) (fun _ _ => rfl)) pa_nil)))))))), ?_⟩
  refine ⟨_, rfl, nb, _, _, _, rfl, rfl, SqL.of hnb, at_of (j := 0) (v := V.int (i : Int)) rfl rfl, ?_⟩
  refine ⟨_, rfl, nb, _, _, _, rfl, rfl, SqL.of hnb, at_of (j := 1) (v := V.int (v : Int)) rfl rfl, ?_⟩
  have bad : s.votes.length ≤ i ∨ s.valley.length ≤ v → ∀ p, H p = none → Q (.ref p) (upd H p (.lst [V.int (-2)])) := fun z => ret1 k Same.rfl' (by
    show Km459Neutral.told (if s.votes.length ≤ i ∨ s.valley.length ≤ v then _ else _) = _
    rw [if_pos z]
    rfl)
  refine ⟨_, rfl, va, dx, fs, rfl, h1, h8 _ (by decide), _, rfl, va, _, s, rfl, S, _, rfl, ?_⟩
  rw [nat_lt_iff]
  refine ite2 (fun c => ?_) (fun c => ?_)
  · have := dec_not c
    exact ⟨one_le, bad (.inl (by omega))⟩
  · have ci := dec_is c
    refine ⟨_, rfl, va, dx, fs, rfl, h1, h8 _ (by decide), _, rfl, va, _, s, rfl, S, _, rfl, ?_⟩
    rw [nat_lt_iff]
    refine ite2 (fun c => ?_) (fun c => ?_)
    · have := dec_not c
      exact ⟨one_le, bad (.inr (by omega))⟩
    · have cv := dec_is c
      refine ⟨_, rfl, va, dx, fs, rfl, h1, h8 _ (by decide), _, rfl, _, rfl, va, s, i, v, rfl, S, G, ci, cv, fun H1 e1 => ?_⟩
      refine ⟨_, rfl, _, rfl, va, dx, fs, rfl, e1 _ _ h1, h8 _ (by decide), _, rfl, va, s, i, rfl, S.same e1, G, ci, fun H2 a ha e2 => ?_⟩
      have e12 := e1.trans e2
      refine ⟨_, rfl, a, _, _, _, rfl, rfl, SqL.of ha, at_ints rfl (row_get (lied_lt G cv)), two_le, ret2 k e12 ?_⟩
      show Km459Neutral.told (if s.votes.length ≤ i ∨ s.valley.length ≤ v then _ else _) = _
      rw [if_neg (by omega)]
      rfl
/-! ### vo_best -/
theorem scVBest : FnScope ["valley", "numbers", "i", "from_home", "least", "place"] ["valley", "numbers"] (defScope vBest) := ⟨rfl, rfl, rfl, by decide +kernel, rfl, by decide +kernel, by decide +kernel⟩
theorem sways_mem {s : Sea} (G : Good s) {i x : Nat} : x ∈ Km459.sways s i ↔ ∃ v, v < s.valley.length ∧ Km459.lied s i v = x := by
  show x ∈ (List.range s.valley.length).filter ((List.range s.valley.length).map (Km459.lied s i)).contains ↔ _
  rw [List.mem_filter, List.contains_iff_mem, List.mem_range, List.mem_map]
  constructor
  · rintro ⟨_, v, hv, e⟩
    exact ⟨v, List.mem_range.mp hv, e⟩
  · rintro ⟨v, hv, e⟩
    exact ⟨by rw [← e]; exact lied_lt G hv, v, List.mem_range.mpr hv, e⟩
theorem sways_len {s : Sea} (G : Good s) (i : Nat) : (Km459.sways s i).length ≤ 12 := by
  refine Nat.le_trans (List.length_filter_le _ _) ?_
  rw [Sea.places, List.length_range]
  exact G.len
theorem best_eq {s : Sea} (G : Good s) {i : Nat} (hi : i < s.votes.length) {m : Nat} (h1 : m ∈ (Km459.sways s i).map fun x => far s.valley (s.votes.getD i 0) x)
    (h2 : ∀ y ∈ (Km459.sways s i).map fun x => far s.valley (s.votes.getD i 0) x, m ≤ y) : Km459.bestLie s i = m := by
  unfold Km459.bestLie
  have e : Km459.lied s i (s.votes.getD i 0) = Km459.chosen s.valley s.votes := by
    unfold Km459.lied
    have q : s.votes.set i (s.votes.getD i 0) = s.votes := by
      refine List.ext_getElem? fun j => ?_
      rw [List.getElem?_set]
      by_cases z : i = j
      · subst z
        rw [if_pos rfl, if_pos hi, vote_get hi]
      · rw [if_neg z]
    rw [q]
  have h2' : ∀ y ∈ (List.range s.valley.length).map fun v => far s.valley (s.votes.getD i 0) (Km459.lied s i v), m ≤ y := fun y hy => by
    obtain ⟨v, hv, rfl⟩ := List.mem_map.mp hy
    exact h2 _ (List.mem_map.mpr ⟨_, (sways_mem G).mpr ⟨v, List.mem_range.mp hv, rfl⟩, rfl⟩)
  refine foldl_min _ _ _ ?_ h2' (.inr ?_)
  · refine h2' _ (List.mem_map.mpr ⟨s.votes.getD i 0, List.mem_range.mpr (vote_lt G hi), ?_⟩)
    show far s.valley _ (Km459.lied s i (s.votes.getD i 0)) = _
    rw [e]
    rfl
  · obtain ⟨x, hx, rfl⟩ := List.mem_map.mp h1
    obtain ⟨v, hv, rfl⟩ := (sways_mem G).mp hx
    exact List.mem_map.mpr ⟨v, List.mem_range.mpr hv, rfl⟩
theorem ok_vBest {f : Addr} {fd : FuncData} (F : Fun K "vo_best" "vo_best" vBest f fd) (T : Txt K mg C) : FnOk P w K mg base CX0 5 f fd ["valley", "numbers"] (spVo C 12) := by
  refine F.ok scVBest spVo_len (fun cdv A outer sh H vs Q E hr h => ?_)
  obtain ⟨va, nb, s, nums, x, rfl, S, G, hnb, rq, k⟩ := h
  cases rq with
  | best i =>
  obtain ⟨dx, fs, u, r, t, h1, h2, h3, h4, h5, h6, h7, h8⟩ := S.ex
  obtain ⟨t2, hc2⟩ := T.notThere
  refine ⟨_, pss_cons (ps_set (i := 2) scVBest.nd rfl (Or.inl rfl) (pe_ix ix_list (pv 1) pe_int (fun _ _ => rfl)))
    (pss_cons (ps_if (pt_not (pt_val (pe_mt (pv 0) T.cl T.hasVoter (fun _ _ F => ok_hasVoter F T) (hr.mono (by decide)) (pa_cons (pv 2) pa_nil)))) (pss_one (ps_ret (pe_lst (pa_cons (pe_glob (v := .int (-2)) rfl hc2 ⟨t2, rfl⟩) pa_nil)))) pss_nil)
    (pss_cons (ps_set (i := 3) scVBest.nd rfl (Or.inr rfl) (pe_mt (pv 0) T.cl T.fromHome (fun _ _ F => ok_fromHome F T) (hr.mono (by decide)) (pa_cons (pv 2) pa_nil)))
    (pss_cons (ps_set (i := 4) scVBest.nd rfl (Or.inl rfl) (pe_callB (cr_min rfl) (by rfl) T.min (by decide +kernel) (pa_cons (pe_lc (own := [("place", 5)]) rfl scVBest.nd (pi_list (pe_mt (pv 0) T.cl T.swayed (fun _ _ F => ok_swayed F T) hr (pa_cons (pv 2) pa_nil))) (blkOk_by (by rfl))
      (fun _ _ _ _ _ => pg_name (i := 5) scVBest.nd rfl (Or.inl rfl))
      (fun _ _ _ _ _ => pts_nil)
      (fun _ _ _ _ _ => pe_ix (ix_l K) (pv 3) (pv 5) (fun _ _ => rfl))) pa_nil)))
    (pss_one (ps_ret (pe_lst (pa_cons (pv 4) (pa_cons (pe_ix ix_list (pv 3) (pe_mt0 (pv 0) T.cl T.mChosen (fun _ _ F => ok_mChosen F T) (hr.mono (by decide))) (fun _ _ => rfl)) pa_nil)))))))), ?_⟩
  refine ⟨_, rfl, nb, _, _, _, rfl, rfl, SqL.of hnb, at_of (j := 0) (v := V.int (i : Int)) rfl rfl, ?_⟩
  refine ⟨_, rfl, va, dx, fs, rfl, h1, h8 _ (by decide), _, rfl, va, _, s, rfl, S, _, rfl, ?_⟩
  rw [nat_lt_iff]
  refine ite2 (fun c => ?_) (fun c => ?_)
  · have c1 := dec_not c
    refine ⟨one_le, ret1 k Same.rfl' ?_⟩
    show Km459Neutral.told (if s.votes.length ≤ i then _ else _) = _
    rw [if_pos (by omega)]
    rfl
  · have ci := dec_is c
    refine ⟨_, rfl, va, dx, fs, rfl, h1, h8 _ (by decide), _, rfl, va, s, i, rfl, S, G, ci, fun H1 a ha e1 => ?_⟩
    refine ⟨_, rfl, va, dx, fs, rfl, e1 _ _ h1, h8 _ (by decide), _, rfl, va, s, i, rfl, S.same e1, G, ci, fun H2 q hq hq2 e2 => ?_⟩
    have e12 := e1.trans e2
    refine ⟨q, rfl, ⟨_, SqL.of hq2⟩, fun D hD => ?_⟩
    refine lc_list (K := K) (a := q) (xs := nats (Km459.sways s i)) (fun j H' => Same H2 H' ∧ H' D = some (.lst (nats (((Km459.sways s i).take j).map fun x => far s.valley (s.votes.getD i 0) x)))) ⟨Same.new hD, upd_same⟩ (fun j H' _ ⟨e, _⟩ => SqL.of (e _ _ hq2)) ?_ ?_
    · rintro j y H' hj ⟨e, hD'⟩
      obtain ⟨x, hx, rfl⟩ := nats_of hj
      have hxs : x < s.valley.length := by
        obtain ⟨v, hv, rfl⟩ := (sways_mem G).mp (List.mem_of_getElem? hx)
        exact lied_lt G hv
      refine ⟨rfl, tYes_T ?_⟩
      refine ⟨_, rfl, _, rfl, a, _, _, _, rfl, rfl, SqL.of ((e2.trans e) _ _ ha), at_ints rfl (row_get hxs), _, hD', ?_, e.put hD, ?_⟩
      · rw [nats_len, List.length_map]
        refine Nat.lt_of_le_of_lt (List.length_take_le' _ _) (Nat.lt_of_le_of_lt (sways_len G i) (by decide))
      · rw [upd_same, take_snoc hx, List.map_append, nats_append]
        rfl
    · rintro H3 ⟨e, hD'⟩
      rw [nats_len, List.take_length, nats_int] at hD'
      have e13 := e12.trans e
      refine ⟨D, _, rfl, SqL.of hD', ?_, fun m hm1 hm2 => ?_⟩
      · rw [List.length_map, List.length_map]
        exact List.length_pos_of_mem ((sways_mem G).mpr ⟨0, G.ok.pos, rfl⟩)
      · obtain ⟨m0, hm0, rfl⟩ := List.mem_map.mp hm1
        have eb := best_eq G ci hm0 fun y hy => by
          have := hm2 (y : Int) (List.mem_map.mpr ⟨y, hy, rfl⟩)
          omega
        refine ⟨_, rfl, _, rfl, _, rfl, va, dx, fs, rfl, e13 _ _ h1, h8 _ (by decide), va, s, rfl, S.same e13, G, fun H4 e4 => ?_⟩
        refine ⟨a, _, _, _, rfl, rfl, SqL.of (((e2.trans e).trans e4) _ _ ha), at_ints rfl (row_get (chosen_lt G.ok G.lt)), two_le, ret2 k (e13.trans e4) ?_⟩
        show Km459Neutral.told (if s.votes.length ≤ i then _ else ⟨((Km459.bestLie s i : Nat) : Int), _⟩) = _
        rw [if_neg (by omega), eb]
        rfl
/-! ### vo_row -/
theorem scVRow : FnScope ["valley", "numbers", "n", "places", "v"] ["valley", "numbers"] (defScope vRow) := ⟨rfl, rfl, rfl, by decide +kernel, rfl, by decide +kernel, by decide +kernel⟩
theorem row_cut (n a b c d e : Nat) (h : n ≤ 5) : cutV (zs [(n : Int), 5, (a : Int), (b : Int), (c : Int), (d : Int), (e : Int)]) (some 2) (some (2 + (n : Int))) = nats ([a, b, c, d, e].take n) := by
  have q := cut_nat (zs [(n : Int), 5, (a : Int), (b : Int), (c : Int), (d : Int), (e : Int)]) 2 (2 + n) (by omega) (by show 2 + n ≤ 7; omega)
  have z : ((2 + n : Nat) : Int) = 2 + (n : Int) := by omega
  rw [z] at q
  refine q.trans ?_
  rw [Nat.add_sub_cancel_left]
  show (nats [a, b, c, d, e]).take n = _
  unfold nats
  rw [List.map_take]
theorem ok_vRow {f : Addr} {fd : FuncData} (F : Fun K "vo_row" "vo_row" vRow f fd) (T : Txt K mg C) : FnOk P w K mg base CX0 4 f fd ["valley", "numbers"] (spVo C 10) := by
  refine F.ok scVRow spVo_len (fun cdv A outer sh H vs Q E hr h => ?_)
  obtain ⟨va, nb, s, nums, x, rfl, S, G, hnb, rq, k⟩ := h
  cases rq with
  | row n a b c d e =>
  obtain ⟨dx, fs, u, r, t, h1, h2, h3, h4, h5, h6, h7, h8⟩ := S.ex
  obtain ⟨t2, hc2⟩ := T.notThere
  obtain ⟨t3, hc3⟩ := T.outOf
  obtain ⟨t5, hc5⟩ := T.longRow
  refine ⟨_, pss_cons (ps_set (i := 2) scVRow.nd rfl (Or.inl rfl) (pe_ix ix_list (pv 1) pe_int (fun _ _ => rfl)))
    (pss_cons (ps_if (PW.pt (pw_or (pt_cmpR op_lt (pv 2) pe_int (nomark _)) (pw_or1 (pt_cmpR op_gt (pv 2) (pe_glob (v := .int 5) rfl hc5 ⟨t5, rfl⟩) (nomark _))))) (pss_one (ps_ret (pe_lst (pa_cons (pe_glob (v := .int (-22)) rfl hc3 ⟨t3, rfl⟩) pa_nil)))) pss_nil)
    (pss_cons (ps_set (i := 3) scVRow.nd rfl (Or.inl rfl) (pe_slice sl_list (pv 1) (po_some pe_int) (po_some (pe_op op_add pe_int (pv 2)))))
    (pss_cons (ps_for PassesOwn.never rfl (pi_list (pv 3)) (pg_name (i := 4) scVRow.nd rfl (Or.inl rfl))
      (pss_one (ps_if (pt_not (pt_val (pe_mt (pv 0) T.cl T.hasVillage (fun _ _ F => ok_hasVillage F T) (hr.mono (by decide)) (pa_cons (pv 4) pa_nil)))) (pss_one (ps_ret (pe_lst (pa_cons (pe_glob (v := .int (-2)) rfl hc2 ⟨t2, rfl⟩) pa_nil)))) pss_nil)))
    (pss_one (ps_ret (pe_lst (pa_cons (pe_df T.left (fun _ _ F => ok_left F T) hr rfl (pa_cons (pe_mt0 (pv 0) T.cl T.distances (fun _ _ F => ok_distances F T) (hr.mono (by decide))) (pa_cons (pe_fld (pv 0) rfl) (pa_cons (pv 3) pa_nil)))) pa_nil))))))), ?_⟩
  refine ⟨_, rfl, nb, _, _, _, rfl, rfl, SqL.of hnb, at_of (j := 0) (v := V.int (n : Int)) rfl rfl, ?_⟩
  have bad : n = 0 ∨ 5 < n → ∀ p, H p = none → Q (.ref p) (upd H p (.lst [V.int (-22)])) := fun z => ret1 k Same.rfl' (by
    show Km459Neutral.told (if n = 0 ∨ 5 < n then _ else _) = _
    rw [if_pos z]
    rfl)
  refine ⟨_, rfl, _, _, rfl, rfl, _, rfl, ite2 (fun c1 => ⟨one_le, bad (.inl ?_)⟩) (fun c1 => ?_)⟩
  · have := of_decide_eq_true c1
    omega
  have k1 : 1 ≤ n := by
    by_cases z : 1 ≤ n
    · exact z
    · exact absurd (decide_eq_true (by omega)) c1
  refine ⟨_, rfl, _, _, rfl, rfl, _, rfl, ite2 (fun c2 => ⟨one_le, bad (.inr ?_)⟩) (fun c2 => ?_)⟩
  · have := of_decide_eq_true c2
    omega
  have k2 : n ≤ 5 := by
    by_cases z : n ≤ 5
    · exact z
    · exact absurd (decide_eq_true (by omega)) c2
  have no : ¬ (n = 0 ∨ 5 < n) := by omega
  refine ⟨_, rfl, _, rfl, _, rfl, _, _, rfl, rfl, _, rfl, nb, _, rfl, SqL.of hnb, fun pl hpl => ?_⟩
  rw [row_cut n a b c d e k2]
  have s0 : Same H (upd H pl (.lst (nats ([a, b, c, d, e].take n)))) := Same.new hpl
  refine ⟨_, rfl, pl, rfl, ⟨_, SqL.of upd_same⟩, for_list (K := K) (a := pl) (xs := nats ([a, b, c, d, e].take n)) (fun i σ H' => ∃ y : Option V, σ = [some (.ref va), some (.ref nb), some (.int (n : Int)), some (.ref pl), y] ∧ H' = upd H pl (.lst (nats ([a, b, c, d, e].take n))) ∧ ∀ x ∈ ([a, b, c, d, e].take n).take i, x < s.valley.length)
    ⟨none, rfl, rfl, by simp⟩ (fun i σ H' _ ⟨_, _, e, _⟩ => by subst e; exact SqL.of upd_same) ?_ ?_⟩
  · rintro i y σ H' hi ⟨y0, rfl, rfl, hall⟩
    obtain ⟨x, hx, rfl⟩ := nats_of hi
    refine ⟨_, rfl, va, dx, fs, rfl, s0 _ _ h1, h8 _ (by decide), _, rfl, va, _, s, rfl, S.same s0, _, rfl, ?_⟩
    rw [nat_lt_iff]
    refine ite2 (fun cc => ?_) (fun cc => ?_)
    · have cx := dec_not cc
      refine ⟨one_le, ret1 k s0 ?_⟩
      show Km459Neutral.told (if n = 0 ∨ 5 < n then _ else if (([a, b, c, d, e].take n).all fun v => decide (v < s.valley.length)) = false then _ else _) = _
      rw [if_neg no, if_pos]
      · rfl
      · rw [List.all_eq_false]
        exact ⟨x, List.mem_of_getElem? hx, by simpa using cx⟩
    · have cx := dec_is cc
      refine ⟨_, rfl, rfl, fun z hz => ?_⟩
      rw [take_snoc hx] at hz
      rcases List.mem_append.mp hz with q | q
      · exact hall z q
      · have ez : z = x := by simpa using q
        rw [ez]
        exact cx
  · rintro σ H' ⟨y0, rfl, rfl, hall⟩
    rw [nats_len, List.take_length] at hall
    have em : [a, b, c, d, e].take n = a :: ([a, b, c, d, e].take n).drop 1 := by
      obtain ⟨m, rfl⟩ : ∃ m, n = m + 1 := ⟨n - 1, by omega⟩
      rfl
    refine ⟨_, rfl, va, dx, fs, rfl, s0 _ _ h1, h8 _ (by decide), va, s, rfl, S.same s0, G, fun H2 p hp hT e2 => ?_⟩
    have e02 := s0.trans e2
    refine ⟨_, rfl, va, C, dx, fs, _, rfl, e02 _ _ h1, T.cl, T.nT, h4, _, rfl, p, t, pl, s.valley, s.votes, a, ([a, b, c, d, e].take n).drop 1, rfl, hT, e02 _ _ h7, G.lt, Nat.le_trans G.few (by decide), ?_, ?_, fun H3 e3 => ⟨one_le, ret1 k (e02.trans e3) ?_⟩⟩
    · rw [← em]
      exact e2 _ _ upd_same
    · rw [← em]
      exact hall
    · show Km459Neutral.told (if n = 0 ∨ 5 < n then _ else if (([a, b, c, d, e].take n).all fun v => decide (v < s.valley.length)) = false then _ else _) = _
      have q : (([a, b, c, d, e].take n).all fun v => decide (v < s.valley.length)) = true := List.all_eq_true.mpr fun z hz => decide_eq_true (hall z hz)
      rw [if_neg no, if_neg (by rw [q]; decide)]
      rfl
end
end Rv
end
section
set_option Elab.async false
set_option linter.all false
set_option maxRecDepth 100000
set_option maxHeartbeats 4000000
/-! More calls that only look. -/
namespace Rv
open PySem PySem.Spec PyProof.Rows L2
open Km457 (Valley at_ far)
open Km459 (Sea Call)
abbrev vBoth : Stmt := top 40
abbrev vSways : Stmt := top 41
abbrev vWith : Stmt := top 42
abbrev vNearer : Stmt := top 43
abbrev vFar : Stmt := top 44
abbrev vTotal : Stmt := top 45
abbrev vWho : Stmt := top 46
abbrev vLook : Stmt := top 47
abbrev vPlace : Stmt := top 48
abbrev vSums : Stmt := top 49
theorem ret3 {H : Hp} {z y x : Int} {ans : List Int} {Q : VK} (k : ∀ (H' : Hp) (q : Addr), H q = none → H' q = some (.lst (zs ans)) → Same H H' → Q (.ref q) H') {H1 : Hp} (e : Same H H1) (ea : ans = [z, y, x]) : ∀ p, H1 p = none → Q (.ref p) (upd H1 p (.lst [V.int z, V.int y, V.int x])) := fun p hp => by
  have h0 := e.free hp
  refine k _ p h0 ?_ (e.put h0)
  rw [upd_same, ea]
  rfl
theorem three_le : 3 ≤ sizeLine := by decide
section
variable {P : Program} {w : World} {K : PySem.W.Frag} {mg : Str → Option Value} {base : Heap} {C : Addr}
theorem scVSways : FnScope ["valley", "numbers", "i"] ["valley", "numbers"] (defScope vSways) := ⟨rfl, rfl, rfl, by decide +kernel, rfl, by decide +kernel, by decide +kernel⟩
theorem ok_vSways {f : Addr} {fd : FuncData} (F : Fun K "vo_sways" "vo_sways" vSways f fd) (T : Txt K mg C) : FnOk P w K mg base CX0 5 f fd ["valley", "numbers"] (spVo C 14) := by
  refine F.ok scVSways spVo_len (fun cdv A outer sh H vs Q E hr h => ?_)
  obtain ⟨va, nb, s, nums, x, rfl, S, G, hnb, rq, k⟩ := h
  cases rq with
  | sways i =>
  obtain ⟨dx, fs, u, r, t, h1, h2, h3, h4, h5, h6, h7, h8⟩ := S.ex
  obtain ⟨t2, hc2⟩ := T.notThere
  refine ⟨_, pss_cons (ps_set (i := 2) scVSways.nd rfl (Or.inl rfl) (pe_ix ix_list (pv 1) pe_int (fun _ _ => rfl)))
    (pss_cons (ps_if (pt_not (pt_val (pe_mt (pv 0) T.cl T.hasVoter (fun _ _ F => ok_hasVoter F T) (hr.mono (by decide)) (pa_cons (pv 2) pa_nil)))) (pss_one (ps_ret (pe_lst (pa_cons (pe_glob (v := .int (-2)) rfl hc2 ⟨t2, rfl⟩) pa_nil)))) pss_nil)
    (pss_one (ps_ret (pe_df T.cb (fun _ _ F => ok_cb F T) (hr.mono (by decide)) rfl (pa_cons (pe_mt (pv 0) T.cl T.swayed (fun _ _ F => ok_swayed F T) (hr.mono (by decide)) (pa_cons (pv 2) pa_nil)) pa_nil))))), ?_⟩
  refine ⟨_, rfl, nb, _, _, _, rfl, rfl, SqL.of hnb, at_of (j := 0) (v := V.int (i : Int)) rfl rfl, ?_⟩
  refine ⟨_, rfl, va, dx, fs, rfl, h1, h8 _ (by decide), _, rfl, va, _, s, rfl, S, _, rfl, ?_⟩
  rw [nat_lt_iff]
  refine ite2 (fun c => ?_) (fun c => ?_)
  · have c1 := dec_not c
    refine ⟨one_le, ret1 k Same.rfl' ?_⟩
    show Km459Neutral.told (if s.votes.length ≤ i then _ else _) = _
    rw [if_pos (by omega)]
    rfl
  · have c1 := dec_is c
    refine ⟨_, rfl, va, dx, fs, rfl, h1, h8 _ (by decide), _, rfl, va, s, i, rfl, S, G, c1, fun H1 q hq hq2 e1 => ?_⟩
    refine ⟨q, _, rfl, hq2, range_up _ _, fun x hx => ?_, fun H3 q3 hq3 hq4 e3 => ?_⟩
    · obtain ⟨v, hv, rfl⟩ := (sways_mem G).mp hx
      have := lied_lt (i := i) G hv
      have := G.len
      omega
    · refine k H3 q3 (e1.free hq3) ?_ (e1.trans e3)
      rw [hq4]
      show _ = some (HO.lst (zs (Km459Neutral.told (if s.votes.length ≤ i then _ else _))))
      rw [if_neg (by omega)]
      rfl
theorem scVWith : FnScope ["valley", "numbers", "v"] ["valley", "numbers"] (defScope vWith) := ⟨rfl, rfl, rfl, by decide +kernel, rfl, by decide +kernel, by decide +kernel⟩
theorem ok_vWith {f : Addr} {fd : FuncData} (F : Fun K "vo_with" "vo_with" vWith f fd) (T : Txt K mg C) : FnOk P w K mg base CX0 4 f fd ["valley", "numbers"] (spVo C 15) := by
  refine F.ok scVWith spVo_len (fun cdv A outer sh H vs Q E hr h => ?_)
  obtain ⟨va, nb, s, nums, x, rfl, S, G, hnb, rq, k⟩ := h
  cases rq with
  | with_ v =>
  obtain ⟨dx, fs, u, r, t, h1, h2, h3, h4, h5, h6, h7, h8⟩ := S.ex
  obtain ⟨t2, hc2⟩ := T.notThere
  refine ⟨_, pss_cons (ps_set (i := 2) scVWith.nd rfl (Or.inl rfl) (pe_ix ix_list (pv 1) pe_int (fun _ _ => rfl)))
    (pss_cons (ps_if (pt_not (pt_val (pe_mt (pv 0) T.cl T.hasVillage (fun _ _ F => ok_hasVillage F T) (hr.mono (by decide)) (pa_cons (pv 2) pa_nil)))) (pss_one (ps_ret (pe_lst (pa_cons (pe_glob (v := .int (-2)) rfl hc2 ⟨t2, rfl⟩) pa_nil)))) pss_nil)
    (pss_one (ps_ret (pe_lst (pa_cons (pe_mt (pv 0) T.cl T.chosenWith (fun _ _ F => ok_chosenWith F T) (hr.mono (by decide)) (pa_cons (pv 2) pa_nil)) pa_nil))))), ?_⟩
  refine ⟨_, rfl, nb, _, _, _, rfl, rfl, SqL.of hnb, at_of (j := 0) (v := V.int (v : Int)) rfl rfl, ?_⟩
  refine ⟨_, rfl, va, dx, fs, rfl, h1, h8 _ (by decide), _, rfl, va, _, s, rfl, S, _, rfl, ?_⟩
  rw [nat_lt_iff]
  refine ite2 (fun c => ?_) (fun c => ?_)
  · have c1 := dec_not c
    refine ⟨one_le, ret1 k Same.rfl' ?_⟩
    show Km459Neutral.told (if s.valley.length ≤ v then _ else _) = _
    rw [if_pos (by omega)]
    rfl
  · have c1 := dec_is c
    refine ⟨_, rfl, va, dx, fs, rfl, h1, h8 _ (by decide), _, rfl, va, s, v, rfl, S, G, c1, fun H1 e1 => ⟨one_le, ret1 k e1 ?_⟩⟩
    show Km459Neutral.told (if s.valley.length ≤ v then _ else _) = _
    rw [if_neg (by omega)]
    rfl
theorem scVNearer : FnScope ["valley", "numbers", "v"] ["valley", "numbers"] (defScope vNearer) := ⟨rfl, rfl, rfl, by decide +kernel, rfl, by decide +kernel, by decide +kernel⟩
theorem ok_vNearer {f : Addr} {fd : FuncData} (F : Fun K "vo_nearer" "vo_nearer" vNearer f fd) (T : Txt K mg C) : FnOk P w K mg base CX0 4 f fd ["valley", "numbers"] (spVo C 16) := by
  refine F.ok scVNearer spVo_len (fun cdv A outer sh H vs Q E hr h => ?_)
  obtain ⟨va, nb, s, nums, x, rfl, S, G, hnb, rq, k⟩ := h
  cases rq with
  | all_ v =>
  obtain ⟨dx, fs, u, r, t, h1, h2, h3, h4, h5, h6, h7, h8⟩ := S.ex
  obtain ⟨t2, hc2⟩ := T.notThere
  refine ⟨_, pss_cons (ps_set (i := 2) scVNearer.nd rfl (Or.inl rfl) (pe_ix ix_list (pv 1) pe_int (fun _ _ => rfl)))
    (pss_cons (ps_if (pt_not (pt_val (pe_mt (pv 0) T.cl T.hasVillage (fun _ _ F => ok_hasVillage F T) (hr.mono (by decide)) (pa_cons (pv 2) pa_nil)))) (pss_one (ps_ret (pe_lst (pa_cons (pe_glob (v := .int (-2)) rfl hc2 ⟨t2, rfl⟩) pa_nil)))) pss_nil)
    (pss_one (ps_ret (pe_lst (pa_cons (pe_df T.count (fun _ _ F => ok_count F T) (hr.mono (by decide)) rfl (pa_cons (pe_mt0 (pv 0) T.cl T.distances (fun _ _ F => ok_distances F T) (hr.mono (by decide))) (pa_cons (pe_fld (pv 0) rfl) (pa_cons (pv 2) (pa_cons (pe_mt0 (pv 0) T.cl T.mChosen (fun _ _ F => ok_mChosen F T) (hr.mono (by decide))) pa_nil))))) pa_nil))))), ?_⟩
  refine ⟨_, rfl, nb, _, _, _, rfl, rfl, SqL.of hnb, at_of (j := 0) (v := V.int (v : Int)) rfl rfl, ?_⟩
  refine ⟨_, rfl, va, dx, fs, rfl, h1, h8 _ (by decide), _, rfl, va, _, s, rfl, S, _, rfl, ?_⟩
  rw [nat_lt_iff]
  refine ite2 (fun c => ?_) (fun c => ?_)
  · have c1 := dec_not c
    refine ⟨one_le, ret1 k Same.rfl' ?_⟩
    show Km459Neutral.told (if s.valley.length ≤ v then _ else _) = _
    rw [if_pos (by omega)]
    rfl
  · have c1 := dec_is c
    refine ⟨_, rfl, va, dx, fs, rfl, h1, h8 _ (by decide), va, s, rfl, S, G, fun H1 p hp hT e1 => ?_⟩
    refine ⟨_, rfl, va, C, dx, fs, _, rfl, e1 _ _ h1, T.cl, T.nT, h4, _, rfl, _, rfl, va, dx, fs, rfl, e1 _ _ h1, h8 _ (by decide), va, s, rfl, S.same e1, G, fun H2 e2 => ?_⟩
    have e12 := e1.trans e2
    refine ⟨p, t, s.valley, s.votes, v, _, rfl, hT.same e2, e12 _ _ h7, G.lt, Nat.le_trans G.few (by decide), c1, chosen_lt G.ok G.lt, fun H3 e3 => ⟨one_le, ret1 k (e12.trans e3) ?_⟩⟩
    show Km459Neutral.told (if s.valley.length ≤ v then _ else _) = _
    rw [if_neg (by omega)]
    rfl
theorem scVFar : FnScope ["valley", "numbers", "i"] ["valley", "numbers"] (defScope vFar) := ⟨rfl, rfl, rfl, by decide +kernel, rfl, by decide +kernel, by decide +kernel⟩
theorem ok_vFar {f : Addr} {fd : FuncData} (F : Fun K "vo_far" "vo_far" vFar f fd) (T : Txt K mg C) : FnOk P w K mg base CX0 4 f fd ["valley", "numbers"] (spVo C 17) := by
  refine F.ok scVFar spVo_len (fun cdv A outer sh H vs Q E hr h => ?_)
  obtain ⟨va, nb, s, nums, x, rfl, S, G, hnb, rq, k⟩ := h
  cases rq with
  | far i =>
  obtain ⟨dx, fs, u, r, t, h1, h2, h3, h4, h5, h6, h7, h8⟩ := S.ex
  obtain ⟨t2, hc2⟩ := T.notThere
  refine ⟨_, pss_cons (ps_set (i := 2) scVFar.nd rfl (Or.inl rfl) (pe_ix ix_list (pv 1) pe_int (fun _ _ => rfl)))
    (pss_cons (ps_if (pt_not (pt_val (pe_mt (pv 0) T.cl T.hasVoter (fun _ _ F => ok_hasVoter F T) (hr.mono (by decide)) (pa_cons (pv 2) pa_nil)))) (pss_one (ps_ret (pe_lst (pa_cons (pe_glob (v := .int (-2)) rfl hc2 ⟨t2, rfl⟩) pa_nil)))) pss_nil)
    (pss_one (ps_ret (pe_lst (pa_cons (pe_ix ix_list (pe_mt (pv 0) T.cl T.fromHome (fun _ _ F => ok_fromHome F T) (hr.mono (by decide)) (pa_cons (pv 2) pa_nil)) (pe_mt0 (pv 0) T.cl T.mChosen (fun _ _ F => ok_mChosen F T) (hr.mono (by decide))) (fun _ _ => rfl)) pa_nil))))), ?_⟩
  refine ⟨_, rfl, nb, _, _, _, rfl, rfl, SqL.of hnb, at_of (j := 0) (v := V.int (i : Int)) rfl rfl, ?_⟩
  refine ⟨_, rfl, va, dx, fs, rfl, h1, h8 _ (by decide), _, rfl, va, _, s, rfl, S, _, rfl, ?_⟩
  rw [nat_lt_iff]
  refine ite2 (fun c => ?_) (fun c => ?_)
  · have c1 := dec_not c
    refine ⟨one_le, ret1 k Same.rfl' ?_⟩
    show Km459Neutral.told (if s.votes.length ≤ i then _ else _) = _
    rw [if_pos (by omega)]
    rfl
  · have c1 := dec_is c
    refine ⟨_, rfl, va, dx, fs, rfl, h1, h8 _ (by decide), _, rfl, va, s, i, rfl, S, G, c1, fun H1 a ha e1 => ?_⟩
    refine ⟨_, rfl, va, dx, fs, rfl, e1 _ _ h1, h8 _ (by decide), va, s, rfl, S.same e1, G, fun H2 e2 => ?_⟩
    refine ⟨a, _, _, _, rfl, rfl, SqL.of (e2 _ _ ha), at_ints rfl (row_get (chosen_lt G.ok G.lt)), one_le, ret1 k (e1.trans e2) ?_⟩
    show Km459Neutral.told (if s.votes.length ≤ i then _ else _) = _
    rw [if_neg (by omega)]
    rfl
theorem scVTotal : FnScope ["valley", "numbers", "v"] ["valley", "numbers"] (defScope vTotal) := ⟨rfl, rfl, rfl, by decide +kernel, rfl, by decide +kernel, by decide +kernel⟩
theorem ok_vTotal {f : Addr} {fd : FuncData} (F : Fun K "vo_total" "vo_total" vTotal f fd) (T : Txt K mg C) : FnOk P w K mg base CX0 3 f fd ["valley", "numbers"] (spVo C 18) := by
  refine F.ok scVTotal spVo_len (fun cdv A outer sh H vs Q E hr h => ?_)
  obtain ⟨va, nb, s, nums, x, rfl, S, G, hnb, rq, k⟩ := h
  cases rq with
  | total v =>
  obtain ⟨dx, fs, u, r, t, h1, h2, h3, h4, h5, h6, h7, h8⟩ := S.ex
  obtain ⟨t2, hc2⟩ := T.notThere
  refine ⟨_, pss_cons (ps_set (i := 2) scVTotal.nd rfl (Or.inl rfl) (pe_ix ix_list (pv 1) pe_int (fun _ _ => rfl)))
    (pss_cons (ps_if (pt_not (pt_val (pe_mt (pv 0) T.cl T.hasVillage (fun _ _ F => ok_hasVillage F T) (hr.mono (by decide)) (pa_cons (pv 2) pa_nil)))) (pss_one (ps_ret (pe_lst (pa_cons (pe_glob (v := .int (-2)) rfl hc2 ⟨t2, rfl⟩) pa_nil)))) pss_nil)
    (pss_one (ps_ret (pe_lst (pa_cons (pe_df T.ofAll (fun _ _ F => ok_ofAll F T) (hr.mono (by decide)) rfl (pa_cons (pe_mt0 (pv 0) T.cl T.distances (fun _ _ F => ok_distances F T) (hr.mono (by decide))) (pa_cons (pe_fld (pv 0) rfl) (pa_cons (pv 2) pa_nil)))) pa_nil))))), ?_⟩
  refine ⟨_, rfl, nb, _, _, _, rfl, rfl, SqL.of hnb, at_of (j := 0) (v := V.int (v : Int)) rfl rfl, ?_⟩
  refine ⟨_, rfl, va, dx, fs, rfl, h1, h8 _ (by decide), _, rfl, va, _, s, rfl, S, _, rfl, ?_⟩
  rw [nat_lt_iff]
  refine ite2 (fun c => ?_) (fun c => ?_)
  · have c1 := dec_not c
    refine ⟨one_le, ret1 k Same.rfl' ?_⟩
    show Km459Neutral.told (if s.valley.length ≤ v then _ else _) = _
    rw [if_pos (by omega)]
    rfl
  · have c1 := dec_is c
    refine ⟨_, rfl, va, dx, fs, rfl, h1, h8 _ (by decide), va, s, rfl, S, G, fun H1 p hp hT e1 => ?_⟩
    refine ⟨_, rfl, va, C, dx, fs, _, rfl, e1 _ _ h1, T.cl, T.nT, h4, _, rfl, p, t, s.valley, s.votes, v, rfl, G.ok, hT, e1 _ _ h7, G.lt, Nat.le_trans G.few (by decide), c1, fun H2 e2 => ⟨one_le, ret1 k (e1.trans e2) ?_⟩⟩
    show Km459Neutral.told (if s.valley.length ≤ v then _ else _) = _
    rw [if_neg (by omega)]
    rfl
theorem scVWho : FnScope ["valley", "numbers", "v"] ["valley", "numbers"] (defScope vWho) := ⟨rfl, rfl, rfl, by decide +kernel, rfl, by decide +kernel, by decide +kernel⟩
theorem ok_vWho {f : Addr} {fd : FuncData} (F : Fun K "vo_who" "vo_who" vWho f fd) (T : Txt K mg C) : FnOk P w K mg base CX0 3 f fd ["valley", "numbers"] (spVo C 19) := by
  refine F.ok scVWho spVo_len (fun cdv A outer sh H vs Q E hr h => ?_)
  obtain ⟨va, nb, s, nums, x, rfl, S, G, hnb, rq, k⟩ := h
  cases rq with
  | who v =>
  obtain ⟨dx, fs, u, r, t, h1, h2, h3, h4, h5, h6, h7, h8⟩ := S.ex
  obtain ⟨t2, hc2⟩ := T.notThere
  refine ⟨_, pss_cons (ps_set (i := 2) scVWho.nd rfl (Or.inl rfl) (pe_ix ix_list (pv 1) pe_int (fun _ _ => rfl)))
    (pss_cons (ps_if (pt_not (pt_val (pe_mt (pv 0) T.cl T.hasVillage (fun _ _ F => ok_hasVillage F T) (hr.mono (by decide)) (pa_cons (pv 2) pa_nil)))) (pss_one (ps_ret (pe_lst (pa_cons (pe_glob (v := .int (-2)) rfl hc2 ⟨t2, rfl⟩) pa_nil)))) pss_nil)
    (pss_one (ps_ret (pe_df T.cb (fun _ _ F => ok_cb F T) (hr.mono (by decide)) rfl (pa_cons (pe_mt (pv 0) T.cl T.votersOf (fun _ _ F => ok_votersOf F T) (hr.mono (by decide)) (pa_cons (pv 2) pa_nil)) pa_nil))))), ?_⟩
  refine ⟨_, rfl, nb, _, _, _, rfl, rfl, SqL.of hnb, at_of (j := 0) (v := V.int (v : Int)) rfl rfl, ?_⟩
  refine ⟨_, rfl, va, dx, fs, rfl, h1, h8 _ (by decide), _, rfl, va, _, s, rfl, S, _, rfl, ?_⟩
  rw [nat_lt_iff]
  refine ite2 (fun c => ?_) (fun c => ?_)
  · have c1 := dec_not c
    refine ⟨one_le, ret1 k Same.rfl' ?_⟩
    show Km459Neutral.told (if s.valley.length ≤ v then _ else _) = _
    rw [if_pos (by omega)]
    rfl
  · have c1 := dec_is c
    refine ⟨_, rfl, va, dx, fs, rfl, h1, h8 _ (by decide), _, rfl, va, s, v, rfl, S, G, fun H1 q hq hq2 e1 => ?_⟩
    refine ⟨q, _, rfl, hq2, range_up _ _, fun x hx => ?_, fun H3 q3 hq3 hq4 e3 => ?_⟩
    · have := List.mem_range.mp ((List.mem_filter.mp hx).1)
      have := G.few
      omega
    · refine k H3 q3 (e1.free hq3) ?_ (e1.trans e3)
      rw [hq4]
      show _ = some (HO.lst (zs (Km459Neutral.told (if s.valley.length ≤ v then _ else _))))
      rw [if_neg (by omega)]
      rfl
theorem scVLook : FnScope ["valley", "numbers", "i"] ["valley", "numbers"] (defScope vLook) := ⟨rfl, rfl, rfl, by decide +kernel, rfl, by decide +kernel, by decide +kernel⟩
theorem ok_vLook {f : Addr} {fd : FuncData} (F : Fun K "vo_look" "vo_look" vLook f fd) (T : Txt K mg C) : FnOk P w K mg base CX0 2 f fd ["valley", "numbers"] (spVo C 20) := by
  refine F.ok scVLook spVo_len (fun cdv A outer sh H vs Q E hr h => ?_)
  obtain ⟨va, nb, s, nums, x, rfl, S, G, hnb, rq, k⟩ := h
  cases rq with
  | look i =>
  obtain ⟨dx, fs, u, r, t, h1, h2, h3, h4, h5, h6, h7, h8⟩ := S.ex
  obtain ⟨t2, hc2⟩ := T.notThere
  refine ⟨_, pss_cons (ps_set (i := 2) scVLook.nd rfl (Or.inl rfl) (pe_ix ix_list (pv 1) pe_int (fun _ _ => rfl)))
    (pss_cons (ps_if (pt_not (pt_val (pe_mt (pv 0) T.cl T.hasVoter (fun _ _ F => ok_hasVoter F T) (hr.mono (by decide)) (pa_cons (pv 2) pa_nil)))) (pss_one (ps_ret (pe_lst (pa_cons (pe_glob (v := .int (-2)) rfl hc2 ⟨t2, rfl⟩) pa_nil)))) pss_nil)
    (pss_one (ps_ret (pe_lst (pa_cons (pe_ix ix_list (pe_fld (pv 0) rfl) (pv 2) (fun _ _ => rfl)) pa_nil))))), ?_⟩
  refine ⟨_, rfl, nb, _, _, _, rfl, rfl, SqL.of hnb, at_of (j := 0) (v := V.int (i : Int)) rfl rfl, ?_⟩
  refine ⟨_, rfl, va, dx, fs, rfl, h1, h8 _ (by decide), _, rfl, va, _, s, rfl, S, _, rfl, ?_⟩
  rw [nat_lt_iff]
  refine ite2 (fun c => ?_) (fun c => ?_)
  · have c1 := dec_not c
    refine ⟨one_le, ret1 k Same.rfl' ?_⟩
    show Km459Neutral.told (if s.votes.length ≤ i then _ else _) = _
    rw [if_pos (by omega)]
    rfl
  · have c1 := dec_is c
    refine ⟨_, rfl, va, C, dx, fs, _, rfl, h1, T.cl, T.nT, h4, _, rfl, t, _, _, _, rfl, rfl, SqL.of h7, at_ints rfl (vote_get c1), one_le, ret1 k Same.rfl' ?_⟩
    show Km459Neutral.told (if s.votes.length ≤ i then _ else _) = _
    rw [if_neg (by omega)]
    rfl
theorem scVPlace : FnScope ["valley", "numbers", "v"] ["valley", "numbers"] (defScope vPlace) := ⟨rfl, rfl, rfl, by decide +kernel, rfl, by decide +kernel, by decide +kernel⟩
theorem ok_vPlace {f : Addr} {fd : FuncData} (F : Fun K "vo_place" "vo_place" vPlace f fd) (T : Txt K mg C) : FnOk P w K mg base CX0 2 f fd ["valley", "numbers"] (spVo C 21) := by
  refine F.ok scVPlace spVo_len (fun cdv A outer sh H vs Q E hr h => ?_)
  obtain ⟨va, nb, s, nums, x, rfl, S, G, hnb, rq, k⟩ := h
  cases rq with
  | place v =>
  obtain ⟨dx, fs, u, r, t, h1, h2, h3, h4, h5, h6, h7, h8⟩ := S.ex
  obtain ⟨t2, hc2⟩ := T.notThere
  refine ⟨_, pss_cons (ps_set (i := 2) scVPlace.nd rfl (Or.inl rfl) (pe_ix ix_list (pv 1) pe_int (fun _ _ => rfl)))
    (pss_cons (ps_if (pt_not (pt_val (pe_mt (pv 0) T.cl T.hasVillage (fun _ _ F => ok_hasVillage F T) (hr.mono (by decide)) (pa_cons (pv 2) pa_nil)))) (pss_one (ps_ret (pe_lst (pa_cons (pe_glob (v := .int (-2)) rfl hc2 ⟨t2, rfl⟩) pa_nil)))) pss_nil)
    (pss_one (ps_ret (pe_lst (pa_cons (pe_ix ix_list (pe_fld (pv 0) rfl) (pv 2) (fun _ _ => rfl)) (pa_cons (pe_ix ix_list (pe_fld (pv 0) rfl) (pv 2) (fun _ _ => rfl)) pa_nil)))))), ?_⟩
  refine ⟨_, rfl, nb, _, _, _, rfl, rfl, SqL.of hnb, at_of (j := 0) (v := V.int (v : Int)) rfl rfl, ?_⟩
  refine ⟨_, rfl, va, dx, fs, rfl, h1, h8 _ (by decide), _, rfl, va, _, s, rfl, S, _, rfl, ?_⟩
  rw [nat_lt_iff]
  refine ite2 (fun c => ?_) (fun c => ?_)
  · have c1 := dec_not c
    refine ⟨one_le, ret1 k Same.rfl' ?_⟩
    show Km459Neutral.told (if s.valley.length ≤ v then _ else _) = _
    rw [if_pos (by omega)]
    rfl
  · have c1 := dec_is c
    refine ⟨_, rfl, va, C, dx, fs, _, rfl, h1, T.cl, T.nU, h2, _, rfl, u, _, _, _, rfl, rfl, SqL.of h5, at_ints rfl (ups_get c1), _, rfl, va, C, dx, fs, _, rfl, h1, T.cl, T.nR, h3, _, rfl, r, _, _, _, rfl, rfl, SqL.of h6, at_ints rfl (longs_get c1), two_le, ret2 k Same.rfl' ?_⟩
    show Km459Neutral.told (if s.valley.length ≤ v then _ else _) = _
    rw [if_neg (by omega)]
    rfl
theorem scVSums : FnScope ["valley", "numbers"] ["valley", "numbers"] (defScope vSums) := ⟨rfl, rfl, rfl, by decide +kernel, rfl, by decide +kernel, by decide +kernel⟩
theorem ok_vSums {f : Addr} {fd : FuncData} (F : Fun K "vo_sums" "vo_sums" vSums f fd) (T : Txt K mg C) : FnOk P w K mg base CX0 1 f fd ["valley", "numbers"] (spVo C 22) := by
  refine F.ok scVSums spVo_len (fun cdv A outer sh H vs Q E hr h => ?_)
  obtain ⟨va, nb, s, nums, x, rfl, S, G, hnb, rq, k⟩ := h
  cases rq
  obtain ⟨dx, fs, u, r, t, h1, h2, h3, h4, h5, h6, h7, h8⟩ := S.ex
  refine ⟨_, pss_one (ps_ret (pe_lst (pa_cons (pe_callB call_len_seq (by rfl) T.len PySem.boot_len (pa_cons (pe_fld (pv 0) rfl) pa_nil)) (pa_cons (pe_callB (cr_sum rfl) (by rfl) T.sum (by decide +kernel) (pa_cons (pe_fld (pv 0) rfl) pa_nil)) pa_nil)))), ?_⟩
  have h6' := h6
  rw [nats_int] at h6'
  refine ⟨_, rfl, va, C, dx, fs, _, rfl, h1, T.cl, T.nT, h4, t, _, rfl, .inl (SqL.of h7), _, rfl, va, C, dx, fs, _, rfl, h1, T.cl, T.nR, h3, r, _, rfl, SqL.of h6', two_le, ret2 k Same.rfl' ?_⟩
  rw [int_sum, nats_len]
  show Km459Neutral.told ⟨((s.votes.length : Nat) : Int), [Km457.sum (s.valley.map fun x => x.long)]⟩ = _
  rw [sum_eq]
  rfl
theorem scVBoth : FnScope ["valley", "numbers", "i", "j", "v", "w", "place"] ["valley", "numbers"] (defScope vBoth) := ⟨rfl, rfl, rfl, by decide +kernel, rfl, by decide +kernel, by decide +kernel⟩
theorem lied2_lt {s : Sea} (G : Good s) {i j v x : Nat} (hv : v < s.valley.length) (hx : x < s.valley.length) : Km459.lied2 s i j v x < s.valley.length := chosen_lt G.ok (set_lt (set_lt G.lt hv) hx)
theorem ok_vBoth {f : Addr} {fd : FuncData} (F : Fun K "vo_both" "vo_both" vBoth f fd) (T : Txt K mg C) : FnOk P w K mg base CX0 4 f fd ["valley", "numbers"] (spVo C 13) := by
  refine F.ok scVBoth spVo_len (fun cdv A outer sh H vs Q E hr h => ?_)
  obtain ⟨va, nb, s, nums, x, rfl, S, G, hnb, rq, k⟩ := h
  cases rq with
  | both i j v w' =>
  obtain ⟨dx, fs, u, r, t, h1, h2, h3, h4, h5, h6, h7, h8⟩ := S.ex
  obtain ⟨t2, hc2⟩ := T.notThere
  obtain ⟨t3, hc3⟩ := T.outOf
  refine ⟨_, pss_cons (ps_set (i := 2) scVBoth.nd rfl (Or.inl rfl) (pe_ix ix_list (pv 1) pe_int (fun _ _ => rfl)))
    (pss_cons (ps_set (i := 3) scVBoth.nd rfl (Or.inl rfl) (pe_ix ix_list (pv 1) pe_int (fun _ _ => rfl)))
    (pss_cons (ps_set (i := 4) scVBoth.nd rfl (Or.inl rfl) (pe_ix ix_list (pv 1) pe_int (fun _ _ => rfl)))
    (pss_cons (ps_set (i := 5) scVBoth.nd rfl (Or.inl rfl) (pe_ix ix_list (pv 1) pe_int (fun _ _ => rfl)))
    (pss_cons (ps_if (pw_or (pt_not (pt_val (pe_mt (pv 0) T.cl T.hasVoter (fun _ _ F => ok_hasVoter F T) (hr.mono (by decide)) (pa_cons (pv 2) pa_nil)))) (pw_or1 (pt_not (pt_val (pe_mt (pv 0) T.cl T.hasVoter (fun _ _ F => ok_hasVoter F T) (hr.mono (by decide)) (pa_cons (pv 3) pa_nil)))))).pt (pss_one (ps_ret (pe_lst (pa_cons (pe_glob (v := .int (-2)) rfl hc2 ⟨t2, rfl⟩) pa_nil)))) pss_nil)
    (pss_cons (ps_if (pw_or (pt_not (pt_val (pe_mt (pv 0) T.cl T.hasVillage (fun _ _ F => ok_hasVillage F T) (hr.mono (by decide)) (pa_cons (pv 4) pa_nil)))) (pw_or1 (pt_not (pt_val (pe_mt (pv 0) T.cl T.hasVillage (fun _ _ F => ok_hasVillage F T) (hr.mono (by decide)) (pa_cons (pv 5) pa_nil)))))).pt (pss_one (ps_ret (pe_lst (pa_cons (pe_glob (v := .int (-2)) rfl hc2 ⟨t2, rfl⟩) pa_nil)))) pss_nil)
    (pss_cons (ps_if (pt_cmpR op_eq (pv 2) (pv 3) (nomark _)) (pss_one (ps_ret (pe_lst (pa_cons (pe_glob (v := .int (-22)) rfl hc3 ⟨t3, rfl⟩) pa_nil)))) pss_nil)
    (pss_cons (ps_set (i := 6) scVBoth.nd rfl (Or.inl rfl) (pe_mt (pv 0) T.cl T.chosenBoth (fun _ _ F => ok_chosenBoth F T) hr (pa_cons (pv 2) (pa_cons (pv 3) (pa_cons (pv 4) (pa_cons (pv 5) pa_nil))))))
    (pss_one (ps_ret (pe_lst (pa_cons (pv 6) (pa_cons (pe_ix ix_list (pe_mt (pv 0) T.cl T.fromHome (fun _ _ F => ok_fromHome F T) hr (pa_cons (pv 2) pa_nil)) (pv 6) (fun _ _ => rfl)) (pa_cons (pe_ix ix_list (pe_mt (pv 0) T.cl T.fromHome (fun _ _ F => ok_fromHome F T) hr (pa_cons (pv 3) pa_nil)) (pv 6) (fun _ _ => rfl)) pa_nil))))))))))))), ?_⟩
  refine ⟨_, rfl, nb, _, _, _, rfl, rfl, SqL.of hnb, at_of (j := 0) (v := V.int (i : Int)) rfl rfl, ?_⟩
  refine ⟨_, rfl, nb, _, _, _, rfl, rfl, SqL.of hnb, at_of (j := 1) (v := V.int (j : Int)) rfl rfl, ?_⟩
  refine ⟨_, rfl, nb, _, _, _, rfl, rfl, SqL.of hnb, at_of (j := 2) (v := V.int (v : Int)) rfl rfl, ?_⟩
  refine ⟨_, rfl, nb, _, _, _, rfl, rfl, SqL.of hnb, at_of (j := 3) (v := V.int (w' : Int)) rfl rfl, ?_⟩
  have bad : s.votes.length ≤ i ∨ s.votes.length ≤ j ∨ s.valley.length ≤ v ∨ s.valley.length ≤ w' → ∀ p, H p = none → Q (.ref p) (upd H p (.lst [V.int (-2)])) := fun z => ret1 k Same.rfl' (by
    show Km459Neutral.told (if s.votes.length ≤ i ∨ s.votes.length ≤ j ∨ s.valley.length ≤ v ∨ s.valley.length ≤ w' then _ else _) = _
    rw [if_pos z]
    rfl)
  refine ⟨_, rfl, va, dx, fs, rfl, h1, h8 _ (by decide), _, rfl, va, _, s, rfl, S, _, rfl, ?_⟩
  rw [nat_lt_iff]
  refine ite2 (fun c => ⟨one_le, bad (.inl (by have := dec_not c; omega))⟩) (fun c => ?_)
  have ci := dec_is c
  refine ⟨_, rfl, va, dx, fs, rfl, h1, h8 _ (by decide), _, rfl, va, _, s, rfl, S, _, rfl, ?_⟩
  rw [nat_lt_iff]
  refine ite2 (fun c => ⟨one_le, bad (.inr (.inl (by have := dec_not c; omega)))⟩) (fun c => ?_)
  have cj := dec_is c
  refine ⟨_, rfl, va, dx, fs, rfl, h1, h8 _ (by decide), _, rfl, va, _, s, rfl, S, _, rfl, ?_⟩
  rw [nat_lt_iff]
  refine ite2 (fun c => ⟨one_le, bad (.inr (.inr (.inl (by have := dec_not c; omega))))⟩) (fun c => ?_)
  have cv := dec_is c
  refine ⟨_, rfl, va, dx, fs, rfl, h1, h8 _ (by decide), _, rfl, va, _, s, rfl, S, _, rfl, ?_⟩
  rw [nat_lt_iff]
  refine ite2 (fun c => ⟨one_le, bad (.inr (.inr (.inr (by have := dec_not c; omega))))⟩) (fun c => ?_)
  have cw := dec_is c
  have no : ¬ (s.votes.length ≤ i ∨ s.votes.length ≤ j ∨ s.valley.length ≤ v ∨ s.valley.length ≤ w') := by omega
  refine ⟨_, rfl, _, rfl, rfl, _, rfl, ite2 (fun c => ?_) (fun c => ?_)⟩
  · have c1 : i = j := by
      have q := of_decide_eq_true c
      injection q with q
      omega
    refine ⟨one_le, ret1 k Same.rfl' ?_⟩
    show Km459Neutral.told (if s.votes.length ≤ i ∨ s.votes.length ≤ j ∨ s.valley.length ≤ v ∨ s.valley.length ≤ w' then _ else if i = j then _ else _) = _
    rw [if_neg no, if_pos c1]
    rfl
  · have c1 : ¬ i = j := fun q => c (decide_eq_true (by rw [q]))
    refine ⟨_, rfl, va, dx, fs, rfl, h1, h8 _ (by decide), _, rfl, _, rfl, _, rfl, _, rfl, va, s, i, j, v, w', rfl, S, G, ci, cj, cv, cw, fun H1 e1 => ?_⟩
    refine ⟨_, rfl, _, rfl, va, dx, fs, rfl, e1 _ _ h1, h8 _ (by decide), _, rfl, va, s, i, rfl, S.same e1, G, ci, fun H2 a ha e2 => ?_⟩
    have e12 := e1.trans e2
    refine ⟨_, rfl, a, _, _, _, rfl, rfl, SqL.of ha, at_ints rfl (row_get (lied2_lt G cv cw)), ?_⟩
    refine ⟨_, rfl, va, dx, fs, rfl, e12 _ _ h1, h8 _ (by decide), _, rfl, va, s, j, rfl, S.same e12, G, cj, fun H3 b hb e3 => ?_⟩
    refine ⟨_, rfl, b, _, _, _, rfl, rfl, SqL.of hb, at_ints rfl (row_get (lied2_lt G cv cw)), three_le, ret3 k (e12.trans e3) ?_⟩
    show Km459Neutral.told (if s.votes.length ≤ i ∨ s.votes.length ≤ j ∨ s.valley.length ≤ v ∨ s.valley.length ≤ w' then _ else if i = j then _ else _) = _
    rw [if_neg no, if_neg c1]
    rfl
end
end Rv
end
section
set_option Elab.async false
set_option linter.all false
set_option maxRecDepth 100000
set_option maxHeartbeats 4000000
/-! The walk through the calls. -/
namespace Rv
open PySem PySem.Spec PyProof.Rows L2
open Km459 (Sea Call Desk act)
abbrev sEnd : Stmt := top 56
abbrev sAnswers : Stmt := top 57
/-- how many whole numbers a call has -/
def wn (p : Int) : Int := if p = 13 then 4 else if p = 1 ∨ p = 2 ∨ p = 4 ∨ p = 7 ∨ p = 11 then 2 else if p = 0 ∨ p = 6 ∨ p = 8 ∨ p = 22 ∨ p = 23 ∨ p = 24 ∨ p = 25 then 0 else 1
theorem req_wn {p : Int} {nums : List Int} {x : Call} (h : Req p nums x) : (nums.length : Int) = wn p + if p = 10 then 6 else 0 := by
  cases h <;> rfl
theorem req_p {p : Int} {nums : List Int} {x : Call} (h : Req p nums x) : 0 ≤ p ∧ p ≤ 25 := by
  cases h <;> decide
/-- the table of whole numbers -/
def wnC (es : Array DictEntry) : Bool := (List.range 26).all fun p => match tabGet es (p : Int) with
  | some (.int k _) => decide (k = wn p)
  | _ => false
theorem wn_of {es : Array DictEntry} (h : wnC es = true) {p : Int} {nums : List Int} {x : Call} (r : Req p nums x) : ∃ t, tabGet es p = some (.int (wn p) t) := by
  obtain ⟨h0, h1⟩ := req_p r
  obtain ⟨n, rfl⟩ : ∃ n : Nat, p = n := ⟨p.toNat, by omega⟩
  have q := List.all_eq_true.mp h n (List.mem_range.mpr (by omega))
  revert q
  cases e : tabGet es (n : Int) with
  | none => intro q; cases q
  | some v =>
    cases v <;> intro q
    case int k t => exact ⟨t, by rw [of_decide_eq_true q]⟩
    all_goals cases q
/-- how a desk stands in the heap: own, what it may change -/
abbrev RepT := Hp → Addr → List Addr → Desk → Prop
structure RepOk (R : RepT) : Prop where
  keep : ∀ {H H' : Hp} {va : Addr} {own : List Addr} {d : Desk}, R H va own d → (∀ b o, b ∈ own → H b = some o → H' b = some o) → R H' va own d
/-- the promise of a call -/
def spFull (R : RepT) (p : Int) : Sp := fun vs H Q _ => ∃ (va nb : Addr) (own : List Addr) (d : Desk) (nums : List Int) (x : Call), vs = [.ref va, .ref nb] ∧ R H va own d ∧ GoodD d ∧ H nb = some (.lst (zs nums)) ∧ nb ∉ own ∧ Req p nums x ∧
  ∀ (H' : Hp) (q : Addr) (own' : List Addr), H q = none → H' q = some (.lst (zs (Km459Neutral.told (act d x).2))) → q ∉ own' → R H' va own' (act d x).1 → (∀ b o, H b = some o → b ∉ own → H' b = some o) → (∀ b ∈ own', b ∈ own ∨ H b = none) → Q (.ref q) H'
theorem zs_len (l : List Int) : (zs l).length = l.length := List.length_map _
theorem zs_append (l m : List Int) : zs (l ++ m) = zs l ++ zs m := List.map_append
theorem zs_get {l : List Int} {j : Nat} {x : Int} (h : l[j]? = some x) : (zs l)[j]? = some (V.int x) := by
  unfold zs
  rw [List.getElem?_map, h]
  rfl
theorem mid_get (pre : List Int) (p : Int) (post : List Int) : (pre ++ p :: post)[pre.length]? = some p := by
  rw [List.getElem?_append_right (Nat.le_refl _), Nat.sub_self]
  rfl
section
variable {P : Program} {w : World} {K : PySem.W.Frag} {mg : Str → Option Value} {base : Heap} {C : Addr}
/-- what else the top's names hold -/
structure TxtX (K : PySem.W.Frag) (mg : Str → Option Value) (ew ec : Array DictEntry) : Prop where
  whole : ∃ d, mg "WHOLE_NUMBERS" = some (.ref d) ∧ TabK K d ew
  calls : ∃ d, mg "CALLS" = some (.ref d) ∧ TabK K d ec
  rowCall : ∃ t, mg "ROW_CALL" = some (.int 10 t)
  wn : wnC ew = true
  endOf : Df K mg "end_of_call" sEnd ["calls", "at"]
/-! ### end_of_call -/
def spEnd (K : PySem.W.Frag) : Sp := fun vs H Q _ => ∃ (a : Addr) (pre : List Int) (p : Int) (nums post : List Int) (x : Call), vs = [.ref a, .int (pre.length : Nat)] ∧ SqL K H a (zs (pre ++ p :: (nums ++ post))) ∧ Req p nums x ∧ Q (.int ((pre.length + 1 + nums.length : Nat) : Int)) H
theorem scEnd : FnScope ["calls", "at", "end"] ["calls", "at"] (defScope sEnd) := ⟨rfl, rfl, rfl, by decide +kernel, rfl, by decide +kernel, by decide +kernel⟩
theorem ok_end {f : Addr} {fd : FuncData} {ew ec : Array DictEntry} (F : Fun K "end_of_call" "end_of_call" sEnd f fd) (T : TxtX K mg ew ec) : FnOk P w K mg base CX0 1 f fd ["calls", "at"] (spEnd K) := by
  refine F.ok scEnd (fun vs H Q E h => ?_) (fun cdv A outer sh H vs Q E hr h => ?_)
  · obtain ⟨a, pre, p, nums, post, x, rfl, _⟩ := h
    rfl
  · obtain ⟨a, pre, p, nums, post, x, rfl, hS, rq, k⟩ := h
    obtain ⟨dw, hw, TW⟩ := T.whole
    obtain ⟨t10, h10⟩ := T.rowCall
    obtain ⟨tw, hwn⟩ := wn_of T.wn rq
    have hp := zs_get (mid_get pre p (nums ++ post))
    refine ⟨_, pss_cons (ps_set (i := 2) scEnd.nd rfl (Or.inl rfl) (pe_op op_add (pe_op op_add (pv 1) pe_int) (pe_tab rfl hw TW (pe_ix ix_list (pv 0) (pv 1) (fun _ _ => rfl)) (fun _ _ => rfl))))
      (pss_cons (ps_if (pt_cmpR op_eq (pe_ix ix_list (pv 0) (pv 1) (fun _ _ => rfl)) (pe_glob (v := .int 10) rfl h10 ⟨t10, rfl⟩) (nomark _)) (pss_one (ps_aug (i := 2) scEnd.nd rfl (Or.inl rfl) (pe_op op_add pe_int (pe_ix ix_list (pv 0) (pv 2) (fun _ _ => rfl))) ip_add)) pss_nil)
      (pss_one (ps_ret (pv 2)))), ?_⟩
    refine ⟨_, rfl, _, _, rfl, rfl, _, rfl, _, rfl, a, _, _, _, rfl, rfl, hS, at_of rfl hp, _, _, V.int (wn p), rfl, hwn, ⟨_, rfl⟩, _, _, rfl, rfl, ?_⟩
    refine ⟨_, rfl, _, rfl, a, _, _, _, rfl, rfl, hS, at_of rfl hp, rfl, _, rfl, ite2 (fun c => ?_) (fun c => ?_)⟩
    · have c1 : p = 10 := by
        have q := of_decide_eq_true c
        injection q with q
      subst c1
      cases rq with
      | row n a1 b1 c1 d1 e1 =>
      have z : ((pre.length : Nat) : Int) + 1 + wn 10 = ((pre.length + 2 : Nat) : Int) := by
        show ((pre.length : Nat) : Int) + 1 + 1 = _
        omega
      have hp2 : (pre ++ 10 :: ([(n : Int), 5, (a1 : Int), (b1 : Int), (c1 : Int), (d1 : Int), (e1 : Int)] ++ post))[pre.length + 2]? = some 5 := by
        rw [List.getElem?_append_right (by omega), Nat.add_sub_cancel_left]
        rfl
      refine ⟨_, rfl, _, rfl, _, rfl, a, _, _, _, rfl, rfl, hS, at_of (j := pre.length + 2) z (zs_get hp2), _, _, rfl, rfl, _, _, rfl, rfl, _, rfl, ?_⟩
      show Q (V.int (((pre.length : Nat) : Int) + 1 + wn 10 + (1 + 5))) H
      have z2 : ((pre.length : Nat) : Int) + 1 + wn 10 + (1 + 5) = ((pre.length + 1 + 7 : Nat) : Int) := by
        rw [z]
        omega
      rw [z2]
      exact k
    · have c1 : ¬ p = 10 := fun q => c (decide_eq_true (by rw [q]))
      have l := req_wn rq
      rw [if_neg c1] at l
      refine ⟨_, rfl, ?_⟩
      show Q (V.int (((pre.length : Nat) : Int) + 1 + wn p)) H
      have z2 : ((pre.length : Nat) : Int) + 1 + wn p = ((pre.length + 1 + nums.length : Nat) : Int) := by omega
      rw [z2]
      exact k
end
end Rv
end
section
set_option Elab.async false
set_option linter.all false
set_option maxRecDepth 100000
set_option maxHeartbeats 4000000
/-! answers. -/
namespace Rv
open PySem PySem.Spec PyProof.Rows L2
open Km459 (Sea Call Desk act)
structure RepHas (R : RepT) : Prop where
  has : ∀ {H : Hp} {va : Addr} {own : List Addr} {d : Desk}, R H va own d → ∀ b ∈ own, ∃ o, H b = some o
def spInit (R : RepT) (C : Addr) : Sp := fun vs H Q _ => ∃ (p dx : Addr), vs = [.ref p] ∧ H p = some (.ins C dx []) ∧
  ∀ (H' : Hp) (own : List Addr), R H' p own Km459.fresh → (∀ b o, H b = some o → b ≠ p → H' b = some o) → (∀ b ∈ own, b = p ∨ H b = none) → Q .non H'
def spAnswers (K : PySem.W.Frag) : Sp := fun vs H Q _ => ∃ (a : Addr) (ns : List Int), vs = [.ref a] ∧ SqL K H a (zs ns) ∧ PyKm459.answers_asked ns = true ∧ ∀ (H' : Hp) (p : Addr), H' p = some (.lst (zs (PyKm459.answers ns))) → Q (.ref p) H'
/-- between two turns -/
structure Mid (R : RepT) (H : Hp) (ns : List Int) (a va q : Addr) (σ : L2.St) (H' : Hp) : Prop where
  ex : ∃ (pre : List Int) (cs : List (List (List Int))) (acc : List Int) (S : Km459Neutral.S) (own : List Addr) (y4 y5 y6 : Option V),
    σ = [some (.ref a), some (.ref va), some (.ref q), some (.int (pre.length : Nat)), y4, y5, y6] ∧ ns = pre ++ PyFlat.put cs ∧ Same H H' ∧ R H' va own (deskOf S) ∧ GoodD (deskOf S) ∧ (∀ b ∈ own, H b = none) ∧
    H' q = some (.lst (zs acc)) ∧ q ∉ own ∧ PyKm459.answers ns = acc ++ PyFlat.told (PyFlat.played Km459Neutral.step S cs) ∧ Km459Neutral.may S cs = true ∧ ∀ c ∈ cs, Km459Neutral.asked1 c = true
def left (ns : List Int) (σ : L2.St) (_ : Hp) : Nat := ns.length - match σ[3]? with
  | some (some (V.int z)) => z.toNat
  | _ => 0
theorem Same.seqK {K : PySem.W.Frag} {H H' : Hp} {a : Addr} {xs : List V} (e : Same H H') (h : SqL K H a xs) : SqL K H' a xs := by
  rcases h with (h | ⟨o, h⟩) | h
  · exact .inl (.inl (e _ _ h))
  · exact .inl (.inr ⟨o, e _ _ h⟩)
  · exact .inr h
theorem cut_mid (pre : List Int) (p : Int) (nums post : List Int) : cutV (zs (pre ++ p :: (nums ++ post))) (some (((pre.length : Nat) : Int) + 1)) (some ((pre.length + 1 + nums.length : Nat) : Int)) = zs nums := by
  have q := cut_nat (zs (pre ++ p :: (nums ++ post))) (pre.length + 1) (pre.length + 1 + nums.length) (by omega) (by rw [zs_len, List.length_append, List.length_cons, List.length_append]; omega)
  refine q.trans ?_
  rw [Nat.add_sub_cancel_left]
  unfold zs
  rw [← List.map_drop, ← List.map_take]
  refine congrArg (List.map V.int) ?_
  rw [← List.drop_drop, List.drop_left, List.drop_succ_cons, List.drop_zero, List.take_left]
section
variable {P : Program} {w : World} {K : PySem.W.Frag} {mg : Str → Option Value} {base : Heap} {C : Addr}
theorem scAnswers : FnScope ["calls", "valley", "answered", "at", "end", "call", "answer"] ["calls"] (defScope sAnswers) := ⟨rfl, rfl, rfl, by decide +kernel, rfl, by decide +kernel, by decide +kernel⟩
theorem ok_answers {f fI : Addr} {fd fdI : FuncData} {ew ec : Array DictEntry} {R : RepT} (F : Fun K "answers" "answers" sAnswers f fd) (T : TxtX K mg ew ec) (hlen : mg "len" = none) (RK : RepOk R) (RH : RepHas R)
    (M : Mk K C fI) (GI : FnOk P w K mg base CX0 8 fI fdI ["self"] (spInit R C)) (bI : Binds K fdI ["self"] []) (mC : mg "Valley" = some (.ref C))
    (hF : ∀ p nums x, Req p nums x → ∃ g, tabGet ec p = some (.ref g) ∧ FnAny P w K mg base 8 g (spFull R p)) : FnOk P w K mg base CX0 10 f fd ["calls"] (spAnswers K) := by
  refine F.ok scAnswers (fun vs H Q E h => ?_) (fun cdv A outer sh H vs Q E hr h => ?_)
  · obtain ⟨a, ns, rfl, _⟩ := h
    rfl
  · obtain ⟨a, ns, rfl, hS, hask, k⟩ := h
    obtain ⟨cs0, e0, as0, may0, _, sz0, an0⟩ := asked_of hask
    obtain ⟨dc, hdc, TC⟩ := T.calls
    have hr8 : Room 8 _ := hr.mono (by decide)
    refine ⟨_, pss_cons (ps_set (i := 1) scAnswers.nd rfl (Or.inl rfl) (pe_make0 M GI hr rfl mC bI .nil pass0))
      (pss_cons (ps_set (i := 2) scAnswers.nd rfl (Or.inl rfl) (pe_lst pa_nil))
      (pss_cons (ps_set (i := 3) scAnswers.nd rfl (Or.inl rfl) pe_int)
      (pss_cons (ps_while PassesOwn.never (pt_cmpR op_lt (pv 3) (pe_callB call_len_seq (by rfl) hlen PySem.boot_len (pa_cons (pv 0) pa_nil)) (nomark _))
        (pss_cons (ps_set (i := 4) scAnswers.nd rfl (Or.inl rfl) (pe_df T.endOf (fun _ _ F => ok_end F T) (hr.mono (by decide)) rfl (pa_cons (pv 0) (pa_cons (pv 3) pa_nil))))
        (pss_cons (ps_set (i := 5) scAnswers.nd rfl (Or.inl rfl) (pe_tab rfl hdc TC (pe_ix ix_list (pv 0) (pv 3) (fun _ _ => rfl)) (fun _ _ => rfl)))
        (pss_cons (ps_set (i := 6) scAnswers.nd rfl (Or.inl rfl) (pe_callV (i := 5) hr8 rfl (Or.inl rfl) (pa_cons (pv 1) (pa_cons (pe_slice sl_list (pv 0) (po_some (pe_op op_add (pv 3) pe_int)) (po_some (pv 4))) pa_nil))))
        (pss_cons (ps_expr (pe_bm PySem.F.plainAttrs_list PySem.F.slot_list_append PySem.F.type_list_append mt_append (pv 2) (pa_cons (pe_callB call_len_seq (by rfl) hlen PySem.boot_len (pa_cons (pv 6) pa_nil)) pa_nil)))
        (pss_cons (ps_expr (pe_bm PySem.F.plainAttrs_list PySem.F.slot_list_extend PySem.F.type_list_extend mt_extend (pv 2) (pa_cons (pv 6) pa_nil)))
        (pss_one (ps_set (i := 3) scAnswers.nd rfl (Or.inl rfl) (pv 4)))))))))
      (pss_one (ps_ret (pv 2)))))), ?_⟩
    intro va dx nva ndx nex
    refine ⟨va, dx, rfl, upd_same, fun H1 own R1 fr1 ow1 => ⟨rfl, ?_⟩⟩
    have s1 : Same H H1 := Same.made nva ndx fr1
    have own0 : ∀ b ∈ own, H b = none := fun b hb => by
      rcases ow1 b hb with z | z
      · rw [z]
        exact nva
      · by_cases y : b = dx
        · rw [y]
          exact ndx
        · by_cases y2 : b = va
          · rw [y2]
            exact nva
          · rw [upd_ne y2, upd_ne y] at z
            exact z
    refine ⟨Nat.zero_le _, fun q hq => ?_⟩
    have hq0 : H q = none := s1.free hq
    have s2 : Same H1 (upd H1 q (.lst [])) := Same.new hq
    have nq : q ∉ own := fun z => by
      obtain ⟨o, ho⟩ := RH.has R1 q z
      rw [hq] at ho
      cases ho
    refine while_by (fun σ H' => Mid R H ns a va q σ H') (left ns) ⟨[], cs0, [], none, own, none, none, none, rfl, e0, s1.trans s2, RK.keep R1 (fun b o _ e => s2 b o e), goodD_start, own0, upd_same, nq, an0, may0, as0⟩ ?_ ?_
    · rintro σ H2 ⟨pre, cs, acc, S, ow, y4, y5, y6, rfl, en, sm, R2, G2, ow0, hq2, nq2, an, my, ask⟩
      have hS2 : SqL K H2 a (zs ns) := Same.seqK sm hS
      refine ⟨_, rfl, _, rfl, a, _, rfl, .inl hS2, _, _, rfl, rfl, _, rfl, ite2 (fun c => ?_) (fun c => ?_)⟩
      · cases cs with
        | nil =>
          have z := of_decide_eq_true c
          rw [zs_len, en] at z
          have z2 : PyFlat.put [] = [] := rfl
          rw [z2, List.append_nil] at z
          omega
        | cons cc cs =>
          obtain ⟨p, nums, x, ep, ex, rq⟩ := req_of (ask cc List.mem_cons_self)
          have en2 : ns = pre ++ p :: (nums ++ PyFlat.put cs) := by
            rw [en]
            show pre ++ (PyFlat.put1 cc ++ PyFlat.put cs) = _
            rw [ep]
            rfl
          obtain ⟨g, hg, FA⟩ := hF p nums x rq
          obtain ⟨m1, m2⟩ := may_cons my
          have st := step_eq m1 ex
          have hS3 := hS2
          rw [en2] at hS3
          have hp := zs_get (mid_get pre p (nums ++ PyFlat.put cs))
          refine ⟨_, rfl, _, rfl, a, pre, p, nums, PyFlat.put cs, x, rfl, hS3, rq, ?_⟩
          refine ⟨_, rfl, _, rfl, a, _, _, _, rfl, rfl, hS3, at_of rfl hp, p, _, V.ref g, rfl, hg, rfl, ?_⟩
          refine ⟨g, spFull R p, rfl, FA, _, rfl, _, rfl, _, rfl, _, _, rfl, rfl, _, rfl, _, rfl, _, rfl, a, _, rfl, hS3, fun nb hnb => ?_⟩
          have ec : cutV (zs (pre ++ p :: (nums ++ PyFlat.put cs))) (some (((pre.length : Nat) : Int) + 1)) (some ((pre.length + 1 + nums.length : Nat) : Int)) = zs nums := cut_mid _ _ _ _
          have s3 : Same H2 (upd H2 nb (.lst (zs nums))) := Same.new hnb
          refine ⟨va, nb, ow, deskOf S, nums, x, rfl, RK.keep R2 (fun b o _ e => ?_), G2, ?_, fun z => ?_, rq, fun H3 ans ow3 han han2 nan R3 fr3 ow3' => ?_⟩
          · rw [upd_ne (ne_of_none e hnb)]
            exact e
          · rw [upd_same]
            exact congrArg (fun z => some (HO.lst z)) ec
          · obtain ⟨o, ho⟩ := RH.has R2 nb z
            rw [hnb] at ho
            cases ho
          · have han0 : H2 ans = none := by
              rw [upd_ne (fun z => by rw [z, upd_same] at han; cases han)] at han
              exact han
            have k3 : ∀ b o, H2 b = some o → b ∉ ow → H3 b = some o := fun b o e nb' => fr3 b o (by rw [upd_ne (ne_of_none e hnb)]; exact e) nb'
            have hq3 : H3 q = some (.lst (zs acc)) := k3 q _ hq2 nq2
            have sm3 : Same H H3 := fun b o e => k3 b o (sm b o e) fun z => by
              rw [ow0 b z] at e
              cases e
            have own3 : ∀ b ∈ ow3, H b = none ∧ b ≠ q := fun b hb => by
              rcases ow3' b hb with z | z
              · exact ⟨ow0 b z, fun y => nq2 (by rw [← y]; exact z)⟩
              · have z2 : H2 b = none := by
                  by_cases y : b = nb
                  · rw [y]
                    exact hnb
                  · rw [upd_ne y] at z
                    exact z
                exact ⟨sm.free z2, fun y => by rw [y, hq2] at z2; cases z2⟩
            have naq : ans ≠ q := fun y => by
              rw [y, hq2] at han0
              cases han0
            have pl := played_cons S cc cs
            rw [st] at pl
            dsimp only at pl
            have an2 := an
            rw [pl] at an2
            have bound : acc.length + (Km459Neutral.told (act (deskOf S) x).2).length + 1 ≤ 10000000 := by
              rw [an2] at sz0
              rw [List.length_append, List.length_append, List.length_cons] at sz0
              omega
            -- answered.append(len(answer))
            refine ⟨_, rfl, .inl ⟨rfl, _, SqL.of hq3⟩, _, rfl, ans, _, rfl, .inl (SqL.of han2), q, _, _, rfl, rfl, hq3, ?_, ?_⟩
            · rw [zs_len]
              exact Nat.lt_of_lt_of_le (by omega : acc.length < 10000000) (by decide)
            -- answered.extend(answer)
            have han4 : (upd H3 q (.lst (zs acc ++ [V.int ((zs (Km459Neutral.told (act (deskOf S) x).2)).length : Nat)]))) ans = some (.lst (zs (Km459Neutral.told (act (deskOf S) x).2))) := by
              rw [upd_ne naq]
              exact han2
            refine ⟨_, rfl, .inl ⟨rfl, _, SqL.of upd_same⟩, _, rfl, q, ans, _, _, rfl, rfl, upd_same, han4, ?_, ?_⟩
            · rw [List.length_append, zs_len, zs_len]
              exact Nat.le_trans (by show acc.length + 1 + (Km459Neutral.told (act (deskOf S) x).2).length ≤ 10000000; omega) (by decide)
            refine ⟨_, rfl, ⟨⟨pre ++ p :: nums, cs, acc ++ (((Km459Neutral.told (act (deskOf S) x).2).length : Int) :: Km459Neutral.told (act (deskOf S) x).2), some (act (deskOf S) x).1, ow3, some (.int ((pre.length + 1 + nums.length : Nat) : Int)), some (.ref g), some (.ref ans), ?_, ?_, ?_, RK.keep R3 (fun b o hb e => ?_), goodD_act G2 x, fun b hb => (own3 b hb).1, ?_, fun z => (own3 q z).2 rfl, ?_, ?_, fun c hc => ask c (List.mem_cons_of_mem _ hc)⟩, ?_⟩⟩
            · have z : ((pre ++ p :: nums).length : Nat) = pre.length + 1 + nums.length := by
                rw [List.length_append, List.length_cons]
                omega
              rw [z]
              rfl
            · rw [en2, List.append_assoc]
              rfl
            · exact (sm3.put hq0).put hq0
            · rw [upd_ne ((own3 b hb).2), upd_ne ((own3 b hb).2)]
              exact e
            · rw [upd_same, zs_len, List.append_assoc, zs_append]
              rfl
            · rw [an2, List.append_assoc]
            · rw [st] at m2
              exact m2
            · show ns.length - (((pre.length + 1 + nums.length : Nat) : Int)).toNat < ns.length - ((pre.length : Nat) : Int).toNat
              have z := congrArg List.length en2
              rw [List.length_append, List.length_cons, List.length_append] at z
              omega
      · cases cs with
        | nil =>
          have z : PyFlat.told (PyFlat.played Km459Neutral.step S []) = [] := rfl
          rw [z, List.append_nil] at an
          refine ⟨_, rfl, k H2 q ?_⟩
          rw [an]
          exact hq2
        | cons cc cs =>
          obtain ⟨p, nums, x, ep, ex, rq⟩ := req_of (ask cc List.mem_cons_self)
          refine absurd (decide_eq_true ?_) c
          rw [zs_len, en]
          show ((pre.length : Nat) : Int) < ((pre ++ (PyFlat.put1 cc ++ PyFlat.put cs)).length : Nat)
          rw [ep, List.length_append, List.length_append, List.length_cons]
          omega
    · intro σ H' Q1 Q2 hq h
      obtain ⟨v, e1, v2, e2, p, ys, e3, hs, i, j, e4, e5, kk, e6, h'⟩ := h
      exact ⟨v, e1, v2, e2, p, ys, e3, hs, i, j, e4, e5, kk, e6, hq _ _ h'⟩
end
end Rv
end
section
set_option Elab.async false
set_option linter.all false
set_option maxRecDepth 100000
set_option maxHeartbeats 4000000
/-! The desk in the heap, and the methods that change it. -/
namespace Rv
open PySem PySem.Spec PyProof.Rows L2
open Km457 (Valley at_ far)
open Km459 (Sea Call Desk act)
def fl (u r t b g : Addr) : List (Str × V) := [("ups", .ref u), ("roads", .ref r), ("told", .ref t), ("to_take_back", .ref b), ("to_do_again", .ref g)]
def refs (l : List Addr) : List V := l.map V.ref
/-- a sea that is kept -/
structure Kept (H : Hp) (own : List Addr) (p : Addr) (s : Sea) : Prop where
  ex : ∃ x y z, H p = some (.tup [.ref x, .ref y, .ref z]) ∧ H x = some (.tup (nats (ups s.valley))) ∧ H y = some (.tup (nats (longs s.valley))) ∧ H z = some (.tup (nats s.votes)) ∧ p ∈ own ∧ x ∈ own ∧ y ∈ own ∧ z ∈ own
theorem Kept.keep {H H' : Hp} {own own' : List Addr} {p : Addr} {s : Sea} (h : Kept H own p s) (sub : ∀ b ∈ own, b ∈ own') (e : ∀ b xs, b ∈ own → H b = some (.tup xs) → H' b = some (.tup xs)) : Kept H' own' p s := by
  obtain ⟨x, y, z, h1, h2, h3, h4, o1, o2, o3, o4⟩ := h.ex
  exact ⟨x, y, z, e _ _ o1 h1, e _ _ o2 h2, e _ _ o3 h3, e _ _ o4 h4, sub _ o1, sub _ o2, sub _ o3, sub _ o4⟩
/-- the parts of a desk in the heap -/
structure Parts (C : Addr) (H : Hp) (va : Addr) (own : List Addr) (d : Desk) (dx u r t b g : Addr) (ps gs : List Addr) : Prop where
  hva : H va = some (.ins C dx (fl u r t b g))
  hu : H u = some (.lst (nats (ups d.now.valley)))
  hr : H r = some (.lst (nats (longs d.now.valley)))
  ht : H t = some (.lst (nats d.now.votes))
  hb : H b = some (.lst (refs ps.reverse))
  hg : H g = some (.lst (refs gs.reverse))
  nd : [u, r, t, b, g].Nodup
  past : Paired (Kept H own) ps d.past
  future : Paired (Kept H own) gs d.future
  mine : va ∈ own ∧ u ∈ own ∧ r ∈ own ∧ t ∈ own ∧ b ∈ own ∧ g ∈ own
  has : ∀ x ∈ own, ∃ o, H x = some o
def Rep (C : Addr) : RepT := fun H va own d => ∃ dx u r t b g ps gs, Parts C H va own d dx u r t b g ps gs
theorem Parts.sea {C : Addr} {H : Hp} {va : Addr} {own : List Addr} {d : Desk} {dx u r t b g : Addr} {ps gs : List Addr} (x : Parts C H va own d dx u r t b g ps gs) : SeaAt C H va d.now :=
  ⟨dx, fl u r t b g, u, r, t, x.hva, rfl, rfl, rfl, x.hu, x.hr, x.ht, fun m hm => by
    simp only [meths, List.mem_cons, List.not_mem_nil, or_false] at hm
    rcases hm with rfl | rfl | rfl | rfl | rfl | rfl | rfl | rfl | rfl | rfl | rfl | rfl | rfl | rfl | rfl | rfl | rfl | rfl | rfl | rfl | rfl <;> rfl⟩
theorem Parts.keep {C : Addr} {H H' : Hp} {va : Addr} {own : List Addr} {d : Desk} {dx u r t b g : Addr} {ps gs : List Addr} (x : Parts C H va own d dx u r t b g ps gs) (e : ∀ c o, c ∈ own → H c = some o → H' c = some o) : Parts C H' va own d dx u r t b g ps gs := by
  obtain ⟨m1, m2, m3, m4, m5, m6⟩ := x.mine
  have k : ∀ p s, Kept H own p s → Kept H' own p s := fun p s h => h.keep (fun _ z => z) fun c xs o q => e c _ o q
  exact ⟨e _ _ m1 x.hva, e _ _ m2 x.hu, e _ _ m3 x.hr, e _ _ m4 x.ht, e _ _ m5 x.hb, e _ _ m6 x.hg, x.nd, L2.Paired.mapP x.past k, L2.Paired.mapP x.future k, x.mine, fun c hc => by
    obtain ⟨o, ho⟩ := x.has c hc
    exact ⟨o, e _ _ hc ho⟩⟩
theorem rep_ok (C : Addr) : RepOk (Rep C) := ⟨fun {H H' va own d} h e => by
  obtain ⟨dx, u, r, t, b, g, ps, gs, x⟩ := h
  exact ⟨dx, u, r, t, b, g, ps, gs, x.keep e⟩⟩
theorem rep_has (C : Addr) : RepHas (Rep C) := ⟨fun {H va own d} h => by
  obtain ⟨dx, u, r, t, b, g, ps, gs, x⟩ := h
  exact x.has⟩
/-- what a change may do -/
structure Mv (own : List Addr) (H : Hp) (own' : List Addr) (H' : Hp) : Prop where
  fr : ∀ c o, H c = some o → c ∉ own → H' c = some o
  new : ∀ c ∈ own', c ∈ own ∨ H c = none
  sub : ∀ c ∈ own, c ∈ own'
theorem Mv.trans {o0 o1 o2 : List Addr} {H0 H1 H2 : Hp} (a : Mv o0 H0 o1 H1) (b : Mv o1 H1 o2 H2) : Mv o0 H0 o2 H2 where
  fr := fun c o h n => b.fr c o (a.fr c o h n) fun z => by
    rcases a.new c z with q | q
    · exact n q
    · rw [h] at q
      cases q
  new := fun c hc => by
    rcases b.new c hc with q | q
    · exact a.new c q
    · by_cases z : c ∈ o0
      · exact .inl z
      · refine .inr ?_
        cases e : H0 c with
        | none => rfl
        | some o =>
          rw [a.fr c o e z] at q
          cases q
  sub := fun c h => b.sub c (a.sub c h)
theorem Mv.rfl' {own : List Addr} {H : Hp} : Mv own H own H := ⟨fun _ _ h _ => h, fun _ h => .inl h, fun _ h => h⟩
/-- a thing is made and put in a field -/
theorem set_step {H : Hp} {va p : Addr} {o o0 o' : HO} (hva : H va = some o0) (hp : H p = none) : (upd (upd H p o) va o') va = some o' ∧ (upd (upd H p o) va o') p = some o ∧ (∀ c x, c ≠ va → H c = some x → (upd (upd H p o) va o') c = some x) ∧ p ≠ va := by
  have ne : p ≠ va := fun z => by
    rw [z, hva] at hp
    cases hp
  refine ⟨upd_same, ?_, fun c x hc e => ?_, ne⟩
  · rw [upd_ne ne, upd_same]
  · rw [upd_ne hc, upd_ne (ne_of_none e hp)]
    exact e
section
variable {P : Program} {w : World} {K : PySem.W.Frag} {mg : Str → Option Value} {base : Heap} {C : Addr}
/-! ### begin -/
def spBegin (C : Addr) : Sp := fun vs H Q _ => ∃ (va dx : Addr) (fs : List (Str × V)), vs = [.ref va] ∧ H va = some (.ins C dx fs) ∧ (fs = [] ∨ ∃ u r t b g, fs = fl u r t b g) ∧
  ∀ (H' : Hp) (own : List Addr), Rep C H' va own Km459.fresh → (∀ c o, H c = some o → c ≠ va → H' c = some o) → (∀ c ∈ own, c = va ∨ H c = none) → Q .non H'
theorem scBegin : FnScope ["self"] ["self"] (defScope mBegin) := ⟨rfl, rfl, rfl, by decide +kernel, rfl, by decide +kernel, by decide +kernel⟩
theorem ok_begin {f : Addr} {fd : FuncData} (F : Fun K "begin" "Valley.begin" mBegin f fd) (T : Txt K mg C) : FnOk P w K mg base CX0 1 f fd ["self"] (spBegin C) := by
  refine F.ok scBegin (fun vs H Q E h => ?_) (fun cdv A outer sh H vs Q E hr h => ?_)
  · obtain ⟨va, dx, fs, rfl, _⟩ := h
    rfl
  · obtain ⟨va, dx, fs, rfl, hva, hfs, k⟩ := h
    refine ⟨_, pss_cons (ps_fld (pv 0) (pe_lst (pa_cons pe_int pa_nil)) rfl) (pss_cons (ps_fld (pv 0) (pe_lst (pa_cons pe_int pa_nil)) rfl) (pss_cons (ps_fld (pv 0) (pe_lst pa_nil) rfl) (pss_cons (ps_fld (pv 0) (pe_lst pa_nil) rfl) (pss_one (ps_fld (pv 0) (pe_lst pa_nil) rfl))))), ?_⟩
    have lf : fs.length < 990 := by
      rcases hfs with rfl | ⟨u, r, t, b, g, rfl⟩
      · decide
      · show 5 < 990
        decide
    refine ⟨one_le, fun p1 f1 => ⟨_, rfl, va, C, dx, fs, rfl, by rw [upd_ne (ne_of_none hva f1)]; exact hva, T.cl, T.nU, by omega, ?_⟩⟩
    obtain ⟨v1, a1, k1, n1⟩ := set_step (o := .lst [V.int 0]) (o' := .ins C dx (putF "ups" (.ref p1) fs)) hva f1
    have l1 := length_putF "ups" (.ref p1) fs
    generalize e1 : upd (upd H p1 (.lst [V.int 0])) va (.ins C dx (putF "ups" (.ref p1) fs)) = H1 at v1 a1 k1 ⊢
    refine ⟨one_le, fun p2 f2 => ⟨_, rfl, va, C, dx, _, rfl, by rw [upd_ne (ne_of_none v1 f2)]; exact v1, T.cl, T.nR, by omega, ?_⟩⟩
    obtain ⟨v2, a2, k2, n2⟩ := set_step (o := .lst [V.int 0]) (o' := .ins C dx (putF "roads" (.ref p2) (putF "ups" (.ref p1) fs))) v1 f2
    have l2 := length_putF "roads" (.ref p2) (putF "ups" (.ref p1) fs)
    generalize e2 : upd (upd H1 p2 (.lst [V.int 0])) va (.ins C dx (putF "roads" (.ref p2) (putF "ups" (.ref p1) fs))) = H2 at v2 a2 k2 ⊢
    refine ⟨Nat.zero_le _, fun p3 f3 => ⟨_, rfl, va, C, dx, _, rfl, by rw [upd_ne (ne_of_none v2 f3)]; exact v2, T.cl, T.nT, by omega, ?_⟩⟩
    obtain ⟨v3, a3, k3, n3⟩ := set_step (o := .lst []) (o' := .ins C dx (putF "told" (.ref p3) (putF "roads" (.ref p2) (putF "ups" (.ref p1) fs)))) v2 f3
    have l3 := length_putF "told" (.ref p3) (putF "roads" (.ref p2) (putF "ups" (.ref p1) fs))
    generalize e3 : upd (upd H2 p3 (.lst [])) va (.ins C dx (putF "told" (.ref p3) (putF "roads" (.ref p2) (putF "ups" (.ref p1) fs)))) = H3 at v3 a3 k3 ⊢
    refine ⟨Nat.zero_le _, fun p4 f4 => ⟨_, rfl, va, C, dx, _, rfl, by rw [upd_ne (ne_of_none v3 f4)]; exact v3, T.cl, T.nB, by omega, ?_⟩⟩
    obtain ⟨v4, a4, k4, n4⟩ := set_step (o := .lst []) (o' := .ins C dx (putF "to_take_back" (.ref p4) (putF "told" (.ref p3) (putF "roads" (.ref p2) (putF "ups" (.ref p1) fs))))) v3 f4
    have l4 := length_putF "to_take_back" (.ref p4) (putF "told" (.ref p3) (putF "roads" (.ref p2) (putF "ups" (.ref p1) fs)))
    generalize e4 : upd (upd H3 p4 (.lst [])) va (.ins C dx (putF "to_take_back" (.ref p4) (putF "told" (.ref p3) (putF "roads" (.ref p2) (putF "ups" (.ref p1) fs))))) = H4 at v4 a4 k4 ⊢
    refine ⟨Nat.zero_le _, fun p5 f5 => ⟨_, rfl, va, C, dx, _, rfl, by rw [upd_ne (ne_of_none v4 f5)]; exact v4, T.cl, T.nG, by omega, ?_⟩⟩
    obtain ⟨v5, a5, k5, n5⟩ := set_step (o := .lst []) (o' := .ins C dx (putF "to_do_again" (.ref p5) (putF "to_take_back" (.ref p4) (putF "told" (.ref p3) (putF "roads" (.ref p2) (putF "ups" (.ref p1) fs)))))) v4 f5
    generalize e5 : upd (upd H4 p5 (.lst [])) va (.ins C dx (putF "to_do_again" (.ref p5) (putF "to_take_back" (.ref p4) (putF "told" (.ref p3) (putF "roads" (.ref p2) (putF "ups" (.ref p1) fs)))))) = H5 at v5 a5 k5 ⊢
    have ef : putF "to_do_again" (.ref p5) (putF "to_take_back" (.ref p4) (putF "told" (.ref p3) (putF "roads" (.ref p2) (putF "ups" (.ref p1) fs)))) = fl p1 p2 p3 p4 p5 := by
      rcases hfs with rfl | ⟨u, r, t, b, g, rfl⟩
      · rfl
      · rfl
    rw [ef] at v5
    have b1 := k2 _ _ n1 a1
    have c1 := k3 _ _ n1 b1
    have d1 := k4 _ _ n1 c1
    have b2 := k3 _ _ n2 a2
    have c2 := k4 _ _ n2 b2
    have b3 := k4 _ _ n3 a3
    have no1 : ∀ {c : Addr}, H1 c = none → H c = none := fun {c} z => by
      cases e : H c with
      | none => rfl
      | some o =>
        by_cases q : c = va
        · rw [q, v1] at z
          cases z
        · rw [k1 c o q e] at z
          cases z
    have no2 : ∀ {c : Addr}, H2 c = none → H c = none := fun {c} z => no1 (by
      cases e : H1 c with
      | none => rfl
      | some o =>
        by_cases q : c = va
        · rw [q, v2] at z
          cases z
        · rw [k2 c o q e] at z
          cases z)
    have no3 : ∀ {c : Addr}, H3 c = none → H c = none := fun {c} z => no2 (by
      cases e : H2 c with
      | none => rfl
      | some o =>
        by_cases q : c = va
        · rw [q, v3] at z
          cases z
        · rw [k3 c o q e] at z
          cases z)
    have no4 : ∀ {c : Addr}, H4 c = none → H c = none := fun {c} z => no3 (by
      cases e : H3 c with
      | none => rfl
      | some o =>
        by_cases q : c = va
        · rw [q, v4] at z
          cases z
        · rw [k4 c o q e] at z
          cases z)
    refine k H5 [va, p1, p2, p3, p4, p5] ⟨dx, p1, p2, p3, p4, p5, [], [], v5, k5 _ _ n1 d1, k5 _ _ n2 c2, k5 _ _ n3 b3, k5 _ _ n4 a4, a5, ?_, .nil, .nil, ?_, ?_⟩ (fun c o h n => k5 c o n (k4 c o n (k3 c o n (k2 c o n (k1 c o n h))))) ?_
    · simp only [List.nodup_cons, List.mem_cons, List.not_mem_nil, or_false, not_or, not_false_eq_true, List.nodup_nil, and_true]
      exact ⟨⟨ne_of_none a1 f2, ne_of_none b1 f3, ne_of_none c1 f4, ne_of_none d1 f5⟩, ⟨ne_of_none a2 f3, ne_of_none b2 f4, ne_of_none c2 f5⟩, ⟨ne_of_none a3 f4, ne_of_none b3 f5⟩, ne_of_none a4 f5⟩
    · simp
    · intro c hc
      simp only [List.mem_cons, List.not_mem_nil, or_false] at hc
      rcases hc with rfl | rfl | rfl | rfl | rfl | rfl
      · exact ⟨_, v5⟩
      · exact ⟨_, k5 _ _ n1 d1⟩
      · exact ⟨_, k5 _ _ n2 c2⟩
      · exact ⟨_, k5 _ _ n3 b3⟩
      · exact ⟨_, k5 _ _ n4 a4⟩
      · exact ⟨_, a5⟩
    · intro c hc
      simp only [List.mem_cons, List.not_mem_nil, or_false] at hc
      rcases hc with rfl | rfl | rfl | rfl | rfl | rfl
      · exact .inl rfl
      · exact .inr f1
      · exact .inr (no1 f2)
      · exact .inr (no2 f3)
      · exact .inr (no3 f4)
      · exact .inr (no4 f5)
/-! ### __init__ -/
theorem scInit : FnScope ["self"] ["self"] (defScope mInit) := ⟨rfl, rfl, rfl, by decide +kernel, rfl, by decide +kernel, by decide +kernel⟩
theorem ok_init {f : Addr} {fd : FuncData} (F : Fun K "__init__" "Valley.__init__" mInit f fd) (T : Txt K mg C) : FnOk P w K mg base CX0 2 f fd ["self"] (spInit (Rep C) C) := by
  refine F.ok scInit (fun vs H Q E h => ?_) (fun cdv A outer sh H vs Q E hr h => ?_)
  · obtain ⟨va, dx, rfl, _⟩ := h
    rfl
  · obtain ⟨va, dx, rfl, hva, k⟩ := h
    refine ⟨_, pss_one (ps_expr (pe_mt0 (pv 0) T.cl T.begin_ (fun _ _ F => ok_begin F T) hr)), ?_⟩
    exact ⟨_, rfl, va, dx, [], rfl, hva, rfl, va, dx, [], rfl, hva, .inl rfl, fun H' own R fr nw => k H' own R fr nw⟩
end
end Rv
end
section
set_option Elab.async false
set_option linter.all false
set_option maxRecDepth 100000
set_option maxHeartbeats 4000000
namespace Rv
open PySem PySem.Spec PyProof.Rows L2
open Km457 (Valley at_ far)
open Km459 (Sea Call Desk act)
theorem Parts.tupne {C : Addr} {H : Hp} {va : Addr} {own : List Addr} {d : Desk} {dx u r t b g : Addr} {ps gs : List Addr} (x : Parts C H va own d dx u r t b g ps gs) {c : Addr} {xs : List V} (h : H c = some (.tup xs)) : c ≠ va ∧ c ≠ u ∧ c ≠ r ∧ c ≠ t ∧ c ≠ b ∧ c ≠ g :=
  ⟨ne_of h x.hva (by simp), ne_of h x.hu (by simp), ne_of h x.hr (by simp), ne_of h x.ht (by simp), ne_of h x.hb (by simp), ne_of h x.hg (by simp)⟩
theorem Parts.ne {C : Addr} {H : Hp} {va : Addr} {own : List Addr} {d : Desk} {dx u r t b g : Addr} {ps gs : List Addr} (x : Parts C H va own d dx u r t b g ps gs) : va ≠ u ∧ va ≠ r ∧ va ≠ t ∧ va ≠ b ∧ va ≠ g :=
  ⟨ne_of x.hva x.hu (by simp), ne_of x.hva x.hr (by simp), ne_of x.hva x.ht (by simp), ne_of x.hva x.hb (by simp), ne_of x.hva x.hg (by simp)⟩
theorem Parts.ne5 {C : Addr} {H : Hp} {va : Addr} {own : List Addr} {d : Desk} {dx u r t b g : Addr} {ps gs : List Addr} (x : Parts C H va own d dx u r t b g ps gs) : (u ≠ r ∧ u ≠ t ∧ u ≠ b ∧ u ≠ g) ∧ (r ≠ t ∧ r ≠ b ∧ r ≠ g) ∧ (t ≠ b ∧ t ≠ g) ∧ b ≠ g := by
  have n := x.nd
  simp only [List.nodup_cons, List.mem_cons, List.not_mem_nil, or_false, not_or, not_false_eq_true, List.nodup_nil, and_true] at n
  exact n
/-- another history -/
theorem Parts.hist {C : Addr} {H H' : Hp} {va : Addr} {own own' : List Addr} {d : Desk} {dx u r t b g : Addr} {ps gs ps' gs' : List Addr} {past' future' : List Sea} (x : Parts C H va own d dx u r t b g ps gs) (sub : ∀ c ∈ own, c ∈ own') (has : ∀ c ∈ own', ∃ o, H' c = some o)
    (e : ∀ c o, c ∈ own → c ≠ b → c ≠ g → H c = some o → H' c = some o) (hb' : H' b = some (.lst (refs ps'.reverse))) (hg' : H' g = some (.lst (refs gs'.reverse))) (p1 : Paired (Kept H' own') ps' past') (p2 : Paired (Kept H' own') gs' future') : Parts C H' va own' ⟨d.now, past', future'⟩ dx u r t b g ps' gs' := by
  obtain ⟨m1, m2, m3, m4, m5, m6⟩ := x.mine
  obtain ⟨-, -, -, n4, n5⟩ := x.ne
  obtain ⟨⟨-, -, a1, a2⟩, ⟨-, b1, b2⟩, ⟨c1, c2⟩, -⟩ := x.ne5
  exact ⟨e _ _ m1 n4 n5 x.hva, e _ _ m2 a1 a2 x.hu, e _ _ m3 b1 b2 x.hr, e _ _ m4 c1 c2 x.ht, hb', hg', x.nd, p1, p2, ⟨sub _ m1, sub _ m2, sub _ m3, sub _ m4, sub _ m5, sub _ m6⟩, has⟩
theorem Paired.kept {H H' : Hp} {own own' : List Addr} {ps : List Addr} {l : List Sea} (x : Paired (Kept H own) ps l) (sub : ∀ c ∈ own, c ∈ own') (e : ∀ c xs, c ∈ own → H c = some (.tup xs) → H' c = some (.tup xs)) : Paired (Kept H' own') ps l :=
  L2.Paired.mapP x fun p s h => h.keep sub e
theorem paired_len {F : Addr → Sea → Prop} : ∀ {ps : List Addr} {l : List Sea}, Paired F ps l → ps.length = l.length
  | _, _, .nil => rfl
  | _, _, .cons _ t => congrArg (· + 1) (paired_len t)
theorem paired_take {F : Addr → Sea → Prop} : ∀ (n : Nat) {ps : List Addr} {l : List Sea}, Paired F ps l → Paired F (ps.take n) (l.take n)
  | 0, _, _, _ => by simpa using Paired.nil
  | n + 1, _, _, .nil => .nil
  | n + 1, _, _, .cons h t => .cons h (paired_take n t)
theorem refs_len (l : List Addr) : (refs l).length = l.length := List.length_map _
section
variable {P : Program} {w : World} {K : PySem.W.Frag} {mg : Str → Option Value} {base : Heap} {C : Addr}
/-! ### state -/
def spState (C : Addr) : Sp := fun vs H Q _ => ∃ (va : Addr) (s : Sea), vs = [.ref va] ∧ SeaAt C H va s ∧ ∀ (H' : Hp) (p : Addr) (n : List Addr), (∀ c ∈ n, H c = none) → (∀ c ∈ n, ∃ o, H' c = some o) → Kept H' n p s → Same H H' → Q (.ref p) H'
theorem scState : FnScope ["self"] ["self"] (defScope mState) := ⟨rfl, rfl, rfl, by decide +kernel, rfl, by decide +kernel, by decide +kernel⟩
theorem ok_state {f : Addr} {fd : FuncData} (F : Fun K "state" "Valley.state" mState f fd) (T : Txt K mg C) : FnOk P w K mg base CX0 1 f fd ["self"] (spState C) := by
  refine F.ok scState (fun vs H Q E h => ?_) (fun cdv A outer sh H vs Q E hr h => ?_)
  · obtain ⟨va, s, rfl, _⟩ := h
    rfl
  · obtain ⟨va, s, rfl, S, k⟩ := h
    obtain ⟨dx, fs, u, r, t, h1, h2, h3, h4, h5, h6, h7, h8⟩ := S.ex
    refine ⟨_, pss_one (ps_ret (pe_tup (pa_cons (pe_callTy call_tuple_of (by rfl) T.tuple (by decide +kernel) (pa_cons (pe_fld (pv 0) rfl) pa_nil)) (pa_cons (pe_callTy call_tuple_of (by rfl) T.tuple (by decide +kernel) (pa_cons (pe_fld (pv 0) rfl) pa_nil)) (pa_cons (pe_callTy call_tuple_of (by rfl) T.tuple (by decide +kernel) (pa_cons (pe_fld (pv 0) rfl) pa_nil)) pa_nil))))), ?_⟩
    refine ⟨_, rfl, va, C, dx, fs, _, rfl, h1, T.cl, T.nU, h2, u, _, rfl, .inl ⟨SqL.of h5, fun x fx => ?_⟩⟩
    have e1 : Same H (upd H x (.tup (nats (ups s.valley)))) := Same.new fx
    have a1 : (upd H x (.tup (nats (ups s.valley)))) x = some (.tup (nats (ups s.valley))) := upd_same
    generalize upd H x (.tup (nats (ups s.valley))) = H1 at e1 a1 ⊢
    refine ⟨_, rfl, va, C, dx, fs, _, rfl, e1 _ _ h1, T.cl, T.nR, h3, r, _, rfl, .inl ⟨SqL.of (e1 _ _ h6), fun y fy => ?_⟩⟩
    have e2 : Same H1 (upd H1 y (.tup (nats (longs s.valley)))) := Same.new fy
    have a2 : (upd H1 y (.tup (nats (longs s.valley)))) y = some (.tup (nats (longs s.valley))) := upd_same
    generalize upd H1 y (.tup (nats (longs s.valley))) = H2 at e2 a2 ⊢
    have e12 := e1.trans e2
    refine ⟨_, rfl, va, C, dx, fs, _, rfl, e12 _ _ h1, T.cl, T.nT, h4, t, _, rfl, .inl ⟨SqL.of (e12 _ _ h7), fun z fz => ?_⟩⟩
    have e3 : Same H2 (upd H2 z (.tup (nats s.votes))) := Same.new fz
    have a3 : (upd H2 z (.tup (nats s.votes))) z = some (.tup (nats s.votes)) := upd_same
    generalize upd H2 z (.tup (nats s.votes)) = H3 at e3 a3 ⊢
    have e13 := e12.trans e3
    refine ⟨three_le, fun p fp => ?_⟩
    have e4 : Same H3 (upd H3 p (.tup [V.ref x, V.ref y, V.ref z])) := Same.new fp
    have a4 : (upd H3 p (.tup [V.ref x, V.ref y, V.ref z])) p = some (.tup [V.ref x, V.ref y, V.ref z]) := upd_same
    refine k _ p [p, x, y, z] (fun c hc => ?_) (fun c hc => ?_) ⟨x, y, z, a4, e4 _ _ (e3 _ _ (e2 _ _ a1)), e4 _ _ (e3 _ _ a2), e4 _ _ a3, by simp, by simp, by simp, by simp⟩ (e13.trans e4)
    · simp only [List.mem_cons, List.not_mem_nil, or_false] at hc
      rcases hc with rfl | rfl | rfl | rfl
      · exact e13.free fp
      · exact fx
      · exact e1.free fy
      · exact e12.free fz
    · simp only [List.mem_cons, List.not_mem_nil, or_false] at hc
      rcases hc with rfl | rfl | rfl | rfl
      · exact ⟨_, a4⟩
      · exact ⟨_, e4 _ _ (e3 _ _ (e2 _ _ a1))⟩
      · exact ⟨_, e4 _ _ (e3 _ _ a2)⟩
      · exact ⟨_, e4 _ _ a3⟩
/-! ### restore -/
def spRestore (C : Addr) : Sp := fun vs H Q _ => ∃ (va p dx u r t b g : Addr) (own : List Addr) (s : Sea), vs = [.ref va, .ref p] ∧ H va = some (.ins C dx (fl u r t b g)) ∧ Kept H own p s ∧
  ∀ (H' : Hp) (u' r' t' : Addr), H u' = none → H r' = none → H t' = none → u' ≠ r' → u' ≠ t' → r' ≠ t' → H' va = some (.ins C dx (fl u' r' t' b g)) → H' u' = some (.lst (nats (ups s.valley))) → H' r' = some (.lst (nats (longs s.valley))) → H' t' = some (.lst (nats s.votes)) →
    (∀ c o, H c = some o → c ≠ va → H' c = some o) → Q .non H'
theorem scRestore : FnScope ["self", "kept"] ["self", "kept"] (defScope mRestore) := ⟨rfl, rfl, rfl, by decide +kernel, rfl, by decide +kernel, by decide +kernel⟩
theorem free_step {H H' : Hp} {va : Addr} {o : HO} (h : H' va = some o) (k : ∀ c x, c ≠ va → H c = some x → H' c = some x) {c : Addr} (z : H' c = none) : H c = none := by
  cases e : H c with
  | none => rfl
  | some x =>
    by_cases q : c = va
    · rw [q, h] at z
      cases z
    · rw [k c x q e] at z
      cases z
theorem ok_restore {f : Addr} {fd : FuncData} (F : Fun K "restore" "Valley.restore" mRestore f fd) (T : Txt K mg C) : FnOk P w K mg base CX0 1 f fd ["self", "kept"] (spRestore C) := by
  refine F.ok scRestore (fun vs H Q E h => ?_) (fun cdv A outer sh H vs Q E hr h => ?_)
  · obtain ⟨va, p, dx, u, r, t, b, g, own, s, rfl, _⟩ := h
    rfl
  · obtain ⟨va, p, dx, u, r, t, b, g, own, s, rfl, hva, kp, k⟩ := h
    obtain ⟨x, y, z, h1, h2, h3, h4, _⟩ := kp.ex
    have np : p ≠ va := ne_of h1 hva (by simp)
    have nx : x ≠ va := ne_of h2 hva (by simp)
    have ny : y ≠ va := ne_of h3 hva (by simp)
    have nz : z ≠ va := ne_of h4 hva (by simp)
    refine ⟨_, pss_cons (ps_fld (pv 0) (pe_callTy call_list_of (by rfl) T.list PySem.Pv.boot_list (pa_cons (pe_ix ix_tup (pv 1) pe_int (fun _ _ => rfl)) pa_nil)) rfl) (pss_cons (ps_fld (pv 0) (pe_callTy call_list_of (by rfl) T.list PySem.Pv.boot_list (pa_cons (pe_ix ix_tup (pv 1) pe_int (fun _ _ => rfl)) pa_nil)) rfl) (pss_one (ps_fld (pv 0) (pe_callTy call_list_of (by rfl) T.list PySem.Pv.boot_list (pa_cons (pe_ix ix_tup (pv 1) pe_int (fun _ _ => rfl)) pa_nil)) rfl))), ?_⟩
    refine ⟨_, rfl, p, _, _, _, rfl, rfl, SqT.of h1, at_of (j := 0) (v := V.ref x) rfl rfl, x, _, rfl, .inr (SqT.of h2), fun p1 f1 => ⟨_, rfl, va, C, dx, fl u r t b g, rfl, by rw [upd_ne (ne_of_none hva f1)]; exact hva, T.cl, T.nU, (by show 5 < 1000; decide), ?_⟩⟩
    obtain ⟨v1, a1, k1, n1⟩ := set_step (o := .lst (nats (ups s.valley))) (o' := .ins C dx (fl p1 r t b g)) hva f1
    have E1 : putF "ups" (.ref p1) (fl u r t b g) = fl p1 r t b g := rfl
    rw [E1]
    generalize upd (upd H p1 (.lst (nats (ups s.valley)))) va (.ins C dx (fl p1 r t b g)) = H1 at v1 a1 k1 ⊢
    refine ⟨_, rfl, p, _, _, _, rfl, rfl, SqT.of (k1 _ _ np h1), at_of (j := 1) (v := V.ref y) rfl rfl, y, _, rfl, .inr (SqT.of (k1 _ _ ny h3)), fun p2 f2 => ⟨_, rfl, va, C, dx, fl p1 r t b g, rfl, by rw [upd_ne (ne_of_none v1 f2)]; exact v1, T.cl, T.nR, (by show 5 < 1000; decide), ?_⟩⟩
    obtain ⟨v2, a2, k2, n2⟩ := set_step (o := .lst (nats (longs s.valley))) (o' := .ins C dx (fl p1 p2 t b g)) v1 f2
    have E2 : putF "roads" (.ref p2) (fl p1 r t b g) = fl p1 p2 t b g := rfl
    rw [E2]
    generalize upd (upd H1 p2 (.lst (nats (longs s.valley)))) va (.ins C dx (fl p1 p2 t b g)) = H2 at v2 a2 k2 ⊢
    refine ⟨_, rfl, p, _, _, _, rfl, rfl, SqT.of (k2 _ _ np (k1 _ _ np h1)), at_of (j := 2) (v := V.ref z) rfl rfl, z, _, rfl, .inr (SqT.of (k2 _ _ nz (k1 _ _ nz h4))), fun p3 f3 => ⟨_, rfl, va, C, dx, fl p1 p2 t b g, rfl, by rw [upd_ne (ne_of_none v2 f3)]; exact v2, T.cl, T.nT, (by show 5 < 1000; decide), ?_⟩⟩
    obtain ⟨v3, a3, k3, n3⟩ := set_step (o := .lst (nats s.votes)) (o' := .ins C dx (fl p1 p2 p3 b g)) v2 f3
    have E3 : putF "told" (.ref p3) (fl p1 p2 t b g) = fl p1 p2 p3 b g := rfl
    rw [E3]
    generalize upd (upd H2 p3 (.lst (nats s.votes))) va (.ins C dx (fl p1 p2 p3 b g)) = H3 at v3 a3 k3 ⊢
    have b1 := k2 _ _ n1 a1
    have f2' := free_step v1 k1 f2
    have f3' := free_step v1 k1 (free_step v2 k2 f3)
    exact k H3 p1 p2 p3 f1 f2' f3' (ne_of_none a1 f2) (ne_of_none b1 f3) (ne_of_none a2 f3) v3 (k3 _ _ n1 b1) (k3 _ _ n2 a2) a3 fun c o h n => k3 c o n (k2 c o n (k1 c o n h))
end
end Rv
end
section
set_option Elab.async false
set_option linter.all false
set_option maxRecDepth 100000
set_option maxHeartbeats 4000000
namespace Rv
open PySem PySem.Spec PyProof.Rows L2
open Km457 (Valley at_ far)
open Km459 (Sea Call Desk act)
theorem refs_snoc (p : Addr) (ps : List Addr) : refs ps.reverse ++ [V.ref p] = refs (p :: ps).reverse := by
  unfold refs
  rw [List.reverse_cons, List.map_append]
  rfl
theorem refs_first {l : List Addr} (h : l.length = 21) : (refs l.reverse).eraseIdx 0 = refs (l.take 20).reverse := by
  unfold refs
  rw [List.reverse_take, h, List.eraseIdx_zero, List.map_drop, List.drop_one]
theorem refs_last (p : Addr) (ps : List Addr) : (refs (p :: ps).reverse).dropLast = refs ps.reverse := by
  rw [← refs_snoc, List.dropLast_concat]
theorem refs_top (p : Addr) (ps : List Addr) : (refs (p :: ps).reverse)[(refs (p :: ps).reverse).length - 1]? = some (V.ref p) := by
  rw [← refs_snoc, List.length_append, List.getElem?_append_right (by simp)]
  simp
/-- one more is kept behind -/
theorem Parts.push {C : Addr} {H H1 : Hp} {va : Addr} {own n : List Addr} {d : Desk} {dx u r t b g p : Addr} {ps gs : List Addr} (x : Parts C H va own d dx u r t b g ps gs) (hn1 : ∀ c ∈ n, H c = none) (hn2 : ∀ c ∈ n, ∃ o, H1 c = some o) (kp : Kept H1 n p d.now) (e1 : Same H H1) :
    Parts C (upd H1 b (.lst (refs (p :: ps).reverse))) va (n ++ own) ⟨d.now, d.now :: d.past, d.future⟩ dx u r t b g (p :: ps) gs ∧ Mv own H (n ++ own) (upd H1 b (.lst (refs (p :: ps).reverse))) := by
  have sub : ∀ c ∈ own, c ∈ n ++ own := fun c h => List.mem_append_right _ h
  have nb : ∀ c ∈ n, c ≠ b := fun c h z => by
    have := hn1 c h
    rw [z, x.hb] at this
    cases this
  have tp : ∀ c xs, c ∈ own → H c = some (.tup xs) → (upd H1 b (.lst (refs (p :: ps).reverse))) c = some (.tup xs) := fun c xs _ h => by
    rw [upd_ne (x.tupne h).2.2.2.2.1]
    exact e1 _ _ h
  refine ⟨x.hist sub (fun c hc => ?_) (fun c o hc h1 h2 h => ?_) upd_same ?_ (.cons ?_ (Paired.kept x.past sub tp)) (Paired.kept x.future sub tp), fun c o h hc => ?_, fun c hc => ?_, sub⟩
  · by_cases z : c = b
    · rw [z]
      exact ⟨_, upd_same⟩
    · rw [upd_ne z]
      rcases List.mem_append.mp hc with q | q
      · exact hn2 c q
      · obtain ⟨o, ho⟩ := x.has c q
        exact ⟨o, e1 _ _ ho⟩
  · rw [upd_ne h1]
    exact e1 _ _ h
  · rw [upd_ne (x.ne5.2.2.2).symm]
    exact e1 _ _ x.hg
  · refine kp.keep (fun c h => List.mem_append_left _ h) fun c xs hc h => ?_
    rw [upd_ne (nb c hc)]
    exact h
  · rw [upd_ne (fun z => hc (by rw [z]; exact x.mine.2.2.2.2.1))]
    exact e1 _ _ h
  · rcases List.mem_append.mp hc with q | q
    · exact .inr (hn1 c q)
    · exact .inl q
/-- one more is kept ahead -/
theorem Parts.pushG {C : Addr} {H H1 : Hp} {va : Addr} {own n : List Addr} {d : Desk} {dx u r t b g p : Addr} {ps gs : List Addr} (x : Parts C H va own d dx u r t b g ps gs) (hn1 : ∀ c ∈ n, H c = none) (hn2 : ∀ c ∈ n, ∃ o, H1 c = some o) (kp : Kept H1 n p d.now) (e1 : Same H H1) :
    Parts C (upd H1 g (.lst (refs (p :: gs).reverse))) va (n ++ own) ⟨d.now, d.past, d.now :: d.future⟩ dx u r t b g ps (p :: gs) ∧ Mv own H (n ++ own) (upd H1 g (.lst (refs (p :: gs).reverse))) := by
  have sub : ∀ c ∈ own, c ∈ n ++ own := fun c h => List.mem_append_right _ h
  have nb : ∀ c ∈ n, c ≠ g := fun c h z => by
    have := hn1 c h
    rw [z, x.hg] at this
    cases this
  have tp : ∀ c xs, c ∈ own → H c = some (.tup xs) → (upd H1 g (.lst (refs (p :: gs).reverse))) c = some (.tup xs) := fun c xs _ h => by
    rw [upd_ne (x.tupne h).2.2.2.2.2]
    exact e1 _ _ h
  refine ⟨x.hist sub (fun c hc => ?_) (fun c o hc h1 h2 h => ?_) ?_ upd_same (Paired.kept x.past sub tp) (.cons ?_ (Paired.kept x.future sub tp)), fun c o h hc => ?_, fun c hc => ?_, sub⟩
  · by_cases z : c = g
    · rw [z]
      exact ⟨_, upd_same⟩
    · rw [upd_ne z]
      rcases List.mem_append.mp hc with q | q
      · exact hn2 c q
      · obtain ⟨o, ho⟩ := x.has c q
        exact ⟨o, e1 _ _ ho⟩
  · rw [upd_ne h2]
    exact e1 _ _ h
  · rw [upd_ne x.ne5.2.2.2]
    exact e1 _ _ x.hb
  · refine kp.keep (fun c h => List.mem_append_left _ h) fun c xs hc h => ?_
    rw [upd_ne (nb c hc)]
    exact h
  · rw [upd_ne (fun z => hc (by rw [z]; exact x.mine.2.2.2.2.2))]
    exact e1 _ _ h
  · rcases List.mem_append.mp hc with q | q
    · exact .inr (hn1 c q)
    · exact .inl q
/-- the list behind is another -/
theorem Parts.setB {C : Addr} {H : Hp} {va : Addr} {own : List Addr} {d : Desk} {dx u r t b g : Addr} {ps gs ps' : List Addr} {past' : List Sea} (x : Parts C H va own d dx u r t b g ps gs) (p1 : Paired (Kept H own) ps' past') :
    Parts C (upd H b (.lst (refs ps'.reverse))) va own ⟨d.now, past', d.future⟩ dx u r t b g ps' gs ∧ Mv own H own (upd H b (.lst (refs ps'.reverse))) := by
  have tp : ∀ c xs, c ∈ own → H c = some (.tup xs) → (upd H b (.lst (refs ps'.reverse))) c = some (.tup xs) := fun c xs _ h => by
    rw [upd_ne (x.tupne h).2.2.2.2.1]
    exact h
  refine ⟨x.hist (fun _ h => h) (fun c hc => ?_) (fun c o hc h1 h2 h => ?_) upd_same ?_ (Paired.kept p1 (fun _ h => h) tp) (Paired.kept x.future (fun _ h => h) tp), fun c o h hc => ?_, fun c hc => .inl hc, fun _ h => h⟩
  · by_cases z : c = b
    · rw [z]
      exact ⟨_, upd_same⟩
    · rw [upd_ne z]
      exact x.has c hc
  · rw [upd_ne h1]
    exact h
  · rw [upd_ne (x.ne5.2.2.2).symm]
    exact x.hg
  · rw [upd_ne (fun z => hc (by rw [z]; exact x.mine.2.2.2.2.1))]
    exact h
/-- the list ahead is another -/
theorem Parts.setG {C : Addr} {H : Hp} {va : Addr} {own : List Addr} {d : Desk} {dx u r t b g : Addr} {ps gs gs' : List Addr} {future' : List Sea} (x : Parts C H va own d dx u r t b g ps gs) (p1 : Paired (Kept H own) gs' future') :
    Parts C (upd H g (.lst (refs gs'.reverse))) va own ⟨d.now, d.past, future'⟩ dx u r t b g ps gs' ∧ Mv own H own (upd H g (.lst (refs gs'.reverse))) := by
  have tp : ∀ c xs, c ∈ own → H c = some (.tup xs) → (upd H g (.lst (refs gs'.reverse))) c = some (.tup xs) := fun c xs _ h => by
    rw [upd_ne (x.tupne h).2.2.2.2.2]
    exact h
  refine ⟨x.hist (fun _ h => h) (fun c hc => ?_) (fun c o hc h1 h2 h => ?_) ?_ upd_same (Paired.kept x.past (fun _ h => h) tp) (Paired.kept p1 (fun _ h => h) tp), fun c o h hc => ?_, fun c hc => .inl hc, fun _ h => h⟩
  · by_cases z : c = g
    · rw [z]
      exact ⟨_, upd_same⟩
    · rw [upd_ne z]
      exact x.has c hc
  · rw [upd_ne h2]
    exact h
  · rw [upd_ne x.ne5.2.2.2]
    exact x.hb
  · rw [upd_ne (fun z => hc (by rw [z]; exact x.mine.2.2.2.2.2))]
    exact h
section
variable {P : Program} {w : World} {K : PySem.W.Frag} {mg : Str → Option Value} {base : Heap} {C : Addr}
/-! ### keep_for_taking_back -/
def spKeep (C : Addr) : Sp := fun vs H Q _ => ∃ (va : Addr) (own : List Addr) (d : Desk), vs = [.ref va] ∧ Rep C H va own d ∧ GoodD d ∧ ∀ (H' : Hp) (own' : List Addr), Rep C H' va own' ⟨d.now, (d.now :: d.past).take 20, []⟩ → Mv own H own' H' → Q .non H'
theorem scKeep : FnScope ["self"] ["self"] (defScope mKeep) := ⟨rfl, rfl, rfl, by decide +kernel, rfl, by decide +kernel, by decide +kernel⟩
theorem ok_keep {f : Addr} {fd : FuncData} (F : Fun K "keep_for_taking_back" "Valley.keep_for_taking_back" mKeep f fd) (T : Txt K mg C) : FnOk P w K mg base CX0 2 f fd ["self"] (spKeep C) := by
  refine F.ok scKeep (fun vs H Q E h => ?_) (fun cdv A outer sh H vs Q E hr h => ?_)
  · obtain ⟨va, own, d, rfl, _⟩ := h
    rfl
  · obtain ⟨va, own, d, rfl, ⟨dx, u, r, t, b, g, ps, gs, x⟩, G, k⟩ := h
    obtain ⟨t20, h20⟩ := T.taken
    refine ⟨_, pss_cons (ps_expr (pe_bm PySem.F.plainAttrs_list PySem.F.slot_list_append PySem.F.type_list_append mt_append (pe_fld (pv 0) rfl) (pa_cons (pe_mt0 (pv 0) T.cl T.state (fun _ _ F => ok_state F T) hr) pa_nil)))
      (pss_cons (ps_if (pt_cmpR op_gt (pe_callB call_len_seq (by rfl) T.len PySem.boot_len (pa_cons (pe_fld (pv 0) rfl) pa_nil)) (pe_glob (v := .int 20) rfl h20 ⟨t20, rfl⟩) (nomark _)) (pss_one (ps_expr (pe_bm PySem.F.plainAttrs_list PySem.F.slot_list_pop PySem.F.type_list_pop mt_popAt (pe_fld (pv 0) rfl) (pa_cons pe_int pa_nil)))) pss_nil)
      (pss_one (ps_expr (pe_bm0 PySem.F.plainAttrs_list PySem.F.slot_list_clear PySem.F.type_list_clear mt_clear (pe_fld (pv 0) rfl))))), ?_⟩
    refine ⟨_, rfl, va, C, dx, _, _, rfl, x.hva, T.cl, T.nB, rfl, .inl ⟨rfl, _, SqL.of x.hb⟩, _, rfl, va, dx, _, rfl, x.hva, rfl, va, d.now, rfl, x.sea, fun H1 p n hn1 hn2 kp e1 => ?_⟩
    have lp := paired_len x.past
    have most := G.most
    refine ⟨b, _, _, rfl, rfl, e1 _ _ x.hb, ?_, ?_⟩
    · rw [refs_len, List.length_reverse, lp]
      exact Nat.lt_of_le_of_lt (by omega : d.past.length ≤ 20) (by decide)
    rw [refs_snoc]
    obtain ⟨x1, m1⟩ := x.push hn1 hn2 kp e1
    generalize upd H1 b (.lst (refs (p :: ps).reverse)) = H2 at x1 m1 ⊢
    have fin : ∀ (H3 : Hp) (ps3 : List Addr), Parts C H3 va (n ++ own) ⟨d.now, (d.now :: d.past).take 20, d.future⟩ dx u r t b g ps3 gs → Mv (n ++ own) H2 (n ++ own) H3 → Q .non (upd H3 g (.lst [])) := fun H3 ps3 x3 m3 => by
      obtain ⟨x4, m4⟩ := x3.setG (gs' := []) (future' := []) .nil
      exact k _ (n ++ own) ⟨dx, u, r, t, b, g, ps3, [], x4⟩ (m1.trans (m3.trans m4))
    refine ⟨_, rfl, va, C, dx, _, _, rfl, x1.hva, T.cl, T.nB, rfl, b, _, rfl, .inl (SqL.of x1.hb), _, _, rfl, rfl, _, rfl, ite2 (fun c => ?_) (fun c => ?_)⟩
    · have c1 : (p :: ps).length = 21 := by
        have q := of_decide_eq_true c
        rw [refs_len, List.length_reverse] at q
        have := (List.length_cons : (p :: ps).length = ps.length + 1)
        omega
      refine ⟨_, rfl, va, C, dx, _, _, rfl, x1.hva, T.cl, T.nB, rfl, .inl ⟨rfl, _, SqL.of x1.hb⟩, b, _, _, 0, _, rfl, rfl, x1.hb, (by decide), (by decide), ?_, List.getElem?_eq_getElem (by rw [refs_len, List.length_reverse, c1]; decide), ?_⟩
      · rw [refs_len, List.length_reverse, c1]
        decide
      · rw [refs_first c1]
        obtain ⟨x3, m3⟩ := x1.setB (paired_take 20 x1.past)
        refine ⟨_, rfl, va, C, dx, _, _, rfl, x3.hva, T.cl, T.nG, rfl, .inl ⟨rfl, _, SqL.of x3.hg⟩, g, _, rfl, rfl, x3.hg, fin _ _ x3 m3⟩
    · have c1 : (d.now :: d.past).length ≤ 20 := by
        rw [List.length_cons, ← lp]
        by_cases q : ps.length + 1 ≤ 20
        · exact q
        · refine absurd (decide_eq_true ?_) c
          rw [refs_len, List.length_reverse, List.length_cons]
          omega
      refine ⟨_, rfl, va, C, dx, _, _, rfl, x1.hva, T.cl, T.nG, rfl, .inl ⟨rfl, _, SqL.of x1.hg⟩, g, _, rfl, rfl, x1.hg, fin H2 (p :: ps) ?_ Mv.rfl'⟩
      rw [List.take_of_length_le c1]
      exact x1
end
end Rv
end
section
set_option Elab.async false
set_option linter.all false
set_option maxRecDepth 100000
set_option maxHeartbeats 4000000
namespace Rv
open PySem PySem.Spec PyProof.Rows L2
open Km457 (Valley at_ far)
open Km459 (Sea Call Desk act)
/-- another sea, in new lists -/
theorem Parts.reset {C : Addr} {H H' : Hp} {va : Addr} {own : List Addr} {d : Desk} {dx u r t b g u' r' t' : Addr} {ps gs : List Addr} {s : Sea} (x : Parts C H va own d dx u r t b g ps gs) (f1 : H u' = none) (f2 : H r' = none) (f3 : H t' = none) (n12 : u' ≠ r') (n13 : u' ≠ t') (n23 : r' ≠ t')
    (hva' : H' va = some (.ins C dx (fl u' r' t' b g))) (hu' : H' u' = some (.lst (nats (ups s.valley)))) (hr' : H' r' = some (.lst (nats (longs s.valley)))) (ht' : H' t' = some (.lst (nats s.votes))) (e : ∀ c o, H c = some o → c ≠ va → H' c = some o) :
    Parts C H' va (u' :: r' :: t' :: own) ⟨s, d.past, d.future⟩ dx u' r' t' b g ps gs ∧ Mv own H (u' :: r' :: t' :: own) H' := by
  obtain ⟨m1, m2, m3, m4, m5, m6⟩ := x.mine
  obtain ⟨-, -, -, nb, ng⟩ := x.ne
  have sub : ∀ c ∈ own, c ∈ u' :: r' :: t' :: own := fun c h => List.mem_cons_of_mem _ (List.mem_cons_of_mem _ (List.mem_cons_of_mem _ h))
  have tp : ∀ c xs, c ∈ own → H c = some (.tup xs) → H' c = some (.tup xs) := fun c xs _ h => e _ _ h (x.tupne h).1
  refine ⟨⟨hva', hu', hr', ht', e _ _ x.hb nb.symm, e _ _ x.hg ng.symm, ?_, Paired.kept x.past sub tp, Paired.kept x.future sub tp, ⟨sub _ m1, by simp, by simp, by simp, sub _ m5, sub _ m6⟩, fun c hc => ?_⟩, fun c o h hc => e c o h fun z => hc (by rw [z]; exact m1), fun c hc => ?_, sub⟩
  · simp only [List.nodup_cons, List.mem_cons, List.not_mem_nil, or_false, not_or, not_false_eq_true, List.nodup_nil, and_true]
    exact ⟨⟨n12, n13, (ne_of_none x.hb f1).symm, (ne_of_none x.hg f1).symm⟩, ⟨n23, (ne_of_none x.hb f2).symm, (ne_of_none x.hg f2).symm⟩, ⟨(ne_of_none x.hb f3).symm, (ne_of_none x.hg f3).symm⟩, x.ne5.2.2.2⟩
  · simp only [List.mem_cons] at hc
    rcases hc with rfl | rfl | rfl | hc
    · exact ⟨_, hu'⟩
    · exact ⟨_, hr'⟩
    · exact ⟨_, ht'⟩
    · by_cases z : c = va
      · rw [z]
        exact ⟨_, hva'⟩
      · obtain ⟨o, ho⟩ := x.has c hc
        exact ⟨o, e _ _ ho z⟩
  · simp only [List.mem_cons] at hc
    rcases hc with rfl | rfl | rfl | hc
    · exact .inr f1
    · exact .inr f2
    · exact .inr f3
    · exact .inl hc
/-- another sea, in the same lists -/
theorem Parts.renew {C : Addr} {H H' : Hp} {va : Addr} {own : List Addr} {d : Desk} {dx u r t b g : Addr} {ps gs : List Addr} {s : Sea} (x : Parts C H va own d dx u r t b g ps gs)
    (hu' : H' u = some (.lst (nats (ups s.valley)))) (hr' : H' r = some (.lst (nats (longs s.valley)))) (ht' : H' t = some (.lst (nats s.votes))) (e : ∀ c o, c ≠ u → c ≠ r → c ≠ t → H c = some o → H' c = some o) :
    Parts C H' va own ⟨s, d.past, d.future⟩ dx u r t b g ps gs ∧ Mv own H own H' := by
  obtain ⟨m1, m2, m3, m4, m5, m6⟩ := x.mine
  obtain ⟨n1, n2, n3, nb, ng⟩ := x.ne
  obtain ⟨⟨-, -, a1, a2⟩, ⟨-, b1, b2⟩, ⟨c1, c2⟩, -⟩ := x.ne5
  have tp : ∀ c xs, c ∈ own → H c = some (.tup xs) → H' c = some (.tup xs) := fun c xs _ h => by
    obtain ⟨-, z1, z2, z3, -, -⟩ := x.tupne h
    exact e _ _ z1 z2 z3 h
  refine ⟨⟨e _ _ n1 n2 n3 x.hva, hu', hr', ht', e _ _ a1.symm b1.symm c1.symm x.hb, e _ _ a2.symm b2.symm c2.symm x.hg, x.nd, Paired.kept x.past (fun _ h => h) tp, Paired.kept x.future (fun _ h => h) tp, x.mine, fun c hc => ?_⟩, fun c o h hc => ?_, fun c hc => .inl hc, fun _ h => h⟩
  · by_cases z1 : c = u
    · rw [z1]
      exact ⟨_, hu'⟩
    · by_cases z2 : c = r
      · rw [z2]
        exact ⟨_, hr'⟩
      · by_cases z3 : c = t
        · rw [z3]
          exact ⟨_, ht'⟩
        · obtain ⟨o, ho⟩ := x.has c hc
          exact ⟨o, e _ _ z1 z2 z3 ho⟩
  · exact e c o (fun z => hc (by rw [z]; exact m2)) (fun z => hc (by rw [z]; exact m3)) (fun z => hc (by rw [z]; exact m4)) h
theorem paired_cons {F : Addr → Sea → Prop} {ps : List Addr} {k : Sea} {l : List Sea} (h : Paired F ps (k :: l)) : ∃ p r, ps = p :: r ∧ F p k ∧ Paired F r l := by
  cases h with
  | cons h1 h2 => exact ⟨_, _, rfl, h1, h2⟩
section
variable {P : Program} {w : World} {K : PySem.W.Frag} {mg : Str → Option Value} {base : Heap} {C : Addr}
/-! ### take_back, do_again -/
def spTakeBack (C : Addr) : Sp := fun vs H Q _ => ∃ (va : Addr) (own : List Addr) (d : Desk) (k : Sea) (l : List Sea), vs = [.ref va] ∧ Rep C H va own d ∧ GoodD d ∧ d.past = k :: l ∧ ∀ (H' : Hp) (own' : List Addr), Rep C H' va own' ⟨k, l, d.now :: d.future⟩ → Mv own H own' H' → Q (.int (l.length : Nat)) H'
theorem scTakeBack : FnScope ["self"] ["self"] (defScope mTakeBack) := ⟨rfl, rfl, rfl, by decide +kernel, rfl, by decide +kernel, by decide +kernel⟩
theorem ok_takeBack {f : Addr} {fd : FuncData} (F : Fun K "take_back" "Valley.take_back" mTakeBack f fd) (T : Txt K mg C) : FnOk P w K mg base CX0 2 f fd ["self"] (spTakeBack C) := by
  refine F.ok scTakeBack (fun vs H Q E h => ?_) (fun cdv A outer sh H vs Q E hr h => ?_)
  · obtain ⟨va, own, d, k0, l, rfl, _⟩ := h
    rfl
  · obtain ⟨va, own, d, k0, l, rfl, ⟨dx, u, r, t, b, g, ps, gs, x⟩, G, hpast, k⟩ := h
    refine ⟨_, pss_cons (ps_expr (pe_bm PySem.F.plainAttrs_list PySem.F.slot_list_append PySem.F.type_list_append mt_append (pe_fld (pv 0) rfl) (pa_cons (pe_mt0 (pv 0) T.cl T.state (fun _ _ F => ok_state F T) hr) pa_nil)))
      (pss_cons (ps_expr (pe_mt (pv 0) T.cl T.restore (fun _ _ F => ok_restore F T) hr (pa_cons (pe_bm0 PySem.F.plainAttrs_list PySem.F.slot_list_pop PySem.F.type_list_pop mt_pop (pe_fld (pv 0) rfl)) pa_nil)))
      (pss_one (ps_ret (pe_callB call_len_seq (by rfl) T.len PySem.boot_len (pa_cons (pe_fld (pv 0) rfl) pa_nil))))), ?_⟩
    refine ⟨_, rfl, va, C, dx, _, _, rfl, x.hva, T.cl, T.nG, rfl, .inl ⟨rfl, _, SqL.of x.hg⟩, _, rfl, va, dx, _, rfl, x.hva, rfl, va, d.now, rfl, x.sea, fun H1 p n hn1 hn2 kp e1 => ?_⟩
    have lg := paired_len x.future
    have most := G.most
    refine ⟨g, _, _, rfl, rfl, e1 _ _ x.hg, ?_, ?_⟩
    · rw [refs_len, List.length_reverse, lg]
      exact Nat.lt_of_le_of_lt (by omega : d.future.length ≤ 20) (by decide)
    rw [refs_snoc]
    obtain ⟨x1, m1⟩ := x.pushG hn1 hn2 kp e1
    generalize upd H1 g (.lst (refs (p :: gs).reverse)) = H2 at x1 m1 ⊢
    obtain ⟨pk, pr, rfl, hk, hpr⟩ := paired_cons (by rw [← hpast]; exact x1.past : Paired (Kept H2 (n ++ own)) ps (k0 :: l))
    refine ⟨_, rfl, va, dx, _, rfl, x1.hva, rfl, _, rfl, va, C, dx, _, _, rfl, x1.hva, T.cl, T.nB, rfl, .inl ⟨rfl, _, SqL.of x1.hb⟩, b, _, _, rfl, rfl, x1.hb, refs_top pk pr, ?_⟩
    rw [refs_last]
    obtain ⟨x2, m2⟩ := x1.setB hpr
    have hk2 : Kept (upd H2 b (.lst (refs pr.reverse))) (n ++ own) pk k0 := hk.keep (fun _ h => h) fun c xs _ h => by
      rw [upd_ne (x1.tupne h).2.2.2.2.1]
      exact h
    generalize upd H2 b (.lst (refs pr.reverse)) = H3 at x2 m2 hk2 ⊢
    refine ⟨va, pk, dx, u, r, t, b, g, n ++ own, k0, rfl, x2.hva, hk2, fun H4 u' r' t' f1 f2 f3 n12 n13 n23 hva' hu' hr' ht' e4 => ?_⟩
    obtain ⟨x4, m4⟩ := x2.reset f1 f2 f3 n12 n13 n23 hva' hu' hr' ht' e4
    refine ⟨_, rfl, va, C, dx, _, _, rfl, x4.hva, T.cl, T.nB, rfl, b, _, rfl, .inl (SqL.of x4.hb), ?_⟩
    rw [refs_len, List.length_reverse, paired_len hpr]
    exact k H4 _ ⟨dx, u', r', t', b, g, pr, p :: gs, x4⟩ (m1.trans (m2.trans m4))
def spDoAgain (C : Addr) : Sp := fun vs H Q _ => ∃ (va : Addr) (own : List Addr) (d : Desk) (k : Sea) (l : List Sea), vs = [.ref va] ∧ Rep C H va own d ∧ GoodD d ∧ d.future = k :: l ∧ ∀ (H' : Hp) (own' : List Addr), Rep C H' va own' ⟨k, d.now :: d.past, l⟩ → Mv own H own' H' → Q (.int (l.length : Nat)) H'
theorem scDoAgain : FnScope ["self"] ["self"] (defScope mDoAgain) := ⟨rfl, rfl, rfl, by decide +kernel, rfl, by decide +kernel, by decide +kernel⟩
theorem ok_doAgain {f : Addr} {fd : FuncData} (F : Fun K "do_again" "Valley.do_again" mDoAgain f fd) (T : Txt K mg C) : FnOk P w K mg base CX0 2 f fd ["self"] (spDoAgain C) := by
  refine F.ok scDoAgain (fun vs H Q E h => ?_) (fun cdv A outer sh H vs Q E hr h => ?_)
  · obtain ⟨va, own, d, k0, l, rfl, _⟩ := h
    rfl
  · obtain ⟨va, own, d, k0, l, rfl, ⟨dx, u, r, t, b, g, ps, gs, x⟩, G, hfut, k⟩ := h
    refine ⟨_, pss_cons (ps_expr (pe_bm PySem.F.plainAttrs_list PySem.F.slot_list_append PySem.F.type_list_append mt_append (pe_fld (pv 0) rfl) (pa_cons (pe_mt0 (pv 0) T.cl T.state (fun _ _ F => ok_state F T) hr) pa_nil)))
      (pss_cons (ps_expr (pe_mt (pv 0) T.cl T.restore (fun _ _ F => ok_restore F T) hr (pa_cons (pe_bm0 PySem.F.plainAttrs_list PySem.F.slot_list_pop PySem.F.type_list_pop mt_pop (pe_fld (pv 0) rfl)) pa_nil)))
      (pss_one (ps_ret (pe_callB call_len_seq (by rfl) T.len PySem.boot_len (pa_cons (pe_fld (pv 0) rfl) pa_nil))))), ?_⟩
    refine ⟨_, rfl, va, C, dx, _, _, rfl, x.hva, T.cl, T.nB, rfl, .inl ⟨rfl, _, SqL.of x.hb⟩, _, rfl, va, dx, _, rfl, x.hva, rfl, va, d.now, rfl, x.sea, fun H1 p n hn1 hn2 kp e1 => ?_⟩
    have lp := paired_len x.past
    have most := G.most
    refine ⟨b, _, _, rfl, rfl, e1 _ _ x.hb, ?_, ?_⟩
    · rw [refs_len, List.length_reverse, lp]
      exact Nat.lt_of_le_of_lt (by omega : d.past.length ≤ 20) (by decide)
    rw [refs_snoc]
    obtain ⟨x1, m1⟩ := x.push hn1 hn2 kp e1
    generalize upd H1 b (.lst (refs (p :: ps).reverse)) = H2 at x1 m1 ⊢
    obtain ⟨pk, pr, rfl, hk, hpr⟩ := paired_cons (by rw [← hfut]; exact x1.future : Paired (Kept H2 (n ++ own)) gs (k0 :: l))
    refine ⟨_, rfl, va, dx, _, rfl, x1.hva, rfl, _, rfl, va, C, dx, _, _, rfl, x1.hva, T.cl, T.nG, rfl, .inl ⟨rfl, _, SqL.of x1.hg⟩, g, _, _, rfl, rfl, x1.hg, refs_top pk pr, ?_⟩
    rw [refs_last]
    obtain ⟨x2, m2⟩ := x1.setG hpr
    have hk2 : Kept (upd H2 g (.lst (refs pr.reverse))) (n ++ own) pk k0 := hk.keep (fun _ h => h) fun c xs _ h => by
      rw [upd_ne (x1.tupne h).2.2.2.2.2]
      exact h
    generalize upd H2 g (.lst (refs pr.reverse)) = H3 at x2 m2 hk2 ⊢
    refine ⟨va, pk, dx, u, r, t, b, g, n ++ own, k0, rfl, x2.hva, hk2, fun H4 u' r' t' f1 f2 f3 n12 n13 n23 hva' hu' hr' ht' e4 => ?_⟩
    obtain ⟨x4, m4⟩ := x2.reset f1 f2 f3 n12 n13 n23 hva' hu' hr' ht' e4
    refine ⟨_, rfl, va, C, dx, _, _, rfl, x4.hva, T.cl, T.nG, rfl, g, _, rfl, .inl (SqL.of x4.hg), ?_⟩
    rw [refs_len, List.length_reverse, paired_len hpr]
    exact k H4 _ ⟨dx, u', r', t', b, g, p :: ps, pr, x4⟩ (m1.trans (m2.trans m4))
end
end Rv
end
section
set_option Elab.async false
set_option linter.all false
set_option maxRecDepth 100000
set_option maxHeartbeats 4000000
namespace Rv
open PySem PySem.Spec PyProof.Rows L2
open Km457 (Valley at_ far)
open Km459 (Sea Call Desk act)
theorem ups_snoc (s : Valley) (u l : Nat) : ups (s ++ [⟨u, l, 0⟩]) = ups s ++ [u] := List.map_append
theorem longs_snoc (s : Valley) (u l : Nat) : longs (s ++ [⟨u, l, 0⟩]) = longs s ++ [l] := List.map_append
theorem longs_set (s : Valley) (v n : Nat) : longs (s.set v { at_ s v with long := n }) = (longs s).set v n := by
  unfold longs
  rw [List.map_set]
theorem ups_set {s : Valley} {v : Nat} (h : v < s.length) (n : Nat) : ups (s.set v { at_ s v with long := n }) = ups s := by
  have e : (ups s).set v (at_ s v).up = ups s := by
    refine List.ext_getElem? fun j => ?_
    rw [List.getElem?_set]
    by_cases z : v = j
    · subst z
      rw [if_pos rfl, if_pos (by rw [ups_len]; exact h), ups_get h]
    · rw [if_neg z]
  unfold ups at e ⊢
  rw [List.map_set]
  exact e
theorem nats_erase : ∀ (l : List Nat) (i : Nat), (nats l).eraseIdx i = nats (l.eraseIdx i)
  | [], _ => rfl
  | _ :: _, 0 => rfl
  | a :: l, i + 1 => congrArg (List.cons (V.int (a : Int))) (nats_erase l i)
theorem nats_snoc (l : List Nat) (x : Nat) : nats l ++ [V.int (x : Int)] = nats (l ++ [x]) := (nats_append l [x]).symm
section
variable {P : Program} {w : World} {K : PySem.W.Frag} {mg : Str → Option Value} {base : Heap} {C : Addr}
/-- what comes behind a change -/
abbrev After (C : Addr) (H : Hp) (va : Addr) (own : List Addr) (d' : Desk) (z : Int) (Q : VK) : Prop := ∀ (H' : Hp) (own' : List Addr), Rep C H' va own' d' → Mv own H own' H' → Q (.int z) H'
/-! ### add_village -/
def spAddVillage (C : Addr) : Sp := fun vs H Q _ => ∃ (va : Addr) (own : List Addr) (d : Desk) (a l : Nat), vs = [.ref va, .int (a : Int), .int (l : Int)] ∧ Rep C H va own d ∧ GoodD d ∧ d.now.valley.length < 12 ∧ After C H va own (d.become { d.now with valley := d.now.valley ++ [⟨a, l, 0⟩] }) (d.now.valley.length : Nat) Q
theorem scAddVillage : FnScope ["self", "up", "far"] ["self", "up", "far"] (defScope mAddVillage) := ⟨rfl, rfl, rfl, by decide +kernel, rfl, by decide +kernel, by decide +kernel⟩
theorem ok_addVillage {f : Addr} {fd : FuncData} (F : Fun K "add_village" "Valley.add_village" mAddVillage f fd) (T : Txt K mg C) : FnOk P w K mg base CX0 3 f fd ["self", "up", "far"] (spAddVillage C) := by
  refine F.ok scAddVillage (fun vs H Q E h => ?_) (fun cdv A outer sh H vs Q E hr h => ?_)
  · obtain ⟨va, own, d, a, l, rfl, _⟩ := h
    rfl
  · obtain ⟨va, own, d, a, l, rfl, ⟨dx, u, r, t, b, g, ps, gs, x⟩, G, hn, k⟩ := h
    refine ⟨_, pss_cons (ps_expr (pe_mt0 (pv 0) T.cl T.keep (fun _ _ F => ok_keep F T) hr))
      (pss_cons (ps_expr (pe_bm PySem.F.plainAttrs_list PySem.F.slot_list_append PySem.F.type_list_append mt_append (pe_fld (pv 0) rfl) (pa_cons (pv 1) pa_nil)))
      (pss_cons (ps_expr (pe_bm PySem.F.plainAttrs_list PySem.F.slot_list_append PySem.F.type_list_append mt_append (pe_fld (pv 0) rfl) (pa_cons (pv 2) pa_nil)))
      (pss_one (ps_ret (pe_op op_sub (pe_callB call_len_seq (by rfl) T.len PySem.boot_len (pa_cons (pe_fld (pv 0) rfl) pa_nil)) pe_int))))), ?_⟩
    refine ⟨_, rfl, va, dx, _, rfl, x.hva, rfl, va, own, d, rfl, ⟨dx, u, r, t, b, g, ps, gs, x⟩, G, fun H1 own1 R1 m1 => ?_⟩
    clear x
    obtain ⟨dx, u, r, t, b, g, ps, gs, x⟩ := R1
    obtain ⟨⟨a1, a2, a3, a4⟩, ⟨b1, -, -⟩, -, -⟩ := x.ne5
    obtain ⟨n1, n2, n3, -, -⟩ := x.ne
    refine ⟨_, rfl, va, C, dx, _, _, rfl, x.hva, T.cl, T.nU, rfl, .inl ⟨rfl, _, SqL.of x.hu⟩, _, rfl, u, _, _, rfl, rfl, x.hu, ?_, ?_⟩
    · rw [nats_len, ups_len]
      exact Nat.lt_trans hn (by decide)
    have v2 : (upd H1 u (.lst (nats (ups d.now.valley) ++ [V.int (a : Int)]))) va = some (.ins C dx (fl u r t b g)) := by
      rw [upd_ne n1]
      exact x.hva
    have r2 : (upd H1 u (.lst (nats (ups d.now.valley) ++ [V.int (a : Int)]))) r = some (.lst (nats (longs d.now.valley))) := by
      rw [upd_ne a1.symm]
      exact x.hr
    refine ⟨_, rfl, va, C, dx, _, _, rfl, v2, T.cl, T.nR, rfl, .inl ⟨rfl, _, SqL.of r2⟩, _, rfl, r, _, _, rfl, rfl, r2, ?_, ?_⟩
    · rw [nats_len, longs_len]
      exact Nat.lt_trans hn (by decide)
    rw [nats_snoc, nats_snoc]
    obtain ⟨x2, m2⟩ := x.renew (s := { d.now with valley := d.now.valley ++ [⟨a, l, 0⟩] }) (H' := upd (upd H1 u (.lst (nats (ups d.now.valley ++ [a])))) r (.lst (nats (longs d.now.valley ++ [l]))))
      (by rw [upd_ne a1, upd_same, ups_snoc]) (by rw [upd_same, longs_snoc]) (by rw [upd_ne b1.symm, upd_ne a2.symm]; exact x.ht) (fun c o c1 c2 c3 h => by rw [upd_ne c2, upd_ne c1]; exact h)
    refine ⟨_, rfl, va, C, dx, _, _, rfl, x2.hva, T.cl, T.nU, rfl, u, _, rfl, .inl (SqL.of x2.hu), _, _, rfl, rfl, ?_⟩
    have ez : (((nats (ups (d.now.valley ++ [⟨a, l, 0⟩]))).length : Nat) : Int) - 1 = ((d.now.valley.length : Nat) : Int) := by
      rw [nats_len, ups_len, List.length_append]
      show ((d.now.valley.length + 1 : Nat) : Int) - 1 = _
      omega
    show Q (V.int ((((nats (ups (d.now.valley ++ [⟨a, l, 0⟩]))).length : Nat) : Int) - 1)) _
    rw [ez]
    exact k _ own1 ⟨dx, u, r, t, b, g, ps, gs, x2⟩ (m1.trans m2)
/-! ### set_road -/
def spSetRoad (C : Addr) : Sp := fun vs H Q _ => ∃ (va : Addr) (own : List Addr) (d : Desk) (v n : Nat), vs = [.ref va, .int (v : Int), .int (n : Int)] ∧ Rep C H va own d ∧ GoodD d ∧ v < d.now.valley.length ∧ After C H va own (d.become { d.now with valley := d.now.valley.set v { at_ d.now.valley v with long := n } }) ((at_ d.now.valley v).long : Nat) Q
theorem scSetRoad : FnScope ["self", "v", "far", "before"] ["self", "v", "far"] (defScope mSetRoad) := ⟨rfl, rfl, rfl, by decide +kernel, rfl, by decide +kernel, by decide +kernel⟩
theorem ok_setRoad {f : Addr} {fd : FuncData} (F : Fun K "set_road" "Valley.set_road" mSetRoad f fd) (T : Txt K mg C) : FnOk P w K mg base CX0 3 f fd ["self", "v", "far"] (spSetRoad C) := by
  refine F.ok scSetRoad (fun vs H Q E h => ?_) (fun cdv A outer sh H vs Q E hr h => ?_)
  · obtain ⟨va, own, d, v, n, rfl, _⟩ := h
    rfl
  · obtain ⟨va, own, d, v, n, rfl, ⟨dx, u, r, t, b, g, ps, gs, x⟩, G, hv, k⟩ := h
    refine ⟨_, pss_cons (ps_expr (pe_mt0 (pv 0) T.cl T.keep (fun _ _ F => ok_keep F T) hr))
      (pss_cons (ps_set (i := 3) scSetRoad.nd rfl (Or.inl rfl) (pe_ix ix_list (pe_fld (pv 0) rfl) (pv 1) (fun _ _ => rfl)))
      (pss_cons (ps_asg (pv 2) (pg_sub (pe_fld (pv 0) rfl) (pv 1) set_list))
      (pss_one (ps_ret (pv 3))))), ?_⟩
    refine ⟨_, rfl, va, dx, _, rfl, x.hva, rfl, va, own, d, rfl, ⟨dx, u, r, t, b, g, ps, gs, x⟩, G, fun H1 own1 R1 m1 => ?_⟩
    clear x
    obtain ⟨dx, u, r, t, b, g, ps, gs, x⟩ := R1
    obtain ⟨⟨a1, a2, a3, a4⟩, ⟨b1, -, -⟩, -, -⟩ := x.ne5
    refine ⟨_, rfl, va, C, dx, _, _, rfl, x.hva, T.cl, T.nR, rfl, _, rfl, r, _, _, _, rfl, rfl, SqL.of x.hr, at_ints rfl (longs_get hv), ?_⟩
    refine ⟨_, rfl, _, rfl, va, C, dx, _, _, rfl, x.hva, T.cl, T.nR, rfl, _, rfl, r, _, _, v, rfl, rfl, x.hr, ixN_nat rfl (by rw [nats_len, longs_len]; exact hv), ?_⟩
    rw [nats_set]
    obtain ⟨x2, m2⟩ := x.renew (s := { d.now with valley := d.now.valley.set v { at_ d.now.valley v with long := n } }) (H' := upd H1 r (.lst (nats ((longs d.now.valley).set v n))))
      (by rw [upd_ne a1, ups_set hv]; exact x.hu) (by rw [upd_same, longs_set]) (by rw [upd_ne b1.symm]; exact x.ht) (fun c o c1 c2 c3 h => by rw [upd_ne c2]; exact h)
    exact ⟨_, rfl, k _ own1 ⟨dx, u, r, t, b, g, ps, gs, x2⟩ (m1.trans m2)⟩
/-! ### add_voter, move_voter, drop_voter -/
def spAddVoter (C : Addr) : Sp := fun vs H Q _ => ∃ (va : Addr) (own : List Addr) (d : Desk) (v : Nat), vs = [.ref va, .int (v : Int)] ∧ Rep C H va own d ∧ GoodD d ∧ After C H va own (d.become { d.now with votes := d.now.votes ++ [v] }) (d.now.votes.length : Nat) Q
theorem scAddVoter : FnScope ["self", "v"] ["self", "v"] (defScope mAddVoter) := ⟨rfl, rfl, rfl, by decide +kernel, rfl, by decide +kernel, by decide +kernel⟩
theorem ok_addVoter {f : Addr} {fd : FuncData} (F : Fun K "add_voter" "Valley.add_voter" mAddVoter f fd) (T : Txt K mg C) : FnOk P w K mg base CX0 3 f fd ["self", "v"] (spAddVoter C) := by
  refine F.ok scAddVoter (fun vs H Q E h => ?_) (fun cdv A outer sh H vs Q E hr h => ?_)
  · obtain ⟨va, own, d, v, rfl, _⟩ := h
    rfl
  · obtain ⟨va, own, d, v, rfl, ⟨dx, u, r, t, b, g, ps, gs, x⟩, G, k⟩ := h
    refine ⟨_, pss_cons (ps_expr (pe_mt0 (pv 0) T.cl T.keep (fun _ _ F => ok_keep F T) hr))
      (pss_cons (ps_expr (pe_bm PySem.F.plainAttrs_list PySem.F.slot_list_append PySem.F.type_list_append mt_append (pe_fld (pv 0) rfl) (pa_cons (pv 1) pa_nil)))
      (pss_one (ps_ret (pe_op op_sub (pe_callB call_len_seq (by rfl) T.len PySem.boot_len (pa_cons (pe_fld (pv 0) rfl) pa_nil)) pe_int)))), ?_⟩
    refine ⟨_, rfl, va, dx, _, rfl, x.hva, rfl, va, own, d, rfl, ⟨dx, u, r, t, b, g, ps, gs, x⟩, G, fun H1 own1 R1 m1 => ?_⟩
    clear x
    obtain ⟨dx, u, r, t, b, g, ps, gs, x⟩ := R1
    obtain ⟨⟨a1, a2, a3, a4⟩, ⟨b1, -, -⟩, -, -⟩ := x.ne5
    refine ⟨_, rfl, va, C, dx, _, _, rfl, x.hva, T.cl, T.nT, rfl, .inl ⟨rfl, _, SqL.of x.ht⟩, _, rfl, t, _, _, rfl, rfl, x.ht, ?_, ?_⟩
    · rw [nats_len]
      exact Nat.lt_of_le_of_lt G.now.few (by decide)
    rw [nats_snoc]
    obtain ⟨x2, m2⟩ := x.renew (s := { d.now with votes := d.now.votes ++ [v] }) (H' := upd H1 t (.lst (nats (d.now.votes ++ [v]))))
      (by rw [upd_ne a2]; exact x.hu) (by rw [upd_ne b1]; exact x.hr) upd_same (fun c o c1 c2 c3 h => by rw [upd_ne c3]; exact h)
    refine ⟨_, rfl, va, C, dx, _, _, rfl, x2.hva, T.cl, T.nT, rfl, t, _, rfl, .inl (SqL.of x2.ht), _, _, rfl, rfl, ?_⟩
    have ez : (((nats (d.now.votes ++ [v])).length : Nat) : Int) - 1 = ((d.now.votes.length : Nat) : Int) := by
      rw [nats_len, List.length_append]
      show ((d.now.votes.length + 1 : Nat) : Int) - 1 = _
      omega
    show Q (V.int ((((nats (d.now.votes ++ [v])).length : Nat) : Int) - 1)) _
    rw [ez]
    exact k _ own1 ⟨dx, u, r, t, b, g, ps, gs, x2⟩ (m1.trans m2)
def spMoveVoter (C : Addr) : Sp := fun vs H Q _ => ∃ (va : Addr) (own : List Addr) (d : Desk) (i v : Nat), vs = [.ref va, .int (i : Int), .int (v : Int)] ∧ Rep C H va own d ∧ GoodD d ∧ i < d.now.votes.length ∧ After C H va own (d.become { d.now with votes := d.now.votes.set i v }) (d.now.votes.getD i 0 : Nat) Q
theorem scMoveVoter : FnScope ["self", "i", "v", "before"] ["self", "i", "v"] (defScope mMoveVoter) := ⟨rfl, rfl, rfl, by decide +kernel, rfl, by decide +kernel, by decide +kernel⟩
theorem ok_moveVoter {f : Addr} {fd : FuncData} (F : Fun K "move_voter" "Valley.move_voter" mMoveVoter f fd) (T : Txt K mg C) : FnOk P w K mg base CX0 3 f fd ["self", "i", "v"] (spMoveVoter C) := by
  refine F.ok scMoveVoter (fun vs H Q E h => ?_) (fun cdv A outer sh H vs Q E hr h => ?_)
  · obtain ⟨va, own, d, i, v, rfl, _⟩ := h
    rfl
  · obtain ⟨va, own, d, i, v, rfl, ⟨dx, u, r, t, b, g, ps, gs, x⟩, G, hi, k⟩ := h
    refine ⟨_, pss_cons (ps_expr (pe_mt0 (pv 0) T.cl T.keep (fun _ _ F => ok_keep F T) hr))
      (pss_cons (ps_set (i := 3) scMoveVoter.nd rfl (Or.inl rfl) (pe_ix ix_list (pe_fld (pv 0) rfl) (pv 1) (fun _ _ => rfl)))
      (pss_cons (ps_asg (pv 2) (pg_sub (pe_fld (pv 0) rfl) (pv 1) set_list))
      (pss_one (ps_ret (pv 3))))), ?_⟩
    refine ⟨_, rfl, va, dx, _, rfl, x.hva, rfl, va, own, d, rfl, ⟨dx, u, r, t, b, g, ps, gs, x⟩, G, fun H1 own1 R1 m1 => ?_⟩
    clear x
    obtain ⟨dx, u, r, t, b, g, ps, gs, x⟩ := R1
    obtain ⟨⟨a1, a2, a3, a4⟩, ⟨b1, -, -⟩, -, -⟩ := x.ne5
    refine ⟨_, rfl, va, C, dx, _, _, rfl, x.hva, T.cl, T.nT, rfl, _, rfl, t, _, _, _, rfl, rfl, SqL.of x.ht, at_ints rfl (vote_get hi), ?_⟩
    refine ⟨_, rfl, _, rfl, va, C, dx, _, _, rfl, x.hva, T.cl, T.nT, rfl, _, rfl, t, _, _, i, rfl, rfl, x.ht, ixN_nat rfl (by rw [nats_len]; exact hi), ?_⟩
    rw [nats_set]
    obtain ⟨x2, m2⟩ := x.renew (s := { d.now with votes := d.now.votes.set i v }) (H' := upd H1 t (.lst (nats (d.now.votes.set i v))))
      (by rw [upd_ne a2]; exact x.hu) (by rw [upd_ne b1]; exact x.hr) upd_same (fun c o c1 c2 c3 h => by rw [upd_ne c3]; exact h)
    exact ⟨_, rfl, k _ own1 ⟨dx, u, r, t, b, g, ps, gs, x2⟩ (m1.trans m2)⟩
def spDropVoter (C : Addr) : Sp := fun vs H Q _ => ∃ (va : Addr) (own : List Addr) (d : Desk) (i : Nat), vs = [.ref va, .int (i : Int)] ∧ Rep C H va own d ∧ GoodD d ∧ i < d.now.votes.length ∧ After C H va own (d.become { d.now with votes := d.now.votes.eraseIdx i }) (d.now.votes.length - 1 : Nat) Q
theorem scDropVoter : FnScope ["self", "i"] ["self", "i"] (defScope mDropVoter) := ⟨rfl, rfl, rfl, by decide +kernel, rfl, by decide +kernel, by decide +kernel⟩
theorem ok_dropVoter {f : Addr} {fd : FuncData} (F : Fun K "drop_voter" "Valley.drop_voter" mDropVoter f fd) (T : Txt K mg C) : FnOk P w K mg base CX0 3 f fd ["self", "i"] (spDropVoter C) := by
  refine F.ok scDropVoter (fun vs H Q E h => ?_) (fun cdv A outer sh H vs Q E hr h => ?_)
  · obtain ⟨va, own, d, i, rfl, _⟩ := h
    rfl
  · obtain ⟨va, own, d, i, rfl, ⟨dx, u, r, t, b, g, ps, gs, x⟩, G, hi, k⟩ := h
    refine ⟨_, pss_cons (ps_expr (pe_mt0 (pv 0) T.cl T.keep (fun _ _ F => ok_keep F T) hr))
      (pss_cons (ps_expr (pe_bm PySem.F.plainAttrs_list PySem.F.slot_list_pop PySem.F.type_list_pop mt_popAt (pe_fld (pv 0) rfl) (pa_cons (pv 1) pa_nil)))
      (pss_one (ps_ret (pe_callB call_len_seq (by rfl) T.len PySem.boot_len (pa_cons (pe_fld (pv 0) rfl) pa_nil))))), ?_⟩
    refine ⟨_, rfl, va, dx, _, rfl, x.hva, rfl, va, own, d, rfl, ⟨dx, u, r, t, b, g, ps, gs, x⟩, G, fun H1 own1 R1 m1 => ?_⟩
    clear x
    obtain ⟨dx, u, r, t, b, g, ps, gs, x⟩ := R1
    obtain ⟨⟨a1, a2, a3, a4⟩, ⟨b1, -, -⟩, -, -⟩ := x.ne5
    have few := G.now.few
    refine ⟨_, rfl, va, C, dx, _, _, rfl, x.hva, T.cl, T.nT, rfl, .inl ⟨rfl, _, SqL.of x.ht⟩, _, rfl, t, _, _, i, _, rfl, rfl, x.ht, (by omega), (by omega), ?_, nats_get (vote_get hi), ?_⟩
    · rw [seqIndex_of (by omega) (by rw [nats_len]; exact Int.ofNat_lt.mpr hi)]
      rfl
    rw [nats_erase]
    obtain ⟨x2, m2⟩ := x.renew (s := { d.now with votes := d.now.votes.eraseIdx i }) (H' := upd H1 t (.lst (nats (d.now.votes.eraseIdx i))))
      (by rw [upd_ne a2]; exact x.hu) (by rw [upd_ne b1]; exact x.hr) upd_same (fun c o c1 c2 c3 h => by rw [upd_ne c3]; exact h)
    refine ⟨_, rfl, va, C, dx, _, _, rfl, x2.hva, T.cl, T.nT, rfl, t, _, rfl, .inl (SqL.of x2.ht), ?_⟩
    have ez : (nats (d.now.votes.eraseIdx i)).length = d.now.votes.length - 1 := by
      rw [nats_len, List.length_eraseIdx_of_lt hi]
    show Q (V.int ((nats (d.now.votes.eraseIdx i)).length : Nat)) _
    rw [ez]
    exact k _ own1 ⟨dx, u, r, t, b, g, ps, gs, x2⟩ (m1.trans m2)
end
end Rv
end
section
set_option Elab.async false
set_option linter.all false
set_option maxRecDepth 100000
set_option maxHeartbeats 4000000
/-! The calls that change, and those that tell of changes. -/
namespace Rv
open PySem PySem.Spec PyProof.Rows L2
open Km457 (Valley at_ far)
open Km459 (Sea Call Desk act)
abbrev vStart : Stmt := top 27
abbrev vVillage : Stmt := top 28
abbrev vRoad : Stmt := top 29
abbrev vVote : Stmt := top 30
abbrev vMove : Stmt := top 31
abbrev vAway : Stmt := top 32
abbrev vBack : Stmt := top 50
abbrev vAgain : Stmt := top 51
abbrev vState : Stmt := top 52
theorem spFull_len {R : RepT} {p : Int} (vs : List V) (H : Hp) (Q : VK) (E : XK) (h : spFull R p vs H Q E) : vs.length = (["valley", "numbers"] : List Str).length := by
  obtain ⟨va, nb, own, d, nums, x, rfl, _⟩ := h
  rfl
/-- what comes behind a call -/
abbrev KF (C : Addr) (H : Hp) (va : Addr) (own : List Addr) (d : Desk) (x : Call) (Q : VK) : Prop :=
  ∀ (H' : Hp) (q : Addr) (own' : List Addr), H q = none → H' q = some (.lst (zs (Km459Neutral.told (act d x).2))) → q ∉ own' → Rep C H' va own' (act d x).1 → (∀ b o, H b = some o → b ∉ own → H' b = some o) → (∀ b ∈ own', b ∈ own ∨ H b = none) → Q (.ref q) H'
theorem mv_free {C : Addr} {H H1 : Hp} {va : Addr} {own own1 : List Addr} {d' : Desk} (R1 : Rep C H1 va own1 d') (m : Mv own H own1 H1) {p : Addr} (hp : H1 p = none) : H p = none ∧ p ∉ own1 := by
  have n1 : p ∉ own1 := fun z => by
    obtain ⟨o, ho⟩ := (rep_has C).has R1 p z
    rw [hp] at ho
    cases ho
  refine ⟨?_, n1⟩
  cases e : H p with
  | none => rfl
  | some o =>
    have q := m.fr p o e fun z => n1 (m.sub p z)
    rw [hp] at q
    cases q
theorem fin_L {C : Addr} {H H1 : Hp} {va : Addr} {own own1 : List Addr} {d d' : Desk} {x : Call} {a : Km459.Ans} {Q : VK} (k : KF C H va own d x Q) (R1 : Rep C H1 va own1 d') (m : Mv own H own1 H1) (ea : act d x = (d', a)) {xs : List V} (ex : xs = zs (Km459Neutral.told a)) : ∀ p, H1 p = none → Q (.ref p) (upd H1 p (.lst xs)) := fun p hp => by
  obtain ⟨h0, n1⟩ := mv_free R1 m hp
  refine k _ p own1 h0 ?_ n1 ?_ (fun b o h n => ?_) m.new
  · rw [upd_same, ea, ex]
  · rw [ea]
    refine (rep_ok C).keep R1 fun b o hb h => ?_
    rw [upd_ne (fun z => n1 (by rw [← z]; exact hb))]
    exact h
  · rw [upd_ne (fun z => by rw [z, h0] at h; cases h)]
    exact m.fr b o h n
theorem fin1 {C : Addr} {H H1 : Hp} {va : Addr} {own own1 : List Addr} {d d' : Desk} {x : Call} {z : Int} {Q : VK} (k : KF C H va own d x Q) (R1 : Rep C H1 va own1 d') (m : Mv own H own1 H1) (ea : act d x = (d', Km459.only z)) : ∀ p, H1 p = none → Q (.ref p) (upd H1 p (.lst [V.int z])) := fin_L k R1 m ea rfl
theorem Parts.more {C : Addr} {H : Hp} {va : Addr} {own own' : List Addr} {d : Desk} {dx u r t b g : Addr} {ps gs : List Addr} (x : Parts C H va own d dx u r t b g ps gs) (sub : ∀ c ∈ own, c ∈ own') (has : ∀ c ∈ own', ∃ o, H c = some o) : Parts C H va own' d dx u r t b g ps gs := by
  obtain ⟨m1, m2, m3, m4, m5, m6⟩ := x.mine
  exact ⟨x.hva, x.hu, x.hr, x.ht, x.hb, x.hg, x.nd, Paired.kept x.past sub (fun _ _ _ h => h), Paired.kept x.future sub (fun _ _ _ h => h), ⟨sub _ m1, sub _ m2, sub _ m3, sub _ m4, sub _ m5, sub _ m6⟩, has⟩
section
variable {P : Program} {w : World} {K : PySem.W.Frag} {mg : Str → Option Value} {base : Heap} {C : Addr}
/-- from what a call that only looks promises -/
theorem full_of_vo {f : Addr} {fd : FuncData} {p : Int} {k : Nat} (hp : ∀ nums x, Req p nums x → ∀ d, act d x = (d, (act ⟨d.now, [], []⟩ x).2)) (G : FnOk P w K mg base CX0 k f fd ["valley", "numbers"] (spVo C p)) : FnOk P w K mg base CX0 k f fd ["valley", "numbers"] (spFull (Rep C) p) := by
  refine G.imp fun vs H Q E h => ?_
  obtain ⟨va, nb, own, d, nums, x, rfl, R, GD, hnb, _, rq, kk⟩ := h
  have e := hp nums x rq d
  have kf : KF C H va own d x Q := kk
  obtain ⟨dx, u, r, t, b, g, ps, gs, y⟩ := R
  refine ⟨va, nb, d.now, nums, x, rfl, y.sea, GD.now, hnb, rq, fun H' q hq hq2 sm => ?_⟩
  have nq : q ∉ own := fun z => by
    obtain ⟨o, ho⟩ := y.has q z
    rw [hq] at ho
    cases ho
  refine kf H' q own hq ?_ nq ?_ (fun b o h _ => sm b o h) fun b h => .inl h
  · rw [hq2, e]
    rfl
  · rw [e]
    exact ⟨dx, u, r, t, b, g, ps, gs, y.keep fun c o _ h => sm c o h⟩
/-! ### vo_start -/
theorem scVStart : FnScope ["valley", "numbers"] ["valley", "numbers"] (defScope vStart) := ⟨rfl, rfl, rfl, by decide +kernel, rfl, by decide +kernel, by decide +kernel⟩
theorem ok_vStart {f : Addr} {fd : FuncData} (F : Fun K "vo_start" "vo_start" vStart f fd) (T : Txt K mg C) : FnOk P w K mg base CX0 2 f fd ["valley", "numbers"] (spFull (Rep C) 0) := by
  refine F.ok scVStart spFull_len (fun cdv A outer sh H vs Q E hr h => ?_)
  obtain ⟨va, nb, own, d, nums, x, rfl, ⟨dx, u, r, t, b, g, ps, gs, y⟩, GD, hnb, _, rq, kk⟩ := h
  cases rq
  have kf : KF C H va own d .start Q := kk
  refine ⟨_, pss_cons (ps_expr (pe_mt0 (pv 0) T.cl T.begin_ (fun _ _ F => ok_begin F T) hr)) (pss_one (ps_ret (pe_lst (pa_cons pe_int pa_nil)))), ?_⟩
  refine ⟨_, rfl, va, dx, _, rfl, y.hva, rfl, va, dx, _, rfl, y.hva, .inr ⟨u, r, t, b, g, rfl⟩, fun H1 own1 R1 fr nw => ⟨one_le, ?_⟩⟩
  obtain ⟨dx1, u1, r1, t1, b1, g1, ps1, gs1, y1⟩ := R1
  have y2 := y1.more (own' := own1 ++ own) (fun c h => List.mem_append_left _ h) fun c hc => by
    rcases List.mem_append.mp hc with q | q
    · exact y1.has c q
    · by_cases z : c = va
      · rw [z]
        exact ⟨_, y1.hva⟩
      · obtain ⟨o, ho⟩ := y.has c q
        exact ⟨o, fr c o ho z⟩
  refine fin1 kf ⟨dx1, u1, r1, t1, b1, g1, ps1, gs1, y2⟩ ⟨fun c o h n => fr c o h fun z => n (by rw [z]; exact y.mine.1), fun c hc => ?_, fun c h => List.mem_append_right _ h⟩ rfl
  rcases List.mem_append.mp hc with q | q
  · rcases nw c q with z | z
    · exact .inl (by rw [z]; exact y.mine.1)
    · exact .inr z
  · exact .inl q
/-! ### vo_village -/
theorem scVVillage : FnScope ["valley", "numbers", "up", "far"] ["valley", "numbers"] (defScope vVillage) := ⟨rfl, rfl, rfl, by decide +kernel, rfl, by decide +kernel, by decide +kernel⟩
theorem ok_vVillage {f : Addr} {fd : FuncData} (F : Fun K "vo_village" "vo_village" vVillage f fd) (T : Txt K mg C) : FnOk P w K mg base CX0 4 f fd ["valley", "numbers"] (spFull (Rep C) 1) := by
  refine F.ok scVVillage spFull_len (fun cdv A outer sh H vs Q E hr h => ?_)
  obtain ⟨va, nb, own, d, nums, x, rfl, ⟨dx, u, r, t, b, g, ps, gs, y⟩, GD, hnb, _, rq, kk⟩ := h
  cases rq with
  | village a l =>
  have kf : KF C H va own d (.village a l) Q := kk
  have R : Rep C H va own d := ⟨dx, u, r, t, b, g, ps, gs, y⟩
  have S := y.sea
  obtain ⟨t2, hc2⟩ := T.notThere
  obtain ⟨t3, hc3⟩ := T.outOf
  obtain ⟨t4, hc4⟩ := T.full
  obtain ⟨t5, hc5⟩ := T.villages
  refine ⟨_, pss_cons (ps_set (i := 2) scVVillage.nd rfl (Or.inl rfl) (pe_ix ix_list (pv 1) pe_int (fun _ _ => rfl)))
    (pss_cons (ps_set (i := 3) scVVillage.nd rfl (Or.inl rfl) (pe_ix ix_list (pv 1) pe_int (fun _ _ => rfl)))
    (pss_cons (ps_if (pt_not (pt_val (pe_mt (pv 0) T.cl T.hasVillage (fun _ _ F => ok_hasVillage F T) (hr.mono (by decide)) (pa_cons (pv 2) pa_nil)))) (pss_one (ps_ret (pe_lst (pa_cons (pe_glob (v := .int (-2)) rfl hc2 ⟨t2, rfl⟩) pa_nil)))) pss_nil)
    (pss_cons (ps_if (pt_not (pt_val (pe_df T.road (fun _ _ F => ok_road F T) (hr.mono (by decide)) rfl (pa_cons (pv 3) pa_nil)))) (pss_one (ps_ret (pe_lst (pa_cons (pe_glob (v := .int (-22)) rfl hc3 ⟨t3, rfl⟩) pa_nil)))) pss_nil)
    (pss_cons (ps_if (pt_cmpR op_ge (pe_callB call_len_seq (by rfl) T.len PySem.boot_len (pa_cons (pe_fld (pv 0) rfl) pa_nil)) (pe_glob (v := .int 12) rfl hc5 ⟨t5, rfl⟩) (nomark _)) (pss_one (ps_ret (pe_lst (pa_cons (pe_glob (v := .int (-28)) rfl hc4 ⟨t4, rfl⟩) pa_nil)))) pss_nil)
    (pss_one (ps_ret (pe_lst (pa_cons (pe_mt (pv 0) T.cl T.addVillage (fun _ _ F => ok_addVillage F T) hr (pa_cons (pv 2) (pa_cons (pv 3) pa_nil))) pa_nil)))))))), ?_⟩
  refine ⟨_, rfl, nb, _, _, _, rfl, rfl, SqL.of hnb, at_of (j := 0) (v := V.int (a : Int)) rfl rfl, ?_⟩
  refine ⟨_, rfl, nb, _, _, _, rfl, rfl, SqL.of hnb, at_of (j := 1) (v := V.int (l : Int)) rfl rfl, ?_⟩
  refine ⟨_, rfl, va, dx, _, rfl, y.hva, rfl, _, rfl, va, _, d.now, rfl, S, _, rfl, ?_⟩
  rw [nat_lt_iff]
  refine ite2 (fun c => ?_) (fun c => ?_)
  · have c1 := dec_not c
    refine ⟨one_le, fin1 kf R Mv.rfl' ?_⟩
    show (if d.now.valley.length ≤ a then _ else _) = _
    rw [if_pos (by omega)]
  have c1 := dec_is c
  refine ⟨_, rfl, _, rfl, _, rfl, ite2 (fun c => ?_) (fun c => ?_)⟩
  · have c2 := dec_not c
    refine ⟨one_le, fin1 kf R Mv.rfl' ?_⟩
    show (if d.now.valley.length ≤ a then _ else if l = 0 ∨ 1000 < l then _ else _) = _
    rw [if_neg (by omega), if_pos (by omega)]
  have c2 := dec_is c
  refine ⟨_, rfl, va, C, dx, _, _, rfl, y.hva, T.cl, T.nU, rfl, u, _, rfl, .inl (SqL.of y.hu), _, _, rfl, rfl, _, rfl, ite2 (fun c => ?_) (fun c => ?_)⟩
  · have c3 : 12 ≤ d.now.valley.length := by
      have q := of_decide_eq_true c
      rw [nats_len, ups_len] at q
      omega
    refine ⟨one_le, fin1 kf R Mv.rfl' ?_⟩
    show (if d.now.valley.length ≤ a then _ else if l = 0 ∨ 1000 < l then _ else if 12 ≤ d.now.valley.length then _ else _) = _
    rw [if_neg (by omega), if_neg (by omega), if_pos c3]
  have c3 : d.now.valley.length < 12 := by
    by_cases q : d.now.valley.length < 12
    · exact q
    · refine absurd (decide_eq_true ?_) c
      rw [nats_len, ups_len]
      omega
  refine ⟨_, rfl, va, dx, _, rfl, y.hva, rfl, _, rfl, _, rfl, va, own, d, a, l, rfl, R, GD, c3, fun H1 own1 R1 m => ⟨one_le, fin1 kf R1 m ?_⟩⟩
  show (if d.now.valley.length ≤ a then _ else if l = 0 ∨ 1000 < l then _ else if 12 ≤ d.now.valley.length then _ else _) = _
  rw [if_neg (by omega), if_neg (by omega), if_neg (by omega)]
/-! ### vo_road -/
theorem scVRoad : FnScope ["valley", "numbers", "v", "far"] ["valley", "numbers"] (defScope vRoad) := ⟨rfl, rfl, rfl, by decide +kernel, rfl, by decide +kernel, by decide +kernel⟩
theorem ok_vRoad {f : Addr} {fd : FuncData} (F : Fun K "vo_road" "vo_road" vRoad f fd) (T : Txt K mg C) : FnOk P w K mg base CX0 4 f fd ["valley", "numbers"] (spFull (Rep C) 2) := by
  refine F.ok scVRoad spFull_len (fun cdv A outer sh H vs Q E hr h => ?_)
  obtain ⟨va, nb, own, d, nums, x, rfl, ⟨dx, u, r, t, b, g, ps, gs, y⟩, GD, hnb, _, rq, kk⟩ := h
  cases rq with
  | long_ v n =>
  have kf : KF C H va own d (.long_ v n) Q := kk
  have R : Rep C H va own d := ⟨dx, u, r, t, b, g, ps, gs, y⟩
  have S := y.sea
  obtain ⟨t2, hc2⟩ := T.notThere
  obtain ⟨t3, hc3⟩ := T.outOf
  obtain ⟨t4, hc4⟩ := T.noRoad
  refine ⟨_, pss_cons (ps_set (i := 2) scVRoad.nd rfl (Or.inl rfl) (pe_ix ix_list (pv 1) pe_int (fun _ _ => rfl)))
    (pss_cons (ps_set (i := 3) scVRoad.nd rfl (Or.inl rfl) (pe_ix ix_list (pv 1) pe_int (fun _ _ => rfl)))
    (pss_cons (ps_if (pt_not (pt_val (pe_mt (pv 0) T.cl T.hasVillage (fun _ _ F => ok_hasVillage F T) (hr.mono (by decide)) (pa_cons (pv 2) pa_nil)))) (pss_one (ps_ret (pe_lst (pa_cons (pe_glob (v := .int (-2)) rfl hc2 ⟨t2, rfl⟩) pa_nil)))) pss_nil)
    (pss_cons (ps_if (pt_not (pt_val (pe_df T.road (fun _ _ F => ok_road F T) (hr.mono (by decide)) rfl (pa_cons (pv 3) pa_nil)))) (pss_one (ps_ret (pe_lst (pa_cons (pe_glob (v := .int (-22)) rfl hc3 ⟨t3, rfl⟩) pa_nil)))) pss_nil)
    (pss_cons (ps_if (pt_cmpR op_eq (pv 2) pe_int (nomark _)) (pss_one (ps_ret (pe_lst (pa_cons (pe_glob (v := .int (-33)) rfl hc4 ⟨t4, rfl⟩) pa_nil)))) pss_nil)
    (pss_one (ps_ret (pe_lst (pa_cons (pe_mt (pv 0) T.cl T.setRoad (fun _ _ F => ok_setRoad F T) hr (pa_cons (pv 2) (pa_cons (pv 3) pa_nil))) pa_nil)))))))), ?_⟩
  refine ⟨_, rfl, nb, _, _, _, rfl, rfl, SqL.of hnb, at_of (j := 0) (v := V.int (v : Int)) rfl rfl, ?_⟩
  refine ⟨_, rfl, nb, _, _, _, rfl, rfl, SqL.of hnb, at_of (j := 1) (v := V.int (n : Int)) rfl rfl, ?_⟩
  refine ⟨_, rfl, va, dx, _, rfl, y.hva, rfl, _, rfl, va, _, d.now, rfl, S, _, rfl, ?_⟩
  rw [nat_lt_iff]
  refine ite2 (fun c => ?_) (fun c => ?_)
  · have c1 := dec_not c
    refine ⟨one_le, fin1 kf R Mv.rfl' ?_⟩
    show (if d.now.valley.length ≤ v then _ else _) = _
    rw [if_pos (by omega)]
  have c1 := dec_is c
  refine ⟨_, rfl, _, rfl, _, rfl, ite2 (fun c => ?_) (fun c => ?_)⟩
  · have c2 := dec_not c
    refine ⟨one_le, fin1 kf R Mv.rfl' ?_⟩
    show (if d.now.valley.length ≤ v then _ else if n = 0 ∨ 1000 < n then _ else _) = _
    rw [if_neg (by omega), if_pos (by omega)]
  have c2 := dec_is c
  refine ⟨_, rfl, rfl, _, rfl, ite2 (fun c => ?_) (fun c => ?_)⟩
  · have c3 : v = 0 := by
      have q := of_decide_eq_true c
      injection q with q
      omega
    refine ⟨one_le, fin1 kf R Mv.rfl' ?_⟩
    show (if d.now.valley.length ≤ v then _ else if n = 0 ∨ 1000 < n then _ else if v = 0 then _ else _) = _
    rw [if_neg (by omega), if_neg (by omega), if_pos c3]
  have c3 : ¬ v = 0 := fun q => c (decide_eq_true (by rw [q]; rfl))
  refine ⟨_, rfl, va, dx, _, rfl, y.hva, rfl, _, rfl, _, rfl, va, own, d, v, n, rfl, R, GD, c1, fun H1 own1 R1 m => ⟨one_le, fin1 kf R1 m ?_⟩⟩
  show (if d.now.valley.length ≤ v then _ else if n = 0 ∨ 1000 < n then _ else if v = 0 then _ else _) = _
  rw [if_neg (by omega), if_neg (by omega), if_neg c3]
/-! ### vo_vote -/
theorem scVVote : FnScope ["valley", "numbers", "v"] ["valley", "numbers"] (defScope vVote) := ⟨rfl, rfl, rfl, by decide +kernel, rfl, by decide +kernel, by decide +kernel⟩
theorem ok_vVote {f : Addr} {fd : FuncData} (F : Fun K "vo_vote" "vo_vote" vVote f fd) (T : Txt K mg C) : FnOk P w K mg base CX0 4 f fd ["valley", "numbers"] (spFull (Rep C) 3) := by
  refine F.ok scVVote spFull_len (fun cdv A outer sh H vs Q E hr h => ?_)
  obtain ⟨va, nb, own, d, nums, x, rfl, ⟨dx, u, r, t, b, g, ps, gs, y⟩, GD, hnb, _, rq, kk⟩ := h
  cases rq with
  | vote v =>
  have kf : KF C H va own d (.vote v) Q := kk
  have R : Rep C H va own d := ⟨dx, u, r, t, b, g, ps, gs, y⟩
  have S := y.sea
  obtain ⟨t2, hc2⟩ := T.notThere
  obtain ⟨t4, hc4⟩ := T.full
  obtain ⟨t5, hc5⟩ := T.voters
  refine ⟨_, pss_cons (ps_set (i := 2) scVVote.nd rfl (Or.inl rfl) (pe_ix ix_list (pv 1) pe_int (fun _ _ => rfl)))
    (pss_cons (ps_if (pt_not (pt_val (pe_mt (pv 0) T.cl T.hasVillage (fun _ _ F => ok_hasVillage F T) (hr.mono (by decide)) (pa_cons (pv 2) pa_nil)))) (pss_one (ps_ret (pe_lst (pa_cons (pe_glob (v := .int (-2)) rfl hc2 ⟨t2, rfl⟩) pa_nil)))) pss_nil)
    (pss_cons (ps_if (pt_cmpR op_ge (pe_callB call_len_seq (by rfl) T.len PySem.boot_len (pa_cons (pe_fld (pv 0) rfl) pa_nil)) (pe_glob (v := .int 11) rfl hc5 ⟨t5, rfl⟩) (nomark _)) (pss_one (ps_ret (pe_lst (pa_cons (pe_glob (v := .int (-28)) rfl hc4 ⟨t4, rfl⟩) pa_nil)))) pss_nil)
    (pss_one (ps_ret (pe_lst (pa_cons (pe_mt (pv 0) T.cl T.addVoter (fun _ _ F => ok_addVoter F T) hr (pa_cons (pv 2) pa_nil)) pa_nil)))))), ?_⟩
  refine ⟨_, rfl, nb, _, _, _, rfl, rfl, SqL.of hnb, at_of (j := 0) (v := V.int (v : Int)) rfl rfl, ?_⟩
  refine ⟨_, rfl, va, dx, _, rfl, y.hva, rfl, _, rfl, va, _, d.now, rfl, S, _, rfl, ?_⟩
  rw [nat_lt_iff]
  refine ite2 (fun c => ?_) (fun c => ?_)
  · have c1 := dec_not c
    refine ⟨one_le, fin1 kf R Mv.rfl' ?_⟩
    show (if d.now.valley.length ≤ v then _ else _) = _
    rw [if_pos (by omega)]
  have c1 := dec_is c
  refine ⟨_, rfl, va, C, dx, _, _, rfl, y.hva, T.cl, T.nT, rfl, t, _, rfl, .inl (SqL.of y.ht), _, _, rfl, rfl, _, rfl, ite2 (fun c => ?_) (fun c => ?_)⟩
  · have c3 : 11 ≤ d.now.votes.length := by
      have q := of_decide_eq_true c
      rw [nats_len] at q
      omega
    refine ⟨one_le, fin1 kf R Mv.rfl' ?_⟩
    show (if d.now.valley.length ≤ v then _ else if 11 ≤ d.now.votes.length then _ else _) = _
    rw [if_neg (by omega), if_pos c3]
  have c3 : d.now.votes.length < 11 := by
    by_cases q : d.now.votes.length < 11
    · exact q
    · refine absurd (decide_eq_true ?_) c
      rw [nats_len]
      omega
  refine ⟨_, rfl, va, dx, _, rfl, y.hva, rfl, _, rfl, va, own, d, v, rfl, R, GD, fun H1 own1 R1 m => ⟨one_le, fin1 kf R1 m ?_⟩⟩
  show (if d.now.valley.length ≤ v then _ else if 11 ≤ d.now.votes.length then _ else _) = _
  rw [if_neg (by omega), if_neg (by omega)]
/-! ### vo_move, vo_away -/
theorem scVMove : FnScope ["valley", "numbers", "i", "v"] ["valley", "numbers"] (defScope vMove) := ⟨rfl, rfl, rfl, by decide +kernel, rfl, by decide +kernel, by decide +kernel⟩
theorem ok_vMove {f : Addr} {fd : FuncData} (F : Fun K "vo_move" "vo_move" vMove f fd) (T : Txt K mg C) : FnOk P w K mg base CX0 4 f fd ["valley", "numbers"] (spFull (Rep C) 4) := by
  refine F.ok scVMove spFull_len (fun cdv A outer sh H vs Q E hr h => ?_)
  obtain ⟨va, nb, own, d, nums, x, rfl, ⟨dx, u, r, t, b, g, ps, gs, y⟩, GD, hnb, _, rq, kk⟩ := h
  cases rq with
  | move i v =>
  have kf : KF C H va own d (.move i v) Q := kk
  have R : Rep C H va own d := ⟨dx, u, r, t, b, g, ps, gs, y⟩
  have S := y.sea
  obtain ⟨t2, hc2⟩ := T.notThere
  refine ⟨_, pss_cons (ps_set (i := 2) scVMove.nd rfl (Or.inl rfl) (pe_ix ix_list (pv 1) pe_int (fun _ _ => rfl)))
    (pss_cons (ps_set (i := 3) scVMove.nd rfl (Or.inl rfl) (pe_ix ix_list (pv 1) pe_int (fun _ _ => rfl)))
    (pss_cons (ps_if (pw_or (pt_not (pt_val (pe_mt (pv 0) T.cl T.hasVoter (fun _ _ F => ok_hasVoter F T) (hr.mono (by decide)) (pa_cons (pv 2) pa_nil)))) (pw_or1 (pt_not (pt_val (pe_mt (pv 0) T.cl T.hasVillage (fun _ _ F => ok_hasVillage F T) (hr.mono (by decide)) (pa_cons (pv 3) pa_nil)))))).pt (pss_one (ps_ret (pe_lst (pa_cons (pe_glob (v := .int (-2)) rfl hc2 ⟨t2, rfl⟩) pa_nil)))) pss_nil)
    (pss_one (ps_ret (pe_lst (pa_cons (pe_mt (pv 0) T.cl T.moveVoter (fun _ _ F => ok_moveVoter F T) hr (pa_cons (pv 2) (pa_cons (pv 3) pa_nil))) pa_nil)))))), ?_⟩
  refine ⟨_, rfl, nb, _, _, _, rfl, rfl, SqL.of hnb, at_of (j := 0) (v := V.int (i : Int)) rfl rfl, ?_⟩
  refine ⟨_, rfl, nb, _, _, _, rfl, rfl, SqL.of hnb, at_of (j := 1) (v := V.int (v : Int)) rfl rfl, ?_⟩
  have bad : d.now.votes.length ≤ i ∨ d.now.valley.length ≤ v → ∀ p, H p = none → Q (.ref p) (upd H p (.lst [V.int (-2)])) := fun z => fin1 kf R Mv.rfl' (by
    show (if d.now.votes.length ≤ i ∨ d.now.valley.length ≤ v then _ else _) = _
    rw [if_pos z])
  refine ⟨_, rfl, va, dx, _, rfl, y.hva, rfl, _, rfl, va, _, d.now, rfl, S, _, rfl, ?_⟩
  rw [nat_lt_iff]
  refine ite2 (fun c => ⟨one_le, bad (.inl (by have := dec_not c; omega))⟩) (fun c => ?_)
  have ci := dec_is c
  refine ⟨_, rfl, va, dx, _, rfl, y.hva, rfl, _, rfl, va, _, d.now, rfl, S, _, rfl, ?_⟩
  rw [nat_lt_iff]
  refine ite2 (fun c => ⟨one_le, bad (.inr (by have := dec_not c; omega))⟩) (fun c => ?_)
  have cv := dec_is c
  refine ⟨_, rfl, va, dx, _, rfl, y.hva, rfl, _, rfl, _, rfl, va, own, d, i, v, rfl, R, GD, ci, fun H1 own1 R1 m => ⟨one_le, fin1 kf R1 m ?_⟩⟩
  show (if d.now.votes.length ≤ i ∨ d.now.valley.length ≤ v then _ else _) = _
  rw [if_neg (by omega)]
theorem scVAway : FnScope ["valley", "numbers", "i"] ["valley", "numbers"] (defScope vAway) := ⟨rfl, rfl, rfl, by decide +kernel, rfl, by decide +kernel, by decide +kernel⟩
theorem ok_vAway {f : Addr} {fd : FuncData} (F : Fun K "vo_away" "vo_away" vAway f fd) (T : Txt K mg C) : FnOk P w K mg base CX0 4 f fd ["valley", "numbers"] (spFull (Rep C) 5) := by
  refine F.ok scVAway spFull_len (fun cdv A outer sh H vs Q E hr h => ?_)
  obtain ⟨va, nb, own, d, nums, x, rfl, ⟨dx, u, r, t, b, g, ps, gs, y⟩, GD, hnb, _, rq, kk⟩ := h
  cases rq with
  | away i =>
  have kf : KF C H va own d (.away i) Q := kk
  have R : Rep C H va own d := ⟨dx, u, r, t, b, g, ps, gs, y⟩
  have S := y.sea
  obtain ⟨t2, hc2⟩ := T.notThere
  refine ⟨_, pss_cons (ps_set (i := 2) scVAway.nd rfl (Or.inl rfl) (pe_ix ix_list (pv 1) pe_int (fun _ _ => rfl)))
    (pss_cons (ps_if (pt_not (pt_val (pe_mt (pv 0) T.cl T.hasVoter (fun _ _ F => ok_hasVoter F T) (hr.mono (by decide)) (pa_cons (pv 2) pa_nil)))) (pss_one (ps_ret (pe_lst (pa_cons (pe_glob (v := .int (-2)) rfl hc2 ⟨t2, rfl⟩) pa_nil)))) pss_nil)
    (pss_one (ps_ret (pe_lst (pa_cons (pe_mt (pv 0) T.cl T.dropVoter (fun _ _ F => ok_dropVoter F T) hr (pa_cons (pv 2) pa_nil)) pa_nil))))), ?_⟩
  refine ⟨_, rfl, nb, _, _, _, rfl, rfl, SqL.of hnb, at_of (j := 0) (v := V.int (i : Int)) rfl rfl, ?_⟩
  refine ⟨_, rfl, va, dx, _, rfl, y.hva, rfl, _, rfl, va, _, d.now, rfl, S, _, rfl, ?_⟩
  rw [nat_lt_iff]
  refine ite2 (fun c => ?_) (fun c => ?_)
  · have c1 := dec_not c
    refine ⟨one_le, fin1 kf R Mv.rfl' ?_⟩
    show (if d.now.votes.length ≤ i then _ else _) = _
    rw [if_pos (by omega)]
  have c1 := dec_is c
  refine ⟨_, rfl, va, dx, _, rfl, y.hva, rfl, _, rfl, va, own, d, i, rfl, R, GD, c1, fun H1 own1 R1 m => ⟨one_le, fin1 kf R1 m ?_⟩⟩
  show (if d.now.votes.length ≤ i then _ else _) = _
  rw [if_neg (by omega)]
/-! ### vo_back, vo_again, vo_state -/
theorem scVBack : FnScope ["valley", "numbers"] ["valley", "numbers"] (defScope vBack) := ⟨rfl, rfl, rfl, by decide +kernel, rfl, by decide +kernel, by decide +kernel⟩
theorem ok_vBack {f : Addr} {fd : FuncData} (F : Fun K "vo_back" "vo_back" vBack f fd) (T : Txt K mg C) : FnOk P w K mg base CX0 3 f fd ["valley", "numbers"] (spFull (Rep C) 23) := by
  refine F.ok scVBack spFull_len (fun cdv A outer sh H vs Q E hr h => ?_)
  obtain ⟨va, nb, own, d, nums, x, rfl, ⟨dx, u, r, t, b, g, ps, gs, y⟩, GD, hnb, _, rq, kk⟩ := h
  cases rq
  have kf : KF C H va own d .back Q := kk
  have R : Rep C H va own d := ⟨dx, u, r, t, b, g, ps, gs, y⟩
  obtain ⟨t2, hc2⟩ := T.notThere
  refine ⟨_, pss_cons (ps_if (pt_cmpR op_eq (pe_callB call_len_seq (by rfl) T.len PySem.boot_len (pa_cons (pe_fld (pv 0) rfl) pa_nil)) pe_int (nomark _)) (pss_one (ps_ret (pe_lst (pa_cons (pe_glob (v := .int (-2)) rfl hc2 ⟨t2, rfl⟩) pa_nil)))) pss_nil)
    (pss_one (ps_ret (pe_lst (pa_cons (pe_mt0 (pv 0) T.cl T.takeBack (fun _ _ F => ok_takeBack F T) hr) pa_nil)))), ?_⟩
  have lp := paired_len y.past
  refine ⟨_, rfl, va, C, dx, _, _, rfl, y.hva, T.cl, T.nB, rfl, b, _, rfl, .inl (SqL.of y.hb), rfl, _, rfl, ite2 (fun c => ?_) (fun c => ?_)⟩
  · have c1 : d.past = [] := by
      have q := of_decide_eq_true c
      rw [refs_len, List.length_reverse, lp] at q
      injection q with q
      exact List.length_eq_zero_iff.mp (by omega)
    refine ⟨one_le, fin1 kf R Mv.rfl' ?_⟩
    unfold act
    rw [c1]
  · cases e : d.past with
    | nil => exact absurd (decide_eq_true (by rw [refs_len, List.length_reverse, lp, e]; rfl)) c
    | cons k l =>
      refine ⟨_, rfl, va, dx, _, rfl, y.hva, rfl, va, own, d, k, l, rfl, R, GD, e, fun H1 own1 R1 m => ⟨one_le, fin1 kf R1 m ?_⟩⟩
      unfold act
      rw [e]
theorem scVAgain : FnScope ["valley", "numbers"] ["valley", "numbers"] (defScope vAgain) := ⟨rfl, rfl, rfl, by decide +kernel, rfl, by decide +kernel, by decide +kernel⟩
theorem ok_vAgain {f : Addr} {fd : FuncData} (F : Fun K "vo_again" "vo_again" vAgain f fd) (T : Txt K mg C) : FnOk P w K mg base CX0 3 f fd ["valley", "numbers"] (spFull (Rep C) 24) := by
  refine F.ok scVAgain spFull_len (fun cdv A outer sh H vs Q E hr h => ?_)
  obtain ⟨va, nb, own, d, nums, x, rfl, ⟨dx, u, r, t, b, g, ps, gs, y⟩, GD, hnb, _, rq, kk⟩ := h
  cases rq
  have kf : KF C H va own d .again Q := kk
  have R : Rep C H va own d := ⟨dx, u, r, t, b, g, ps, gs, y⟩
  obtain ⟨t2, hc2⟩ := T.notThere
  refine ⟨_, pss_cons (ps_if (pt_cmpR op_eq (pe_callB call_len_seq (by rfl) T.len PySem.boot_len (pa_cons (pe_fld (pv 0) rfl) pa_nil)) pe_int (nomark _)) (pss_one (ps_ret (pe_lst (pa_cons (pe_glob (v := .int (-2)) rfl hc2 ⟨t2, rfl⟩) pa_nil)))) pss_nil)
    (pss_one (ps_ret (pe_lst (pa_cons (pe_mt0 (pv 0) T.cl T.doAgain (fun _ _ F => ok_doAgain F T) hr) pa_nil)))), ?_⟩
  have lg := paired_len y.future
  have most := GD.most
  refine ⟨_, rfl, va, C, dx, _, _, rfl, y.hva, T.cl, T.nG, rfl, g, _, rfl, .inl (SqL.of y.hg), rfl, _, rfl, ite2 (fun c => ?_) (fun c => ?_)⟩
  · have c1 : d.future = [] := by
      have q := of_decide_eq_true c
      rw [refs_len, List.length_reverse, lg] at q
      injection q with q
      exact List.length_eq_zero_iff.mp (by omega)
    refine ⟨one_le, fin1 kf R Mv.rfl' ?_⟩
    unfold act
    rw [c1]
  · cases e : d.future with
    | nil => exact absurd (decide_eq_true (by rw [refs_len, List.length_reverse, lg, e]; rfl)) c
    | cons k l =>
      refine ⟨_, rfl, va, dx, _, rfl, y.hva, rfl, va, own, d, k, l, rfl, R, GD, e, fun H1 own1 R1 m => ⟨one_le, fin1 kf R1 m ?_⟩⟩
      unfold act
      rw [e]
      dsimp only
      rw [e, List.length_cons] at most
      rw [List.take_of_length_le (by rw [List.length_cons]; show d.past.length + 1 ≤ 20; omega)]
theorem scVState : FnScope ["valley", "numbers"] ["valley", "numbers"] (defScope vState) := ⟨rfl, rfl, rfl, by decide +kernel, rfl, by decide +kernel, by decide +kernel⟩
theorem ok_vState {f : Addr} {fd : FuncData} (F : Fun K "vo_state" "vo_state" vState f fd) (T : Txt K mg C) : FnOk P w K mg base CX0 1 f fd ["valley", "numbers"] (spFull (Rep C) 25) := by
  refine F.ok scVState spFull_len (fun cdv A outer sh H vs Q E hr h => ?_)
  obtain ⟨va, nb, own, d, nums, x, rfl, ⟨dx, u, r, t, b, g, ps, gs, y⟩, GD, hnb, _, rq, kk⟩ := h
  cases rq
  have kf : KF C H va own d .state Q := kk
  have R : Rep C H va own d := ⟨dx, u, r, t, b, g, ps, gs, y⟩
  refine ⟨_, pss_one (ps_ret (pe_lst (pa_cons (pe_callB call_len_seq (by rfl) T.len PySem.boot_len (pa_cons (pe_fld (pv 0) rfl) pa_nil)) (pa_cons (pe_callB call_len_seq (by rfl) T.len PySem.boot_len (pa_cons (pe_fld (pv 0) rfl) pa_nil)) (pa_cons (pe_callB call_len_seq (by rfl) T.len PySem.boot_len (pa_cons (pe_fld (pv 0) rfl) pa_nil)) pa_nil))))), ?_⟩
  refine ⟨_, rfl, va, C, dx, _, _, rfl, y.hva, T.cl, T.nU, rfl, u, _, rfl, .inl (SqL.of y.hu), _, rfl, va, C, dx, _, _, rfl, y.hva, T.cl, T.nB, rfl, b, _, rfl, .inl (SqL.of y.hb), _, rfl, va, C, dx, _, _, rfl, y.hva, T.cl, T.nG, rfl, g, _, rfl, .inl (SqL.of y.hg), three_le, fin_L kf R Mv.rfl' rfl ?_⟩
  rw [nats_len, ups_len, refs_len, refs_len, List.length_reverse, List.length_reverse, paired_len y.past, paired_len y.future]
  rfl
end
end Rv
end
section
set_option Elab.async false
set_option linter.all false
set_option maxRecDepth 100000
set_option maxHeartbeats 4000000
/-! What the top has written. -/
namespace Rv
open PySem PySem.Spec PyProof.Rows L2
/-- a def of the module -/
theorem df_mk {K : PySem.W.Frag} {h : Heap} {mg : Str → Option Value} {x : Str} {st : Stmt} {ps : List Str} {f : Addr} {oc kV doc pm cdv ct : Value} {od an : Option Addr} {sl : Array (Option Value)} (X : K.In h) (G : h.Ns mainGlobals mg)
    (a : PySem.W.nsIn K mainGlobals x = some (some (.ref f))) (l : K.lookup f = some ⟨oc, od, .func (PySem.W.fnOf x x (defArgs st) (defBody st) (defScope st) .none kV doc pm an cdv ct), sl⟩) (c : PySem.W.codeIn K cdv x = true) (k : PySem.W.keepIn K (.ref f) = true)
    (b : ∀ (kV doc pm : Value) (an : Option Addr) (cdv ct : Value) (us : List Value), us.length = ps.length → bindArgs (PySem.W.fnOf x x (defArgs st) (defBody st) (defScope st) .none kV doc pm an cdv ct) ⟨us, []⟩ = pure (ps.zip us)) : Df K mg x st ps :=
  ⟨f, _, fun_mk l c k, (fun_mk l c k).binds b, PySem.W.mg_of X G a⟩
/-- a method -/
theorem mt_mk {K : PySem.W.Frag} {C : Addr} {m qual : Str} {st : Stmt} {ps : List Str} {f : Addr} {oc kV doc pm cdv ct : Value} {od an : Option Addr} {sl : Array (Option Value)}
    (a : PySem.W.findIn K (.ref C) m = some (some (.ref f))) (i : PySem.W.isFn K (.ref f) = true) (l : K.lookup f = some ⟨oc, od, .func (PySem.W.fnOf m qual (defArgs st) (defBody st) (defScope st) .none kV doc pm an cdv ct), sl⟩) (c : PySem.W.codeIn K cdv qual = true) (k : PySem.W.keepIn K (.ref f) = true)
    (b : ∀ (kV doc pm : Value) (an : Option Addr) (cdv ct : Value) (us : List Value), us.length = ps.length → bindArgs (PySem.W.fnOf m qual (defArgs st) (defBody st) (defScope st) .none kV doc pm an cdv ct) ⟨us, []⟩ = pure (ps.zip us)) : Mt K C m qual st ps :=
  ⟨f, _, fun_mk l c k, (fun_mk l c k).binds b, ⟨a, i, k⟩⟩
/-- a def that a table holds -/
structure Cf (K : PySem.W.Frag) (ec : Array DictEntry) (p : Int) (x : Str) (st : Stmt) : Prop where
  ex : ∃ (f : Addr) (fd : FuncData), Fun K x x st f fd ∧ Binds K fd ["valley", "numbers"] [] ∧ tabGet ec p = some (.ref f)
theorem cf_mk {K : PySem.W.Frag} {ec : Array DictEntry} {p : Int} {x : Str} {st : Stmt} {f : Addr} {oc kV doc pm cdv ct : Value} {od an : Option Addr} {sl : Array (Option Value)}
    (a : tabGet ec p = some (.ref f)) (l : K.lookup f = some ⟨oc, od, .func (PySem.W.fnOf x x (defArgs st) (defBody st) (defScope st) .none kV doc pm an cdv ct), sl⟩) (c : PySem.W.codeIn K cdv x = true) (k : PySem.W.keepIn K (.ref f) = true)
    (b : ∀ (kV doc pm : Value) (an : Option Addr) (cdv ct : Value) (us : List Value), us.length = (["valley", "numbers"] : List Str).length → bindArgs (PySem.W.fnOf x x (defArgs st) (defBody st) (defScope st) .none kV doc pm an cdv ct) ⟨us, []⟩ = pure ((["valley", "numbers"] : List Str).zip us)) : Cf K ec p x st :=
  ⟨f, _, fun_mk l c k, (fun_mk l c k).binds b, a⟩
theorem Cf.any {P : Program} {w : World} {K : PySem.W.Frag} {mg : Str → Option Value} {base : Heap} {ec : Array DictEntry} {p : Int} {x : Str} {st : Stmt} {sp : Sp} {k : Nat} (c : Cf K ec p x st) (hk : k ≤ 8)
    (G : ∀ f fd, Fun K x x st f fd → FnOk P w K mg base CX0 k f fd ["valley", "numbers"] sp) : ∃ g, tabGet ec p = some (.ref g) ∧ FnAny P w K mg base 8 g sp := by
  obtain ⟨f, fd, F, b, a⟩ := c.ex
  exact ⟨f, a, ⟨fd, _, (G f fd F).mono hk, b⟩, F.kp⟩
end Rv
end
section
set_option Elab.async false
set_option linter.all false
set_option maxRecDepth 100000
set_option maxHeartbeats 4000000
/-! All together. -/
namespace Rv
open PySem PySem.Spec PyProof.Rows L2
open Km459 (Sea Call Desk act)
/-- the calls' defs, as the table holds them -/
structure Cfs (K : PySem.W.Frag) (ec : Array DictEntry) : Prop where
  c0 : Cf K ec 0 "vo_start" vStart
  c1 : Cf K ec 1 "vo_village" vVillage
  c2 : Cf K ec 2 "vo_road" vRoad
  c3 : Cf K ec 3 "vo_vote" vVote
  c4 : Cf K ec 4 "vo_move" vMove
  c5 : Cf K ec 5 "vo_away" vAway
  c6 : Cf K ec 6 "vo_chosen" vChosen
  c7 : Cf K ec 7 "vo_rather" vRather
  c8 : Cf K ec 8 "vo_unbeaten" vUnb
  c9 : Cf K ec 9 "vo_beaten" vBeaten
  c10 : Cf K ec 10 "vo_row" vRow
  c11 : Cf K ec 11 "vo_lie" vLie
  c12 : Cf K ec 12 "vo_best" vBest
  c13 : Cf K ec 13 "vo_both" vBoth
  c14 : Cf K ec 14 "vo_sways" vSways
  c15 : Cf K ec 15 "vo_with" vWith
  c16 : Cf K ec 16 "vo_nearer" vNearer
  c17 : Cf K ec 17 "vo_far" vFar
  c18 : Cf K ec 18 "vo_total" vTotal
  c19 : Cf K ec 19 "vo_who" vWho
  c20 : Cf K ec 20 "vo_look" vLook
  c21 : Cf K ec 21 "vo_place" vPlace
  c22 : Cf K ec 22 "vo_sums" vSums
  c23 : Cf K ec 23 "vo_back" vBack
  c24 : Cf K ec 24 "vo_again" vAgain
  c25 : Cf K ec 25 "vo_state" vState
section
variable {P : Program} {w : World} {K : PySem.W.Frag} {mg : Str → Option Value} {base : Heap} {C : Addr}
theorem all_calls {ec : Array DictEntry} (T : Txt K mg C) (c : Cfs K ec) : ∀ p nums x, Req p nums x → ∃ g, tabGet ec p = some (.ref g) ∧ FnAny P w K mg base 8 g (spFull (Rep C) p) := by
  intro p nums x rq
  cases rq
  · exact c.c0.any (by decide) fun f fd F => ok_vStart F T
  · exact c.c1.any (by decide) fun f fd F => ok_vVillage F T
  · exact c.c2.any (by decide) fun f fd F => ok_vRoad F T
  · exact c.c3.any (by decide) fun f fd F => ok_vVote F T
  · exact c.c4.any (by decide) fun f fd F => ok_vMove F T
  · exact c.c5.any (by decide) fun f fd F => ok_vAway F T
  · exact c.c6.any (by decide) fun f fd F => full_of_vo (fun nums x rq d => by cases rq; rfl) (ok_vChosen F T)
  · exact c.c7.any (by decide) fun f fd F => full_of_vo (fun nums x rq d => by cases rq; rfl) (ok_vRather F T)
  · exact c.c8.any (by decide) fun f fd F => full_of_vo (fun nums x rq d => by cases rq; rfl) (ok_vUnb F T)
  · exact c.c9.any (by decide) fun f fd F => full_of_vo (fun nums x rq d => by cases rq; rfl) (ok_vBeaten F T)
  · exact c.c10.any (by decide) fun f fd F => full_of_vo (fun nums x rq d => by cases rq; rfl) (ok_vRow F T)
  · exact c.c11.any (by decide) fun f fd F => full_of_vo (fun nums x rq d => by cases rq; rfl) (ok_vLie F T)
  · exact c.c12.any (by decide) fun f fd F => full_of_vo (fun nums x rq d => by cases rq; rfl) (ok_vBest F T)
  · exact c.c13.any (by decide) fun f fd F => full_of_vo (fun nums x rq d => by cases rq; rfl) (ok_vBoth F T)
  · exact c.c14.any (by decide) fun f fd F => full_of_vo (fun nums x rq d => by cases rq; rfl) (ok_vSways F T)
  · exact c.c15.any (by decide) fun f fd F => full_of_vo (fun nums x rq d => by cases rq; rfl) (ok_vWith F T)
  · exact c.c16.any (by decide) fun f fd F => full_of_vo (fun nums x rq d => by cases rq; rfl) (ok_vNearer F T)
  · exact c.c17.any (by decide) fun f fd F => full_of_vo (fun nums x rq d => by cases rq; rfl) (ok_vFar F T)
  · exact c.c18.any (by decide) fun f fd F => full_of_vo (fun nums x rq d => by cases rq; rfl) (ok_vTotal F T)
  · exact c.c19.any (by decide) fun f fd F => full_of_vo (fun nums x rq d => by cases rq; rfl) (ok_vWho F T)
  · exact c.c20.any (by decide) fun f fd F => full_of_vo (fun nums x rq d => by cases rq; rfl) (ok_vLook F T)
  · exact c.c21.any (by decide) fun f fd F => full_of_vo (fun nums x rq d => by cases rq; rfl) (ok_vPlace F T)
  · exact c.c22.any (by decide) fun f fd F => full_of_vo (fun nums x rq d => by cases rq; rfl) (ok_vSums F T)
  · exact c.c23.any (by decide) fun f fd F => ok_vBack F T
  · exact c.c24.any (by decide) fun f fd F => ok_vAgain F T
  · exact c.c25.any (by decide) fun f fd F => ok_vState F T
theorem all_mk {ew ec : Array DictEntry} {fa : Addr} (hfa : mg "answers" = some (.ref fa)) (T : Txt K mg C) (TX : TxtX K mg ew ec) (D : Df K mg "answers" sAnswers ["calls"]) (I : Mt K C "__init__" "Valley.__init__" mInit ["self"]) (mk : PySem.W.makesIn K C = true) (kc : PySem.W.keepIn K (.ref C) = true) (mC : mg "Valley" = some (.ref C)) (c : Cfs K ec) :
    ∃ fd : FuncData, (∀ (s : Shared) (us : List Value), us.length = (["calls"] : List Str).length → BindsTo s fd ⟨us, []⟩ ((["calls"] : List Str).zip us)) ∧ ∀ base : Heap, K.In base → base.Ns mainGlobals mg → FnOk P w K mg base CX0 10 fa fd ["calls"] (spAnswers K) := by
  obtain ⟨f, fd, F, _, m⟩ := D.ex
  have e := hfa.symm.trans m
  cases e
  obtain ⟨fI, fdI, FI, bI, mI⟩ := I.ex
  refine ⟨fd, fun s us hu => ?_, fun base _ _ => ok_answers F TX T.len (rep_ok C) (rep_has C) ⟨mk, mI.1, mI.2, kc⟩ ((ok_init FI T).mono (by decide)) bI mC (all_calls T c)⟩
  obtain ⟨oc, od, kV, doc, pm, an, cdv, ct, osl, rfl, lk, hcd⟩ := F.ex
  match us, hu with
  | [_], _ => exact .of_eq rfl
end
end Rv
end
-- nine names taken: without them the head lays copies of the great heaps that make the compiled file 127 MB; with them 61 MB
def PySem.W.Fast.tw9189773110066105043 : Unit := ()
def PySem.W.Fast.tw15616074276485215732 : Unit := ()
def PySem.W.Fast.tw1771772607421136643 : Unit := ()
def PySem.W.Fast.tw3630546144832506573 : Unit := ()
def PySem.W.Fast.tw8259990365756573196 : Unit := ()
def PySem.W.Fast.tw12197270449884519133 : Unit := ()
def PySem.W.Fast.tw15629896076868522964 : Unit := ()
def PySem.W.Fast.tw2609388793965616200 : Unit := ()
def PySem.W.Fast.tw130174987589851866 : Unit := ()
set_option Elab.async false
set_option linter.all false
open PySem PySem.W PyProof.Rows
set_option maxRecDepth 100000 in
set_option maxHeartbeats 0 in
theorem PySem.Challenge.cw_roadvotes_s01_answers_holds : PySem.Challenge.rw_roadvotes_s01_answers.Holds := by
  w_on; k_headS; (case hw => exact ⟨[.list [.int 0]], by decide +kernel, by decide +kernel⟩)
  k_fillS
  refine L2.walk_specK (r := PySem.Challenge.rw_roadvotes_s01_answers) (k := 10) (CX := L2.CX0) (ps := ["calls"]) (sp := Rv.spAnswers) (by decide +kernel) rfl rfl ⟨rfl, by decide, by decide⟩ (fun w h Y => PySem.W.kIn_of Y) ?F ?S (fun _ _ _ _ z => z)
  case F =>
    intro w mg fa h Y KX G hmg
    refine' Rv.all_mk hmg ?T ⟨⟨_, PySem.W.mg_of KX G ?wa, L2.tab_mk ?wl ?we ?wt⟩, ⟨_, PySem.W.mg_of KX G ?ca, L2.tab_mk ?cl ?ce ?ct⟩, ⟨_, (PySem.W.mg_of KX G ?ra).trans ?re⟩, ?wn, Rv.df_mk KX G ?q208 ?q209 ?q210 ?q211 (fun _ _ _ _ _ _ us hl => match us, hl with | [_, _], _ => rfl)⟩ (Rv.df_mk KX G ?q199 ?q200 ?q201 ?q202 (fun _ _ _ _ _ _ us hl => match us, hl with | [_], _ => rfl)) (Rv.mt_mk ?q203 ?q204 ?q205 ?q206 ?q207 (fun _ _ _ _ _ _ us hl => match us, hl with | [_], _ => rfl)) ?mk ?kc (PySem.W.mg_of KX G ?vc) ?cfs
    (case vc => k_is); (case wa => k_is); (case wl => k_is); (case we => rfl); (case wt => decide +kernel); (case ca => k_is)
    (case cl => k_is); (case ce => rfl); (case ct => decide +kernel); (case ra => k_is); (case re => rfl); (case wn => decide +kernel)
    (case mk => k_is); (case kc => k_is)
    (case q199 => k_is); (case q200 => k_is); (case q201 => k_is); (case q202 => k_is); (case q203 => k_is); (case q204 => k_is)
    (case q205 => k_is); (case q206 => k_is); (case q207 => k_is); (case q208 => k_is); (case q209 => k_is); (case q210 => k_is)
    (case q211 => k_is)
    (case T =>
      refine' ⟨PySem.W.mg_none_of KX G ?q1,
      PySem.W.mg_none_of KX G ?q2,
      PySem.W.mg_none_of KX G ?q3,
      PySem.W.mg_none_of KX G ?q4,
      PySem.W.mg_none_of KX G ?q5,
      PySem.W.mg_none_of KX G ?q6,
      PySem.W.mg_none_of KX G ?q7,
      PySem.W.mg_none_of KX G ?q8,
      ⟨_, (PySem.W.mg_of KX G ?q9).trans ?q10⟩,
      ⟨_, (PySem.W.mg_of KX G ?q11).trans ?q12⟩,
      ⟨_, (PySem.W.mg_of KX G ?q13).trans ?q14⟩,
      ⟨_, (PySem.W.mg_of KX G ?q15).trans ?q16⟩,
      ⟨_, (PySem.W.mg_of KX G ?q17).trans ?q18⟩,
      ⟨_, (PySem.W.mg_of KX G ?q19).trans ?q20⟩,
      ⟨_, (PySem.W.mg_of KX G ?q21).trans ?q22⟩,
      ⟨_, (PySem.W.mg_of KX G ?q23).trans ?q24⟩,
      ⟨_, (PySem.W.mg_of KX G ?q25).trans ?q26⟩,
      ⟨_, (PySem.W.mg_of KX G ?q27).trans ?q28⟩,
      ⟨?q29, ?q30, ?q31, ?q32⟩,
      (show PySem.W.findIn _ (.ref _) "ups" = some none from ?q33),
      (show PySem.W.findIn _ (.ref _) "roads" = some none from ?q34),
      (show PySem.W.findIn _ (.ref _) "told" = some none from ?q35),
      (show PySem.W.findIn _ (.ref _) "to_take_back" = some none from ?q36),
      (show PySem.W.findIn _ (.ref _) "to_do_again" = some none from ?q37),
      Rv.df_mk KX G ?q38 ?q39 ?q40 ?q41 (fun _ _ _ _ _ _ us hl => match us, hl with | [_], _ => rfl),
      Rv.df_mk KX G ?q42 ?q43 ?q44 ?q45 (fun _ _ _ _ _ _ us hl => match us, hl with | [_, _], _ => rfl),
      Rv.df_mk KX G ?q46 ?q47 ?q48 ?q49 (fun _ _ _ _ _ _ us hl => match us, hl with | [_, _, _], _ => rfl),
      Rv.df_mk KX G ?q50 ?q51 ?q52 ?q53 (fun _ _ _ _ _ _ us hl => match us, hl with | [_], _ => rfl),
      Rv.df_mk KX G ?q54 ?q55 ?q56 ?q57 (fun _ _ _ _ _ _ us hl => match us, hl with | [_, _], _ => rfl),
      Rv.df_mk KX G ?q58 ?q59 ?q60 ?q61 (fun _ _ _ _ _ _ us hl => match us, hl with | [_, _], _ => rfl),
      Rv.df_mk KX G ?q62 ?q63 ?q64 ?q65 (fun _ _ _ _ _ _ us hl => match us, hl with | [_, _, _], _ => rfl),
      Rv.df_mk KX G ?q66 ?q67 ?q68 ?q69 (fun _ _ _ _ _ _ us hl => match us, hl with | [_, _, _, _], _ => rfl),
      Rv.df_mk KX G ?q70 ?q71 ?q72 ?q73 (fun _ _ _ _ _ _ us hl => match us, hl with | [_, _, _, _], _ => rfl),
      Rv.df_mk KX G ?q74 ?q75 ?q76 ?q77 (fun _ _ _ _ _ _ us hl => match us, hl with | [_, _, _], _ => rfl),
      Rv.df_mk KX G ?q78 ?q79 ?q80 ?q81 (fun _ _ _ _ _ _ us hl => match us, hl with | [_, _], _ => rfl),
      Rv.df_mk KX G ?q82 ?q83 ?q84 ?q85 (fun _ _ _ _ _ _ us hl => match us, hl with | [_, _, _], _ => rfl),
      Rv.df_mk KX G ?q86 ?q87 ?q88 ?q89 (fun _ _ _ _ _ _ us hl => match us, hl with | [_], _ => rfl),
      Rv.df_mk KX G ?q90 ?q91 ?q92 ?q93 (fun _ _ _ _ _ _ us hl => match us, hl with | [_], _ => rfl),
      Rv.mt_mk ?q94 ?q95 ?q96 ?q97 ?q98 (fun _ _ _ _ _ _ us hl => match us, hl with | [_, _], _ => rfl),
      Rv.mt_mk ?q99 ?q100 ?q101 ?q102 ?q103 (fun _ _ _ _ _ _ us hl => match us, hl with | [_, _], _ => rfl),
      Rv.mt_mk ?q104 ?q105 ?q106 ?q107 ?q108 (fun _ _ _ _ _ _ us hl => match us, hl with | [_], _ => rfl),
      Rv.mt_mk ?q109 ?q110 ?q111 ?q112 ?q113 (fun _ _ _ _ _ _ us hl => match us, hl with | [_], _ => rfl),
      Rv.mt_mk ?q114 ?q115 ?q116 ?q117 ?q118 (fun _ _ _ _ _ _ us hl => match us, hl with | [_, _], _ => rfl),
      Rv.mt_mk ?q119 ?q120 ?q121 ?q122 ?q123 (fun _ _ _ _ _ _ us hl => match us, hl with | [_], _ => rfl),
      Rv.mt_mk ?q124 ?q125 ?q126 ?q127 ?q128 (fun _ _ _ _ _ _ us hl => match us, hl with | [_], _ => rfl),
      Rv.mt_mk ?q129 ?q130 ?q131 ?q132 ?q133 (fun _ _ _ _ _ _ us hl => match us, hl with | [_], _ => rfl),
      Rv.mt_mk ?q134 ?q135 ?q136 ?q137 ?q138 (fun _ _ _ _ _ _ us hl => match us, hl with | [_, _, _], _ => rfl),
      Rv.mt_mk ?q139 ?q140 ?q141 ?q142 ?q143 (fun _ _ _ _ _ _ us hl => match us, hl with | [_, _, _], _ => rfl),
      Rv.mt_mk ?q144 ?q145 ?q146 ?q147 ?q148 (fun _ _ _ _ _ _ us hl => match us, hl with | [_, _], _ => rfl),
      Rv.mt_mk ?q149 ?q150 ?q151 ?q152 ?q153 (fun _ _ _ _ _ _ us hl => match us, hl with | [_, _, _], _ => rfl),
      Rv.mt_mk ?q154 ?q155 ?q156 ?q157 ?q158 (fun _ _ _ _ _ _ us hl => match us, hl with | [_, _], _ => rfl),
      Rv.mt_mk ?q159 ?q160 ?q161 ?q162 ?q163 (fun _ _ _ _ _ _ us hl => match us, hl with | [_], _ => rfl),
      Rv.mt_mk ?q164 ?q165 ?q166 ?q167 ?q168 (fun _ _ _ _ _ _ us hl => match us, hl with | [_, _], _ => rfl),
      Rv.mt_mk ?q169 ?q170 ?q171 ?q172 ?q173 (fun _ _ _ _ _ _ us hl => match us, hl with | [_], _ => rfl),
      Rv.mt_mk ?q174 ?q175 ?q176 ?q177 ?q178 (fun _ _ _ _ _ _ us hl => match us, hl with | [_, _, _], _ => rfl),
      Rv.mt_mk ?q179 ?q180 ?q181 ?q182 ?q183 (fun _ _ _ _ _ _ us hl => match us, hl with | [_, _, _, _, _], _ => rfl),
      Rv.mt_mk ?q184 ?q185 ?q186 ?q187 ?q188 (fun _ _ _ _ _ _ us hl => match us, hl with | [_, _], _ => rfl),
      Rv.mt_mk ?q189 ?q190 ?q191 ?q192 ?q193 (fun _ _ _ _ _ _ us hl => match us, hl with | [_, _], _ => rfl),
      Rv.mt_mk ?q194 ?q195 ?q196 ?q197 ?q198 (fun _ _ _ _ _ _ us hl => match us, hl with | [_, _], _ => rfl)⟩
      (case q1 => k_is); (case q2 => k_is); (case q3 => k_is); (case q4 => k_is); (case q5 => k_is); (case q6 => k_is)
      (case q7 => k_is); (case q8 => k_is); (case q9 => k_is); (case q10 => rfl); (case q11 => k_is); (case q12 => rfl)
      (case q13 => k_is); (case q14 => rfl); (case q15 => k_is); (case q16 => rfl); (case q17 => k_is); (case q18 => rfl)
      (case q19 => k_is); (case q20 => rfl); (case q21 => k_is); (case q22 => rfl); (case q23 => k_is); (case q24 => rfl)
      (case q25 => k_is); (case q26 => rfl); (case q27 => k_is); (case q28 => rfl); (case q29 => k_is); (case q30 => k_is)
      (case q31 => k_is); (case q32 => k_is); (case q33 => k_is); (case q34 => k_is); (case q35 => k_is); (case q36 => k_is)
      (case q37 => k_is); (case q38 => k_is); (case q39 => k_is); (case q40 => k_is); (case q41 => k_is); (case q42 => k_is)
      (case q43 => k_is); (case q44 => k_is); (case q45 => k_is); (case q46 => k_is); (case q47 => k_is); (case q48 => k_is)
      (case q49 => k_is); (case q50 => k_is); (case q51 => k_is); (case q52 => k_is); (case q53 => k_is); (case q54 => k_is)
      (case q55 => k_is); (case q56 => k_is); (case q57 => k_is); (case q58 => k_is); (case q59 => k_is); (case q60 => k_is)
      (case q61 => k_is); (case q62 => k_is); (case q63 => k_is); (case q64 => k_is); (case q65 => k_is); (case q66 => k_is)
      (case q67 => k_is); (case q68 => k_is); (case q69 => k_is); (case q70 => k_is); (case q71 => k_is); (case q72 => k_is)
      (case q73 => k_is); (case q74 => k_is); (case q75 => k_is); (case q76 => k_is); (case q77 => k_is); (case q78 => k_is)
      (case q79 => k_is); (case q80 => k_is); (case q81 => k_is); (case q82 => k_is); (case q83 => k_is); (case q84 => k_is)
      (case q85 => k_is); (case q86 => k_is); (case q87 => k_is); (case q88 => k_is); (case q89 => k_is); (case q90 => k_is)
      (case q91 => k_is); (case q92 => k_is); (case q93 => k_is); (case q94 => k_is); (case q95 => k_is); (case q96 => k_is)
      (case q97 => k_is); (case q98 => k_is); (case q99 => k_is); (case q100 => k_is); (case q101 => k_is); (case q102 => k_is)
      (case q103 => k_is); (case q104 => k_is); (case q105 => k_is); (case q106 => k_is); (case q107 => k_is); (case q108 => k_is)
      (case q109 => k_is); (case q110 => k_is); (case q111 => k_is); (case q112 => k_is); (case q113 => k_is); (case q114 => k_is)
      (case q115 => k_is); (case q116 => k_is); (case q117 => k_is); (case q118 => k_is); (case q119 => k_is); (case q120 => k_is)
      (case q121 => k_is); (case q122 => k_is); (case q123 => k_is); (case q124 => k_is); (case q125 => k_is); (case q126 => k_is)
      (case q127 => k_is); (case q128 => k_is); (case q129 => k_is); (case q130 => k_is); (case q131 => k_is); (case q132 => k_is)
      (case q133 => k_is); (case q134 => k_is); (case q135 => k_is); (case q136 => k_is); (case q137 => k_is); (case q138 => k_is)
      (case q139 => k_is); (case q140 => k_is); (case q141 => k_is); (case q142 => k_is); (case q143 => k_is); (case q144 => k_is)
      (case q145 => k_is); (case q146 => k_is); (case q147 => k_is); (case q148 => k_is); (case q149 => k_is); (case q150 => k_is)
      (case q151 => k_is); (case q152 => k_is); (case q153 => k_is); (case q154 => k_is); (case q155 => k_is); (case q156 => k_is)
      (case q157 => k_is); (case q158 => k_is); (case q159 => k_is); (case q160 => k_is); (case q161 => k_is); (case q162 => k_is)
      (case q163 => k_is); (case q164 => k_is); (case q165 => k_is); (case q166 => k_is); (case q167 => k_is); (case q168 => k_is)
      (case q169 => k_is); (case q170 => k_is); (case q171 => k_is); (case q172 => k_is); (case q173 => k_is); (case q174 => k_is)
      (case q175 => k_is); (case q176 => k_is); (case q177 => k_is); (case q178 => k_is); (case q179 => k_is); (case q180 => k_is)
      (case q181 => k_is); (case q182 => k_is); (case q183 => k_is); (case q184 => k_is); (case q185 => k_is); (case q186 => k_is)
      (case q187 => k_is); (case q188 => k_is); (case q189 => k_is); (case q190 => k_is); (case q191 => k_is); (case q192 => k_is)
      (case q193 => k_is); (case q194 => k_is); (case q195 => k_is); (case q196 => k_is); (case q197 => k_is); (case q198 => k_is))
    (case cfs =>
      refine' ⟨Rv.cf_mk ?q212 ?q213 ?q214 ?q215 (fun _ _ _ _ _ _ us hl => match us, hl with | [_, _], _ => rfl),
      Rv.cf_mk ?q216 ?q217 ?q218 ?q219 (fun _ _ _ _ _ _ us hl => match us, hl with | [_, _], _ => rfl),
      Rv.cf_mk ?q220 ?q221 ?q222 ?q223 (fun _ _ _ _ _ _ us hl => match us, hl with | [_, _], _ => rfl),
      Rv.cf_mk ?q224 ?q225 ?q226 ?q227 (fun _ _ _ _ _ _ us hl => match us, hl with | [_, _], _ => rfl),
      Rv.cf_mk ?q228 ?q229 ?q230 ?q231 (fun _ _ _ _ _ _ us hl => match us, hl with | [_, _], _ => rfl),
      Rv.cf_mk ?q232 ?q233 ?q234 ?q235 (fun _ _ _ _ _ _ us hl => match us, hl with | [_, _], _ => rfl),
      Rv.cf_mk ?q236 ?q237 ?q238 ?q239 (fun _ _ _ _ _ _ us hl => match us, hl with | [_, _], _ => rfl),
      Rv.cf_mk ?q240 ?q241 ?q242 ?q243 (fun _ _ _ _ _ _ us hl => match us, hl with | [_, _], _ => rfl),
      Rv.cf_mk ?q244 ?q245 ?q246 ?q247 (fun _ _ _ _ _ _ us hl => match us, hl with | [_, _], _ => rfl),
      Rv.cf_mk ?q248 ?q249 ?q250 ?q251 (fun _ _ _ _ _ _ us hl => match us, hl with | [_, _], _ => rfl),
      Rv.cf_mk ?q252 ?q253 ?q254 ?q255 (fun _ _ _ _ _ _ us hl => match us, hl with | [_, _], _ => rfl),
      Rv.cf_mk ?q256 ?q257 ?q258 ?q259 (fun _ _ _ _ _ _ us hl => match us, hl with | [_, _], _ => rfl),
      Rv.cf_mk ?q260 ?q261 ?q262 ?q263 (fun _ _ _ _ _ _ us hl => match us, hl with | [_, _], _ => rfl),
      Rv.cf_mk ?q264 ?q265 ?q266 ?q267 (fun _ _ _ _ _ _ us hl => match us, hl with | [_, _], _ => rfl),
      Rv.cf_mk ?q268 ?q269 ?q270 ?q271 (fun _ _ _ _ _ _ us hl => match us, hl with | [_, _], _ => rfl),
      Rv.cf_mk ?q272 ?q273 ?q274 ?q275 (fun _ _ _ _ _ _ us hl => match us, hl with | [_, _], _ => rfl),
      Rv.cf_mk ?q276 ?q277 ?q278 ?q279 (fun _ _ _ _ _ _ us hl => match us, hl with | [_, _], _ => rfl),
      Rv.cf_mk ?q280 ?q281 ?q282 ?q283 (fun _ _ _ _ _ _ us hl => match us, hl with | [_, _], _ => rfl),
      Rv.cf_mk ?q284 ?q285 ?q286 ?q287 (fun _ _ _ _ _ _ us hl => match us, hl with | [_, _], _ => rfl),
      Rv.cf_mk ?q288 ?q289 ?q290 ?q291 (fun _ _ _ _ _ _ us hl => match us, hl with | [_, _], _ => rfl),
      Rv.cf_mk ?q292 ?q293 ?q294 ?q295 (fun _ _ _ _ _ _ us hl => match us, hl with | [_, _], _ => rfl),
      Rv.cf_mk ?q296 ?q297 ?q298 ?q299 (fun _ _ _ _ _ _ us hl => match us, hl with | [_, _], _ => rfl),
      Rv.cf_mk ?q300 ?q301 ?q302 ?q303 (fun _ _ _ _ _ _ us hl => match us, hl with | [_, _], _ => rfl),
      Rv.cf_mk ?q304 ?q305 ?q306 ?q307 (fun _ _ _ _ _ _ us hl => match us, hl with | [_, _], _ => rfl),
      Rv.cf_mk ?q308 ?q309 ?q310 ?q311 (fun _ _ _ _ _ _ us hl => match us, hl with | [_, _], _ => rfl),
      Rv.cf_mk ?q312 ?q313 ?q314 ?q315 (fun _ _ _ _ _ _ us hl => match us, hl with | [_, _], _ => rfl)⟩
      (case q212 => rfl); (case q213 => k_is); (case q214 => k_is); (case q215 => k_is); (case q216 => rfl); (case q217 => k_is)
      (case q218 => k_is); (case q219 => k_is); (case q220 => rfl); (case q221 => k_is); (case q222 => k_is); (case q223 => k_is)
      (case q224 => rfl); (case q225 => k_is); (case q226 => k_is); (case q227 => k_is); (case q228 => rfl); (case q229 => k_is)
      (case q230 => k_is); (case q231 => k_is); (case q232 => rfl); (case q233 => k_is); (case q234 => k_is); (case q235 => k_is)
      (case q236 => rfl); (case q237 => k_is); (case q238 => k_is); (case q239 => k_is); (case q240 => rfl); (case q241 => k_is)
      (case q242 => k_is); (case q243 => k_is); (case q244 => rfl); (case q245 => k_is); (case q246 => k_is); (case q247 => k_is)
      (case q248 => rfl); (case q249 => k_is); (case q250 => k_is); (case q251 => k_is); (case q252 => rfl); (case q253 => k_is)
      (case q254 => k_is); (case q255 => k_is); (case q256 => rfl); (case q257 => k_is); (case q258 => k_is); (case q259 => k_is)
      (case q260 => rfl); (case q261 => k_is); (case q262 => k_is); (case q263 => k_is); (case q264 => rfl); (case q265 => k_is)
      (case q266 => k_is); (case q267 => k_is); (case q268 => rfl); (case q269 => k_is); (case q270 => k_is); (case q271 => k_is)
      (case q272 => rfl); (case q273 => k_is); (case q274 => k_is); (case q275 => k_is); (case q276 => rfl); (case q277 => k_is)
      (case q278 => k_is); (case q279 => k_is); (case q280 => rfl); (case q281 => k_is); (case q282 => k_is); (case q283 => k_is)
      (case q284 => rfl); (case q285 => k_is); (case q286 => k_is); (case q287 => k_is); (case q288 => rfl); (case q289 => k_is)
      (case q290 => k_is); (case q291 => k_is); (case q292 => rfl); (case q293 => k_is); (case q294 => k_is); (case q295 => k_is)
      (case q296 => rfl); (case q297 => k_is); (case q298 => k_is); (case q299 => k_is); (case q300 => rfl); (case q301 => k_is)
      (case q302 => k_is); (case q303 => k_is); (case q304 => rfl); (case q305 => k_is); (case q306 => k_is); (case q307 => k_is)
      (case q308 => rfl); (case q309 => k_is); (case q310 => k_is); (case q311 => k_is); (case q312 => rfl); (case q313 => k_is)
      (case q314 => k_is); (case q315 => k_is))
  case S =>
    intro K H xs a hO hwi hask hx
    cases hx with
    | cons h1 h2 =>
      cases h2
      cases h1 with
      | lst hs ha =>
        have e := L2.ints_dw a.1 _ ha
        subst e
        exact ⟨_, a.1, rfl, hs, hask, fun H' p hp => .lst (L2.SqL.of hp) (L2.dw_ints _)⟩
