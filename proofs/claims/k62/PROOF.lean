import PyProof.Rows.All
import Wide.All
import OpenK.AllK
import Wide.FinOn
import HandS.ForMost
import HandS.IsInst
import HandS.Style
import HandS.Deep
import HandS.TupSets
import HandS.Conv
import PyProof.ListRange
import KE.KListLetter
import HandS.SortInts
import KE.SortData
import HandS.Iter
import HandS.Walk
import KE.GoesEnum
import HandS.List
import HandS.Words
import HandS.DictComp
import HandS.Defaults
import HandS.ExcField
import HandS.TryMany
import HandS.ExcIs
import HandS.OwnEq
import KE.KExcSuper
import KE.KSuper
import HandS.ExcOwn
import HandS.WordsExc
import HandS.Star
import KE.KIsAll
import HandS.MakeKw
import KE.RegKSuper
import KE.KExcLine
import KE.RegKIsAll
import PySem.Challenge.RW_keptbase_k62_rings_or_first_order
set_option Elab.async false
set_option linter.all false
set_option maxRecDepth 100000
/-! The text by places: the program's and the law's defs. -/
namespace KT
open PySem L2
def top (i : Nat) : Stmt := PySem.Challenge.pw_keptbase_k62_rings_or_first_order.main.body.getD i (.Pass ⟨0, 0, 0, 0⟩)
abbrev sBadO : Stmt := inClass (top 2) 0
abbrev sBadA : Stmt := inClass (top 3) 0
abbrev sIsContent : Stmt := top 5
abbrev sIsNum : Stmt := top 7
abbrev sCheckO : Stmt := top 9
abbrev sKeeps : Stmt := top 10
abbrev sNext : Stmt := top 11
abbrev sFirst : Stmt := top 12
abbrev sIsArrow : Stmt := top 14
abbrev sGInit : Stmt := inClass (top 15) 0
abbrev sPath : Stmt := inClass (top 15) 1
abbrev sRing : Stmt := inClass (top 15) 2
abbrev sFollow : Stmt := inClass (top 15) 3
abbrev sPot : Stmt := top 17
abbrev sDraw : Stmt := top 18
abbrev sOrders : Stmt := top 19
abbrev sLined : Stmt := top 20
abbrev sArrows : Stmt := top 21
abbrev sKept : Stmt := top 22
abbrev sLRing : Stmt := top 23
abbrev sListing : Stmt := top 24
abbrev sJudged : Stmt := top 25
abbrev sWith : Stmt := top 26
abbrev sFound : Stmt := top 27
abbrev sLaw : Stmt := top 28
theorem scIsContent : FnScope ["value"] ["value"] (defScope sIsContent) := ⟨rfl, rfl, rfl, by decide +kernel, rfl, by decide +kernel, by decide +kernel⟩
theorem scIsNum : FnScope ["value", "low", "high"] ["value", "low", "high"] (defScope sIsNum) := ⟨rfl, rfl, rfl, by decide +kernel, rfl, by decide +kernel, by decide +kernel⟩
theorem scCheckO : FnScope ["size", "order", "listed", "numbered", "number"] ["size", "order"] (defScope sCheckO) := ⟨rfl, rfl, rfl, by decide +kernel, rfl, by decide +kernel, by decide +kernel⟩
theorem scKeeps : FnScope ["graph", "order", "places", "place", "node", "start", "goal"] ["graph", "order"] (defScope sKeeps) := ⟨rfl, rfl, rfl, by decide +kernel, rfl, by decide +kernel, by decide +kernel⟩
theorem scNext : FnScope ["graph", "placed", "waiting", "start", "goal", "node"] ["graph", "placed"] (defScope sNext) := ⟨rfl, rfl, rfl, by decide +kernel, rfl, by decide +kernel, by decide +kernel⟩
theorem scFirst : FnScope ["graph", "found", "_", "nodes"] ["graph"] (defScope sFirst) := ⟨rfl, rfl, rfl, by decide +kernel, rfl, by decide +kernel, by decide +kernel⟩
theorem scIsArrow : FnScope ["size", "value", "node"] ["size", "value"] (defScope sIsArrow) := ⟨rfl, rfl, rfl, by decide +kernel, rfl, by decide +kernel, by decide +kernel⟩
theorem scGInit : FnScope ["self", "size", "arrows", "listed", "arrow"] ["self", "size", "arrows"] (defScope sGInit) := ⟨rfl, rfl, rfl, by decide +kernel, rfl, by decide +kernel, by decide +kernel⟩
theorem scPath : FnScope ["self", "start", "goal", "paths", "reached", "longer", "nodes", "node"] ["self", "start", "goal"] (defScope sPath) := ⟨rfl, rfl, rfl, by decide +kernel, rfl, by decide +kernel, by decide +kernel⟩
theorem scRing : FnScope ["self", "found", "rings", "node", "nodes"] ["self"] (defScope sRing) := ⟨rfl, rfl, rfl, by decide +kernel, rfl, by decide +kernel, by decide +kernel⟩
theorem scFollow : FnScope ["self", "node", "start", "goal"] ["self", "node"] (defScope sFollow) := ⟨rfl, rfl, rfl, by decide +kernel, rfl, by decide +kernel, by decide +kernel⟩
theorem scPot : FnScope ["_law_script", "_law_k", "_law_number"] ["_law_script", "_law_k"] (defScope sPot) := ⟨rfl, rfl, rfl, by decide +kernel, rfl, by decide +kernel, by decide +kernel⟩
theorem scDraw : FnScope ["_law_pot_here", "_law_many", "_law_found_here"] ["_law_pot_here", "_law_many"] (defScope sDraw) := ⟨rfl, rfl, rfl, by decide +kernel, rfl, by decide +kernel, by decide +kernel⟩
theorem scOrders : FnScope ["_law_many", "_law_found_here", "_law_k", "_law_longer", "_law_order", "_law_entry"] ["_law_many"] (defScope sOrders) := ⟨rfl, rfl, rfl, by decide +kernel, rfl, by decide +kernel, by decide +kernel⟩
theorem scLined : FnScope ["_law_pot_here", "_law_size", "_law_line", "_law_node", "_law_at"] ["_law_pot_here", "_law_size"] (defScope sLined) := ⟨rfl, rfl, rfl, by decide +kernel, rfl, by decide +kernel, by decide +kernel⟩
theorem scArrows : FnScope ["_law_pot_here", "_law_size", "_law_line", "_law_along", "_law_turned", "_law_many", "_law_found_here", "_law_k", "_law_start", "_law_step", "_law_pair"] ["_law_pot_here", "_law_size"] (defScope sArrows) := ⟨rfl, rfl, rfl, by decide +kernel, rfl, by decide +kernel, by decide +kernel⟩
theorem scKept : FnScope ["_law_arrows_here", "_law_order", "_law_x", "_law_y"] ["_law_arrows_here", "_law_order"] (defScope sKept) := ⟨rfl, rfl, rfl, by decide +kernel, rfl, by decide +kernel, by decide +kernel⟩
theorem scLRing : FnScope ["_law_size", "_law_arrows_here", "_law_paths", "_law_turn", "_law_longer", "_law_path", "_law_last", "_law_nodes", "_law_node"] ["_law_size", "_law_arrows_here"] (defScope sLRing) := ⟨rfl, rfl, rfl, by decide +kernel, rfl, by decide +kernel, by decide +kernel⟩
theorem scListing : FnScope ["_law_pot_here", "_law_size", "_law_k"] ["_law_pot_here", "_law_size"] (defScope sListing) := ⟨rfl, rfl, rfl, by decide +kernel, rfl, by decide +kernel, by decide +kernel⟩
theorem scJudged : FnScope ["_law_graph", "_law_listing_here", "_law_told", "error"] ["_law_graph", "_law_listing_here"] (defScope sJudged) := ⟨rfl, rfl, rfl, by decide +kernel, rfl, by decide +kernel, by decide +kernel⟩
theorem scWith : FnScope ["_law_size", "_law_arrows_here", "_law_told", "error"] ["_law_size", "_law_arrows_here"] (defScope sWith) := ⟨rfl, rfl, rfl, by decide +kernel, rfl, by decide +kernel, by decide +kernel⟩
theorem scFound : FnScope ["_law_graph", "_law_good", "_law_ring_here", "_law_turn", "_law_first", "_law_around"] ["_law_graph", "_law_good", "_law_ring_here"] (defScope sFound) := ⟨rfl, rfl, rfl, by decide +kernel, rfl, by decide +kernel, by decide +kernel⟩
theorem scLaw : FnScope ["_law_script", "_law_pot_here", "_law_size", "_law_arrows_here", "_law_given", "_law_graph", "_law_known", "_law_order", "_law_good", "_law_ring_here", "_law_listing_here", "_law_due", "_law_told", "_law_spot", "_law_x", "_law_y", "_law_more"] ["_law_script"] (defScope sLaw) := ⟨rfl, rfl, rfl, by decide +kernel, rfl, by decide +kernel, by decide +kernel⟩
end KT
/-! Graphs and their orders, in plain Lean: order of lists by places, runs, walks. -/
namespace GR
/-- ahead of, place by place -/
def lx : List Int → List Int → Prop
  | a :: as, b :: bs => a < b ∨ (a = b ∧ lx as bs)
  | _, _ => False
theorem lx_irr : ∀ a, ¬ lx a a
  | [] => id
  | x :: a => fun h => by
    rcases h with h | ⟨_, h⟩
    · omega
    · exact lx_irr a h
theorem lx_trans : ∀ {a b c}, lx a b → lx b c → lx a c
  | [], _, _, h, _ => by cases h
  | _ :: _, [], _, h, _ => by cases h
  | _ :: _, _ :: _, [], _, h => by cases h
  | x :: a, y :: b, z :: c, h, k => by
    rcases h with h | ⟨rfl, h⟩
    · rcases k with k | ⟨rfl, _⟩
      · exact .inl (by omega)
      · exact .inl h
    · rcases k with k | ⟨rfl, k⟩
      · exact .inl k
      · exact .inr ⟨rfl, lx_trans h k⟩
theorem lx_app : ∀ {a b}, lx a b → ∀ c d, lx (a ++ c) (b ++ d)
  | [], _, h, _, _ => by cases h
  | _ :: _, [], h, _, _ => by cases h
  | x :: a, y :: b, h, c, d => by
    rcases h with h | ⟨rfl, h⟩
    · exact .inl h
    · exact .inr ⟨rfl, lx_app h c d⟩
theorem lx_snoc {x y : Int} (h : x < y) : ∀ p, lx (p ++ [x]) (p ++ [y])
  | [] => .inl h
  | _ :: p => .inr ⟨rfl, lx_snoc h p⟩
theorem lx_tot : ∀ {a b : List Int}, a.length = b.length → a ≠ b → lx a b ∨ lx b a
  | [], [], _, n => absurd rfl n
  | [], _ :: _, h, _ => by simp at h
  | _ :: _, [], h, _ => by simp at h
  | x :: a, y :: b, h, n => by
    by_cases e : x = y
    · subst e
      rcases lx_tot (a := a) (b := b) (by simpa using h) (fun e => n (by rw [e])) with k | k
      · exact .inl (.inr ⟨rfl, k⟩)
      · exact .inr (.inr ⟨rfl, k⟩)
    · by_cases l : x < y
      · exact .inl (.inl l)
      · exact .inr (.inl (by omega))
def le (a b : List Int) : Prop := a = b ∨ lx a b
theorem le_trans {a b c} (h : le a b) (k : le b c) : le a c := by
  rcases h with rfl | h
  · exact k
  · rcases k with rfl | k
    · exact .inr h
    · exact .inr (lx_trans h k)
theorem le_anti {a b} (h : le a b) (k : le b a) : a = b := by
  rcases h with h | h
  · exact h
  · rcases k with k | k
    · exact k.symm
    · exact absurd (lx_trans h k) (lx_irr _)
theorem le_app {a b} (h : le a b) (c : List Int) : le (a ++ c) (b ++ c) := by
  rcases h with rfl | h
  · exact .inl rfl
  · exact .inr (lx_app h c c)
/-- 1 to n -/
def upto (n : Nat) : List Int := (List.range n).map fun k => ((k + 1 : Nat) : Int)
theorem mem_upto {n : Nat} {x : Int} : x ∈ upto n ↔ 1 ≤ x ∧ x ≤ n := by
  unfold upto
  rw [List.mem_map]
  constructor
  · rintro ⟨k, hk, rfl⟩
    have := List.mem_range.mp hk
    omega
  · rintro ⟨a, b⟩
    exact ⟨(x - 1).toNat, List.mem_range.mpr (by omega), by omega⟩
theorem upto_len (n : Nat) : (upto n).length = n := by simp [upto]
theorem upto_sorted (n : Nat) : (upto n).Pairwise (· < ·) := by
  unfold upto
  rw [List.pairwise_map]
  exact List.pairwise_lt_range.imp (fun h => by omega)
theorem upto_nodup (n : Nat) : (upto n).Nodup := (upto_sorted n).imp (fun h => by omega)
/-- a list without a repeat within another one -/
theorem nodup_len {α : Type} [DecidableEq α] : ∀ {l m : List α}, l.Nodup → (∀ x ∈ l, x ∈ m) → l.length ≤ m.length
  | [], _, _, _ => Nat.zero_le _
  | x :: l, m, h, k => by
    have hx : x ∈ m := k x (by simp)
    have h2 := List.nodup_cons.mp h
    have := nodup_len (m := m.erase x) h2.2 (fun y hy => (List.mem_erase_of_ne (by rintro rfl; exact h2.1 hy)).mpr (k y (by simp [hy])))
    rw [List.length_erase_of_mem hx] at this
    have : 0 < m.length := List.length_pos_of_mem hx
    simp only [List.length_cons]
    omega
/-! ### orders -/
section
variable (n : Nat) (A : List (Int × Int))
/-- the law's next level of orders -/
def more (p : List Int) : List (List Int) := ((upto n).filter fun e => decide (e ∉ p)).map fun e => p ++ [e]
def levels : Nat → List (List Int)
  | 0 => [[]]
  | k + 1 => (levels k).flatMap (more n)
def ext : Nat → List Int → List (List Int)
  | 0, p => [p]
  | k + 1, p => (more n p).flatMap (ext k)
theorem levels_ext (k : Nat) : levels n k = ext n k [] := by
  have : ∀ j k, (levels n k).flatMap (ext n j) = levels n (k + j) := by
    intro j
    induction j with
    | zero => intro k; simp [ext]
    | succ j ih =>
      intro k
      rw [show k + (j + 1) = (k + 1) + j by omega, ← ih (k + 1)]
      show _ = ((levels n k).flatMap (more n)).flatMap (ext n j)
      rw [List.flatMap_assoc]
      rfl
  have h := this k 0
  rw [Nat.zero_add] at h
  rw [← h]
  simp [levels]
theorem mem_ext : ∀ (k : Nat) (p q : List Int), q ∈ ext n k p ↔ ∃ r, q = p ++ r ∧ r.length = k ∧ r.Nodup ∧ ∀ e ∈ r, e ∈ upto n ∧ e ∉ p
  | 0, p, q => by
    show q ∈ [p] ↔ _
    rw [List.mem_singleton]
    constructor
    · rintro rfl
      exact ⟨[], by simp, rfl, List.nodup_nil, by simp⟩
    · rintro ⟨r, rfl, h, _⟩
      rw [List.length_eq_zero_iff.mp h, List.append_nil]
  | k + 1, p, q => by
    show q ∈ (more n p).flatMap (ext n k) ↔ _
    rw [List.mem_flatMap]
    constructor
    · rintro ⟨p', hp, hq⟩
      obtain ⟨e, he, rfl⟩ := List.mem_map.mp hp
      obtain ⟨he1, he2⟩ := List.mem_filter.mp he
      obtain ⟨r, rfl, hl, hn, hr⟩ := (mem_ext k _ q).mp hq
      refine ⟨e :: r, by simp, by simp [hl], List.nodup_cons.mpr ⟨fun h => ?_, hn⟩, fun x hx => ?_⟩
      · exact (hr e h).2 (by simp)
      · rcases List.mem_cons.mp hx with rfl | hx
        · exact ⟨he1, of_decide_eq_true he2⟩
        · exact ⟨(hr x hx).1, fun h => (hr x hx).2 (by simp [h])⟩
    · rintro ⟨r, rfl, hl, hn, hr⟩
      cases r with
      | nil => simp at hl
      | cons e r =>
        have hn' := List.nodup_cons.mp hn
        refine ⟨p ++ [e], List.mem_map.mpr ⟨e, List.mem_filter.mpr ⟨(hr e (by simp)).1, decide_eq_true (hr e (by simp)).2⟩, rfl⟩, (mem_ext k _ _).mpr ⟨r, by simp, by simpa using hl, hn'.2, fun x hx => ⟨(hr x (by simp [hx])).1, fun h => ?_⟩⟩⟩
        rcases List.mem_append.mp h with h | h
        · exact (hr x (by simp [hx])).2 h
        · rw [List.mem_singleton.mp h] at hx
          exact hn'.1 hx
/-- each next one has its predecessors placed -/
def run : List Int → List Int → Bool
  | _, [] => true
  | p, e :: r => (A.all fun a => decide (a.2 = e → a.1 ∈ p)) && run (p ++ [e]) r
theorem run_mono : ∀ {r p p' : List Int}, (∀ x ∈ p, x ∈ p') → run A p r = true → run A p' r = true
  | [], _, _, _, _ => rfl
  | e :: r, p, p', s, h => by
    unfold run at h ⊢
    rw [Bool.and_eq_true] at h ⊢
    refine ⟨?_, run_mono (fun x hx => ?_) h.2⟩
    · rw [List.all_eq_true] at h ⊢
      exact fun a ha => decide_eq_true fun e => s _ (of_decide_eq_true (h.1 a ha) e)
    · rcases List.mem_append.mp hx with hx | hx
      · exact List.mem_append_left _ (s x hx)
      · exact List.mem_append_right _ hx
/-- what can stand next -/
def nexts (p : List Int) : List Int := (upto n).filter fun e => decide (e ∉ p) && decide (e ∉ (A.filter fun a => decide (a.1 ∉ p)).map (·.2))
theorem mem_nexts {p : List Int} {e : Int} : e ∈ nexts n A p ↔ e ∈ upto n ∧ e ∉ p ∧ ∀ a ∈ A, a.2 = e → a.1 ∈ p := by
  unfold nexts
  rw [List.mem_filter, Bool.and_eq_true, decide_eq_true_eq, decide_eq_true_eq]
  refine and_congr Iff.rfl (and_congr Iff.rfl ⟨fun h a ha e => ?_, fun h m => ?_⟩)
  · by_cases c : a.1 ∈ p
    · exact c
    · exact absurd (List.mem_map.mpr ⟨a, List.mem_filter.mpr ⟨ha, decide_eq_true c⟩, e⟩) h
  · obtain ⟨a, ha, e⟩ := List.mem_map.mp m
    obtain ⟨ha, c⟩ := List.mem_filter.mp ha
    exact of_decide_eq_true c (h a ha e)
theorem run_front {e0 : Int} : ∀ {r p : List Int}, run A p r = true → (∀ a ∈ A, a.2 = e0 → a.1 ∈ p) → e0 ∈ r → run A (p ++ [e0]) (r.erase e0) = true
  | [], _, _, _, m => by cases m
  | e :: r, p, h, k, m => by
    unfold run at h
    rw [Bool.and_eq_true] at h
    by_cases c : e = e0
    · subst c
      rw [List.erase_cons_head]
      exact h.2
    · rw [List.erase_cons_tail (by simpa using c)]
      have m' : e0 ∈ r := by
        rcases List.mem_cons.mp m with rfl | m
        · exact absurd rfl c
        · exact m
      have ih := run_front h.2 (fun a ha e => List.mem_append_left _ (k a ha e)) m'
      unfold run
      rw [Bool.and_eq_true]
      refine ⟨?_, run_mono A (fun x hx => ?_) ih⟩
      · have h1 := h.1
        rw [List.all_eq_true] at h1 ⊢
        exact fun a ha => decide_eq_true fun e => List.mem_append_left _ (of_decide_eq_true (h1 a ha) e)
      · simp only [List.mem_append, List.mem_singleton] at hx ⊢
        rcases hx with (h | h) | h
        · exact .inl (.inl h)
        · exact .inr h
        · exact .inl (.inr h)
theorem run_app : ∀ {r s p : List Int}, run A p (r ++ s) = (run A p r && run A (p ++ r) s)
  | [], s, p => by simp [run]
  | e :: r, s, p => by
    show (_ && run A (p ++ [e]) (r ++ s)) = ((_ && run A (p ++ [e]) r) && run A (p ++ e :: r) s)
    rw [run_app, Bool.and_assoc]
    simp
/-- the least order from p on -/
def greedy : Nat → List Int → Option (List Int)
  | 0, p => some p
  | k + 1, p => match nexts n A p with
    | [] => none
    | e :: _ => greedy k (p ++ [e])
theorem head_flatMap {α β : Type} (f : α → List β) : ∀ (l : List α), (∀ x ∈ l, f x = []) → l.flatMap f = []
  | [], _ => rfl
  | x :: l, h => by
    show f x ++ l.flatMap f = []
    rw [h x (by simp), head_flatMap f l fun y hy => h y (by simp [hy])]
    rfl
theorem filter_flatMap {α β : Type} (f : α → List β) (q : β → Bool) : ∀ l : List α, (l.flatMap f).filter q = l.flatMap fun x => (f x).filter q
  | [] => rfl
  | x :: l => by
    show (f x ++ l.flatMap f).filter q = _
    rw [List.filter_append, filter_flatMap f q l]
    rfl
theorem first_flatMap {α β : Type} {f : α → List β} {x : α} {r : List α} (hx : f x ≠ []) : ∀ (l : List α), (∀ y ∈ l, f y = []) → ((l ++ x :: r).flatMap f).head? = (f x).head?
  | [], _ => by
    show (f x ++ r.flatMap f).head? = _
    cases e : f x with
    | nil => exact absurd e hx
    | cons a b => rfl
  | y :: l, h => by
    show (f y ++ (l ++ x :: r).flatMap f).head? = _
    rw [h y (by simp), List.nil_append]
    exact first_flatMap hx l fun z hz => h z (by simp [hz])
theorem run_bad {p r : List Int} {e : Int} (he : e ∈ upto n) (hp : e ∉ p) (h : e ∉ nexts n A p) : run A p (e :: r) = false := by
  cases hr : run A p (e :: r) with
  | false => rfl
  | true =>
    unfold run at hr
    rw [Bool.and_eq_true, List.all_eq_true] at hr
    exact absurd ((mem_nexts n A).mpr ⟨he, hp, fun a ha e => of_decide_eq_true (hr.1 a ha) e⟩) h
theorem greedy_ext : ∀ (k : Nat) (p : List Int), run A [] p = true → ((ext n k p).filter (run A [])).head? = greedy n A k p
  | 0, p, h => by
    show ([p].filter (run A [])).head? = some p
    rw [List.filter_cons_of_pos h]
    rfl
  | k + 1, p, h => by
    show (((more n p).flatMap (ext n k)).filter (run A [])).head? = _
    rw [filter_flatMap]
    have bad : ∀ e, e ∈ upto n → e ∉ p → e ∉ nexts n A p → (ext n k (p ++ [e])).filter (run A []) = [] := fun e h1 h2 h3 => by
      rw [List.filter_eq_nil_iff]
      intro q hq
      obtain ⟨r, rfl, _⟩ := (mem_ext n k _ q).mp hq
      rw [List.append_assoc, run_app]
      show ¬ (_ && run A ([] ++ p) (e :: r)) = true
      rw [List.nil_append, run_bad n A h1 h2 h3, Bool.and_false]
      simp
    have hm : ∀ q ∈ more n p, ∃ e, q = p ++ [e] ∧ e ∈ upto n ∧ e ∉ p := fun q hq => by
      obtain ⟨e, he, rfl⟩ := List.mem_map.mp hq
      obtain ⟨h1, h2⟩ := List.mem_filter.mp he
      exact ⟨e, rfl, h1, of_decide_eq_true h2⟩
    show _ = (match nexts n A p with | [] => none | e :: _ => greedy n A k (p ++ [e]))
    cases e : nexts n A p with
    | nil =>
      rw [head_flatMap _ _ fun q hq => by
        obtain ⟨e', rfl, h1, h2⟩ := hm q hq
        exact bad e' h1 h2 (by rw [e]; simp)]
      rfl
    | cons e0 rest =>
      have h0 : e0 ∈ nexts n A p := by rw [e]; simp
      obtain ⟨u0, np0, pr0⟩ := (mem_nexts n A).mp h0
      have r0 : run A [] (p ++ [e0]) = true := by
        rw [run_app, h, Bool.true_and]
        unfold run
        rw [Bool.and_eq_true, List.all_eq_true]
        exact ⟨fun a ha => decide_eq_true fun e => by simpa using pr0 a ha e, rfl⟩
      show _ = greedy n A k (p ++ [e0])
      rw [← greedy_ext k _ r0]
      -- the candidates ahead of e0
      obtain ⟨l, r, hlr, hl⟩ : ∃ l r, (upto n).filter (fun e => decide (e ∉ p)) = l ++ e0 :: r ∧ ∀ y ∈ l, y ∉ nexts n A p := by
        obtain ⟨l, r, h1⟩ := List.append_of_mem (List.mem_filter.mpr ⟨u0, decide_eq_true np0⟩ : e0 ∈ (upto n).filter fun e => decide (e ∉ p))
        refine ⟨l, r, h1, fun y hy hyn => ?_⟩
        have hs : ((upto n).filter fun e => decide (e ∉ p)).Pairwise (· < ·) := (upto_sorted n).filter _
        rw [h1] at hs
        have lt : y < e0 := (List.pairwise_append.mp hs).2.2 y hy e0 (by simp)
        have hs2 : (nexts n A p).Pairwise (· < ·) := (upto_sorted n).filter _
        rw [e] at hs2 hyn
        rcases List.mem_cons.mp hyn with rfl | hyn
        · omega
        · have := (List.pairwise_cons.mp hs2).1 y hyn
          omega
      have hmore : more n p = l.map (fun e => p ++ [e]) ++ (p ++ [e0]) :: r.map fun e => p ++ [e] := by
        unfold more
        rw [hlr, List.map_append]
        rfl
      have hsub : ∀ y ∈ l, y ∈ upto n ∧ y ∉ p := fun y hy => by
        have : y ∈ (upto n).filter fun e => decide (e ∉ p) := by rw [hlr]; simp [hy]
        obtain ⟨h1, h2⟩ := List.mem_filter.mp this
        exact ⟨h1, of_decide_eq_true h2⟩
      rw [hmore]
      by_cases ne : (ext n k (p ++ [e0])).filter (run A []) = []
      · rw [ne]
        rw [head_flatMap]
        intro q hq
        obtain ⟨e', rfl, h1, h2⟩ := hm q (by rw [hmore]; exact hq)
        rw [List.filter_eq_nil_iff]
        intro q' hq' hr
        obtain ⟨rr, rfl, hl', hn', hr'⟩ := (mem_ext n k _ q').mp hq'
        -- e0 stands in the rest, and can be moved to the front
        have full : run A p (e' :: rr) = true := by
          rw [List.append_assoc, run_app, Bool.and_eq_true] at hr
          simpa using hr.2
        have hnd : (e' :: rr).Nodup := List.nodup_cons.mpr ⟨fun m => (hr' e' m).2 (by simp), hn'⟩
        have hall : ∀ x ∈ e' :: rr, x ∈ upto n ∧ x ∉ p := fun x hx => by
          rcases List.mem_cons.mp hx with rfl | hx
          · exact ⟨h1, h2⟩
          · exact ⟨(hr' x hx).1, fun m => (hr' x hx).2 (by simp [m])⟩
        by_cases c : e0 ∈ e' :: rr
        · have h5 := run_front A full pr0 c
          have hmem : p ++ [e0] ++ (e' :: rr).erase e0 ∈ (ext n k (p ++ [e0])).filter (run A []) := by
            refine List.mem_filter.mpr ⟨(mem_ext n k _ _).mpr ⟨_, rfl, by rw [List.length_erase_of_mem c]; simp [hl'], hnd.erase _, fun x hx => ?_⟩, by rw [run_app, r0, Bool.true_and]; simpa using h5⟩
            have hx' := (List.Nodup.mem_erase_iff hnd).mp hx
            refine ⟨(hall x hx'.2).1, fun m => ?_⟩
            rcases List.mem_append.mp m with m | m
            · exact (hall x hx'.2).2 m
            · exact hx'.1 (List.mem_singleton.mp m)
          rw [ne] at hmem
          cases hmem
        · -- it does not stand there: put it in the place of the first one
          have h6 : run A (p ++ [e0]) ((e' :: rr).dropLast) = true := by
            refine run_mono A (p := p) (fun x hx => by simp [hx]) ?_
            have := full
            rw [← List.dropLast_concat_getLast (l := e' :: rr) (by simp), run_app, Bool.and_eq_true] at this
            exact this.1
          have hmem : p ++ [e0] ++ (e' :: rr).dropLast ∈ (ext n k (p ++ [e0])).filter (run A []) := by
            refine List.mem_filter.mpr ⟨(mem_ext n k _ _).mpr ⟨_, rfl, by simp [hl'], (List.dropLast_sublist _).nodup hnd, fun x hx => ?_⟩, by rw [run_app, r0, Bool.true_and]; simpa using h6⟩
            have hx' := (List.dropLast_sublist _).subset hx
            refine ⟨(hall x hx').1, fun m => ?_⟩
            rcases List.mem_append.mp m with m | m
            · exact (hall x hx').2 m
            · rw [List.mem_singleton.mp m] at hx'
              exact c hx'
          rw [ne] at hmem
          cases hmem
      · rw [first_flatMap (f := fun x => (ext n k x).filter (run A [])) ne]
        intro q hq
        obtain ⟨y, hy, rfl⟩ := List.mem_map.mp hq
        exact bad y (hsub y hy).1 (hsub y hy).2 (hl y hy)
end
end GR
/-! Walks, the search in breadth, rings. -/
namespace GR
theorem idx_self {x : Int} {r : List Int} : (x :: r).idxOf x = 0 := by simp
theorem idx_ne {x y : Int} {r : List Int} (h : ¬ x = y) : (x :: r).idxOf y = r.idxOf y + 1 := by
  rw [List.idxOf_cons, beq_eq_false_iff_ne.mpr h]
  rfl
theorem run_idx (A : List (Int × Int)) : ∀ {q p : List Int}, q.Nodup → (∀ x ∈ q, x ∉ p) → (run A p q = true ↔ ∀ a ∈ A, a.2 ∈ q → a.1 ∈ p ∨ (a.1 ∈ q ∧ q.idxOf a.1 < q.idxOf a.2))
  | [], p, _, _ => by simp [run]
  | e :: r, p, h, d => by
    have h2 := List.nodup_cons.mp h
    have ih := run_idx A (q := r) (p := p ++ [e]) h2.2 fun x hx m => by
      rcases List.mem_append.mp m with m | m
      · exact d x (by simp [hx]) m
      · rw [List.mem_singleton.mp m] at hx
        exact h2.1 hx
    unfold run
    rw [Bool.and_eq_true, ih, List.all_eq_true]
    constructor
    · rintro ⟨h3, h4⟩ a ha hm
      by_cases c : a.2 = e
      · exact .inl (of_decide_eq_true (h3 a ha) c)
      · have hm' : a.2 ∈ r := by
          rcases List.mem_cons.mp hm with m | m
          · exact absurd m c
          · exact m
        have c' : ¬ e = a.2 := fun z => c z.symm
        rcases h4 a ha hm' with k | ⟨k1, k2⟩
        · rcases List.mem_append.mp k with k | k
          · exact .inl k
          · have k := List.mem_singleton.mp k
            refine .inr ⟨by rw [k]; simp, ?_⟩
            rw [k, idx_self, idx_ne c']
            omega
        · have n1 : ¬ e = a.1 := fun z => h2.1 (z ▸ k1)
          refine .inr ⟨List.mem_cons_of_mem _ k1, ?_⟩
          rw [idx_ne n1, idx_ne c']
          omega
    · intro k
      refine ⟨fun a ha => decide_eq_true fun c => ?_, fun a ha hm => ?_⟩
      · rcases k a ha (by rw [c]; simp) with k | ⟨_, k⟩
        · exact k
        · rw [c, idx_self] at k
          omega
      · have c' : ¬ e = a.2 := fun z => h2.1 (z ▸ hm)
        rcases k a ha (by simp [hm]) with k | ⟨k1, k2⟩
        · exact .inl (by simp [k])
        · by_cases n1 : e = a.1
          · exact .inl (by rw [← n1]; simp)
          · have k1' : a.1 ∈ r := by
              rcases List.mem_cons.mp k1 with m | m
              · exact absurd m.symm n1
              · exact m
            rw [idx_ne n1, idx_ne c'] at k2
            exact .inr ⟨k1', by omega⟩
/-- all arrows go along -/
def kept (A : List (Int × Int)) (q : List Int) : Bool := A.all fun a => decide (q.idxOf a.1 < q.idxOf a.2)
/-- arrows between the nodes 1 to n, ascending, each once -/
structure Arr (n : Nat) (A : List (Int × Int)) : Prop where
  lo : ∀ a ∈ A, a.1 ∈ upto n ∧ a.2 ∈ upto n ∧ a.1 ≠ a.2
  asc : A.Pairwise fun a b => a.1 < b.1 ∨ (a.1 = b.1 ∧ a.2 < b.2)
theorem full_mem {n : Nat} {q : List Int} (h : q.Nodup) (hl : q.length = n) (hm : ∀ x ∈ q, x ∈ upto n) : ∀ x ∈ upto n, x ∈ q := by
  intro x hx
  apply Classical.byContradiction
  intro nx
  have := nodup_len (l := x :: q) (m := upto n) (List.nodup_cons.mpr ⟨nx, h⟩) fun y hy => by
    rcases List.mem_cons.mp hy with rfl | hy
    · exact hx
    · exact hm y hy
  rw [upto_len] at this
  simp only [List.length_cons] at this
  omega
theorem kept_run {n : Nat} {A : List (Int × Int)} (ar : Arr n A) {q : List Int} (hq : q ∈ ext n n []) : kept A q = run A [] q := by
  obtain ⟨r, e, hl, hn, hr⟩ := (mem_ext n n [] q).mp hq
  have e' : q = r := e
  subst e'
  have hf := full_mem hn hl fun x hx => (hr x hx).1
  rw [Bool.eq_iff_iff, run_idx A hn (fun x _ => by simp)]
  unfold kept
  rw [List.all_eq_true]
  refine ⟨fun h a ha _ => .inr ⟨hf _ (ar.lo a ha).1, of_decide_eq_true (h a ha)⟩, fun h a ha => ?_⟩
  rcases h a ha (hf _ (ar.lo a ha).2.1) with k | ⟨_, k⟩
  · cases k
  · exact decide_eq_true k
/-- the orders that keep all arrows -/
def good (n : Nat) (A : List (Int × Int)) : List (List Int) := (levels n n).filter (kept A)
theorem good_eq {n : Nat} {A : List (Int × Int)} (ar : Arr n A) : good n A = (ext n n []).filter (run A []) := by
  unfold good
  rw [levels_ext]
  exact List.filter_congr fun q hq => kept_run ar hq
theorem good_head {n : Nat} {A : List (Int × Int)} (ar : Arr n A) : (good n A).head? = greedy n A n [] := by
  rw [good_eq ar]
  exact greedy_ext n A n [] rfl
/-! ### walks -/
section
variable (A : List (Int × Int))
def Ch : List Int → Prop
  | [] => False
  | [_] => True
  | x :: y :: r => (x, y) ∈ A ∧ Ch (y :: r)
def lst (w : List Int) : Int := w.getLast?.getD 0
def hd (w : List Int) : Int := w.headD 0
theorem lst_snoc (w : List Int) (v : Int) : lst (w ++ [v]) = v := by simp [lst]
theorem lst_app {u : List Int} (h : u ≠ []) (w : List Int) : lst (w ++ u) = lst u := by
  unfold lst
  rw [List.getLast?_append]
  cases e : u.getLast? with
  | none => exact absurd (List.getLast?_eq_none_iff.mp e) h
  | some x => simp
theorem hd_app {w : List Int} (h : w ≠ []) (u : List Int) : hd (w ++ u) = hd w := by
  cases w with
  | nil => exact absurd rfl h
  | cons a b => rfl
theorem snoc_of {w : List Int} (h : w ≠ []) : w = w.dropLast ++ [lst w] := by
  have := List.dropLast_concat_getLast h
  conv => lhs; rw [← this]
  congr 2
  unfold lst
  rw [List.getLast?_eq_getLast h]
  rfl
theorem Ch.ne {w : List Int} (h : Ch A w) : w ≠ [] := by
  rintro rfl
  exact h
theorem ch_app : ∀ {w u : List Int}, w ≠ [] → u ≠ [] → (Ch A (w ++ u) ↔ Ch A w ∧ (lst w, hd u) ∈ A ∧ Ch A u)
  | [], _, h, _ => absurd rfl h
  | [x], u, _, h => by
    cases u with
    | nil => exact absurd rfl h
    | cons y r =>
      show (x, y) ∈ A ∧ Ch A (y :: r) ↔ _
      simp [Ch, lst, hd]
  | x :: y :: w, u, _, h => by
    show (x, y) ∈ A ∧ Ch A ((y :: w) ++ u) ↔ ((x, y) ∈ A ∧ Ch A (y :: w)) ∧ _
    rw [ch_app (w := y :: w) (by simp) h]
    have : lst (x :: y :: w) = lst (y :: w) := lst_app (w := [x]) (by simp)
    rw [this, and_assoc]
theorem ch_snoc {w : List Int} {v : Int} (h : w ≠ []) : Ch A (w ++ [v]) ↔ Ch A w ∧ (lst w, v) ∈ A := by
  rw [ch_app A h (by simp)]
  simp [Ch, hd]
/-- a walk of k steps from s -/
def Wk (s : Int) (k : Nat) (w : List Int) : Prop := Ch A w ∧ hd w = s ∧ w.length = k + 1
theorem Wk.zero (s : Int) : Wk A s 0 [s] := ⟨trivial, rfl, rfl⟩
theorem Wk.snoc {s : Int} {k : Nat} {w : List Int} {v : Int} (h : Wk A s k w) (e : (lst w, v) ∈ A) : Wk A s (k + 1) (w ++ [v]) :=
  ⟨(ch_snoc A h.1.ne).mpr ⟨h.1, e⟩, by rw [hd_app h.1.ne]; exact h.2.1, by simp [h.2.2]⟩
theorem Wk.split {s : Int} {k : Nat} {w : List Int} (h : Wk A s (k + 1) w) : ∃ u v, w = u ++ [v] ∧ Wk A s k u ∧ (lst u, v) ∈ A := by
  have e := snoc_of h.1.ne
  have hl := h.2.2
  have hu : w.dropLast ≠ [] := by
    intro z
    rw [e, z] at hl
    simp at hl
  have hc := h.1
  rw [e, ch_snoc A hu] at hc
  refine ⟨_, _, e, ⟨hc.1, ?_, by simp [hl]⟩, hc.2⟩
  have := h.2.1
  rw [e, hd_app hu] at this
  exact this
/-- walks can be joined -/
theorem Wk.join {s : Int} {k : Nat} : ∀ (j : Nat) {w u : List Int} {s' : Int} {i : Nat}, Wk A s (k + j) w → Wk A s k (w.take (k + 1)) → Wk A s' i u → lst u = lst (w.take (k + 1)) → ∃ z, Wk A s' (i + j) z ∧ lst z = lst w
  | 0, w, u, s', i, h, _, hu, e => ⟨u, hu, by rw [e, List.take_of_length_le (by rw [h.2.2]; omega)]⟩
  | j + 1, w, u, s', i, h, hk, hu, e => by
    obtain ⟨w', v, rfl, hw', hv⟩ := Wk.split A (k := k + j) h
    have ht : (w' ++ [v]).take (k + 1) = w'.take (k + 1) := List.take_append_of_le_length (by rw [hw'.2.2]; omega)
    rw [ht] at hk e
    obtain ⟨z, hz, ez⟩ := Wk.join j hw' hk hu e
    exact ⟨z ++ [v], Wk.snoc A hz (by rw [ez]; exact hv), by rw [lst_snoc, lst_snoc]⟩
theorem Wk.pre {s : Int} {k : Nat} : ∀ (j : Nat) {w : List Int}, Wk A s (k + j) w → Wk A s k (w.take (k + 1))
  | 0, w, h => by rw [List.take_of_length_le (by rw [h.2.2]; omega)]; exact h
  | j + 1, w, h => by
    obtain ⟨w', v, rfl, hw', hv⟩ := Wk.split A (k := k + j) h
    rw [List.take_append_of_le_length (by rw [hw'.2.2]; omega)]
    exact Wk.pre j hw'
/-- the next nodes -/
def succ (u : Int) : List Int := (A.filter fun a => decide (a.1 = u)).map (·.2)
theorem mem_succ {u v : Int} : v ∈ succ A u ↔ (u, v) ∈ A := by
  unfold succ
  rw [List.mem_map]
  constructor
  · rintro ⟨⟨a, b⟩, h, rfl⟩
    obtain ⟨h1, h2⟩ := List.mem_filter.mp h
    have : a = u := of_decide_eq_true h2
    rw [← this]
    exact h1
  · exact fun h => ⟨(u, v), List.mem_filter.mpr ⟨h, decide_eq_true rfl⟩, rfl⟩
theorem succ_sorted {n : Nat} (ar : Arr n A) (u : Int) : (succ A u).Pairwise (· < ·) := by
  unfold succ
  rw [List.pairwise_map]
  have := ar.asc.filter (fun a => decide (a.1 = u))
  refine List.Pairwise.imp_of_mem ?_ this
  intro a b ha hb h
  have e1 : a.1 = u := of_decide_eq_true (List.mem_filter.mp ha).2
  have e2 : b.1 = u := of_decide_eq_true (List.mem_filter.mp hb).2
  omega
/-- walks one step longer, in order -/
def wide (w : List Int) : List (List Int) := (succ A (lst w)).map fun v => w ++ [v]
/-- one round of the search -/
def proc (g : Int) : List Int → List (List Int) → List (List Int) → (List Int) ⊕ (List Int × List (List Int))
  | R, N, [] => .inr (R, N)
  | R, N, t :: T => if lst t = g then .inl t else if lst t ∈ R then proc g R N T else proc g (R ++ [lst t]) (N ++ [t]) T
theorem proc_inl {g : Int} {t : List Int} : ∀ {T R N}, proc g R N T = .inl t → T.Pairwise lx → t ∈ T ∧ lst t = g ∧ ∀ t' ∈ T, lst t' = g → le t t'
  | [], _, _, h, _ => by cases h
  | t0 :: T, R, N, h, hs => by
    unfold proc at h
    have hs' := List.pairwise_cons.mp hs
    by_cases c : lst t0 = g
    · rw [if_pos c] at h
      cases h
      refine ⟨by simp, c, fun t' ht' _ => ?_⟩
      rcases List.mem_cons.mp ht' with rfl | ht'
      · exact .inl rfl
      · exact .inr (hs'.1 t' ht')
    · rw [if_neg c] at h
      have : ∃ R' N', proc g R' N' T = .inl t := by
        split at h
        · exact ⟨_, _, h⟩
        · exact ⟨_, _, h⟩
      obtain ⟨R', N', h⟩ := this
      obtain ⟨h1, h2, h3⟩ := proc_inl h hs'.2
      refine ⟨by simp [h1], h2, fun t' ht' e => ?_⟩
      rcases List.mem_cons.mp ht' with rfl | ht'
      · exact absurd e c
      · exact h3 t' ht' e
theorem proc_inr {g : Int} {R' : List Int} {N' : List (List Int)} : ∀ {T R N}, proc g R N T = .inr (R', N') → T.Pairwise lx →
    (∀ t ∈ T, lst t ≠ g) ∧ ∃ M : List (List Int), N' = N ++ M ∧ R' = R ++ M.map lst ∧ M.Sublist T ∧ (R.Nodup → R'.Nodup) ∧ ∀ t ∈ T, lst t ∈ R ∨ ∃ u ∈ M, lst u = lst t ∧ le u t
  | [], R, N, h, _ => by
    cases h
    exact ⟨fun _ h => (nomatch h), [], by simp, by simp, List.Sublist.refl _, id, fun _ h => (nomatch h)⟩
  | t0 :: T, R, N, h, hs => by
    unfold proc at h
    have hs' := List.pairwise_cons.mp hs
    by_cases c : lst t0 = g
    · rw [if_pos c] at h
      cases h
    · rw [if_neg c] at h
      by_cases d : lst t0 ∈ R
      · rw [if_pos d] at h
        obtain ⟨h1, M, h2, h3, h4, h5, h6⟩ := proc_inr h hs'.2
        refine ⟨fun t ht => ?_, M, h2, h3, h4.cons _, h5, fun t ht => ?_⟩
        · rcases List.mem_cons.mp ht with rfl | ht
          · exact c
          · exact h1 t ht
        · rcases List.mem_cons.mp ht with rfl | ht
          · exact .inl d
          · exact h6 t ht
      · rw [if_neg d] at h
        obtain ⟨h1, M, h2, h3, h4, h5, h6⟩ := proc_inr h hs'.2
        refine ⟨fun t ht => ?_, t0 :: M, by rw [h2]; simp, by rw [h3]; simp, h4.cons_cons _, fun hr => h5 ?_, fun t ht => ?_⟩
        · rcases List.mem_cons.mp ht with rfl | ht
          · exact c
          · exact h1 t ht
        · rw [List.nodup_append]
          exact ⟨hr, by simp, fun a ha b hb e => by rw [List.mem_singleton.mp hb] at e; exact d (e ▸ ha)⟩
        · rcases List.mem_cons.mp ht with rfl | ht
          · exact .inr ⟨t, by simp, rfl, .inl rfl⟩
          · rcases h6 t ht with k | ⟨u, hu, e1, e2⟩
            · rcases List.mem_append.mp k with k | k
              · exact .inl k
              · exact .inr ⟨t0, by simp, (List.mem_singleton.mp k).symm, .inr (hs'.1 t ht)⟩
            · exact .inr ⟨u, by simp [hu], e1, e2⟩
/-- where the search stands behind k rounds -/
structure Bfs (n : Nat) (s g : Int) (k : Nat) (L : List (List Int)) (R : List Int) : Prop where
  wk : ∀ w ∈ L, Wk A s k w
  srt : L.Pairwise lx
  dom : ∀ w, Wk A s k w → (∃ u ∈ L, lst u = lst w ∧ le u w) ∨ ∃ j u, j < k ∧ Wk A s j u ∧ lst u = lst w
  rch : ∀ r ∈ R, ∃ j u, j ≤ k ∧ Wk A s j u ∧ lst u = r
  no : ∀ i w, i < k → Wk A s (i + 1) w → lst w ≠ g
  nd : R.Nodup
  inn : ∀ r ∈ R, r ∈ upto n
theorem Bfs.start (n : Nat) (s g : Int) : Bfs A n s g 0 [[s]] [] where
  wk := fun w h => by rw [List.mem_singleton.mp h]; exact Wk.zero A s
  srt := by simp
  dom := fun w h => by
    have : w = [s] := by
      have hl := h.2.2
      match w, hl with
      | [x], _ => have := h.2.1; simp [hd] at this; rw [this]
    exact .inl ⟨_, by simp, by rw [this], .inl this.symm⟩
  rch := fun r h => by cases h
  no := fun i w h => by omega
  nd := List.nodup_nil
  inn := fun r h => by cases h
theorem wide_srt {n : Nat} (ar : Arr n A) : ∀ {L : List (List Int)}, L.Pairwise lx → (L.flatMap (wide A)).Pairwise lx
  | [], _ => List.Pairwise.nil
  | w :: L, h => by
    have h' := List.pairwise_cons.mp h
    show (wide A w ++ L.flatMap (wide A)).Pairwise lx
    rw [List.pairwise_append]
    refine ⟨?_, wide_srt ar h'.2, fun a ha b hb => ?_⟩
    · unfold wide
      rw [List.pairwise_map]
      exact (succ_sorted A ar _).imp fun h => lx_snoc h w
    · obtain ⟨v, _, rfl⟩ := List.mem_map.mp ha
      obtain ⟨w', hw', hb⟩ := List.mem_flatMap.mp hb
      obtain ⟨v', _, rfl⟩ := List.mem_map.mp hb
      exact lx_app (h'.1 w' hw') _ _
theorem mem_wide {L : List (List Int)} {t : List Int} : t ∈ L.flatMap (wide A) ↔ ∃ w ∈ L, ∃ v, (lst w, v) ∈ A ∧ t = w ++ [v] := by
  rw [List.mem_flatMap]
  refine exists_congr fun w => and_congr Iff.rfl ?_
  unfold wide
  rw [List.mem_map]
  exact ⟨fun ⟨v, h, e⟩ => ⟨v, (mem_succ A).mp h, e.symm⟩, fun ⟨v, h, e⟩ => ⟨v, (mem_succ A).mpr h, e.symm⟩⟩
theorem Bfs.next {n : Nat} {s g : Int} {k : Nat} {L N : List (List Int)} {R R' : List Int} (ar : Arr n A) (b : Bfs A n s g k L R) (h : proc g R [] (L.flatMap (wide A)) = .inr (R', N)) : Bfs A n s g (k + 1) N R' := by
  obtain ⟨h1, M, h2, h3, h4, h5, h6⟩ := proc_inr h (wide_srt A ar b.srt)
  rw [List.nil_append] at h2
  subst h2
  have hw : ∀ t ∈ L.flatMap (wide A), Wk A s (k + 1) t := fun t ht => by
    obtain ⟨w, hw, v, hv, rfl⟩ := (mem_wide A).mp ht
    exact (b.wk w hw).snoc A hv
  have step : ∀ w, Wk A s (k + 1) w → (∃ u ∈ L.flatMap (wide A), lst u = lst w ∧ le u w) ∨ ∃ j u, j < k + 1 ∧ 1 ≤ j ∧ Wk A s j u ∧ lst u = lst w := fun w hw => by
    obtain ⟨u, v, rfl, hu, hv⟩ := hw.split A
    rcases b.dom u hu with ⟨u', hu', e1, e2⟩ | ⟨j, u', hj, hu', e1⟩
    · exact .inl ⟨u' ++ [v], (mem_wide A).mpr ⟨u', hu', v, by rw [e1]; exact hv, rfl⟩, by rw [lst_snoc, lst_snoc], le_app e2 _⟩
    · exact .inr ⟨j + 1, u' ++ [v], by omega, by omega, hu'.snoc A (by rw [e1]; exact hv), by rw [lst_snoc, lst_snoc]⟩
  refine ⟨fun w hw' => hw w (h4.subset hw'), (wide_srt A ar b.srt).sublist h4, fun w hw' => ?_, fun r hr => ?_, fun i w hi hw' e => ?_, h5 b.nd, fun r hr => ?_⟩
  · rcases step w hw' with ⟨t, ht, e1, e2⟩ | ⟨j, u, hj, _, hu, e⟩
    · rcases h6 t ht with c | ⟨u, hu, e3, e4⟩
      · obtain ⟨j, z, hj, hz, ez⟩ := b.rch _ c
        exact .inr ⟨j, z, by omega, hz, ez.trans e1⟩
      · exact .inl ⟨u, hu, e3.trans e1, le_trans e4 e2⟩
    · exact .inr ⟨j, u, hj, hu, e⟩
  · rw [h3] at hr
    rcases List.mem_append.mp hr with c | c
    · obtain ⟨j, u, hj, hu, e⟩ := b.rch r c
      exact ⟨j, u, by omega, hu, e⟩
    · obtain ⟨u, hu, rfl⟩ := List.mem_map.mp c
      exact ⟨k + 1, u, Nat.le_refl _, hw u (h4.subset hu), rfl⟩
  · by_cases c : i < k
    · exact b.no i w c hw' e
    · have : i = k := by omega
      subst this
      rcases step w hw' with ⟨t, ht, e1, _⟩ | ⟨j, u, hj, h1j, hu, e1⟩
      · exact h1 t ht (e1.trans e)
      · obtain ⟨j', rfl⟩ : ∃ j', j = j' + 1 := ⟨j - 1, by omega⟩
        exact b.no j' u (by omega) hu (e1.trans e)
  · rw [h3] at hr
    rcases List.mem_append.mp hr with c | c
    · exact b.inn r c
    · obtain ⟨u, hu, rfl⟩ := List.mem_map.mp c
      obtain ⟨w, _, v, hv, rfl⟩ := (mem_wide A).mp (h4.subset hu)
      rw [lst_snoc]
      exact (ar.lo _ hv).2.1
theorem Bfs.grow {n : Nat} {s g : Int} {k : Nat} {L N : List (List Int)} {R R' : List Int} (ar : Arr n A) (b : Bfs A n s g k L R) (h : proc g R [] (L.flatMap (wide A)) = .inr (R', N)) : R'.length = R.length + N.length ∧ R'.length ≤ n := by
  have b' := b.next A ar h
  obtain ⟨_, M, h2, h3, _⟩ := proc_inr h (wide_srt A ar b.srt)
  rw [List.nil_append] at h2
  subst h2
  refine ⟨by rw [h3]; simp, ?_⟩
  have := nodup_len b'.nd b'.inn
  rwa [upto_len] at this
/-- the least of the shortest walks -/
def LeastW (s g : Int) (o : Option (List Int)) : Prop := match o with
  | none => ∀ i w, Wk A s (i + 1) w → lst w ≠ g
  | some t => ∃ m, Wk A s (m + 1) t ∧ lst t = g ∧ (∀ i w, Wk A s (i + 1) w → lst w = g → m ≤ i) ∧ ∀ w, Wk A s (m + 1) w → lst w = g → le t w
theorem Bfs.found {n : Nat} {s g : Int} {k : Nat} {L : List (List Int)} {R t : List Int} (ar : Arr n A) (b : Bfs A n s g k L R) (h : proc g R [] (L.flatMap (wide A)) = .inl t) : LeastW A s g (some t) := by
  obtain ⟨h1, h2, h3⟩ := proc_inl h (wide_srt A ar b.srt)
  have hw : Wk A s (k + 1) t := by
    obtain ⟨w, hw, v, hv, rfl⟩ := (mem_wide A).mp h1
    exact (b.wk w hw).snoc A hv
  refine ⟨k, hw, h2, fun i w hi e => ?_, fun w hw' e => ?_⟩
  · apply Classical.byContradiction
    intro c
    exact b.no i w (by omega) hi e
  · obtain ⟨u, v, rfl, hu, hv⟩ := hw'.split A
    rcases b.dom u hu with ⟨u', hu', e1, e2⟩ | ⟨j, u', hj, hu', e1⟩
    · exact le_trans (h3 (u' ++ [v]) ((mem_wide A).mpr ⟨u', hu', v, by rw [e1]; exact hv, rfl⟩) (by rw [lst_snoc]; rw [lst_snoc] at e; exact e)) (le_app e2 _)
    · rw [lst_snoc] at e
      exact absurd (by rw [lst_snoc]; exact e) (b.no j (u' ++ [v]) hj (hu'.snoc A (by rw [e1]; exact hv)))
theorem Bfs.none {n : Nat} {s g : Int} {k : Nat} {R : List Int} (b : Bfs A n s g k [] R) : LeastW A s g none := by
  have : ∀ m w, Wk A s (m + 1) w → lst w ≠ g := by
    intro m
    induction m using Nat.strongRecOn with
    | _ m ih =>
      intro w hw e
      by_cases c : m < k
      · exact b.no m w c hw e
      · obtain ⟨j, hj⟩ : ∃ j, m + 1 = k + j := ⟨m + 1 - k, by omega⟩
        rw [hj] at hw
        have hp := Wk.pre A j hw
        rcases b.dom _ hp with ⟨u, hu, _⟩ | ⟨i, u, hi, hu, eu⟩
        · cases hu
        · obtain ⟨z, hz, ez⟩ := Wk.join A j hw hp hu eu
          obtain ⟨m', hm'⟩ : ∃ m', i + j = m' + 1 := ⟨i + j - 1, by omega⟩
          rw [hm'] at hz
          exact ih m' (by omega) z hz (ez.trans e)
  exact this
/-! ### rings -/
def Cl (w : List Int) : Prop := Ch A w ∧ (lst w, hd w) ∈ A
/-- the least of the shortest rings -/
def RingIs (o : Option (List Int)) : Prop := match o with
  | none => ∀ w, ¬ Cl A w
  | some w => Cl A w ∧ ∀ u, Cl A u → w.length < u.length ∨ (w.length = u.length ∧ le w u)
theorem RingIs.unique {o o' : Option (List Int)} (h : RingIs A o) (k : RingIs A o') : o = o' := by
  cases o with
  | none => cases o' with
    | none => rfl
    | some w => exact absurd k.1 (h w)
  | some w => cases o' with
    | none => exact absurd h.1 (k w)
    | some u =>
      have h1 := h.2 u k.1
      have k1 := k.2 w h.1
      congr 1
      rcases h1 with h1 | ⟨h1, h2⟩
      · rcases k1 with k1 | ⟨k1, _⟩ <;> omega
      · rcases k1 with k1 | ⟨_, k2⟩
        · omega
        · exact le_anti h2 k2
/-- a closed walk that meets a node twice has a shorter one -/
theorem Cl.short {w : List Int} (h : Cl A w) (d : ¬ w.Nodup) : ∃ u, Cl A u ∧ u.length < w.length := by
  have h1 : ∃ a b c v, w = a ++ (v :: b) ++ (v :: c) := by
    clear h
    induction w with
    | nil => exact absurd List.nodup_nil d
    | cons x r ih =>
      by_cases m : x ∈ r
      · obtain ⟨b, c, rfl⟩ := List.append_of_mem m
        exact ⟨[], b, c, x, rfl⟩
      · obtain ⟨a, b, c, v, e⟩ := ih (fun z => d (List.nodup_cons.mpr ⟨m, z⟩))
        exact ⟨x :: a, b, c, v, by rw [e]; rfl⟩
  obtain ⟨a, b, c, v, rfl⟩ := h1
  have hc := (ch_app A (w := a ++ (v :: b)) (u := v :: c) (by simp) (by simp)).mp h.1
  have e1 : lst (a ++ (v :: b)) = lst (v :: b) := lst_app (by simp) a
  have h2 : Ch A (v :: b) := by
    cases a with
    | nil => exact hc.1
    | cons y z => exact ((ch_app A (w := y :: z) (u := v :: b) (by simp) (by simp)).mp hc.1).2.2
  refine ⟨v :: b, ⟨h2, ?_⟩, by simp; omega⟩
  have := hc.2.1
  rw [e1] at this
  exact this
theorem ch_inn {n : Nat} (ar : Arr n A) : ∀ {w : List Int}, Ch A w → (1 < w.length ∨ hd w ∈ upto n) → ∀ x ∈ w, x ∈ upto n
  | [], h, _ => h.elim
  | [x], _, h => by
    rcases h with h | h
    · simp at h
    · intro y hy
      rw [List.mem_singleton.mp hy]
      exact h
  | x :: y :: r, h, _ => by
    obtain ⟨h1, h2⟩ := (show (x, y) ∈ A ∧ Ch A (y :: r) from h)
    intro z hz
    rcases List.mem_cons.mp hz with rfl | hz
    · exact (ar.lo _ h1).1
    · exact ch_inn ar h2 (.inr (ar.lo _ h1).2.1) z hz
theorem Cl.inn {n : Nat} (ar : Arr n A) {w : List Int} (h : Cl A w) : ∀ x ∈ w, x ∈ upto n := ch_inn A ar h.1 (.inr (ar.lo _ h.2).2.1)
theorem Cl.simple {w : List Int} : Cl A w → ∃ u, Cl A u ∧ u.Nodup ∧ u.length ≤ w.length := by
  have : ∀ k w, w.length ≤ k → Cl A w → ∃ u, Cl A u ∧ u.Nodup ∧ u.length ≤ w.length := by
    intro k
    induction k with
    | zero =>
      intro w hl h
      have : w = [] := List.length_eq_zero_iff.mp (by omega)
      subst this
      exact h.1.elim
    | succ k ih =>
      intro w hl h
      by_cases d : w.Nodup
      · exact ⟨w, h, d, Nat.le_refl _⟩
      · obtain ⟨u, hu, hlu⟩ := h.short A d
        obtain ⟨u', h1, h2, h3⟩ := ih u (by omega) hu
        exact ⟨u', h1, h2, by omega⟩
  exact this _ w (Nat.le_refl _)
/-- the paths of the law, by their lengths -/
def sp (n : Nat) : Nat → List (List Int)
  | 0 => (upto n).map fun v => [v]
  | t + 1 => (sp n t).flatMap fun p => (((upto n).filter fun v => decide ((lst p, v) ∈ A)).filter fun v => decide (v ∉ p)).map fun v => p ++ [v]
theorem mem_sp {n : Nat} (ar : Arr n A) : ∀ {t : Nat} {w : List Int}, w ∈ sp A n t ↔ Ch A w ∧ w.length = t + 1 ∧ w.Nodup ∧ ∀ x ∈ w, x ∈ upto n
  | 0, w => by
    show w ∈ (upto n).map _ ↔ _
    rw [List.mem_map]
    constructor
    · rintro ⟨v, h, rfl⟩
      exact ⟨trivial, rfl, by simp, fun x hx => by rw [List.mem_singleton.mp hx]; exact h⟩
    · rintro ⟨_, h, _, k⟩
      match w, h, k with
      | [x], _, k => exact ⟨x, k x (by simp), rfl⟩
  | t + 1, w => by
    show w ∈ (sp A n t).flatMap _ ↔ _
    rw [List.mem_flatMap]
    constructor
    · rintro ⟨p, hp, hw⟩
      obtain ⟨v, hv, rfl⟩ := List.mem_map.mp hw
      obtain ⟨hv, nv⟩ := List.mem_filter.mp hv
      obtain ⟨hv, av⟩ := List.mem_filter.mp hv
      obtain ⟨h1, h2, h3, h4⟩ := (mem_sp ar).mp hp
      refine ⟨(ch_snoc A h1.ne).mpr ⟨h1, of_decide_eq_true av⟩, by simp [h2], ?_, fun x hx => ?_⟩
      · rw [List.nodup_append]
        exact ⟨h3, by simp, fun a ha b hb e => by rw [List.mem_singleton.mp hb] at e; exact of_decide_eq_true nv (e ▸ ha)⟩
      · rcases List.mem_append.mp hx with hx | hx
        · exact h4 x hx
        · rw [List.mem_singleton.mp hx]
          exact hv
    · rintro ⟨h1, h2, h3, h4⟩
      obtain ⟨p, v, rfl, hp⟩ : ∃ p v, w = p ++ [v] ∧ p ≠ [] := ⟨_, _, snoc_of h1.ne, by
        intro z
        have e := snoc_of h1.ne
        rw [e, z] at h2
        simp at h2⟩
      have hc := (ch_snoc A hp).mp h1
      rw [List.nodup_append] at h3
      refine ⟨p, (mem_sp ar).mpr ⟨hc.1, by simpa using h2, h3.1, fun x hx => h4 x (by simp [hx])⟩, ?_⟩
      refine List.mem_map.mpr ⟨v, List.mem_filter.mpr ⟨List.mem_filter.mpr ⟨h4 _ (by simp), decide_eq_true hc.2⟩, decide_eq_true fun m => ?_⟩, rfl⟩
      exact h3.2.2 _ m _ (by simp) rfl
theorem sp_srt {n : Nat} : ∀ t, (sp A n t).Pairwise lx
  | 0 => by
    show ((upto n).map _).Pairwise lx
    rw [List.pairwise_map]
    exact (upto_sorted n).imp fun h => .inl h
  | t + 1 => by
    have aux : ∀ L : List (List Int), L.Pairwise lx → (L.flatMap fun p => (((upto n).filter fun v => decide ((lst p, v) ∈ A)).filter fun v => decide (v ∉ p)).map fun v => p ++ [v]).Pairwise lx := by
      intro L
      induction L with
      | nil => intro _; exact List.Pairwise.nil
      | cons w L ih =>
        intro h
        have h' := List.pairwise_cons.mp h
        rw [List.flatMap_cons, List.pairwise_append]
        refine ⟨?_, ih h'.2, fun a ha b hb => ?_⟩
        · rw [List.pairwise_map]
          exact (((upto_sorted n).filter _).filter _).imp fun h => lx_snoc h w
        · obtain ⟨v, _, rfl⟩ := List.mem_map.mp ha
          obtain ⟨w', hw', hb⟩ := List.mem_flatMap.mp hb
          obtain ⟨v', _, rfl⟩ := List.mem_map.mp hb
          exact lx_app (h'.1 w' hw') _ _
    exact aux _ (sp_srt t)
/-- does a path close? -/
def cls (p : List Int) : Bool := decide ((lst p, hd p) ∈ A)
theorem ring_found {n : Nat} (ar : Arr n A) {t : Nat} {a b : List (List Int)} {w : List Int} (e : sp A n t = a ++ w :: b) (hw : cls A w = true) (ha : ∀ p ∈ a, cls A p = false) (no : ∀ i < t, ∀ p ∈ sp A n i, cls A p = false) : RingIs A (some w) := by
  have hm : w ∈ sp A n t := by rw [e]; simp
  obtain ⟨h1, h2, h3, h4⟩ := (mem_sp A ar).mp hm
  have atl : ∀ u, Cl A u → t + 1 ≤ u.length := fun u hu => by
    obtain ⟨u', k1, k2, k3⟩ := hu.simple A
    apply Classical.byContradiction
    intro c
    have hp : 0 < u'.length := List.length_pos_iff.mpr k1.1.ne
    have := no (u'.length - 1) (by omega) u' ((mem_sp A ar).mpr ⟨k1.1, by omega, k2, k1.inn A ar⟩)
    unfold cls at this
    exact of_decide_eq_false this k1.2
  refine ⟨⟨h1, of_decide_eq_true hw⟩, fun u hu => ?_⟩
  have := atl u hu
  by_cases c : u.length = t + 1
  · refine .inr ⟨by omega, ?_⟩
    have hs : u.Nodup := by
      apply Classical.byContradiction
      intro d
      obtain ⟨u', k1, k2⟩ := hu.short A d
      have := atl u' k1
      omega
    have hmu : u ∈ sp A n t := (mem_sp A ar).mpr ⟨hu.1, c, hs, hu.inn A ar⟩
    have srt := sp_srt A (n := n) t
    rw [e] at hmu srt
    rcases List.mem_append.mp hmu with m | m
    · have := ha u m
      unfold cls at this
      exact absurd hu.2 (of_decide_eq_false this)
    · rcases List.mem_cons.mp m with rfl | m
      · exact .inl rfl
      · exact .inr ((List.pairwise_cons.mp (List.pairwise_append.mp srt).2.1).1 u m)
  · exact .inl (by omega)
theorem ring_none {n : Nat} (ar : Arr n A) (no : ∀ i < n, ∀ p ∈ sp A n i, cls A p = false) : RingIs A none := by
  intro u hu
  obtain ⟨u', k1, k2, k3⟩ := hu.simple A
  have hp : 0 < u'.length := List.length_pos_iff.mpr k1.1.ne
  have hl := nodup_len k2 (k1.inn A ar)
  rw [upto_len] at hl
  have := no (u'.length - 1) (by omega) u' ((mem_sp A ar).mpr ⟨k1.1, by omega, k2, k1.inn A ar⟩)
  unfold cls at this
  exact of_decide_eq_false this k1.2
/-- the program's ring: the least one over all starts -/
theorem ring_all {n : Nat} (ar : Arr n A) {f : Int → Option (List Int)} (hf : ∀ v ∈ upto n, LeastW A v v (f v)) {o : Option (List Int)}
    (ho : match o with
      | none => ∀ v ∈ upto n, f v = none
      | some w => ∃ v ∈ upto n, ∃ t, f v = some t ∧ w = t.dropLast ∧ ∀ v' ∈ upto n, ∀ t', f v' = some t' → t.length < t'.length ∨ (t.length = t'.length ∧ le t.dropLast t'.dropLast)) : RingIs A o := by
  -- a closed walk is a walk from its head
  have clw : ∀ u, Cl A u → Wk A (hd u) (u.length - 1 + 1) (u ++ [hd u]) ∧ lst (u ++ [hd u]) = hd u ∧ hd u ∈ upto n := fun u hu => by
    have hp : 0 < u.length := List.length_pos_iff.mpr hu.1.ne
    exact ⟨Wk.snoc A ⟨hu.1, rfl, by omega⟩ hu.2, lst_snoc _ _, (ar.lo _ hu.2).2.1⟩
  cases o with
  | none =>
    intro u hu
    obtain ⟨h1, h2, h3⟩ := clw u hu
    have := hf _ h3
    rw [ho _ h3] at this
    exact this _ _ h1 h2
  | some w =>
    obtain ⟨v, hv, t, ft, rfl, ho⟩ := ho
    have h := hf v hv
    rw [ft] at h
    obtain ⟨m, h1, h2, h3, h4⟩ := h
    obtain ⟨z, x, rfl, hz, hx⟩ := h1.split A
    rw [lst_snoc] at h2
    subst h2
    rw [List.dropLast_concat]
    refine ⟨⟨hz.1, by rw [hz.2.1]; exact hx⟩, fun u hu => ?_⟩
    obtain ⟨k1, k2, k3⟩ := clw u hu
    have hfu := hf _ k3
    cases fu : f (hd u) with
    | none =>
      rw [fu] at hfu
      exact absurd k2 (hfu _ _ k1)
    | some t' =>
      rw [fu] at hfu
      obtain ⟨m', j1, j2, j3, j4⟩ := hfu
      have hm := j3 _ _ k1 k2
      have hlt : t'.length = m' + 1 + 1 := j1.2.2
      have hlz : z.length = m + 1 := hz.2.2
      have hpu : 0 < u.length := List.length_pos_iff.mpr hu.1.ne
      obtain ⟨z', x', rfl, hz', hx'⟩ := j1.split A
      have hlz' : z'.length = m' + 1 := hz'.2.2
      have cmp := ho _ k3 _ fu
      rw [List.dropLast_concat, List.dropLast_concat] at cmp
      simp only [List.length_append, List.length_singleton] at cmp
      rcases cmp with c | ⟨c, d⟩
      · exact .inl (by omega)
      · by_cases e : m' = u.length - 1
        · subst e
          refine .inr ⟨by omega, le_trans d ?_⟩
          have := j4 _ k1 k2
          rw [lst_snoc] at j2
          subst j2
          -- equal ends can be dropped
          rcases this with q | q
          · exact .inl (List.append_cancel_right q)
          · have hl2 : z'.length = u.length := by omega
            by_cases eq : z' = u
            · exact .inl eq
            · rcases lx_tot hl2 eq with r | r
              · exact .inr r
              · exact absurd (lx_trans q (lx_app r _ _)) (lx_irr _)
        · exact .inl (by omega)
/-- an order, or a ring -/
theorem good_ring {n : Nat} (ar : Arr n A) : good n A ≠ [] ↔ RingIs A none := by
  constructor
  · intro h w hw
    obtain ⟨q, hq⟩ := List.exists_mem_of_ne_nil _ h
    obtain ⟨_, hk⟩ := List.mem_filter.mp hq
    unfold kept at hk
    rw [List.all_eq_true] at hk
    have up : ∀ u : List Int, Ch A u → q.idxOf (hd u) ≤ q.idxOf (lst u) := by
      intro u
      induction u with
      | nil => intro h; exact h.elim
      | cons x r ih =>
        intro h
        cases r with
        | nil => exact Nat.le_refl _
        | cons y r =>
          obtain ⟨h1, h2⟩ := (show (x, y) ∈ A ∧ Ch A (y :: r) from h)
          have a1 := of_decide_eq_true (hk _ h1)
          have a2 := ih h2
          have a3 : lst (x :: y :: r) = lst (y :: r) := lst_app (w := [x]) (by simp)
          rw [a3]
          show q.idxOf x ≤ _
          have a4 : hd (y :: r) = y := rfl
          rw [a4] at a2
          simp only at a1
          omega
    have a := up w hw.1
    have b := of_decide_eq_true (hk _ hw.2)
    simp only at b
    omega
  · intro h e
    have hg : greedy n A n [] = none := by rw [← good_head ar, e]; rfl
    -- where it is stuck
    have stuck : ∀ k p, greedy n A k p = none → p.length + k = n → ∃ p' : List Int, p'.length < n ∧ nexts n A p' = [] := by
      intro k
      induction k with
      | zero => intro p h; cases h
      | succ k ih =>
        intro p h hl
        unfold greedy at h
        cases e : nexts n A p with
        | nil => exact ⟨p, by omega, e⟩
        | cons x r =>
          rw [e] at h
          exact ih (p ++ [x]) h (by simp; omega)
    obtain ⟨p, hp, hn⟩ := stuck n [] hg (by simp)
    have pred : ∀ v, v ∈ upto n → v ∉ p → ∃ u, (u, v) ∈ A ∧ u ∉ p := fun v hv nv => by
      apply Classical.byContradiction
      intro c
      have : v ∈ nexts n A p := (mem_nexts n A).mpr ⟨hv, nv, fun a ha ea => by
        apply Classical.byContradiction
        intro na
        exact c ⟨a.1, by rw [← ea]; exact ha, na⟩⟩
      rw [hn] at this
      cases this
    obtain ⟨v0, hv0, nv0⟩ : ∃ v, v ∈ upto n ∧ v ∉ p := by
      apply Classical.byContradiction
      intro c
      have := nodup_len (upto_nodup n) (m := p) fun x hx => by
        apply Classical.byContradiction
        intro nx
        exact c ⟨x, hx, nx⟩
      rw [upto_len] at this
      omega
    have long : ∀ k, ∃ w, Ch A w ∧ w.length = k + 1 ∧ hd w ∈ upto n ∧ hd w ∉ p := by
      intro k
      induction k with
      | zero => exact ⟨[v0], trivial, rfl, hv0, nv0⟩
      | succ k ih =>
        obtain ⟨w, h1, h2, h3, h4⟩ := ih
        obtain ⟨u, hu, nu⟩ := pred _ h3 h4
        refine ⟨u :: w, ?_, by simp [h2], (ar.lo _ hu).1, nu⟩
        cases w with
        | nil => exact h1.elim
        | cons x r => exact ⟨hu, h1⟩
    obtain ⟨w, h1, h2, h3, h4⟩ := long n
    have d : ¬ w.Nodup := fun hnd => by
      have := nodup_len hnd (ch_inn A ar h1 (.inr h3))
      rw [upto_len] at this
      omega
    -- a repeat closes
    have rep : ∃ a b c v, w = a ++ (v :: b) ++ (v :: c) := by
      clear h1 h2 h3 h4 long
      induction w with
      | nil => exact absurd List.nodup_nil d
      | cons x r ih =>
        by_cases m : x ∈ r
        · obtain ⟨b, c, rfl⟩ := List.append_of_mem m
          exact ⟨[], b, c, x, rfl⟩
        · obtain ⟨a, b, c, v, e⟩ := ih (fun z => d (List.nodup_cons.mpr ⟨m, z⟩))
          exact ⟨x :: a, b, c, v, by rw [e]; rfl⟩
    obtain ⟨a, b, c, v, rfl⟩ := rep
    have hc := (ch_app A (w := a ++ (v :: b)) (u := v :: c) (by simp) (by simp)).mp h1
    have e1 : lst (a ++ (v :: b)) = lst (v :: b) := lst_app (by simp) a
    have h2' : Ch A (v :: b) := by
      cases a with
      | nil => exact hc.1
      | cons y z => exact ((ch_app A (w := y :: z) (u := v :: b) (by simp) (by simp)).mp hc.1).2.2
    have h3' := hc.2.1
    rw [e1] at h3'
    exact h (v :: b) ⟨h2', h3'⟩
end
end GR
set_option maxRecDepth 100000
set_option maxHeartbeats 4000000
/-! What stands at an address; data compared; list(range). -/
namespace KP
open PySem PySem.Spec PyProof.Rows L2 KT
/-- the built-in names that no top statement stores -/
structure Blt (mg : Str → Option Value) : Prop where
  isinstance : mg "isinstance" = none
  int : mg "int" = none
  bool : mg "bool" = none
  tuple : mg "tuple" = none
  list : mg "list" = none
  len : mg "len" = none
  sorted : mg "sorted" = none
  abs : mg "abs" = none
  range : mg "range" = none
  enumerate : mg "enumerate" = none
  set : mg "set" = none
  all : mg "all" = none
/-- all but the object at a stays -/
def But (a : Addr) (H H' : Hp) : Prop := ∀ b o, H b = some o → b ≠ a → H' b = some o
theorem But.refl {a : Addr} {H : Hp} : But a H H := fun _ _ e _ => e
theorem But.trans {a : Addr} {H H1 H2 : Hp} (h : But a H H1) (k : But a H1 H2) : But a H H2 := fun b o e n => k b o (h b o e n) n
theorem But.same {a : Addr} {H H1 H2 : Hp} (h : But a H H1) (k : Same H1 H2) : But a H H2 := fun b o e n => k b o (h b o e n)
theorem But.upd {a : Addr} {H : Hp} {o : HO} : But a H (upd H a o) := fun b u e n => by rw [upd_ne n]; exact e
theorem same_upd {a : Addr} {H : Hp} {o : HO} (n : H a = none) : Same H (upd H a o) := fun b u e => by rw [upd_ne (ne_of_none e n)]; exact e
theorem But.new {a : Addr} {H0 H1 H : Hp} {o : HO} (h : But a H1 H) (e : H1 = L2.upd H0 a o) (n : H0 a = none) : Same H0 H := fun b u q => by
  have nb : b ≠ a := ne_of_none q n
  exact h b u (by rw [e, upd_ne nb]; exact q) nb
theorem But.of {a : Addr} {H H' : Hp} (s : Same H H') : But a H H' := fun b o e _ => s b o e
/-- a fresh object changed: what stood before it stays -/
theorem same_but {a : Addr} {H H1 H2 : Hp} (s : Same H H1) (n : H a = none) (b : But a H1 H2) : Same H H2 := fun c o e => b c o (s c o e) (ne_of_none e n)
/-- a tuple of two ints; a list of ints -/
def IsP (H : Hp) (v : V) (a : Int × Int) : Prop := ∃ t, v = .ref t ∧ H t = some (.tup [.int a.1, .int a.2])
def IsI (H : Hp) (v : V) (ns : List Int) : Prop := ∃ t, v = .ref t ∧ H t = some (.lst (ns.map V.int))
def AllP (H : Hp) (L : List (V × (Int × Int))) : Prop := ∀ x ∈ L, IsP H x.1 x.2
def AllI (H : Hp) (L : List (V × List Int)) : Prop := ∀ x ∈ L, IsI H x.1 x.2
theorem IsP.same {H H' : Hp} {v : V} {a : Int × Int} (h : IsP H v a) (s : Same H H') : IsP H' v a := let ⟨t, e, q⟩ := h; ⟨t, e, s _ _ q⟩
theorem IsI.same {H H' : Hp} {v : V} {a : List Int} (h : IsI H v a) (s : Same H H') : IsI H' v a := let ⟨t, e, q⟩ := h; ⟨t, e, s _ _ q⟩
theorem AllP.same {H H' : Hp} {L : List (V × (Int × Int))} (h : AllP H L) (s : Same H H') : AllP H' L := fun x hx => (h x hx).same s
theorem AllI.same {H H' : Hp} {L : List (V × List Int)} (h : AllI H L) (s : Same H H') : AllI H' L := fun x hx => (h x hx).same s
theorem IsP.but {H H' : Hp} {v : V} {a : Int × Int} {d : Addr} {xs : List V} (h : IsP H v a) (b : But d H H') (hd : H d = some (.lst xs)) : IsP H' v a := by
  obtain ⟨t, e, q⟩ := h
  exact ⟨t, e, b _ _ q (by rintro rfl; rw [hd] at q; cases q)⟩
theorem AllP.but {H H' : Hp} {L : List (V × (Int × Int))} {d : Addr} {xs : List V} (h : AllP H L) (b : But d H H') (hd : H d = some (.lst xs)) : AllP H' L := fun x hx => (h x hx).but b hd
/-- arrows in a list or a tuple -/
structure PsL (H : Hp) (p : Addr) (A : List (Int × Int)) (L : List (V × (Int × Int))) : Prop where
  at_ : H p = some (.lst (L.map (·.1)))
  all : AllP H L
  eq : L.map (·.2) = A
structure PsT (H : Hp) (p : Addr) (A : List (Int × Int)) (L : List (V × (Int × Int))) : Prop where
  at_ : H p = some (.tup (L.map (·.1)))
  all : AllP H L
  eq : L.map (·.2) = A
theorem PsL.same {H H' : Hp} {p : Addr} {A L} (h : PsL H p A L) (s : Same H H') : PsL H' p A L := ⟨s _ _ h.at_, h.all.same s, h.eq⟩
theorem PsT.same {H H' : Hp} {p : Addr} {A L} (h : PsT H p A L) (s : Same H H') : PsT H' p A L := ⟨s _ _ h.at_, h.all.same s, h.eq⟩
/-- lists in a list -/
structure IsLs (H : Hp) (p : Addr) (W : List (List Int)) (L : List (V × List Int)) : Prop where
  at_ : H p = some (.lst (L.map (·.1)))
  all : AllI H L
  eq : L.map (·.2) = W
theorem IsLs.same {H H' : Hp} {p : Addr} {W L} (h : IsLs H p W L) (s : Same H H') : IsLs H' p W L := ⟨s _ _ h.at_, h.all.same s, h.eq⟩
theorem at_map {α : Type} {M : List (V × α)} {i : Nat} {v : V} (h : (M.map (·.1))[i]? = some v) : ∃ p, M[i]? = some (v, p) := by
  rw [List.getElem?_map] at h
  cases e : M[i]? with
  | none => rw [e] at h; cases h
  | some x =>
    rw [e] at h
    obtain ⟨v', p⟩ := x
    have : v' = v := Option.some.inj h
    subst this
    exact ⟨p, rfl⟩
theorem take_map {α β : Type} {M : List α} {f : α → β} {i : Nat} {x : α} (h : M[i]? = some x) : ((M.take (i + 1)).map f) = (M.take i).map f ++ [f x] := by
  rw [List.take_add_one, h, List.map_append]
  rfl
theorem int_at {ns : List Int} {i : Nat} {v : V} (h : (ns.map V.int)[i]? = some v) : ∃ n, ns[i]? = some n ∧ v = .int n := by
  rw [List.getElem?_map] at h
  cases e : ns[i]? with
  | none => rw [e] at h; cases h
  | some x => rw [e] at h; exact ⟨x, rfl, (Option.some.inj h).symm⟩
theorem yes_i {σ : L2.St} {H : Hp} {A B : Hp → Prop} (h : A H) : tYes σ H (fun b H3 => if b = true then A H3 else B H3) := by
  show @ite _ (true = true) (instDecidableEqBool true true) (A H) (B H)
  exact (if_pos rfl).mpr h
/-! ### data -/
def EqE {α : Type} (enc : α → PyData) : Prop := ∀ a b : α, PyData.eqv (enc a) (enc b) = true ↔ a = b
def LayE {α : Type} (enc : α → PyData) (k : Nat) : Prop := ∀ a : α, (enc a).canLay0 = true ∧ (enc a).depth ≤ k
theorem eqvAll_map {α : Type} {enc : α → PyData} (h : EqE enc) : ∀ A B : List α, PyData.eqvAll (A.map enc) (B.map enc) = true ↔ A = B
  | [], [] => by simp [PyData.eqvAll]
  | [], b :: B => by simp [PyData.eqvAll]
  | a :: A, [] => by simp [PyData.eqvAll]
  | a :: A, b :: B => by
    simp only [List.map_cons, PyData.eqvAll, Bool.and_eq_true, h a b, eqvAll_map h A B]
    simp
theorem layAll_map {α : Type} {enc : α → PyData} {k : Nat} (h : LayE enc k) : ∀ A : List α, PyData.canLayAll0 (A.map enc) = true ∧ PyData.depthAll (A.map enc) ≤ k
  | [] => by simp [PyData.canLayAll0, PyData.depthAll]
  | a :: A => by
    obtain ⟨h1, h2⟩ := h a
    obtain ⟨h3, h4⟩ := layAll_map h A
    simp only [List.map_cons, PyData.canLayAll0, PyData.depthAll, h1, h3, Bool.and_self, true_and]
    exact Nat.max_le.mpr ⟨h2, h4⟩
theorem eq_list {α : Type} {enc : α → PyData} (h : EqE enc) : EqE fun A : List α => PyData.list (A.map enc) := fun A B => by
  simp only [PyData.eqv]
  exact eqvAll_map h A B
theorem eq_tup {α : Type} {enc : α → PyData} (h : EqE enc) : EqE fun A : List α => PyData.tuple (A.map enc) := fun A B => by
  simp only [PyData.eqv]
  exact eqvAll_map h A B
theorem lay_list {α : Type} {enc : α → PyData} {k : Nat} (h : LayE enc k) : LayE (fun A : List α => PyData.list (A.map enc)) (k + 1) := fun A => by
  obtain ⟨h1, h2⟩ := layAll_map h A
  simp only [PyData.canLay0, PyData.depth]
  exact ⟨h1, by omega⟩
theorem lay_tup {α : Type} {enc : α → PyData} {k : Nat} (h : LayE enc k) : LayE (fun A : List α => PyData.tuple (A.map enc)) (k + 1) := fun A => by
  obtain ⟨h1, h2⟩ := layAll_map h A
  simp only [PyData.canLay0, PyData.depth]
  exact ⟨h1, by omega⟩
theorem LayE.shaped {α : Type} {enc : α → PyData} {k : Nat} (h : LayE enc k) (hk : k ≤ 64) (a : α) : SeqAt.shaped (enc a) = true := by
  obtain ⟨h1, h2⟩ := h a
  unfold SeqAt.shaped
  exact Bool.and_eq_true_iff.mpr ⟨h1, decide_eq_true (by omega)⟩
theorem eq_int : EqE PyData.int := fun a b => by simp [PyData.eqv]
theorem lay_int : LayE PyData.int 0 := fun a => by simp [PyData.canLay0, PyData.depth]
def dP (a : Int × Int) : PyData := .tuple [.int a.1, .int a.2]
theorem eq_dP : EqE dP := fun a b => by
  obtain ⟨x, y⟩ := a
  obtain ⟨z, u⟩ := b
  simp [dP, PyData.eqv, PyData.eqvAll]
theorem lay_dP : LayE dP 1 := fun a => by simp [dP, PyData.canLay0, PyData.canLayAll0, PyData.depth, PyData.depthAll]
abbrev dI : List Int → PyData := fun A => .list (A.map PyData.int)
abbrev dIs : List (List Int) → PyData := fun A => .list (A.map dI)
abbrev dPL : List (Int × Int) → PyData := fun A => .list (A.map dP)
abbrev dPT : List (Int × Int) → PyData := fun A => .tuple (A.map dP)
abbrev dTI : List Int → PyData := fun A => .tuple (A.map PyData.int)
theorem eq_dI : EqE dI := eq_list eq_int
theorem eq_dTI : EqE dTI := eq_tup eq_int
theorem eq_dIs : EqE dIs := eq_list eq_dI
theorem eq_dPL : EqE dPL := eq_list eq_dP
theorem eq_dPT : EqE dPT := eq_tup eq_dP
theorem sh_dP (a) : SeqAt.shaped (dP a) = true := lay_dP.shaped (by decide) a
theorem sh_dI (a) : SeqAt.shaped (dI a) = true := (lay_list lay_int).shaped (by decide) a
theorem sh_dTI (a) : SeqAt.shaped (dTI a) = true := (lay_tup lay_int).shaped (by decide) a
theorem sh_dIs (a) : SeqAt.shaped (dIs a) = true := (lay_list (lay_list lay_int)).shaped (by decide) a
theorem sh_dPL (a) : SeqAt.shaped (dPL a) = true := (lay_list lay_dP).shaped (by decide) a
theorem sh_dPT (a) : SeqAt.shaped (dPT a) = true := (lay_tup lay_dP).shaped (by decide) a
theorem EqE.dec {α : Type} [DecidableEq α] {enc : α → PyData} (h : EqE enc) (a b : α) : PyData.eqv (enc a) (enc b) = decide (a = b) := by
  rw [Bool.eq_iff_iff, h a b, decide_eq_true_iff]
theorem any_eq {α : Type} [DecidableEq α] {enc : α → PyData} (h : EqE enc) (A : List α) (b : α) : ((A.map enc).any fun z => PyData.eqv z (enc b)) = decide (b ∈ A) := by
  rw [Bool.eq_iff_iff, decide_eq_true_iff, List.any_eq_true]
  constructor
  · rintro ⟨z, hz, e⟩
    obtain ⟨a, ha, rfl⟩ := List.mem_map.mp hz
    rw [← (h a b).mp e]
    exact ha
  · exact fun hb => ⟨_, List.mem_map.mpr ⟨b, hb, rfl⟩, (h b b).mpr rfl⟩
section
variable {K : PySem.W.Frag} {H : Hp}
theorem dp_ints : ∀ ns : List Int, DpAll K H (ns.map V.int) (ns.map PyData.int)
  | [] => .nil
  | n :: ns => .cons (.int n) (dp_ints ns)
theorem dp_map {α : Type} {enc : α → PyData} : ∀ {L : List (V × α)}, (∀ x ∈ L, Dp K H x.1 (enc x.2)) → DpAll K H (L.map (·.1)) ((L.map (·.2)).map enc)
  | [], _ => .nil
  | x :: L, h => .cons (h x (by simp)) (dp_map fun y hy => h y (by simp [hy]))
theorem IsI.dp {v : V} {ns : List Int} (h : IsI H v ns) : Dp K H v (dI ns) := by
  obtain ⟨t, rfl, e⟩ := h
  exact .lst (SqL.of e) (dp_ints ns)
theorem IsP.dp {v : V} {a : Int × Int} (h : IsP H v a) : Dp K H v (dP a) := by
  obtain ⟨t, rfl, e⟩ := h
  exact .tup (SqT.of e) (.cons (.int _) (.cons (.int _) .nil))
theorem dp_lst {p : Addr} {ns : List Int} (h : SqL K H p (ns.map V.int)) : Dp K H (.ref p) (dI ns) := .lst h (dp_ints ns)
theorem dp_tup {p : Addr} {ns : List Int} (h : SqT K H p (ns.map V.int)) : Dp K H (.ref p) (dTI ns) := .tup h (dp_ints ns)
theorem IsLs.dp {p : Addr} {W L} (h : IsLs H p W L) : Dp K H (.ref p) (dIs W) := by
  have := dp_map (K := K) (H := H) (enc := dI) (L := L) fun x hx => (h.all x hx).dp
  rw [h.eq] at this
  exact .lst (SqL.of h.at_) this
theorem PsL.dp {p : Addr} {A L} (h : PsL H p A L) : Dp K H (.ref p) (dPL A) := by
  have := dp_map (K := K) (H := H) (enc := dP) (L := L) fun x hx => (h.all x hx).dp
  rw [h.eq] at this
  exact .lst (SqL.of h.at_) this
theorem PsT.dp {p : Addr} {A L} (h : PsT H p A L) : Dp K H (.ref p) (dPT A) := by
  have := dp_map (K := K) (H := H) (enc := dP) (L := L) fun x hx => (h.all x hx).dp
  rw [h.eq] at this
  exact .tup (SqT.of h.at_) this
end
/-! ### list(range(lo, hi)) -/
section
variable {X : Cx}
def rListR : List V → Hp → VK → Prop := fun vs H Q => ∃ (p : Addr) (lo hi : Int), vs = [.ref p] ∧ H p = some (.rng lo hi) ∧ -1000 ≤ lo ∧ lo ≤ 1000 ∧ -1000 ≤ hi ∧ hi ≤ 1000 ∧ ∀ l, H l = none → Q (.ref l) (upd H l (.lst (((List.range (hi - lo).toNat).map fun k => lo + ((k : Nat) : Int)).map V.int)))
theorem items_vals {lo : Int} {acc : Array Value} {n : Nat} (h : ItemsOf (fun i v => ∃ t, v = .int (lo + i * 1) t) acc n) : Vals (((List.range n).map fun k => lo + ((k : Nat) : Int)).map V.int) acc.toList :=
  vals_ints (PySem.W.kll_ints acc.toList lo n (by rw [Array.length_toList]; exact h.1) fun j v hv => h.2 j v (by rw [← Array.getElem?_toList]; exact hv))
theorem cr_listR (hc : X.calm = true) : CallR X (.type "list") rListR := by
  intro pins s σ H vs us Q I r h
  obtain ⟨p, lo, hi, rfl, hp, h1, h2, h3, h4, q⟩ := h
  obtain rfl := Vals.ref1 r
  obtain ⟨t, u, v, hr⟩ := (show ObjOk X.prog X.w H s.heap p (.rng lo hi) from I.hok p _ hp)
  have hn : (hi - lo).toNat ≤ 2000 := by omega
  refine call_list_range (n := (hi - lo).toNat) (I.ok.hd hc) hr (small_one (by omega) (by omega) (by omega) (by omega)) (by rw [rangeSize_one]; split <;> omega) (Nat.le_trans hn (by decide)) fun h' tk acc c hk hD hI => ?_
  · exact ⟨.ref s.heap.objs.size, _, I.laid (t' := tk) hk (Nat.le_refl _) (show ObjOk X.prog X.w _ h' _ (.lst _) from ⟨by rw [List.length_map, List.length_map, List.length_range]; exact Nat.le_trans hn (show 2000 ≤ sizeLine by decide), acc.toList, c, items_vals hI, by simpa using hD⟩), rfl, q _ (I.hok.fresh (Nat.le_refl _))⟩
end
end KP
set_option maxRecDepth 100000
set_option maxHeartbeats 4000000
/-! A graph in the heap; is_content, is_numbered, the nodes behind a node. -/
namespace KP
open PySem PySem.Spec PyProof.Rows L2 KT
open GR (Arr upto succ)
def grf (n : Nat) (t : Addr) : List (Str × V) := [("size", .int (n : Int)), ("arrows", .ref t)]
theorem grf_1 (n : Nat) (t : Addr) : (grf n t).lookup ("size" : Str) = some (.int (n : Int)) := by simp [grf, List.lookup]
theorem grf_2 (n : Nat) (t : Addr) : (grf n t).lookup ("arrows" : Str) = some (.ref t) := by
  have h : (("arrows" : Str) == ("size" : Str)) = false := by decide +kernel
  simp [grf, List.lookup, h]
theorem grf_no (n : Nat) (t : Addr) {m : Str} (h1 : (m == ("size" : Str)) = false) (h2 : (m == ("arrows" : Str)) = false) : (grf n t).lookup m = none := by
  simp [grf, List.lookup, h1, h2]
theorem gput1 (n : Nat) : putF "size" (.int (n : Int)) [] = ([("size", .int (n : Int))] : List (Str × V)) := rfl
theorem gput2 (n : Nat) (t : Addr) : putF "arrows" (.ref t) ([("size", .int (n : Int))] : List (Str × V)) = grf n t := by
  have h : ¬ (("size" : Str) = "arrows") := by decide +kernel
  show (if ("size" : Str) = "arrows" then _ else _) = _
  rw [if_neg h]
  rfl
/-- at x stands a graph of n nodes with the arrows A -/
def GrAt (C : Addr) (H : Hp) (x : Addr) (n : Nat) (A : List (Int × Int)) : Prop :=
  ∃ (dx t : Addr) (L : List (V × (Int × Int))), H x = some (.ins C dx (grf n t)) ∧ PsT H t A L ∧ Arr n A ∧ A.length ≤ 60 ∧ n ≤ 60
theorem GrAt.same {C : Addr} {H H' : Hp} {x : Addr} {n : Nat} {A} (h : GrAt C H x n A) (s : Same H H') : GrAt C H' x n A := by
  obtain ⟨dx, t, L, h1, h2, h3⟩ := h
  exact ⟨dx, t, L, s _ _ h1, h2.same s, h3⟩
/-- what is asked of the class -/
structure GrC (K : PySem.W.Frag) (mg : Str → Option Value) (C : Addr) : Prop where
  cl : Cls K C
  n1 : NoAttr K C "size"
  n2 : NoAttr K C "arrows"
  mgC : mg "Graph" = some (.ref C)
section
variable {P : Program} {w : World} {K : PySem.W.Frag} {mg : Str → Option Value} {base : Heap}
theorem tyInt {H : Hp} (i : Int) : TyX K H (.int i) (.type "int") := .base (by constructor)
def spIsContent : Sp := fun vs H Q _ => ∃ i : Int, vs = [.int i] ∧ Q (.bl true) H
theorem ok_is_content {f : Addr} {fd : FuncData} (F : Fun K "is_content" "is_content" sIsContent f fd) (B : Blt mg) : FnOk P w K mg base CX0 1 f fd ["value"] spIsContent := by
  refine F.ok scIsContent (fun vs H Q E h => ?_) (fun cdv A outer s H vs Q E hr h => ?_)
  · obtain ⟨i, rfl, _⟩ := h
    rfl
  · obtain ⟨i, rfl, k⟩ := h
    refine ⟨_, pss_cons (ps_if (pt_cmpR op_isN (pv 0) pe_non (nomark _)) (pss_one (ps_ret pe_bl)) pss_nil)
      (pss_one (ps_ret (pe_and (pe_callB call_isi (by rfl) B.isinstance (by decide +kernel) (pa_cons (pv 0) (pa_cons (pe_bltn (v := .ty "int") (by rfl) B.int (by decide +kernel) rfl) pa_nil)))
        (pe_one (pe_not (pe_callB call_isi (by rfl) B.isinstance (by decide +kernel) (pa_cons (pv 0) (pa_cons (pe_bltn (v := .ty "bool") (by rfl) B.bool (by decide +kernel) rfl) pa_nil)))))))), ?_⟩
    refine ⟨_, rfl, rfl, _, rfl, iteF ?_⟩
    refine ⟨_, rfl, _, _, _, _, _, rfl, .ty _, tyInt i, kit_ty (r := true) (by decide +kernel), _, rfl, iteT ?_⟩
    exact ⟨_, rfl, _, _, _, _, _, rfl, .ty _, tyInt i, kit_ty (r := false) (by decide +kernel), _, rfl, k⟩
def spIsNum : Sp := fun vs H Q _ => ∃ i lo hi : Int, vs = [.int i, .int lo, .int hi] ∧ Q (.bl (decide (lo ≤ i ∧ i ≤ hi))) H
theorem ok_is_num {f fc : Addr} {fd fdc : FuncData} (F : Fun K "is_numbered" "is_numbered" sIsNum f fd) (B : Blt mg) (GC : FnOk P w K mg base CX0 1 fc fdc ["value"] spIsContent) (mC : mg "is_content" = some (.ref fc)) (kC : PySem.W.keepIn K (.ref fc) = true) (bC : Binds K fdc ["value"] []) :
    FnOk P w K mg base CX0 2 f fd ["value", "low", "high"] spIsNum := by
  refine F.ok scIsNum (fun vs H Q E h => ?_) (fun cdv A outer s H vs Q E hr h => ?_)
  · obtain ⟨_, _, _, rfl, _⟩ := h
    rfl
  · obtain ⟨i, lo, hi, rfl, k⟩ := h
    refine ⟨_, pss_one (ps_ret (pe_and (pe_call GC hr (by rfl) mC kC bC .nil pass0 (pa_cons (pv 0) pa_nil)) (pe_and (pe_cmpR op_notN (pv 0) pe_non (nomark _)) (pe_one (pe_chain op_le op_le (pv 1) (pv 0) (pv 2)))))), ?_⟩
    refine ⟨_, rfl, i, rfl, _, rfl, iteT ?_⟩
    refine ⟨_, rfl, rfl, _, rfl, iteT ?_⟩
    refine ⟨_, rfl, _, rfl, _, _, rfl, rfl, _, rfl, ?_⟩
    by_cases c : lo ≤ i
    · rw [decide_eq_true c]
      refine iteT ⟨_, rfl, _, _, rfl, rfl, ?_⟩
      show Q (.bl (decide (i ≤ hi))) H
      rw [show decide (i ≤ hi) = decide (lo ≤ i ∧ i ≤ hi) from decide_eq_decide.mpr ⟨fun z => ⟨c, z⟩, fun z => z.2⟩]
      exact k
    · rw [decide_eq_false c]
      refine iteF ?_
      rw [show decide (lo ≤ i ∧ i ≤ hi) = false from decide_eq_false fun z => c z.1] at k
      exact k
/-! the nodes to which arrows lead -/
theorem succ_take {A : List (Int × Int)} {i : Nat} {a : Int × Int} (h : A[i]? = some a) (u : Int) : succ (A.take (i + 1)) u = succ (A.take i) u ++ (if a.1 = u then [a.2] else []) := by
  unfold succ
  rw [List.take_add_one, h, List.filter_append, List.map_append]
  congr 1
  by_cases c : a.1 = u
  · simp [c]
  · simp [c]
theorem succ_len (A : List (Int × Int)) (u : Int) : (succ A u).length ≤ A.length := by
  unfold succ
  rw [List.length_map]
  exact List.length_filter_le _ _
def spFollow (C : Addr) : Sp := fun vs H Q _ => ∃ (x : Addr) (n : Nat) (A : List (Int × Int)) (u : Int), vs = [.ref x, .int u] ∧ GrAt C H x n A ∧ ∀ l H', Same H H' → H l = none → H' l = some (.lst ((succ A u).map V.int)) → Q (.ref l) H'
theorem ok_follow {C f : Addr} {fd : FuncData} (F : Fun K "_following" "Graph._following" sFollow f fd) (G : GrC K mg C) : FnOk P w K mg base CX0 1 f fd ["self", "node"] (spFollow C) := by
  refine F.ok scFollow (fun vs H Q E h => ?_) (fun cdv A outer s H vs Q E hr h => ?_)
  · obtain ⟨_, _, _, _, rfl, _⟩ := h
    rfl
  · obtain ⟨x, n, As, u, rfl, ⟨dx, t, L, hx, hT, ar, la, ln⟩, q⟩ := h
    refine ⟨_, pss_one (ps_ret (pe_lc (own := [("start", 2), ("goal", 3)]) (g := gTup K 2 (gCons (gName 2) (gCons (gName 3) gNil))) rfl scFollow.nd (pi_tup (pe_fld (pv 0) rfl))
        (blkOk_by (N := ["self", "node", "start", "goal"]) (sc := defScope sFollow) (by decide +kernel))
        (fun _ _ _ _ _ => pg_tup rfl (pgs_cons (pg_name (i := 2) scFollow.nd rfl (.inl rfl)) (pgs_cons (pg_name (i := 3) scFollow.nd rfl (.inl rfl)) pgs_nil)))
        (fun _ _ _ _ _ => pts_one (pt_cmpR op_eq (pv 2) (pv 1) (nomark _))) (fun _ _ _ _ _ => pv 3))), ?_⟩
    refine ⟨_, rfl, x, C, dx, _, _, rfl, hx, G.cl, G.n2, grf_2 _ _, t, rfl, ⟨_, SqT.of hT.at_⟩, fun D nD => lc_tup (K := K) (a := t) (xs := L.map (·.1)) (fun i H2 => But D (upd H D (.lst [])) H2 ∧ H2 D = some (.lst ((succ ((L.take i).map (·.2)) u).map V.int)))
      ⟨But.refl, upd_same⟩ (fun i H2 _ hb => SqT.of ((But.new hb.1 rfl nD) _ _ hT.at_)) ?_ ?_⟩
    · rintro i v H2 hi ⟨hb, hD⟩
      obtain ⟨⟨a, b⟩, hp⟩ := at_map hi
      have s2 : Same H H2 := But.new hb rfl nD
      obtain ⟨e, he', he⟩ := (hT.all _ (List.mem_of_getElem? hp)).same s2
      have he' : v = .ref e := he'
      subst he'
      have hil : i < L.length := (List.getElem?_eq_some_iff.mp hp).1
      have lL : L.length ≤ 60 := by have := congrArg List.length hT.eq; rw [List.length_map] at this; omega
      have st : succ ((L.take (i + 1)).map (·.2)) u = succ ((L.take i).map (·.2)) u ++ (if a = u then [b] else []) := by
        have := succ_take (A := L.map (·.2)) (i := i) (a := (a, b)) (by rw [List.getElem?_map, hp]; rfl) u
        rw [← List.map_take, ← List.map_take] at this
        exact this
      refine ⟨e, _, rfl, SqT.of he, rfl, _, _, rfl, _, _, rfl, rfl, ?_⟩
      refine ⟨rfl, _, rfl, _, rfl, rfl, _, rfl, ?_⟩
      by_cases c : a = u
      · subst c
        rw [show decide (V.int a = V.int a) = true from decide_eq_true rfl]
        rw [if_pos rfl] at st
        refine iteT ⟨_, rfl, _, hD, small1000 (by rw [List.length_map]; have := succ_len ((L.take i).map (·.2)) a; rw [List.length_map, List.length_take] at this; omega), hb.trans But.upd, ?_⟩
        rw [upd_same, st, List.map_append]
        rfl
      · rw [show decide (V.int a = V.int u) = false from decide_eq_false fun z => c (by injection z)]
        rw [if_neg c, List.append_nil] at st
        refine iteF ⟨hb, ?_⟩
        rw [st]
        exact hD
    · rintro H2 ⟨hb, hD⟩
      rw [List.length_map, List.take_length, hT.eq] at hD
      exact q D H2 (But.new hb rfl nD) nD hD
end
end KP
set_option maxRecDepth 100000
set_option maxHeartbeats 4000000
/-! The nodes that can stand next; the least order. -/
namespace KP
open PySem PySem.Spec PyProof.Rows L2 KT
open GR (Arr upto succ nexts greedy)
theorem in_ints : ∀ (ns : List Int) (x : Int), inV (.int x) (ns.map V.int) = decide (x ∈ ns)
  | [], x => by simp [inV]
  | n :: ns, x => by
    have ih := in_ints ns x
    unfold inV at ih ⊢
    rw [List.map_cons, List.any_cons, ih]
    by_cases c : n = x
    · subst c
      rw [decide_eq_true (List.mem_cons_self)]
      have e : eqV (.int n) (.int n) = true := by simp [eqV]
      rw [e, Bool.true_or]
    · have e : eqV (.int n) (.int x) = false := by simp [eqV, c]
      rw [e, Bool.false_or]
      refine decide_eq_decide.mpr ?_
      rw [List.mem_cons]
      exact ⟨.inr, fun h => h.elim (fun z => absurd z.symm c) id⟩
theorem flat_int : ∀ ns : List Int, (ns.map V.int).all flatV = true
  | [] => rfl
  | o :: ns => by
    rw [List.map_cons, List.all_cons, flat_int ns]
    rfl
theorem same_updN {H H1 : Hp} {a : Addr} {o : HO} (s : Same H H1) (n : H a = none) : Same H (upd H1 a o) := fun b u e => by rw [upd_ne (ne_of_none e n)]; exact s b u e
theorem filt_take {α : Type} {A : List α} {f : α → Bool} {i : Nat} {a : α} (h : A[i]? = some a) : (A.take (i + 1)).filter f = (A.take i).filter f ++ (if f a = true then [a] else []) := by
  rw [List.take_add_one, h, List.filter_append]
  congr 1
  by_cases c : f a = true
  · simp [c]
  · simp [c]
theorem upto_at {n i : Nat} (h : i < n) : (upto n)[i]? = some ((1 : Int) + (i : Nat)) := by
  unfold upto
  rw [List.getElem?_map, List.getElem?_range h]
  show some (((i + 1 : Nat) : Int)) = _
  congr 1
  omega
theorem filt_len {α : Type} {A : List α} {f : α → Bool} {i : Nat} : ((A.take i).filter f).length ≤ A.length :=
  Nat.le_trans (List.length_filter_le _ _) (by rw [List.length_take]; omega)
/-- goals whose starts are not placed -/
def wl (A : List (Int × Int)) (p : List Int) : List Int := (A.filter fun a => decide (a.1 ∉ p)).map (·.2)
theorem wl_take {A : List (Int × Int)} {i : Nat} {a : Int × Int} (h : A[i]? = some a) (p : List Int) : wl (A.take (i + 1)) p = wl (A.take i) p ++ (if a.1 ∉ p then [a.2] else []) := by
  unfold wl
  rw [filt_take h, List.map_append]
  congr 1
  by_cases c : a.1 ∈ p
  · simp [c]
  · simp [c]
theorem wl_len (A : List (Int × Int)) (p : List Int) : (wl A p).length ≤ A.length := by
  unfold wl
  rw [List.length_map]
  exact List.length_filter_le _ _
theorem not_dec (q : Prop) [Decidable q] : (!decide q) = decide (¬ q) := by by_cases c : q <;> simp [c]
section
variable {P : Program} {w : World} {K : PySem.W.Frag} {mg : Str → Option Value} {base : Heap}
def spNext (C : Addr) : Sp := fun vs H Q _ => ∃ (x : Addr) (n : Nat) (A : List (Int × Int)) (p : Addr) (ns : List Int), vs = [.ref x, .ref p] ∧ GrAt C H x n A ∧ H p = some (.lst (ns.map V.int)) ∧
  ∀ l H', Same H H' → H l = none → H' l = some (.lst ((nexts n A ns).map V.int)) → Q (.ref l) H'
abbrev nN : List Str := ["graph", "placed", "waiting", "start", "goal", "node"]
theorem ok_next {C f : Addr} {fd : FuncData} (F : Fun K "next_nodes" "next_nodes" sNext f fd) (B : Blt mg) (G : GrC K mg C) : FnOk P w K mg base CX0 1 f fd ["graph", "placed"] (spNext C) := by
  refine F.ok scNext (fun vs H Q E h => ?_) (fun cdv A outer s H vs Q E hr h => ?_)
  · obtain ⟨_, _, _, _, _, rfl, _⟩ := h
    rfl
  · obtain ⟨x, n, As, p, ns, rfl, ⟨dx, t, L, hx, hT, ar, la, ln⟩, hp, q⟩ := h
    have notin : OpR ((cxOf CX0 P w K mg base nN "next_nodes" (defScope sNext) f cdv A outer s H E).nox) (compareOp .NotIn) (rIn K true) := op_notIn_seq
    refine ⟨_, pss_cons (ps_set (i := 2) scNext.nd rfl (.inr rfl) (pe_lc (own := [("start", 3), ("goal", 4)]) (g := gTup K 2 (gCons (gName 3) (gCons (gName 4) gNil))) rfl scNext.nd (pi_tup (pe_fld (pv 0) rfl))
        (blkOk_by (N := nN) (sc := defScope sNext) (by decide +kernel))
        (fun _ _ _ _ _ => pg_tup rfl (pgs_cons (pg_name (i := 3) scNext.nd rfl (.inl rfl)) (pgs_cons (pg_name (i := 4) scNext.nd rfl (.inl rfl)) pgs_nil)))
        (fun _ _ _ _ _ => pts_one (pt_cmpR (show OpR _ _ (rIn K true) from op_notIn_seq) (pv 3) (pv 1) rfl)) (fun _ _ _ _ _ => pv 4)))
      (pss_one (ps_ret (pe_lc (own := [("node", 5)]) (g := gName 5) rfl scNext.nd (pi_range2 (by rfl) B.range (pa_cons pe_int (pa_cons (pe_op op_add (pe_fld (pv 0) rfl) pe_int) pa_nil)))
        (blkOk_by (N := nN) (sc := defScope sNext) (by decide +kernel))
        (fun _ _ _ _ _ => pg_name (i := 5) scNext.nd rfl (.inl rfl))
        (fun _ _ _ _ _ => pts_one (PW.pt (pw_and (pt_cmpR (show OpR _ _ (rIn K true) from op_notIn_seq) (pv 5) (pv 1) rfl) (pw_and1 (pt_cmpR (show OpR _ _ (rIn K true) from op_notIn_seq) (pv 5) (pv 2) rfl))))) (fun _ _ _ _ _ => pv 5)))), ?_⟩
    refine ⟨_, rfl, x, C, dx, _, _, rfl, hx, G.cl, G.n2, grf_2 _ _, t, rfl, ⟨_, SqT.of hT.at_⟩, fun D nD => lc_tup (K := K) (a := t) (xs := L.map (·.1)) (fun i H2 => But D (upd H D (.lst [])) H2 ∧ H2 D = some (.lst ((wl ((L.take i).map (·.2)) ns).map V.int)))
      ⟨But.refl, upd_same⟩ (fun i H2 _ hb => SqT.of ((But.new hb.1 rfl nD) _ _ hT.at_)) ?_ ?_⟩
    · rintro i v H2 hi ⟨hb, hD⟩
      obtain ⟨⟨a, b⟩, hq⟩ := at_map hi
      have s2 : Same H H2 := But.new hb rfl nD
      obtain ⟨e, he', he⟩ := (hT.all _ (List.mem_of_getElem? hq)).same s2
      have he' : v = .ref e := he'
      subst he'
      have hil : i < L.length := (List.getElem?_eq_some_iff.mp hq).1
      have lL : L.length ≤ 60 := by have := congrArg List.length hT.eq; rw [List.length_map] at this; omega
      have st : wl ((L.take (i + 1)).map (·.2)) ns = wl ((L.take i).map (·.2)) ns ++ (if a ∉ ns then [b] else []) := by
        have := wl_take (A := L.map (·.2)) (i := i) (a := (a, b)) (by rw [List.getElem?_map, hq]; rfl) ns
        rw [← List.map_take, ← List.map_take] at this
        exact this
      refine ⟨e, _, rfl, SqT.of he, rfl, _, _, rfl, _, _, rfl, rfl, ?_⟩
      refine ⟨rfl, _, rfl, _, rfl, p, _, rfl, .inl (SqL.of (s2 _ _ hp)), rfl, flat_int _, ?_⟩
      rw [if_pos rfl, in_ints, not_dec]
      refine ⟨_, rfl, ?_⟩
      by_cases c : a ∈ ns
      · rw [if_neg (not_not_intro c), List.append_nil] at st
        rw [decide_eq_false (not_not_intro c)]
        refine iteF ⟨hb, ?_⟩
        rw [st]
        exact hD
      · rw [if_pos c] at st
        rw [decide_eq_true c]
        refine iteT ⟨_, rfl, _, hD, small1000 (by rw [List.length_map]; have := wl_len ((L.take i).map (·.2)) ns; rw [List.length_map, List.length_take] at this; omega), hb.trans But.upd, ?_⟩
        rw [upd_same, st, List.map_append]
        rfl
    · rintro H2 ⟨hb, hD⟩
      rw [List.length_map, List.take_length, hT.eq] at hD
      have s2 : Same H H2 := But.new hb rfl nD
      refine ⟨_, rfl, x, C, dx, _, _, rfl, s2 _ _ hx, G.cl, G.n1, grf_1 _ _, _, _, rfl, rfl, ?_⟩
      refine ⟨1, (n : Int) + 1, rfl, ⟨by omega, by omega, by omega, by omega⟩, fun D2 nD2 => ?_⟩
      have en : ((n : Int) + 1 - 1).toNat = n := by omega
      rw [en]
      refine lc_range (lo := 1) (n := n) (fun i H3 => But D2 (upd H2 D2 (.lst [])) H3 ∧ H3 D2 = some (.lst ((((upto n).take i).filter fun e => decide (e ∉ ns) && decide (e ∉ wl As ns)).map V.int)))
        ⟨But.refl, upd_same⟩ ?_ ?_
      · rintro i H3 hi ⟨hb3, hD3⟩
        have s3 : Same H2 H3 := But.new hb3 rfl nD2
        have at_ := upto_at hi
        have st := filt_take (f := fun e => decide (e ∉ ns) && decide (e ∉ wl As ns)) at_
        have lu : ((((upto n).take i).filter fun e => decide (e ∉ ns) && decide (e ∉ wl As ns)).map V.int).length ≤ 1000 := by
          rw [List.length_map]
          have := filt_len (A := upto n) (f := fun e => decide (e ∉ ns) && decide (e ∉ wl As ns)) (i := i)
          rw [GR.upto_len] at this
          omega
        refine ⟨rfl, _, rfl, _, rfl, p, _, rfl, .inl (SqL.of (s3 _ _ (s2 _ _ hp))), rfl, flat_int _, ?_⟩
        rw [if_pos rfl, in_ints, not_dec]
        refine ⟨_, rfl, ?_⟩
        by_cases c : (1 : Int) + (i : Nat) ∈ ns
        · rw [decide_eq_false (not_not_intro c)]
          rw [if_neg (by simp [c]), List.append_nil] at st
          refine iteF (iteF ⟨hb3, ?_⟩)
          rw [st]
          exact hD3
        · rw [decide_eq_true c]
          refine iteT ⟨_, rfl, _, rfl, D, _, rfl, .inl (SqL.of (s3 _ _ hD)), rfl, flat_int _, ?_⟩
          rw [if_pos rfl, in_ints, not_dec]
          refine ⟨_, rfl, ?_⟩
          by_cases d : (1 : Int) + (i : Nat) ∈ wl As ns
          · rw [decide_eq_false (not_not_intro d)]
            rw [if_neg (by simp [d]), List.append_nil] at st
            refine iteF ⟨hb3, ?_⟩
            rw [st]
            exact hD3
          · rw [decide_eq_true d]
            rw [if_pos (by simp [c, d])] at st
            refine iteT ⟨_, rfl, _, hD3, small1000 lu, hb3.trans But.upd, ?_⟩
            rw [upd_same, st, List.map_append]
            rfl
      · rintro H3 ⟨hb3, hD3⟩
        rw [show (upto n).take n = upto n from List.take_of_length_le (by rw [GR.upto_len]; omega)] at hD3
        have s3 : Same H2 H3 := But.new hb3 rfl nD2
        exact q D2 H3 (s2.trans s3) (s2.free nD2) hD3
end
end KP
set_option maxRecDepth 100000
set_option maxHeartbeats 4000000
/-! The least order. -/
namespace KP
open PySem PySem.Spec PyProof.Rows L2 KT
open GR (Arr upto succ nexts greedy)
theorem greedy_none {n : Nat} {A : List (Int × Int)} {k : Nat} {p : List Int} (h : nexts n A p = []) : greedy n A (k + 1) p = none := by
  unfold greedy
  rw [h]
theorem greedy_cons {n : Nat} {A : List (Int × Int)} {k : Nat} {p : List Int} {e : Int} {r : List Int} (h : nexts n A p = e :: r) : greedy n A (k + 1) p = greedy n A k (p ++ [e]) := by
  rw [show greedy n A (k + 1) p = (match nexts n A p with
    | [] => none
    | e :: _ => greedy n A k (p ++ [e])) from rfl, h]
section
variable {P : Program} {w : World} {K : PySem.W.Frag} {mg : Str → Option Value} {base : Heap}
def spFirst (C : Addr) : Sp := fun vs H Q _ => ∃ (x : Addr) (n : Nat) (A : List (Int × Int)), vs = [.ref x] ∧ GrAt C H x n A ∧ (greedy n A n [] = none → ∀ H', Same H H' → Q .non H') ∧
  ∀ o, greedy n A n [] = some o → ∀ l H', Same H H' → H l = none → H' l = some (.lst (o.map V.int)) → Q (.ref l) H'
theorem ok_first {C f fn : Addr} {fd fdn : FuncData} (F : Fun K "first_order" "first_order" sFirst f fd) (B : Blt mg) (G : GrC K mg C) (nOk : FnOk P w K mg base CX0 1 fn fdn ["graph", "placed"] (spNext C)) (nM : mg "next_nodes" = some (.ref fn)) (nK : PySem.W.keepIn K (.ref fn) = true) (nB : Binds K fdn ["graph", "placed"] []) :
    FnOk P w K mg base CX0 2 f fd ["graph"] (spFirst C) := by
  refine F.ok scFirst (fun vs H Q E h => ?_) (fun cdv A outer s H vs Q E hr h => ?_)
  · obtain ⟨_, _, _, rfl, _⟩ := h
    rfl
  · obtain ⟨x, n, As, rfl, hG, q0, q1⟩ := h
    obtain ⟨dx, t, L, hx, hT, ar, la, ln⟩ := id hG
    refine ⟨_, pss_cons (ps_set (i := 1) scFirst.nd rfl (.inl rfl) (pe_lst pa_nil))
      (pss_cons (ps_for PassesOwn.never rfl (pi_range1 (by rfl) B.range (pa_cons (pe_fld (pv 0) rfl) pa_nil)) (pg_name (i := 2) scFirst.nd rfl (.inl rfl))
        (pss_cons (ps_set (i := 3) scFirst.nd rfl (.inl rfl) (pe_call nOk hr (by rfl) nM nK nB .nil pass0 (pa_cons (pv 0) (pa_cons (pv 1) pa_nil))))
        (pss_cons (ps_if (pt_not (pt_truth (pv 3) (by intro _; rfl))) (pss_one (ps_ret pe_non)) pss_nil)
        (pss_one (ps_expr (pe_bm PySem.F.plainAttrs_list PySem.F.slot_list_append PySem.F.type_list_append mt_append (pv 1) (pa_cons (pe_ix ix_list (pv 3) pe_int (fun _ _ => rfl)) pa_nil)))))))
      (pss_one (ps_ret (pv 1)))), ?_⟩
    refine ⟨by show 0 ≤ sizeLine; decide, fun p hp => ?_⟩
    have s1 : Same H (upd H p (.lst [])) := same_upd hp
    refine ⟨_, rfl, x, C, dx, _, _, rfl, s1 _ _ hx, G.cl, G.n1, grf_1 _ _, _, rfl, by omega, by omega, ?_⟩
    rw [show ((n : Int)).toNat = n by omega]
    refine for_range (lo := 0) (n := n) (fun i σ H2 => ∃ (o : List Int) (v2 v3 : Option V), σ = [some (.ref x), some (.ref p), v2, v3] ∧ Same H H2 ∧ H2 p = some (.lst (o.map V.int)) ∧ o.length = i ∧ greedy n As n [] = greedy n As (n - i) o)
      ⟨[], none, none, rfl, s1, upd_same, rfl, rfl⟩ ?_ ?_
    · rintro i σ H2 hi ⟨o, v2, v3, rfl, s2, h2, lo, eo⟩
      have en : n - i = (n - (i + 1)) + 1 := by omega
      refine ⟨_, rfl, _, rfl, x, n, As, p, o, rfl, hG.same s2, h2, fun l H3 s3 nl hl => ?_⟩
      have npl : p ≠ l := ne_of_none h2 nl
      refine ⟨_, rfl, _, .inl ⟨_, SqL.of hl, rfl⟩, ?_⟩
      cases e : nexts n As o with
      | nil =>
        rw [en, greedy_none e] at eo
        exact iteT (q0 eo _ (s2.trans s3))
      | cons a r =>
        rw [en, greedy_cons e] at eo
        rw [e] at hl
        refine iteF ⟨_, rfl, .inl ⟨rfl, _, SqL.of (s3 _ _ h2)⟩, _, rfl, l, _, _, .int a, rfl, rfl, SqL.of hl, atI_nat (j := 0) rfl, p, _, _, rfl, rfl, s3 _ _ h2, small1000 (by rw [List.length_map]; omega), ?_⟩
        refine ⟨o ++ [a], _, _, rfl, same_updN (s2.trans s3) hp, ?_, by simp [lo], eo⟩
        · rw [upd_same, List.map_append]
          rfl
    · rintro σ H2 ⟨o, v2, v3, rfl, s2, h2, lo, eo⟩
      rw [Nat.sub_self] at eo
      exact ⟨_, rfl, q1 o eo p H2 s2 hp h2⟩
end
end KP
/-! Ascending lists told by their members; arrows of a set; orders told by sorting. -/
namespace GR
theorem asc_unique {α : Type} {r : α → α → Prop} (as : ∀ a b, r a b → r b a → False) : ∀ {A B : List α}, A.Pairwise r → B.Pairwise r → (∀ x, x ∈ A ↔ x ∈ B) → A = B
  | [], [], _, _, _ => rfl
  | [], b :: B, _, _, h => absurd ((h b).mpr (by simp)) (by simp)
  | a :: A, [], _, _, h => absurd ((h a).mp (by simp)) (by simp)
  | a :: A, b :: B, hA, hB, h => by
    have hA' := List.pairwise_cons.mp hA
    have hB' := List.pairwise_cons.mp hB
    have irr : ∀ x, ¬ r x x := fun x k => as x x k k
    have e : a = b := by
      rcases List.mem_cons.mp ((h a).mp (by simp)) with e | m
      · exact e
      · rcases List.mem_cons.mp ((h b).mpr (by simp)) with e | m'
        · exact e.symm
        · exact (as a b (hA'.1 b m') (hB'.1 a m)).elim
    subst e
    congr 1
    refine asc_unique as hA'.2 hB'.2 fun x => ⟨fun m => ?_, fun m => ?_⟩
    · rcases List.mem_cons.mp ((h x).mp (by simp [m])) with e | k
      · rw [e] at m
        exact absurd (hA'.1 a m) (irr a)
      · exact k
    · rcases List.mem_cons.mp ((h x).mpr (by simp [m])) with e | k
      · rw [e] at m
        exact absurd (hB'.1 a m) (irr a)
      · exact k
def pl (a b : Int × Int) : Prop := a.1 < b.1 ∨ (a.1 = b.1 ∧ a.2 < b.2)
theorem pl_as (a b : Int × Int) (h : pl a b) (k : pl b a) : False := by
  rcases h with h | h <;> rcases k with k | k <;> omega
/-- the ascending list of what stands in a list -/
structure Srtd (A A0 : List (Int × Int)) : Prop where
  asc : A.Pairwise pl
  mem : ∀ a, a ∈ A ↔ a ∈ A0
theorem Srtd.unique {A B A0 : List (Int × Int)} (h : Srtd A A0) (k : Srtd B A0) : A = B := asc_unique pl_as h.asc k.asc fun x => (h.mem x).trans (k.mem x).symm
/-- a pair of different nodes -/
def okA (n : Nat) (a : Int × Int) : Bool := decide (1 ≤ a.1 ∧ a.1 ≤ n) && decide (1 ≤ a.2 ∧ a.2 ≤ n) && decide (a.1 ≠ a.2)
theorem okA_iff {n : Nat} {a : Int × Int} : okA n a = true ↔ a.1 ∈ upto n ∧ a.2 ∈ upto n ∧ a.1 ≠ a.2 := by
  unfold okA
  rw [Bool.and_eq_true, Bool.and_eq_true, decide_eq_true_eq, decide_eq_true_eq, decide_eq_true_eq, mem_upto, mem_upto, and_assoc]
theorem Srtd.arr {n : Nat} {A A0 : List (Int × Int)} (h : Srtd A A0) (ok : ∀ a ∈ A0, okA n a = true) : Arr n A := ⟨fun a m => okA_iff.mp (ok a ((h.mem a).mp m)), h.asc⟩
theorem Srtd.len {A A0 : List (Int × Int)} (h : Srtd A A0) : A.length ≤ A0.length :=
  nodup_len (h.asc.imp fun {a b} k e => by subst e; exact pl_as _ _ k k) fun x m => (h.mem x).mp m
theorem Arr.srtd {n : Nat} {A : List (Int × Int)} (h : Arr n A) : Srtd A A := ⟨h.asc, fun _ => Iff.rfl⟩
/-- an order of the nodes -/
def IsOrd (n : Nat) (ns : List Int) : Prop := ns.Perm (upto n)
theorem le_lt {ns : List Int} (h : ns.Pairwise (· ≤ ·)) (d : ns.Nodup) : ns.Pairwise (· < ·) := by
  have := h.and d
  exact this.imp fun k => by omega
theorem ord_iff {n : Nat} {ns ms : List Int} (pm : ms.Perm ns) (pw : ms.Pairwise (· ≤ ·)) : ms = upto n ↔ IsOrd n ns := by
  constructor
  · intro e
    rw [e] at pm
    exact pm.symm
  · intro h
    have pm2 : ms.Perm (upto n) := pm.trans h
    have d : ms.Nodup := pm2.nodup_iff.mpr (upto_nodup n)
    exact asc_unique (fun a b h k => by omega) (le_lt pw d) (upto_sorted n) fun x => pm2.mem_iff
theorem IsOrd.mem {n : Nat} {ns : List Int} (h : IsOrd n ns) {x : Int} : x ∈ ns ↔ 1 ≤ x ∧ x ≤ n := (List.Perm.mem_iff h).trans mem_upto
theorem IsOrd.nodup {n : Nat} {ns : List Int} (h : IsOrd n ns) : ns.Nodup := (List.Perm.nodup_iff h).mpr (upto_nodup n)
theorem IsOrd.len {n : Nat} {ns : List Int} (h : IsOrd n ns) : ns.length = n := (List.Perm.length_eq h).trans (upto_len n)
theorem ord_of {n : Nat} {ns : List Int} (d : ns.Nodup) (l : ns.length = n) (m : ∀ x ∈ ns, x ∈ upto n) : IsOrd n ns :=
  (List.perm_ext_iff_of_nodup d (upto_nodup n)).mpr fun x => ⟨m x, full_mem d l m x⟩
theorem levels_ord {n : Nat} {q : List Int} (h : q ∈ levels n n) : IsOrd n q := by
  rw [levels_ext] at h
  obtain ⟨r, rfl, l, d, m⟩ := (mem_ext n n [] q).mp h
  exact ord_of (by simpa using d) (by simpa using l) fun x hx => (m x (by simpa using hx)).1
/-- a list is less, place by place -/
theorem lx_lt : ∀ {a b : List Int}, lx a b → a < b
  | [], _, h => h.elim
  | _ :: _, [], h => h.elim
  | x :: a, y :: b, h => by
    rw [List.cons_lt_cons_iff]
    rcases h with h | ⟨e, h⟩
    · exact .inl h
    · exact .inr ⟨e, lx_lt h⟩
theorem le_of_not {a b : List Int} (l : a.length = b.length) (h : ¬ b < a) : le a b := by
  by_cases e : a = b
  · exact .inl e
  · rcases lx_tot l e with k | k
    · exact .inr k
    · exact absurd (lx_lt k) h
end GR
set_option maxRecDepth 100000
set_option maxHeartbeats 4000000
/-! sorted of a tuple of ints; of a list of pairs of an int and a list of ints. -/
namespace KP
open PySem PySem.Spec PyProof.Rows L2
section
variable {prog : Program} {w : World} {A : Around} {E : Value → Shared → Prop} {s : Shared}
/-- a tuple's items gathered -/
theorem gather_tup {t : Addr} {us : List Value} {W : List Value → Shared → Prop} (ht : IsTup s.heap t us.toArray) (lz : us.length ≤ sizeLine)
    (fin : W us { s with heap := (s.heap.push (seqObj "list" #[] 0)).update s.heap.objs.size (Obj.mapSeq fun a => a ++ us.toArray) }) : wpAny (model prog w) A (collect (.ref t)) W E s := by
  obtain ⟨o, at_, cls, n, dat⟩ := ht
  unfold collect
  have top : (s.heap.push (seqObj "list" #[] 0)).get? s.heap.objs.size = some (seqObj "list" #[] 0) := Heap.get?_push_size _ rfl
  have far : (s.heap.push (seqObj "list" #[] 0)).get? t = some o := Heap.get?_push_of_some _ at_
  refine wpAny_bind (wpAny_runValue (codeAny_builtin entry_proto_collect' (show wpAny _ _ (do again (.builtin "list.__iadd__" ⟨[← newList [], .ref t], []⟩)) _ _ s from
    wpAny_bind (wpAny_newList (wpAny_pure ⟨Code.quiet_builtin _ (by decide +kernel), codeAny_builtin entry_list_iadd' ?_⟩)))))
  show wpAny _ _ (Builtin.List.listExtendWith (.ref s.heap.objs.size) (.ref t) (.ref s.heap.objs.size)) _ _ { s with heap := s.heap.push (seqObj "list" #[] 0) }
  unfold Builtin.List.listExtendWith
  refine wpAny_bind (wpAny_typeOf (T := "tuple") ⟨o, far, cls⟩ ?_)
  rw [if_pos (by rw [show (Value.type "tuple" == Value.type "tuple") = true from rfl, Bool.or_true])]
  refine wpAny_bind (listItems_at far dat (wpAny_bind (listItems_at (xs := #[]) (n := 0) top rfl ?_)))
  rw [if_neg (by simp)]
  refine wpAny_bind (listUpdate_at (xs := #[]) (n := 0) top rfl (wpAny_pure ?_) (Nat.zero_le _) (by show (#[] ++ us.toArray).size ≤ sizeLine + 1; simp only [Array.size_append, List.size_toArray, List.length_nil]; omega))
  show wpAny (model prog w) A (do
      let rec' ← load s.heap.objs.size
      match rec'.data with
      | .seq items _ => pure items.toList
      | _ => unsupported "internal:collect") W E { s with heap := (s.heap.push (seqObj "list" #[] 0)).update s.heap.objs.size (Obj.mapSeq fun a => a ++ us.toArray) }
  refine wpAny_bind (wpAny_load (get?_update_seq top _) ?_)
  show wpAny _ _ (pure ((#[] : Array Value) ++ us.toArray).toList) W E _
  rw [show ((#[] : Array Value) ++ us.toArray).toList = us by simp]
  exact wpAny_pure fin
/-- sorted(t), t a tuple -/
theorem sorted_tupO {t : Addr} {us : List Value} {lt' : Value → Value → Bool} {W : Value → Shared → Prop} (O : SrtO.Swo lt') (ht : IsTup s.heap t us.toArray) (lz : us.length ≤ sizeLine)
    (can : 2 ≤ us.length → ∀ (g : Heap) (a : Addr), g.get? a = some (seqObj "list" us.toArray 0) → SrtO.SortableO prog w A.in1.in1 { s with heap := g } a us lt')
    (fin : ∀ out : List Value, SrtO.Srtd lt' out → SrtO.Stb lt' out us → W (.ref (s.heap.objs.size + 1)) { s with heap := sortedAll s.heap us out.toArray }) : wpAny (model prog w) A (call (.builtin "sorted") [.ref t]) W E s := by
  refine Calls.call_function_entry kind_sorted plain_sorted entry_sorted (args_sorted1 _) (?_ : wpAny _ _ (Builtin.«sorted» _) _ _ _)
  unfold Builtin.«sorted»
  refine wpAny_bind (m := checkCount "sorted" 1 1 _) (wpAny_pure (wpAny_bind (gather_tup ht lz (wpAny_bind (wpAny_newList ?_ lz)))))
  have two : ((s.heap.push (seqObj "list" #[] 0)).update s.heap.objs.size (Obj.mapSeq fun a => a ++ us.toArray)).objs.size = s.heap.objs.size + 1 := (Heap.size_update _ _ _).trans (size_push' _ _)
  generalize hg : ((s.heap.push (seqObj "list" #[] 0)).update s.heap.objs.size (Obj.mapSeq fun a => a ++ us.toArray)) = g at two
  have at2 : (g.push (seqObj "list" us.toArray 0)).get? (s.heap.objs.size + 1) = some (seqObj "list" us.toArray 0) := two ▸ Heap.get?_push_size g rfl
  show wpAny _ _ _ _ _ { s with heap := g.push (seqObj "list" us.toArray 0) }
  rw [two]
  refine wpAny_bind (wpAny_holding (wpAny_call_entry slot_list_sort ⟨_, at2, rfl⟩ entry_list_sort (SrtO.list_sort_ord O at2 lz (fun l2 => can l2 _ _ at2) fun out o1 o2 => ⟨_, rfl, wpAny_pure ⟨_, rfl, ?_⟩⟩) (args_list_sort _)))
  have q := fin out o1 o2
  unfold sortedAll at q
  rw [hg] at q
  exact q
end
section
variable {X : Cx}
def rSortedTI (K : PySem.W.Frag) : List V → Hp → VK → Prop := fun vs H Q => ∃ (a : Addr) (ns : List Int), vs = [V.ref a] ∧ SqT K H a (ns.map V.int) ∧
  ∀ (ms : List Int) (p : Addr), ms.Perm ns → ms.Pairwise (· ≤ ·) → H p = none → Q (.ref p) (upd H p (.lst (ms.map V.int)))
theorem cr_sortedTI : CallR X (.builtin "sorted") (rSortedTI X.K) := by
  intro pins s σ H vs us Q I r h
  obtain ⟨a, ns, rfl, ht, q⟩ := h
  obtain ⟨its, rv, tup, lz⟩ := I.tuple ht
  obtain rfl := Vals.ref1 r
  have hin := rv.ints
  refine sorted_tupO SrtO.swo_int tup (by rw [← rv.length]; exact lz) (fun l2 _ _ _ => SrtO.ints_sortable hin l2) fun out o1 o2 => ?_
  obtain ⟨i1, i2, i3⟩ := SrtO.ints_out hin o1 o2
  obtain ⟨ep, at_⟩ := PyProof.Rows.sortedAll_at s.heap its out.toArray
  have few : ((out.map SrtO.iv).map V.int).length ≤ sizeLine := by
    rw [List.length_map] at lz
    rw [List.length_map, i2.length_eq]; exact lz
  refine ⟨.ref _, upd H (s.heap.objs.size + 1) (.lst ((out.map SrtO.iv).map V.int)), I.laid (t' := s.toks) (fun _ _ z => PyProof.Rows.sortedAll_old z) (Nat.le_succ _) ⟨few, out, ep, vals_of_ints i1, at_⟩, rfl, q _ _ i2 i3 (I.hok.fresh (Nat.le_succ _))⟩
/-- a pair of an int and a list of ints -/
def IsIL (H : Hp) (v : V) (b : Int × List Int) : Prop := ∃ t l, v = .ref t ∧ H t = some (.tup [.int b.1, .ref l]) ∧ H l = some (.lst (b.2.map V.int))
theorem IsIL.same {H H' : Hp} {v : V} {b : Int × List Int} (h : IsIL H v b) (s : ∀ c o, H c = some o → H' c = some o) : IsIL H' v b := let ⟨t, l, e, h1, h2⟩ := h; ⟨t, l, e, s _ _ h1, s _ _ h2⟩
def dIL (b : Int × List Int) : PyData := .tuple [.int b.1, .list (b.2.map PyData.int)]
theorem dp_ns {K : PySem.W.Frag} {H : Hp} : ∀ ns : List Int, DpAll K H (ns.map V.int) (ns.map PyData.int)
  | [] => .nil
  | n :: ns => .cons (.int n) (dp_ns ns)
theorem IsIL.dp {K : PySem.W.Frag} {H : Hp} {v : V} {b : Int × List Int} (h : IsIL H v b) : Dp K H v (dIL b) := by
  obtain ⟨t, l, rfl, h1, h2⟩ := h
  exact .tup (SqT.of h1) (.cons (.int _) (.cons (.lst (SqL.of h2) (dp_ns _)) .nil))
theorem dIL_like (b b' : Int × List Int) : PySem.W.alike (dIL b) (dIL b') = true := by
  simp [dIL, PySem.W.alike, PySem.W.alikeAll, PySem.W.alike_ints]
theorem dIL_depth (b : Int × List Int) : (dIL b).depth ≤ 2 := by
  simp [dIL, PyData.depth, PyData.depthAll, PySem.W.depth_ints]
theorem il_inj {a b : List Int} (h : PyData.eqv (.list (a.map PyData.int)) (.list (b.map PyData.int)) = true) : a = b := by
  simp only [PyData.eqv] at h
  induction a generalizing b with
  | nil => cases b with
    | nil => rfl
    | cons y b => simp [PyData.eqvAll] at h
  | cons x a ih => cases b with
    | nil => simp [PyData.eqvAll] at h
    | cons y b =>
      simp only [List.map_cons, PyData.eqvAll, Bool.and_eq_true, PyData.eqv, beq_iff_eq] at h
      rw [h.1, ih h.2]
def leIL (b c : Int × List Int) : Prop := b.1 < c.1 ∨ (b.1 = c.1 ∧ ¬ c.2 < b.2)
theorem dIL_le {b c : Int × List Int} (h : PySem.W.dataLe false dIL b c = true) : leIL b c := by
  rw [PySem.W.dataLe_eq] at h
  have h' : PySem.W.dataLt (dIL c) (dIL b) = false := by simpa using h
  unfold dIL at h'
  rw [PySem.W.dataLt_pair (by simp [PySem.W.alike]) (by simp [PySem.W.alike, PySem.W.alike_ints])] at h'
  by_cases k : c.1 = b.1
  · have e : PyData.eqv (.int c.1) (.int b.1) = true := by simp [PyData.eqv, k]
    rw [if_pos e] at h'
    refine .inr ⟨k.symm, fun lt => ?_⟩
    have ne : c.2 ≠ b.2 := fun z => by rw [z] at lt; exact List.lt_irrefl _ lt
    by_cases k2 : PyData.eqv (.list (c.2.map PyData.int)) (.list (b.2.map PyData.int)) = true
    · exact ne (il_inj k2)
    · rw [if_neg k2, PySem.W.dataLt_list] at h'
      have h2 : PySem.W.rowLt (c.2.map .int) (b.2.map .int) = false := h'
      rw [PySem.W.dataLt_ints] at h2
      exact of_decide_eq_false h2 lt
  · have e : ¬ PyData.eqv (.int c.1) (.int b.1) = true := by simp [PyData.eqv, k]
    rw [if_neg e, PySem.W.dataLt_int] at h'
    have := of_decide_eq_false h'
    exact .inl (by omega)
def rSortIL (K : PySem.W.Frag) : List V → Hp → VK → Prop := fun vs H Q => ∃ (a : Addr) (L : List (V × (Int × List Int))), vs = [V.ref a] ∧ SqL K H a (L.map (·.1)) ∧ (∀ x ∈ L, IsIL H x.1 x.2) ∧
  ∀ (M : List (V × (Int × List Int))) (p : Addr), M.Perm L → M.Pairwise (fun x y => leIL x.2 y.2) → H p = none → Q (.ref p) (upd H p (.lst (M.map (·.1))))
theorem each_of {L : List (V × (Int × List Int))} {us : List Value} {R : Value → V × (Int × List Int) → Prop} (r : Vals (L.map (·.1)) us) (f : ∀ x ∈ L, ∀ u, RelV x.1 u → R u x) : PySem.W.EachIs R us L := by
  induction L generalizing us with
  | nil => cases r; exact .nil
  | cons x L ih =>
    cases r with
    | cons h t => exact .cons (f x (by simp) _ h) (ih t fun y hy => f y (by simp [hy]))
theorem of_each {M : List (V × (Int × List Int))} {us : List Value} (h : PySem.W.EachIs (fun u (x : V × (Int × List Int)) => RelV x.1 u) us M) : Vals (M.map (·.1)) us := by
  induction h with
  | nil => exact .nil
  | cons a _ ih => exact .cons a ih
theorem cr_sortIL (hu : X.A.units + 64 < cLine) : CallR X (.builtin "sorted") (rSortIL X.K) := by
  intro pins s σ H vs us Q I r h
  obtain ⟨a, L, rfl, hs, hx, q⟩ := h
  obtain ⟨its, rv, hl, lz⟩ := I.list hs
  obtain rfl := Vals.ref1 r
  have lz' : L.length ≤ sizeLine := by rw [← List.length_map (f := fun x : V × (Int × List Int) => x.1)]; exact lz
  refine PySem.W.sorted_data (enc := fun x : V × (Int × List Int) => dIL x.2) hl.isList (each_of rv fun x _ u z => z) (each_of rv fun x m u z => Dp.reads I _ _ _ (hx x m).dp z)
    (PySem.W.AllAlike.of fun x y => dIL_like _ _) (PySem.W.Sortable.tuples fun x => ⟨_, _, rfl⟩) lz' (fun x _ => by have := dIL_depth x.2; show X.A.units + 2 + (dIL x.2).depth < cLine; omega) fun out _ ho => ?_
  obtain ⟨ep, at_⟩ := PyProof.Rows.sortedAll_at s.heap its out.toArray
  have pm := List.mergeSort_perm L (PySem.W.dataLe false fun x : V × (Int × List Int) => dIL x.2)
  have tot := PySem.W.sortLe_total (PyProof.Rows.listOrd PyProof.Rows.itemOrd) false fun x : V × (Int × List Int) => PySem.W.keyToks (dIL x.2)
  have pw := PySem.W.sort_pairwise (le := PySem.W.dataLe false fun x : V × (Int × List Int) => dIL x.2) tot L
  have few : ((L.mergeSort (PySem.W.dataLe false fun x : V × (Int × List Int) => dIL x.2)).map (·.1)).length ≤ sizeLine := by
    rw [List.length_map, pm.length_eq]; exact lz'
  refine ⟨.ref _, upd H (s.heap.objs.size + 1) (.lst ((L.mergeSort (PySem.W.dataLe false fun x : V × (Int × List Int) => dIL x.2)).map (·.1))), I.laid (t' := s.toks) (fun _ _ z => PyProof.Rows.sortedAll_old z) (Nat.le_succ _)
    ⟨few, out, ep, of_each ho, at_⟩, rfl, q _ _ pm (pw.imp fun h => dIL_le h) (I.hok.fresh (Nat.le_succ _))⟩
end
end KP
set_option maxRecDepth 100000
set_option maxHeartbeats 4000000
/-! enumerate of a tuple. -/
namespace KP
open PySem PySem.Spec PyProof.Rows L2
theorem meets_enum_one {v : Value} {o : Obj} {H : Heap → Prop} (B : Begins v o H) :
    Meets (Builtin.«enumerate.__new__» ⟨[.type "enumerate", v], []⟩) (fun _ R s => H s.heap ∧
      R (.ok (.ret (.ref (s.heap.push o).objs.size))) { s with heap := (s.heap.push o).push { cls := .type "enumerate", data := .fields #[.none, .bool false, .ref s.heap.objs.size, rawInt 0, .none, .none] } }) :=
  .of_wp fun prog w A R s h => by
    obtain ⟨hp, g, d, tk, os⟩ := s; obtain ⟨h1, h⟩ := h
    have hsub := sub_enumerate
    have q1 : ∀ {A' : Around} {E : Value → Shared → Prop} {Q : Value → Shared → Prop}, Q (.ref hp.objs.size) ⟨hp.push o, g, d, tk, os⟩ → wpAny (model prog w) A' (pyIter v) Q E ⟨hp, g, d, tk, os⟩ :=
      fun q => B.iter prog w _ _ ⟨hp, g, d, tk, os⟩ _ h1 q
    wp_walk using q1
    refine wpAny_stack_any fun st => wpAny_pure ?_
    split
    · rename_i c _ _ _ _ _
      cases (c == Value.type "enumerate")
      · wp_walk using q1
        exact ⟨_, rfl, h⟩
      · wp_walk using q1
        exact ⟨_, rfl, h⟩
    · wp_walk using q1
      exact ⟨_, rfl, h⟩
section
variable {prog : Program} {w : World} {A : Around} {E : Value → Shared → Prop} {s : Shared}
theorem enum_one {v : Value} {o : Obj} {H : Heap → Prop} {Q : Value → Shared → Prop} (B : Begins v o H) (h1 : H s.heap)
    (h : ∀ h', IsEnum h' (s.heap.objs.size + 1) s.heap.objs.size 0 .none → h'.get? s.heap.objs.size = some o → h'.objs.size = s.heap.objs.size + 2 → (∀ b u, s.heap.get? b = some u → h'.get? b = some u) → Q (.ref (s.heap.objs.size + 1)) { s with heap := h' }) :
    wpAny (model prog w) A (call (.type "enumerate") [v]) Q E s := by
  refine callType_new F.called_enumerate (by decide) (F.typeCall_enumerate_1 _) (F.newCall_enumerate_1 _) (fun obj => F.args_object_init_2 obj _) F.entry_enumerate_new (meets_enum_one B) ⟨h1, ?_⟩
  have hz : (s.heap.push o).objs.size = s.heap.objs.size + 1 := Heap.size_push ..
  show _ ∧ _
  rw [hz]
  have he : IsEnum ((s.heap.push o).push { cls := .type "enumerate", data := .fields #[.none, .bool false, .ref s.heap.objs.size, rawInt 0, .none, .none] }) (s.heap.objs.size + 1) s.heap.objs.size 0 .none := by
    have z := Heap.get?_push_size (s.heap.push o) (o := { cls := .type "enumerate", data := .fields #[.none, .bool false, .ref s.heap.objs.size, rawInt 0, .none, .none] }) rfl
    rw [hz] at z
    exact z
  exact ⟨⟨_, he, rfl⟩, h _ he (Heap.get?_push_of_some _ (Heap.get?_push_size _ B.free)) (by rw [Heap.size_push, hz]) fun b u x => Heap.get?_push_of_some _ (Heap.get?_push_of_some _ x)⟩
end
/-- the tuple at a, each item in a new pair -/
def IteT (K : PySem.W.Frag) (a : Addr) : It :=
  ⟨fun i H => ∃ (xs : List V) (x : V), SqT K H a xs ∧ xs[i]? = some x, fun i H v H' => ∃ T x, v = .ref T ∧ H T = none ∧ H' = upd H T (.tup [.int (i : Nat), x]) ∧ ∀ xs, SqT K H a xs → xs[i]? = some x, fun i H => ∃ xs : List V, SqT K H a xs ∧ xs.length ≤ i⟩
theorem walk_enumT {K : PySem.W.Frag} {a : Addr} {xs : List V} : Walk (IteT K a) xs.length (fun H => SqT K H a xs) (YPair (fun i => some (.int (i : Nat))) (fun i => xs[i]?)) := by
  refine ⟨fun i _ hi q => ⟨xs, xs[i], q, by simp [hi]⟩, fun _ q => ⟨xs, q, Nat.le_refl _⟩, fun i H v H' _ q y => ?_⟩
  obtain ⟨T, x, h1, h2, h3, h4⟩ := y
  exact ⟨T, .int (i : Nat), x, h1, h2, h3, rfl, h4 xs q⟩
theorem turn_enumT {P : Program} {w : World} {K : PySem.W.Frag} {elts : List Expr} {kk : Nat} {tpos : Pos} (a e it : Addr) (na : a ≠ it) :
    Turn P w K (.Tuple elts kk tpos) (IteT K a) [e, it] e (fun i h => (∃ old, IsEnum h e it ((i : Nat) : Int) old) ∧ h.IsTupleIter it a i ∧ e ≠ it ∧ e ≠ a) where
  mem := by simp
  obj := fun i h st b hb => by
    obtain ⟨⟨old, he⟩, ⟨o, ho, hc, hd⟩, _⟩ := st
    have e' : b = e ∨ b = it := by simpa using hb
    rcases e' with z | z
    · rw [z]; exact ⟨_, he, fun v q => nomatch q⟩
    · rw [z]; exact ⟨o, ho, fun v q => by rw [hd] at q; cases q⟩
  keep := fun i h h' st k => let ⟨⟨old, he⟩, hi, hne⟩ := st; ⟨⟨old, k e (by simp) _ he⟩, hi.at fun o q => k it (by simp) o q, hne⟩
  item := by
    intro X hP hw hK hc i pins s σ H E I hf st hg
    subst hP hw hK
    obtain ⟨⟨old, he⟩, hit, hne, hea⟩ := st
    obtain ⟨xs, x, hq, hx⟩ := hg
    obtain ⟨its, rv, p0, hz⟩ := I.tuple hq
    have p : s.heap.IsTuple a its.toArray := p0
    have calm1 : X.A.in1.handled = none := I.ok.hd hc
    obtain ⟨u, hu, ru⟩ := rv.get hx
    have hel : e < s.heap.objs.size := Heap.lt_size he
    have hil : it < s.heap.objs.size := by obtain ⟨_, q, _⟩ := hit; exact Heap.lt_size q
    have hlt : i < its.toArray.size := by simpa using (List.getElem?_eq_some_iff.mp hu).1
    refine wpAny_pyNext_enum_itemD (Draws.tuple (A := X.A.in1) calm1 it a na its.toArray) he (i := i) ⟨hit, p⟩ hlt hne (by simp; exact ⟨hne, hea⟩) fun y h' tk py ho st' hT hsz hk => ?_
    have py' : its[i]? = some y := by simpa using py
    have ey : y = u := by rw [hu] at py'; exact (Option.some.inj py').symm
    subst ey
    obtain ⟨hit', _⟩ := st'
    refine ⟨_, rfl, wpAny_letOwnedTupleGo_enum (s := { s with heap := h', toks := tk + 1 }) ho fun h'' he' sb => ?_⟩
    have hT2 : h''.get? s.heap.objs.size = some { cls := .type "tuple", data := .seq #[.int i tk, y] } := (sb.2 _ (Nat.ne_of_gt hel)).trans hT
    have new : ObjOk X.prog X.w (upd H s.heap.objs.size (.tup [.int (i : Nat), x])) h'' s.heap.objs.size (.tup [.int (i : Nat), x]) :=
      ⟨by show 2 ≤ sizeLine; decide, [.int i tk, y], .cons ⟨_, rfl⟩ (.cons ru .nil), ⟨_, hT2, rfl, _, rfl⟩⟩
    have I1 : Inv X pins σ (upd H s.heap.objs.size (.tup [.int (i : Nat), x])) { s with heap := h'', toks := tk + 1 } :=
      I.turnedNew (ch := [e, it]) (fun b ob hb q => (sb.2 b (fun z => hb (by simp [z]))).trans (hk b ob (fun z => hb (by simp [z])) (fun z => hb (by simp [z])) q)) hf (Nat.le_refl _) new
    have inj : ∀ ys, SqT X.K H a ys → ys[i]? = some x := fun ys hy => by rw [I.tuple_inj hy hq]; exact hx
    refine ⟨.ref s.heap.objs.size, _, I1, rfl, ⟨_, x, rfl, I.hok.fresh (Nat.le_refl _), rfl, inj⟩, ⟨⟨y, ?_⟩, hit'.at fun o q => (sb.2 it (Ne.symm hne)).trans q, hne, hea⟩, fun b hb => ?_⟩
    · have e1 : ((i + 1 : Nat) : Int) = (i : Int) + 1 := by omega
      rw [e1]; exact he'
    · have hb' : b < s.heap.objs.size := by
        have e' : b = e ∨ b = it := by simpa using hb
        rcases e' with z | z
        · rw [z]; exact hel
        · rw [z]; exact hil
      rw [upd_ne (Nat.ne_of_lt hb')]
      exact (hf b hb).1
  done := by
    intro X hP hw hK hc i pins s σ H E I hf st hg
    subst hP hw hK
    obtain ⟨⟨old, he⟩, hit, hne, hea⟩ := st
    obtain ⟨xs, hq, hx⟩ := hg
    obtain ⟨its, rv, p0, hz⟩ := I.tuple hq
    have p : s.heap.IsTuple a its.toArray := p0
    have calm1 : X.A.in1.handled = none := I.ok.hd hc
    obtain ⟨f0, f1, f2, f3, f4, f5⟩ := hf it (by simp)
    have hl := rv.length
    have hT : s.TypeIs (.ref e) "enumerate" := ⟨_, he, rfl⟩
    unfold pyNext
    refine wpAny_bind (wpAny_attempt (wpAny_callSpecial?_slot (name := Str.ofString "__next__") hT F.slot_enumerate_next (wpAny_call_entry F.slot_enumerate_next hT F.entry_enumerate_next ?_ (F.args_enumerate_next_1 _))))
    show wpAny _ _ (field (.ref e) 2 >>= _) _ _ _
    refine wpAny_bind (wpAny_field he rfl (x := .ref it) rfl ?_)
    refine wpAny_bind (wpAny_nextOf_tuple_end calm1 hit p (by simp; omega) fun h' x' he' hx' => ?_)
    obtain ⟨o, ho, hc'⟩ := hx'
    refine wpAny_bind (wpAny_isInstance (T := "StopIteration") (b := true) ⟨o, ho, hc'⟩ isSubtype_stop ?_)
    exact wpAny_pure ⟨rfl, I.turned (t' := s.toks) (fun b o hb q => he' b o hb q) f0 f1 f3 f4 f5⟩
  self := fun A i s Q E st h => let ⟨⟨_, he⟩, _⟩ := st; wpAny_pyIter_enum he h
/-- a list or a tuple of these -/
def SqA (K : PySem.W.Frag) (H : Hp) (a : Addr) (xs : List V) : Prop := SqL K H a xs ∨ SqT K H a xs
theorem seqT_same {K : PySem.W.Frag} {a : Addr} {H H' : Hp} {xs : List V} (h : SqT K H a xs) (s : Same H H') : SqT K H' a xs := by
  rcases h with (h | ⟨o, h⟩) | h
  · exact .inl (.inl (s _ _ h))
  · exact .inl (.inr ⟨o, s _ _ h⟩)
  · exact .inr h
theorem SqA.same {K : PySem.W.Frag} {H H' : Hp} {a : Addr} {xs : List V} (h : SqA K H a xs) (s : Same H H') : SqA K H' a xs := h.elim (fun h => .inl (s.seq h)) fun h => .inr (seqT_same h s)
/-- enumerate of a list or a tuple that stays -/
def iEnumA (K : PySem.W.Frag) (ta : TA) : TI := fun σ H R => ta σ H fun vs H1 => ∃ a xs, vs = [.ref a] ∧ SqA K H1 a xs ∧ ∀ J, Walk J xs.length (fun H2 => Same H1 H2) (YPair (fun i => some (.int (i : Nat))) (fun i => xs[i]?)) → R J H1
theorem pi_enumA {X : Cx} {e : Expr} {ta : TA} {p pos tpos : Pos} {elts : List Expr} {kk : Nat} (hg : Gl X "enumerate") (hm : X.mg "enumerate" = none) (ha : PA X [e] ta) (hs : starEach [e] X.env = [(false, eval e X.env)] := by rfl) :
    PI X (.Tuple elts kk tpos) (.Call (.Name "enumerate" p) [e] [] pos) (iEnumA X.K ta) := by
  refine ⟨fun pins s σ H R I h => ?_⟩
  refine Call_ (ld_blt I hg hm boot_enumerate (PyProof.Rows.callWith_type1 (thn (ha.run pos pins s σ H _ I h) fun us s1 ⟨vs, H1, I1, r1, q1⟩ => ?_) hs rfl))
  obtain ⟨a, xs, ex, hq, q⟩ := q1
  subst ex
  cases r1 with
  | cons r rr =>
    cases rr
    cases r
    have fp : ∀ b, b ∈ [s1.heap.objs.size + 1, s1.heap.objs.size] → s1.heap.objs.size ≤ b := fun b hb => by
      have e' : b = s1.heap.objs.size + 1 ∨ b = s1.heap.objs.size := by simpa using hb
      rcases e' with z | z
      · rw [z]; exact Nat.le_add_right _ _
      · rw [z]; exact Nat.le_refl _
    rcases hq with hq | hq
    · obtain ⟨its, rv, p', hz⟩ := I1.list hq
      refine call_enumerate_list p'.isList fun h' he hit hsz hk => wpAny_pyIter_enum he ?_
      have I2 : Inv X pins σ H1 { s1 with heap := h' } := I1.kept (t' := s1.toks) hk
      exact ⟨s1.heap.objs.size + 1, [s1.heap.objs.size + 1, s1.heap.objs.size], _, _, H1, rfl, I2, turn_enum a (s1.heap.objs.size + 1) s1.heap.objs.size, ⟨⟨.none, he⟩, hit, Nat.succ_ne_self _⟩, fun b hb => I1.fpOk (fp b hb) (I1.hok.fresh (fp b hb)), q _ (walk_enum.mono (fun H2 s2 => s2.seq hq) fun _ _ _ _ _ _ y => y)⟩
    · obtain ⟨its, rv, p0, hz⟩ := I1.tuple hq
      have p' : s1.heap.IsTuple a its.toArray := p0
      have hal : a < s1.heap.objs.size := by obtain ⟨o, ho, _⟩ := p'; exact Heap.lt_size ho
      refine enum_one (begins_tuple a its.toArray) p' fun h' he hit hsz hk => wpAny_pyIter_enum he ?_
      have I2 : Inv X pins σ H1 { s1 with heap := h' } := I1.kept (t' := s1.toks) hk
      exact ⟨s1.heap.objs.size + 1, [s1.heap.objs.size + 1, s1.heap.objs.size], _, _, H1, rfl, I2, turn_enumT a (s1.heap.objs.size + 1) s1.heap.objs.size (Nat.ne_of_lt hal), ⟨⟨.none, he⟩, ⟨_, hit, rfl, rfl⟩, Nat.succ_ne_self _, Nat.ne_of_gt (Nat.lt_succ_of_lt hal)⟩, fun b hb => I1.fpOk (fp b hb) (I1.hok.fresh (fp b hb)), q _ (walk_enumT.mono (fun H2 s2 => seqT_same hq s2) fun _ _ _ _ _ _ y => y)⟩
/-- tuple(xs) of a list or a tuple -/
theorem cr_tupA {X : Cx} : CallR X (.type "tuple") (fun vs H Q => ∃ a xs, vs = [.ref a] ∧ SqA X.K H a xs ∧ ∀ t H1, Same H H1 → SqT X.K H1 t xs → Q (.ref t) H1) := by
  intro pins s σ H vs us Q I r h
  obtain ⟨a, xs, e, hq, q⟩ := h
  exact call_tuple_of pins s σ H vs us Q I r ⟨a, xs, e, hq.elim (fun h => .inl ⟨h, fun l hl => q l _ (fun b u e => by rw [upd_ne (ne_of_none e hl)]; exact e) (SqT.of upd_same)⟩) fun h => .inr ⟨h, q a H (Same.refl _) h⟩⟩
end KP
set_option maxRecDepth 100000
set_option maxHeartbeats 4000000
/-! Arrows told: is_arrow; sorted of the set of a list of arrows. -/
namespace KP
open PySem PySem.Spec PyProof.Rows L2 KT
open GR (Arr upto succ Srtd okA pl)
section
variable {P : Program} {w : World} {K : PySem.W.Frag} {mg : Str → Option Value} {base : Heap}
theorem fnX_ok0 {x qual : Str} {params : Arguments} {body : List Stmt} {scope : Scope} {dvs : List V} {kws : List (Str × V)} {f : Addr} {fd : FuncData} {N ps : List Str} {k : Nat} {sp : Sp} (F : FunD K x qual params body scope dvs kws f fd) (S : FnScope N ps scope) (len : ∀ vs H Q E, sp vs H Q E → vs.length = ps.length)
    (hb : ∀ (cdv : Value) (A : Around) (outer : List Env) (s : Shared) (H : Hp) (vs : List V) (Q : VK) (E : XK), Room k (A.deeper (envOfC qual scope s.heap.objs.size f cdv)) → sp vs H Q E →
      ∃ t, PSs (cxOf CX0 P w K mg base N qual scope f cdv A outer s H E).nox body t ∧ t { nx := fun _ H' => Q .non H', rt := Q } (start N vs) H) : FnOk P w K mg base CX0 (k + 1) f fd ps sp :=
  F.ok S len fun cdv A outer s H vs Q E hr h => let ⟨t, p, q⟩ := hb cdv A outer s H vs Q E hr h; ⟨t, p.nox, q⟩
/-- is_numbered, as the top has made it -/
structure NumD (K : PySem.W.Frag) (mg : Str → Option Value) (P : Program) (w : World) (base : Heap) (fi : Addr) (di : FuncData) : Prop where
  ok : FnOk P w K mg base CX0 2 fi di ["value", "low", "high"] spIsNum
  m : mg "is_numbered" = some (.ref fi)
  k : PySem.W.keepIn K (.ref fi) = true
  b : Binds K di ["value", "low", "high"] []
def spIsArrow : Sp := fun vs H Q _ => ∃ (n : Nat) (v : V) (a : Int × Int), vs = [.int (n : Int), v] ∧ IsP H v a ∧ ∀ H', Same H H' → Q (.bl (okA n a)) H'
theorem ok_is_arrow {f fi : Addr} {fd di : FuncData} (F : Fun K "is_arrow" "is_arrow" sIsArrow f fd) (B : Blt mg) (D : NumD K mg P w base fi di) : FnOk P w K mg base CX0 3 f fd ["size", "value"] spIsArrow := by
  refine F.ok scIsArrow (fun vs H Q E h => ?_) (fun cdv A outer s H vs Q E hr h => ?_)
  · obtain ⟨_, _, _, rfl, _⟩ := h
    rfl
  · obtain ⟨n, v, ⟨a, b⟩, rfl, ⟨t, rfl, ht⟩, k⟩ := h
    have ht : H t = some (.tup [.int a, .int b]) := ht
    refine ⟨_, pss_cons (ps_if (PW.pt (pw_or (pt_not (pt_val (pe_callB call_isi (by rfl) B.isinstance (by decide +kernel) (pa_cons (pv 1) (pa_cons (pe_bltn (v := .ty "tuple") (by rfl) B.tuple (by decide +kernel) rfl) pa_nil)))))
          (pw_or1 (pt_cmpR op_ne (pe_callB call_len_seq (by rfl) B.len PySem.boot_len (pa_cons (pv 1) pa_nil)) pe_int (nomark _))))) (pss_one (ps_ret pe_bl)) pss_nil)
      (pss_one (ps_ret (pe_and (pe_callB (cr_all rfl) (by rfl) B.all (by decide +kernel) (pa_cons (pe_lc (own := [("node", 2)]) (g := gName 2) (tt := tYes) rfl scIsArrow.nd (pi_tup (pv 1))
          (blkOk_by (N := ["size", "value", "node"]) (sc := defScope sIsArrow) (by decide +kernel))
          (fun _ _ _ _ _ => pg_name (i := 2) scIsArrow.nd rfl (.inl rfl)) (fun _ _ _ _ _ => pts_nil)
          (fun _ _ _ _ _ => pe_call D.ok hr (by rfl) D.m D.k D.b .nil pass0 (pa_cons (pv 2) (pa_cons pe_int (pa_cons (pv 0) pa_nil))))) pa_nil))
        (pe_one (pe_cmpR op_ne (pe_ix ix_tup (pv 1) pe_int (fun _ _ => rfl)) (pe_ix ix_tup (pv 1) pe_int (fun _ _ => rfl)) (nomark _)))))), ?_⟩
    refine ⟨_, rfl, _, _, _, _, _, rfl, .ty _, .base (TyOf.tup ht), kit_ty (r := true) (by decide +kernel), _, rfl, iteF ?_⟩
    refine ⟨_, rfl, t, _, rfl, .inr (SqT.of ht), ?_⟩
    refine ⟨rfl, ?_⟩
    refine ⟨_, rfl, iteF ?_⟩
    refine ⟨_, rfl, t, rfl, ⟨_, SqT.of ht⟩, fun D1 nD => lc_tup (K := K) (a := t) (xs := [V.int a, V.int b]) (fun i H2 => But D1 (upd H D1 (.lst [])) H2 ∧ H2 D1 = some (.lst (((([a, b] : List Int).take i).map fun y => decide (1 ≤ y ∧ y ≤ (n : Int))).map V.bl)))
      ⟨But.refl, upd_same⟩ (fun i H2 _ hb => SqT.of ((But.new hb.1 rfl nD) _ _ ht)) ?_ ?_⟩
    · rintro i v H2 hi ⟨hb, hD⟩
      obtain ⟨y, hy, rfl⟩ := int_at (ns := [a, b]) hi
      have hil : i < 2 := (List.getElem?_eq_some_iff.mp hy).1
      refine ⟨rfl, ?_⟩
      refine yes_i ?_
      refine ⟨_, rfl, _, rfl, y, 1, (n : Int), rfl, _, hD, small1000 (by rw [List.length_map, List.length_map, List.length_take]; omega), hb.trans But.upd, ?_⟩
      rw [upd_same, List.take_add_one, hy, List.map_append, List.map_append]
      rfl
    · rintro H2 ⟨hb, hD⟩
      have s2 : Same H H2 := But.new hb rfl nD
      refine ⟨D1, _, rfl, SqL.of hD, _, rfl, ?_⟩
      have kk := k H2 s2
      have e0 : okA n (a, b) = (decide (1 ≤ a ∧ a ≤ (n : Int)) && decide (1 ≤ b ∧ b ≤ (n : Int)) && decide (a ≠ b)) := rfl
      rw [e0] at kk
      have e1 : ((((([a, b] : List Int).take 2).map fun y => decide (1 ≤ y ∧ y ≤ (n : Int)))).all id) = (decide (1 ≤ a ∧ a ≤ (n : Int)) && decide (1 ≤ b ∧ b ≤ (n : Int))) := by
        simp
      rw [show ([V.int a, V.int b] : List V).length = 2 from rfl, e1]
      by_cases c : (decide (1 ≤ a ∧ a ≤ (n : Int)) && decide (1 ≤ b ∧ b ≤ (n : Int))) = true
      · rw [c]
        rw [c, Bool.true_and] at kk
        refine iteT ⟨_, rfl, t, _, _, .int a, rfl, rfl, SqT.of (s2 _ _ ht), atI_nat (j := 0) rfl, _, rfl, t, _, _, .int b, rfl, rfl, SqT.of (s2 _ _ ht), atI_nat (j := 1) rfl, rfl, ?_⟩
        have e2 : (!decide (V.int a = V.int b)) = decide (a ≠ b) := by
          by_cases z : a = b
          · simp [z]
          · simp [z]
        rw [e2]
        exact kk
      · have c : (decide (1 ≤ a ∧ a ≤ (n : Int)) && decide (1 ≤ b ∧ b ≤ (n : Int))) = false := by simpa using c
        rw [c]
        rw [c, Bool.false_and] at kk
        exact iteF kk
/-! sorted(set(xs)) -/
def adr : V → Addr
  | .ref a => a
  | _ => 0
def ksOf (L : List (V × (Int × Int))) : List (Addr × List Int) := L.map fun x => (adr x.1, [x.2.1, x.2.2])
def prOf (p : Addr × List Int) : V × (Int × Int) := (.ref p.1, (p.2.headD 0, p.2.tail.headD 0))
theorem set_sort {H : Hp} {L : List (V × (Int × Int))} {l : Addr} {Q : VK} (hl : SqL K H l (L.map (·.1))) (hA : AllP H L) (few : L.length < 64) (bd : ∀ x ∈ L, (0 ≤ x.2.1 ∧ x.2.1 < 64) ∧ 0 ≤ x.2.2 ∧ x.2.2 < 64)
    (k : ∀ (M : List (V × (Int × Int))) (p : Addr) (H' : Hp), Same H H' → H p = none → PsL H' p (M.map (·.2)) M → Srtd (M.map (·.2)) (L.map (·.2)) → (∀ x ∈ M, x ∈ L) → Q (.ref p) H') : rSetOfT K P w [.ref l] H (fun v H1 => rSortedT K P w [v] H1 Q) := by
  have back : ∀ x ∈ L, prOf (adr x.1, [x.2.1, x.2.2]) = x := fun x hx => by
    obtain ⟨t, e, _⟩ := hA x hx
    obtain ⟨v, a, b⟩ := x
    have e : v = .ref t := e
    subst e
    rfl
  have mem : ∀ p ∈ ksOf L, ∃ x ∈ L, p = (adr x.1, [x.2.1, x.2.2]) ∧ prOf p = x := fun p hp => by
    obtain ⟨x, hx, rfl⟩ := List.mem_map.mp hp
    exact ⟨x, hx, rfl, back x hx⟩
  refine ⟨l, ksOf L, rfl, ?_, fun p hp => ?_, by unfold ksOf; rw [List.length_map]; exact few, fun a L2 na sub cov => ?_⟩
  · have : (ksOf L).map (fun p => V.ref p.1) = L.map (·.1) := by
      unfold ksOf
      rw [List.map_map]
      refine List.map_congr_left fun x hx => ?_
      obtain ⟨t, e, _⟩ := hA x hx
      show V.ref (adr x.1) = x.1
      rw [e]
      rfl
    rw [this]
    exact hl
  · obtain ⟨x, hx, rfl, _⟩ := mem p hp
    obtain ⟨t, e, ht⟩ := hA x hx
    show SqT K H (adr x.1) _
    rw [e]
    exact SqT.of ht
  · have s1 : Same H (upd H a (SetTO P w a L2)) := same_upd na
    refine ⟨a, L2, 2, 64, rfl, upd_same, fun p hp => ?_, by decide, fun p hp => ?_, fun L3 p pm nd _ pw np => ?_⟩
    · obtain ⟨x, hx, rfl, _⟩ := mem p (sub p hp)
      obtain ⟨t, e, ht⟩ := hA x hx
      show SqT K _ (adr x.1) _
      rw [e]
      exact SqT.of (s1 _ _ ht)
    · obtain ⟨x, hx, rfl, _⟩ := mem p (sub p hp)
      obtain ⟨b1, b2⟩ := bd x hx
      refine ⟨rfl, fun y hy => ?_⟩
      have hy : y ∈ [x.2.1, x.2.2] := hy
      rcases List.mem_cons.mp hy with rfl | hy
      · exact b1
      · rw [List.mem_singleton.mp hy]
        exact b2
    · have s2 := same_updN (o := .lst (L3.map fun q => V.ref q.1)) s1 (s1.free np)
      have sub3 : ∀ q ∈ L3, q ∈ ksOf L := fun q hq => sub q (pm.subset hq)
      have inL : ∀ x ∈ L3.map prOf, x ∈ L := fun x hx => by
        obtain ⟨q, hq, rfl⟩ := List.mem_map.mp hx
        obtain ⟨x, hx, _, e⟩ := mem q (sub3 q hq)
        rw [e]
        exact hx
      refine k (L3.map prOf) p _ (same_updN s1 (s1.free np)) (s1.free np) ⟨?_, fun x hx => (hA x (inL x hx)).same s2, rfl⟩ ⟨?_, fun b => ⟨fun hb => ?_, fun hb => ?_⟩⟩ inL
      · rw [upd_same, List.map_map]
        rfl
      · have pr : L3.Pairwise fun q r => pl (prOf q).2 (prOf r).2 := by
          have nd' : L3.Pairwise fun q r => q.2 ≠ r.2 := by
            have := nd
            unfold List.Nodup at this
            rwa [List.pairwise_map] at this
          refine List.Pairwise.imp_of_mem (fun {q r} hq hr h => ?_) (pw.and nd')
          obtain ⟨x, hx, rfl, e1⟩ := mem q (sub3 q hq)
          obtain ⟨y, hy, rfl, e2⟩ := mem r (sub3 r hr)
          obtain ⟨b1, b2⟩ := bd x hx
          obtain ⟨b3, b4⟩ := bd y hy
          exact pair_lt h.1 h.2 b1 b2 b3 b4
        rw [List.pairwise_map, List.pairwise_map]
        exact pr
      · obtain ⟨x, hx, rfl⟩ := List.mem_map.mp hb
        exact List.mem_map.mpr ⟨x, inL x hx, rfl⟩
      · obtain ⟨x, hx, rfl⟩ := List.mem_map.mp hb
        have h1 := cov (adr x.1, [x.2.1, x.2.2]) (List.mem_map.mpr ⟨x, hx, rfl⟩)
        obtain ⟨q, hq, e⟩ := List.mem_map.mp h1
        refine List.mem_map.mpr ⟨prOf q, List.mem_map.mpr ⟨q, pm.mem_iff.mpr hq, rfl⟩, ?_⟩
        have e : q.2 = [x.2.1, x.2.2] := e
        show (q.2.headD 0, q.2.tail.headD 0) = x.2
        rw [e]
        rfl
end
end KP
set_option maxRecDepth 100000
set_option maxHeartbeats 4000000
/-! InvalidArrow(at): an own error whose __init__ says super().__init__(..) and stores one attribute. -/
namespace KP
open PySem PySem.Spec PyProof.Rows L2 KT
open PySem.W PySem.Calls
def arrLine : Expr := .Call (.Attribute (.Call (.Name "super" ⟨12, 8, 12, 13⟩) [] [] ⟨12, 8, 12, 15⟩) "__init__" ⟨12, 8, 12, 24⟩) [.Constant (.str "the pair is not an arrow of the graph") 0 ⟨12, 25, 12, 64⟩] [] ⟨12, 8, 12, 65⟩
def arrStore : Stmt := .Assign [.Attribute (.Name "self" ⟨13, 8, 13, 12⟩) "arrow" ⟨13, 8, 13, 18⟩] (.Name "arrow" ⟨13, 21, 13, 26⟩) ⟨13, 8, 13, 26⟩
theorem body_arr : defBody sBadA = [.Expr arrLine ⟨12, 8, 12, 65⟩, arrStore] := rfl
/-- what the written part says of InvalidArrow, at C, and of its __init__, at fI -/
structure ArrC (P : Program) (K : Frag) (mg : Str → Option Value) (C fI cc cda : Addr) : Prop where
  gC : mg "InvalidArrow" = some (.ref C)
  q : excInitIn K C [.type "ValueError", .type "Exception", .type "BaseException", .type "object"] "ValueError.__new__" = true
  dC : hasDictIn K C = true
  rV : ∀ cd, clsIn K C = some cd → HandSPX.refsVE cd.mro = true
  sa : findIn K (.ref C) "__setattr__" = some (some (.builtin "object.__setattr__"))
  noP : findIn K (.ref C) "arrow" = some none
  iC : findIn K (.ref C) "__init__" = some (some (.ref fI))
  tC : typeIn K (.ref fI) = some (.type "function")
  kC : keepIn K (.ref C) = true
  exC : subIn K (.ref C) (.type "BaseException") = some true
  tyC : typeIn K (.ref C) = some (.type "type")
  sV : subIn K (.ref C) (.type "ValueError") = some true
  sup : ks_superIn K C C "__init__" = some (some (.builtin "ValueError.__init__"))
  tp : nsIn K cStatics "thirdparty.any" = some none
  mro : mroIn K C (.ref C) = some true
  fn : ∃ (oc : Value) (od : Option Addr) (kV doc pm : Value) (an : Option Addr) (ct : Value) (osl : Array (Option Value)),
    K.lookup fI = some ⟨oc, od, .func (ksFn "__init__" "InvalidArrow.__init__" (defArgs sBadA) (defBody sBadA) (defScope sBadA) .none kV doc pm an (.ref cda) ct cc), osl⟩
  cd : codeIn K (.ref cda) "InvalidArrow.__init__" = true
  cell : ∃ (cl : Value) (cld : Option Addr) (csl : Array (Option Value)), K.lookup cc = some ⟨cl, cld, .cell (some (.ref C)), csl⟩
  code : ∃ (ccl : Value) (cdd : Option Addr) (vs : Array Value) (ccs : Array (Option Value)) (file : Str) (tf : Tok), K.lookup cda = some ⟨ccl, cdd, .fields vs, ccs⟩ ∧ vs[2]? = some (.str file tf) ∧ ((P.main.file : Str) == file) = true
  top : (P.main.scope.names.lookup ("super" : Str)).isSome = false
  noS : mg "super" = none
section
variable {P : Program} {w : World} {A : Around} {E : Value → Shared → Prop} {R : Result → Shared → Prop} {s : Shared} {K : Frag} {mg : Str → Option Value} {base : Heap} {C fI cc cda : Addr}
theorem arr_init (T : ArrC P K mg C fI cc cda) (Mo : Mod K mg base) (hb : ∀ b o, base.get? b = some o → s.heap.get? b = some o) {x t0 : Addr} {v : Value} (X : K.In s.heap) (hx : s.heap.get? x = some (excObj C t0 none .none)) (hnx : K.lookup x = none) (hlim : s.heap.NoLimit) (hroom : A.depth < recursionLimit)
    (hq : ∀ h' tk t1 dx, (∀ b o, b ≠ x → s.heap.get? b = some o → h'.get? b = some o) → h'.get? x = some (excObj C t1 (some dx) .none) → s.heap.objs.size ≤ dx → dx ≠ x → h'.Ns1 dx (fun y => if y = "arrow" then some v else none) → R (.ok (.ret .none)) { s with heap := h', toks := tk }) :
    codeAny (model P w) A (.call (.ref fI) ⟨[.ref x, v], []⟩) R s := by
  obtain ⟨oc, od, kV, doc, pm, an, ct, osl, ho⟩ := T.fn
  obtain ⟨cl, cld, csl, hcell⟩ := T.cell
  obtain ⟨ccl, cdd, vs, ccs, file, tf, hcode, hvs, hfile⟩ := T.code
  have kS : (defScope sBadA).names.lookup ("super" : Str) = some .globalImplicit := by decide +kernel
  have kK : (defScope sBadA).names.lookup ("__class__" : Str) = some .free := by decide +kernel
  have kF : (defScope sBadA).names.lookup ("self" : Str) = some .local := by decide +kernel
  have kP : (defScope sBadA).names.lookup ("arrow" : Str) = some .local := by decide +kernel
  refine ks_codeAny_call_defAt (fd := ksFn "__init__" "InvalidArrow.__init__" (defArgs sBadA) (defBody sBadA) (defScope sBadA) .none kV doc pm an (.ref cda) ct cc) (body := defBody sBadA) (binds := [("self", .ref x), ("arrow", v)]) hroom (X _ _ ho) rfl hlim (codeRec_of X T.cd) rfl (BindsTo.of_eq (by first | rfl | with_unfolding_all rfl)) (show ∀ y ∈ (defScope sBadA).names, y.2 ≠ .cell from by decide +kernel) (fun y hy => by
    rcases List.mem_cons.mp hy with rfl | hy
    · exact kF
    rcases List.mem_cons.mp hy with rfl | hy
    · exact kP
    · exact nomatch hy) (fun h₁ hns hk => ?_) rfl rfl rfl
  have hxL : s.heap.objs.size ≠ x := Nat.ne_of_gt (Heap.lt_size hx)
  have F : Fr (hideAll s.heap [x]) s.heap.objs.size h₁ _ := ⟨hns, fun b o e => hk b o (of_hideAll _ e), Nat.le_of_eq (hideAll_size _ _)⟩
  have N : News (hideAll s.heap [x]) s.heap.objs.size h₁ [(x, excObj C t0 none .none)] := fun p hp => by
    rcases List.mem_cons.mp hp with rfl | hp
    · exact ⟨hk _ _ hx, Ne.symm hxL, hideAll_none _ List.mem_cons_self⟩
    · exact nomatch hp
  have X₀ : K.In (hideAll s.heap [x]) := fun a o e => hideAll_get _ (X a o e) fun hm => by
    rcases List.mem_cons.mp hm with rfl | hm
    · rw [hnx] at e; cases e
    · exact nomatch hm
  have X₁ : K.In h₁ := X₀.keeps F.keep
  have hb₁ : ∀ b o, base.get? b = some o → h₁.get? b = some o := fun b o e => hk b o (hb b o e)
  have I₁ : InstAt h₁ x (excObj C t0 none .none) C none := InstAt.of_exc0 N List.mem_cons_self
  obtain ⟨nm, N', qn, bs, bm, hdct, sn, sub, ab, col, dd, k0, k1, k2, k3, k5, hC, hT⟩ := excInit_of X₁ T.q
  obtain ⟨mb, hmb, hbt⟩ := Mo.blt
  have X1L : ∀ b o, s.heap.get? b = some o → b ≠ x → (hideAll s.heap [x]).get? b = some o := fun b o e hne => hideAll_get _ e fun hm => by
    rcases List.mem_cons.mp hm with rfl | hm
    · exact hne rfl
    · exact nomatch hm
  rw [body_arr]
  refine ks_wpAt_execs_cons (ks_wpAt_Expr_any (ks_wpAt_MethodCall ?_))
  refine ks_wpAt_super_base (env := ksEnv "InvalidArrow.__init__" (defScope sBadA) s.heap.objs.size fI (.ref cda) cc) kS kK (by decide +kernel) rfl (X₁ _ _ ho) rfl rfl rfl (X₁ _ _ hcode) rfl hvs hfile T.top ?_
  refine ks_loadName_global rfl kS (loadGlobal_builtin (env := ksEnv "InvalidArrow.__init__" (defScope sBadA) s.heap.objs.size fI (.ref cda) cc) (Mo.glob.keeps hb₁) T.noS (hmb.keeps hb₁) ((hbt _ (by decide +kernel)).trans (by first | rfl | decide +kernel)) ⟨rfl, ?_⟩)
  refine wpAny_loadName_free rfl kK rfl ⟨_, X₁ _ _ hcell, rfl⟩ ?_
  refine wpAny_loadName_local rfl kF hns (by first | rfl | decide +kernel | with_unfolding_all rfl) ?_
  refine ks_wpAny_isType_cls hC rfl ⟨rfl, ?_⟩
  refine ks_wpAny_call_super hC rfl I₁.at_ I₁.cls (fun c e => nomatch e) (looks_mroIn X₁ T.mro) (fun h2 e2 k2' => ?_)
  obtain ⟨F2, N2, l2⟩ := ks_newsPush (s := ⟨h₁, s.gens, s.drawn, s.toks + 1, s.os⟩) F N rfl e2 k2'
  have I2 : InstAt h2 x (excObj C t0 none .none) C none := InstAt.of_exc0 N2 (.tail _ List.mem_cons_self)
  refine kxs_method kxs_ValueError F2 X₀ N2 List.mem_cons_self I2 T.tp T.sup T.sV (by decide +kernel) (fun u h3 F3 N3 l3 => ?_)
  have hne1 : u ≠ x := Ne.symm (Nat.ne_of_lt (l3 (x, excObj C t0 none .none) (.tail _ List.mem_cons_self)))
  have hne2 : h₁.objs.size ≠ x := Ne.symm (Nat.ne_of_lt (l2 (x, excObj C t0 none .none) List.mem_cons_self))
  refine kxs_callWith1 N3 List.mem_cons_self (Calls.spliced_cons (Calls.Constant_str (k := 0) (pos := ⟨12, 25, 12, 64⟩) (Calls.spliced_nil ⟨kxs_at N3 List.mem_cons_self, ?_⟩)))
  refine kxs_call F3 X₀ N3 PySem.F.excBase_ValueError T.q List.mem_cons_self (.tail hne1 (.tail hne2 (.head fun p hp => nomatch hp))) (by rw [sizeLine_eq]; exact (by decide : 1 ≤ 16777216)) (fun t' h4 F4 N4 l4 => ?_)
  have hx4 : h4.get? x = some (excObj C t' none .none) := (N4 (x, excObj C t' none .none) (.tail _ (.tail _ (.tail _ List.mem_cons_self)))).1
  have X4 : K.In h4 := X₀.keeps F4.keep
  refine wpAt_of_wpAny (wpAny_execs_cons (plainObj_wpAny_Assign_Attribute ?_))
  refine wpAny_Name (wpAny_loadName_local rfl kP F4.ns (v := v) (by first | rfl | decide +kernel | with_unfolding_all rfl) ?_) (by decide)
  refine wpAny_Name (wpAny_loadName_local rfl kF F4.ns (v := .ref x) (by first | rfl | decide +kernel | with_unfolding_all rfl) ?_) (by decide)
  obtain ⟨cd, hcd, hdct'⟩ := any_some T.dC
  have z0 : s.heap.objs.size < h₁.objs.size := hns.lt
  have hLh : h₁.objs.size ≤ h4.objs.size := by
    obtain ⟨oL, _, _, hL, _⟩ := id F4.ns
    rcases Nat.lt_or_ge h4.objs.size h₁.objs.size with c | c
    · have := Heap.lt_size (N4 (h₁.objs.size, _) (.tail _ (.tail _ List.mem_cons_self))).1
      exact absurd c (Nat.not_lt.mpr (Nat.le_of_lt this))
    · exact c
  refine PySem.W.set_plain X4 (ox := excObj C t' none .none) (od := none) ⟨hx4, rfl, rfl, trivial⟩ T.sa ?_
  refine HandSPX.exc_osa X4 hx4 hcd (T.rV cd hcd) hdct' T.noP (fun h5 tk5 dx k5 dn dne hx5 hn5 => ?_)
  show wpAny _ _ (execs _ _) _ _ _
  refine wpAny_execs_nil (hq h5 _ t' dx (fun b o hbx e => k5 b o hbx (F4.keep b o (X1L b o e hbx))) hx5 ?_ dne hn5)
  have : s.heap.objs.size ≤ h4.objs.size := Nat.le_trans (Nat.le_of_lt z0) hLh
  exact Nat.le_trans this dn
/-- InvalidArrow(v) made -/
theorem arr_made (T : ArrC P K mg C fI cc cda) (Mo : Mod K mg base) {v : Value} (hb : ∀ b o, base.get? b = some o → s.heap.get? b = some o) (X : K.In s.heap) (hlim : s.heap.NoLimit) (hroom : A.depth + 1 < recursionLimit)
    (hq : ∀ h' tk e t1 dx, (∀ b o, s.heap.get? b = some o → h'.get? b = some o) → s.heap.objs.size ≤ e → h'.get? e = some (excObj C t1 (some dx) .none) → s.heap.objs.size ≤ dx → dx ≠ e → h'.Ns1 dx (fun y => if y = "arrow" then some v else none) → R (.ok (.ret (.ref e))) { s with heap := h', toks := tk }) :
    codeAny (model P w) A (.call (.ref C) ⟨[v], []⟩) R s := by
  obtain ⟨nm, N', qn, bs, bm, hdct, sn, sub, ab, col, dd, k0, k1, k2, k3, k5, hC, hT⟩ := excInit_of X T.q
  obtain ⟨hp, g, dr, tk, os⟩ := s
  have k : ∀ b o, hp.get? b = some o → ((hp.push (kdv_tup [v])).push (HandSPX.excO C hp.objs.size)).get? b = some o := fun b o e => Heap.get?_push_of_some _ (Heap.get?_push_of_some _ e)
  have hget : ((hp.push (kdv_tup [v])).push (HandSPX.excO C hp.objs.size)).get? (hp.objs.size + 1) = some (HandSPX.excO C hp.objs.size) := by heap_get
  have hnx : K.lookup (hp.objs.size + 1) = none := by
    cases e : K.lookup (hp.objs.size + 1) with
    | none => rfl
    | some o =>
      have z : hp.get? (hp.objs.size + 1) = some o := X _ _ e
      exact absurd (Nat.lt_of_succ_lt (Heap.lt_size z)) (Nat.lt_irrefl _)
  refine HandSPX.call_own PySem.F.excBase_ValueError hT hC (looks_findIn X T.iC) (fun self => PySem.W.bind_fn X self T.tC) (by rw [sizeLine_eq]; exact (by decide : 1 ≤ 16777216)) ?_
  refine arr_init (s := ⟨(hp.push (kdv_tup [v])).push (HandSPX.excO C hp.objs.size), g, dr, tk, os⟩) T Mo (fun b o e => k b o (hb b o e)) (X.keeps k) hget hnx (hlim.keeps k) ?_ fun h' tk' t1 dx k' hx big ne ns => ?_
  · show A.depth + 1 < recursionLimit
    exact hroom
  · have big' : hp.objs.size ≤ dx := by
      have e : ((hp.push (kdv_tup [v])).push (HandSPX.excO C hp.objs.size)).objs.size = hp.objs.size + 1 + 1 := by rw [Heap.size_push, Heap.size_push]
      have b2 : ((hp.push (kdv_tup [v])).push (HandSPX.excO C hp.objs.size)).objs.size ≤ dx := big
      rw [e] at b2
      omega
    exact ⟨rfl, hq h' tk' (hp.objs.size + 1) t1 dx (fun b o e => k' b o (Nat.ne_of_lt (Nat.lt_succ_of_lt (Heap.lt_size e))) (k b o e)) (Nat.le_succ _) hx big' ne ns⟩
end
theorem relO_arr {v : V} {v' : Value} (r : RelV v v') (f : Str) : RelO (List.lookup f [(("arrow" : Str), v)]) (if f = "arrow" then some v' else none) := by
  by_cases c : f = "arrow"
  · subst c
    rw [if_pos rfl, show List.lookup ("arrow" : Str) [(("arrow" : Str), v)] = some v by simp [List.lookup]]
    exact r
  · have e : (f == ("arrow" : Str)) = false := by simpa using c
    rw [if_neg c, show List.lookup f [(("arrow" : Str), v)] = none by simp [List.lookup, e]]
    trivial
section
variable {X : Cx} {C fI cc cda : Addr}
/-- InvalidArrow(e) as what a raise takes -/
def tMkarr (C : Addr) (ta : TA) : L2.St → Hp → XK → Prop := fun σ H Q => ta σ H fun vs H1 => ∃ v, vs = [v] ∧ ∀ d, H1 d = none → Q (.ref C) (some d) (upd H1 d (.xd [(("arrow" : Str), v)]))
theorem pmk_arr {a : Expr} {ta : TA} {p pos : Pos} {k : Nat} (T : ArrC X.prog X.K X.mg C fI cc cda) (hr : Room k X.A) (hk : 2 ≤ k) (ha : PA X [a] ta) (hg : Gl X "InvalidArrow" := by rfl)
    (he : starEach (a :: []) X.env = (false, eval a X.env) :: starEach [] X.env := by rfl) (hpl : (backTo pos (starEach [] X.env)).any (·.1) = false := by rfl) :
    PMk X (.Call (.Name "InvalidArrow" p) [a] [] pos) (tMkarr C ta) := by
  intro pins s σ H Q I h
  refine wpAny_Call_Name_kw (ld_glob I hg T.gC ?_)
  refine callWith_K (h₀ := X.base) I.ok.mod.kin T.kC (thn (ha.run pos pins s σ H _ I h) fun us s1 hh => ?_) he hpl
  obtain ⟨vs, H1, J1, r1, v, ev, q1⟩ := hh
  subst ev
  refine ⟨J1.kIn, ?_⟩
  cases r1 with
  | cons rv rn =>
    rename_i v' us'
    cases rn
    show wpAny _ _ (call (.ref C) [v']) _ _ _
    have nolim := J1.nolimit
    obtain ⟨hp, g, dr, tk, os⟩ := s1
    refine wpAny_call (arr_made T J1.ok.mod J1.bk J1.kIn nolim (by have := hr.dp; omega) fun h' tk' e t1 dx kp new he' big ne ns => ?_)
    show MkP X pins σ Q (.ref e) ⟨h', g, dr, tk', os⟩
    obtain ⟨G', g1, g2⟩ := restrict h' fun b => decide (b ≠ e)
    have gk : ∀ b, b ≠ e → G'.get? b = h'.get? b := fun b hb => g1 b (decide_eq_true hb)
    have ge : G'.get? e = none := g2 e (by simp)
    have old : ∀ b o, hp.get? b = some o → G'.get? b = some o := fun b o q => (gk b (Nat.ne_of_lt (Nat.lt_of_lt_of_le (Heap.lt_size q) new))).trans (kp b o q)
    have ob : ObjOk X.prog X.w (upd H1 dx (.xd [(("arrow" : Str), v)])) G' dx (.xd [(("arrow" : Str), v)]) := ⟨_, ns.at (fun o q => (gk dx ne).trans q), fun f => relO_arr rv f⟩
    have J : Inv X pins σ (upd H1 dx (.xd [(("arrow" : Str), v)])) ⟨G', g, dr, tk', os⟩ := J1.laid (t' := tk') old big ob
    refine ⟨e, _, _, ⟨G', g, dr, tk', os⟩, _, .ref C, some dx, rfl, J, fun b o q => ?_, ge, he', ⟨rfl, rfl⟩, rfl, rfl, ?_, rfl, J1.bare, raises_own T.exC T.tyC, q1 dx (J1.hok.fresh big)⟩
    · by_cases hb : b = e
      · have q' : G'.get? b = some o := q
        rw [hb, ge] at q'; cases q'
      · exact (gk b hb).symm.trans q
    · rw [upd_ne (Ne.symm ne)]
      exact J1.hok.fresh new
end
end KP
set_option maxRecDepth 100000
set_option maxHeartbeats 4000000
/-! InvalidOrder(at): an own error whose __init__ says super().__init__(..) and stores one attribute. -/
namespace KP
open PySem PySem.Spec PyProof.Rows L2 KT
open PySem.W PySem.Calls
def ordLine : Expr := .Call (.Attribute (.Call (.Name "super" ⟨7, 8, 7, 13⟩) [] [] ⟨7, 8, 7, 15⟩) "__init__" ⟨7, 8, 7, 24⟩) [.Constant (.str "the listing is not an order") 0 ⟨7, 25, 7, 54⟩] [] ⟨7, 8, 7, 55⟩
def ordStore : Stmt := .Assign [.Attribute (.Name "self" ⟨8, 8, 8, 12⟩) "listing" ⟨8, 8, 8, 20⟩] (.Name "listing" ⟨8, 23, 8, 30⟩) ⟨8, 8, 8, 30⟩
theorem body_ord : defBody sBadO = [.Expr ordLine ⟨7, 8, 7, 55⟩, ordStore] := rfl
/-- what the written part says of InvalidOrder, at C, and of its __init__, at fI -/
structure OrdC (P : Program) (K : Frag) (mg : Str → Option Value) (C fI cc cda : Addr) : Prop where
  gC : mg "InvalidOrder" = some (.ref C)
  q : excInitIn K C [.type "ValueError", .type "Exception", .type "BaseException", .type "object"] "ValueError.__new__" = true
  dC : hasDictIn K C = true
  rV : ∀ cd, clsIn K C = some cd → HandSPX.refsVE cd.mro = true
  sa : findIn K (.ref C) "__setattr__" = some (some (.builtin "object.__setattr__"))
  noP : findIn K (.ref C) "listing" = some none
  iC : findIn K (.ref C) "__init__" = some (some (.ref fI))
  tC : typeIn K (.ref fI) = some (.type "function")
  kC : keepIn K (.ref C) = true
  exC : subIn K (.ref C) (.type "BaseException") = some true
  tyC : typeIn K (.ref C) = some (.type "type")
  sV : subIn K (.ref C) (.type "ValueError") = some true
  sup : ks_superIn K C C "__init__" = some (some (.builtin "ValueError.__init__"))
  tp : nsIn K cStatics "thirdparty.any" = some none
  mro : mroIn K C (.ref C) = some true
  fn : ∃ (oc : Value) (od : Option Addr) (kV doc pm : Value) (an : Option Addr) (ct : Value) (osl : Array (Option Value)),
    K.lookup fI = some ⟨oc, od, .func (ksFn "__init__" "InvalidOrder.__init__" (defArgs sBadO) (defBody sBadO) (defScope sBadO) .none kV doc pm an (.ref cda) ct cc), osl⟩
  cd : codeIn K (.ref cda) "InvalidOrder.__init__" = true
  cell : ∃ (cl : Value) (cld : Option Addr) (csl : Array (Option Value)), K.lookup cc = some ⟨cl, cld, .cell (some (.ref C)), csl⟩
  code : ∃ (ccl : Value) (cdd : Option Addr) (vs : Array Value) (ccs : Array (Option Value)) (file : Str) (tf : Tok), K.lookup cda = some ⟨ccl, cdd, .fields vs, ccs⟩ ∧ vs[2]? = some (.str file tf) ∧ ((P.main.file : Str) == file) = true
  top : (P.main.scope.names.lookup ("super" : Str)).isSome = false
  noS : mg "super" = none
section
variable {P : Program} {w : World} {A : Around} {E : Value → Shared → Prop} {R : Result → Shared → Prop} {s : Shared} {K : Frag} {mg : Str → Option Value} {base : Heap} {C fI cc cda : Addr}
theorem ord_init (T : OrdC P K mg C fI cc cda) (Mo : Mod K mg base) (hb : ∀ b o, base.get? b = some o → s.heap.get? b = some o) {x t0 : Addr} {v : Value} (X : K.In s.heap) (hx : s.heap.get? x = some (excObj C t0 none .none)) (hnx : K.lookup x = none) (hlim : s.heap.NoLimit) (hroom : A.depth < recursionLimit)
    (hq : ∀ h' tk t1 dx, (∀ b o, b ≠ x → s.heap.get? b = some o → h'.get? b = some o) → h'.get? x = some (excObj C t1 (some dx) .none) → s.heap.objs.size ≤ dx → dx ≠ x → h'.Ns1 dx (fun y => if y = "listing" then some v else none) → R (.ok (.ret .none)) { s with heap := h', toks := tk }) :
    codeAny (model P w) A (.call (.ref fI) ⟨[.ref x, v], []⟩) R s := by
  obtain ⟨oc, od, kV, doc, pm, an, ct, osl, ho⟩ := T.fn
  obtain ⟨cl, cld, csl, hcell⟩ := T.cell
  obtain ⟨ccl, cdd, vs, ccs, file, tf, hcode, hvs, hfile⟩ := T.code
  have kS : (defScope sBadO).names.lookup ("super" : Str) = some .globalImplicit := by decide +kernel
  have kK : (defScope sBadO).names.lookup ("__class__" : Str) = some .free := by decide +kernel
  have kF : (defScope sBadO).names.lookup ("self" : Str) = some .local := by decide +kernel
  have kP : (defScope sBadO).names.lookup ("listing" : Str) = some .local := by decide +kernel
  refine ks_codeAny_call_defAt (fd := ksFn "__init__" "InvalidOrder.__init__" (defArgs sBadO) (defBody sBadO) (defScope sBadO) .none kV doc pm an (.ref cda) ct cc) (body := defBody sBadO) (binds := [("self", .ref x), ("listing", v)]) hroom (X _ _ ho) rfl hlim (codeRec_of X T.cd) rfl (BindsTo.of_eq (by first | rfl | with_unfolding_all rfl)) (show ∀ y ∈ (defScope sBadO).names, y.2 ≠ .cell from by decide +kernel) (fun y hy => by
    rcases List.mem_cons.mp hy with rfl | hy
    · exact kF
    rcases List.mem_cons.mp hy with rfl | hy
    · exact kP
    · exact nomatch hy) (fun h₁ hns hk => ?_) rfl rfl rfl
  have hxL : s.heap.objs.size ≠ x := Nat.ne_of_gt (Heap.lt_size hx)
  have F : Fr (hideAll s.heap [x]) s.heap.objs.size h₁ _ := ⟨hns, fun b o e => hk b o (of_hideAll _ e), Nat.le_of_eq (hideAll_size _ _)⟩
  have N : News (hideAll s.heap [x]) s.heap.objs.size h₁ [(x, excObj C t0 none .none)] := fun p hp => by
    rcases List.mem_cons.mp hp with rfl | hp
    · exact ⟨hk _ _ hx, Ne.symm hxL, hideAll_none _ List.mem_cons_self⟩
    · exact nomatch hp
  have X₀ : K.In (hideAll s.heap [x]) := fun a o e => hideAll_get _ (X a o e) fun hm => by
    rcases List.mem_cons.mp hm with rfl | hm
    · rw [hnx] at e; cases e
    · exact nomatch hm
  have X₁ : K.In h₁ := X₀.keeps F.keep
  have hb₁ : ∀ b o, base.get? b = some o → h₁.get? b = some o := fun b o e => hk b o (hb b o e)
  have I₁ : InstAt h₁ x (excObj C t0 none .none) C none := InstAt.of_exc0 N List.mem_cons_self
  obtain ⟨nm, N', qn, bs, bm, hdct, sn, sub, ab, col, dd, k0, k1, k2, k3, k5, hC, hT⟩ := excInit_of X₁ T.q
  obtain ⟨mb, hmb, hbt⟩ := Mo.blt
  have X1L : ∀ b o, s.heap.get? b = some o → b ≠ x → (hideAll s.heap [x]).get? b = some o := fun b o e hne => hideAll_get _ e fun hm => by
    rcases List.mem_cons.mp hm with rfl | hm
    · exact hne rfl
    · exact nomatch hm
  rw [body_ord]
  refine ks_wpAt_execs_cons (ks_wpAt_Expr_any (ks_wpAt_MethodCall ?_))
  refine ks_wpAt_super_base (env := ksEnv "InvalidOrder.__init__" (defScope sBadO) s.heap.objs.size fI (.ref cda) cc) kS kK (by decide +kernel) rfl (X₁ _ _ ho) rfl rfl rfl (X₁ _ _ hcode) rfl hvs hfile T.top ?_
  refine ks_loadName_global rfl kS (loadGlobal_builtin (env := ksEnv "InvalidOrder.__init__" (defScope sBadO) s.heap.objs.size fI (.ref cda) cc) (Mo.glob.keeps hb₁) T.noS (hmb.keeps hb₁) ((hbt _ (by decide +kernel)).trans (by first | rfl | decide +kernel)) ⟨rfl, ?_⟩)
  refine wpAny_loadName_free rfl kK rfl ⟨_, X₁ _ _ hcell, rfl⟩ ?_
  refine wpAny_loadName_local rfl kF hns (by first | rfl | decide +kernel | with_unfolding_all rfl) ?_
  refine ks_wpAny_isType_cls hC rfl ⟨rfl, ?_⟩
  refine ks_wpAny_call_super hC rfl I₁.at_ I₁.cls (fun c e => nomatch e) (looks_mroIn X₁ T.mro) (fun h2 e2 k2' => ?_)
  obtain ⟨F2, N2, l2⟩ := ks_newsPush (s := ⟨h₁, s.gens, s.drawn, s.toks + 1, s.os⟩) F N rfl e2 k2'
  have I2 : InstAt h2 x (excObj C t0 none .none) C none := InstAt.of_exc0 N2 (.tail _ List.mem_cons_self)
  refine kxs_method kxs_ValueError F2 X₀ N2 List.mem_cons_self I2 T.tp T.sup T.sV (by decide +kernel) (fun u h3 F3 N3 l3 => ?_)
  have hne1 : u ≠ x := Ne.symm (Nat.ne_of_lt (l3 (x, excObj C t0 none .none) (.tail _ List.mem_cons_self)))
  have hne2 : h₁.objs.size ≠ x := Ne.symm (Nat.ne_of_lt (l2 (x, excObj C t0 none .none) List.mem_cons_self))
  refine kxs_callWith1 N3 List.mem_cons_self (Calls.spliced_cons (Calls.Constant_str (k := 0) (pos := ⟨7, 25, 7, 54⟩) (Calls.spliced_nil ⟨kxs_at N3 List.mem_cons_self, ?_⟩)))
  refine kxs_call F3 X₀ N3 PySem.F.excBase_ValueError T.q List.mem_cons_self (.tail hne1 (.tail hne2 (.head fun p hp => nomatch hp))) (by rw [sizeLine_eq]; exact (by decide : 1 ≤ 16777216)) (fun t' h4 F4 N4 l4 => ?_)
  have hx4 : h4.get? x = some (excObj C t' none .none) := (N4 (x, excObj C t' none .none) (.tail _ (.tail _ (.tail _ List.mem_cons_self)))).1
  have X4 : K.In h4 := X₀.keeps F4.keep
  refine wpAt_of_wpAny (wpAny_execs_cons (plainObj_wpAny_Assign_Attribute ?_))
  refine wpAny_Name (wpAny_loadName_local rfl kP F4.ns (v := v) (by first | rfl | decide +kernel | with_unfolding_all rfl) ?_) (by decide)
  refine wpAny_Name (wpAny_loadName_local rfl kF F4.ns (v := .ref x) (by first | rfl | decide +kernel | with_unfolding_all rfl) ?_) (by decide)
  obtain ⟨cd, hcd, hdct'⟩ := any_some T.dC
  have z0 : s.heap.objs.size < h₁.objs.size := hns.lt
  have hLh : h₁.objs.size ≤ h4.objs.size := by
    obtain ⟨oL, _, _, hL, _⟩ := id F4.ns
    rcases Nat.lt_or_ge h4.objs.size h₁.objs.size with c | c
    · have := Heap.lt_size (N4 (h₁.objs.size, _) (.tail _ (.tail _ List.mem_cons_self))).1
      exact absurd c (Nat.not_lt.mpr (Nat.le_of_lt this))
    · exact c
  refine PySem.W.set_plain X4 (ox := excObj C t' none .none) (od := none) ⟨hx4, rfl, rfl, trivial⟩ T.sa ?_
  refine HandSPX.exc_osa X4 hx4 hcd (T.rV cd hcd) hdct' T.noP (fun h5 tk5 dx k5 dn dne hx5 hn5 => ?_)
  show wpAny _ _ (execs _ _) _ _ _
  refine wpAny_execs_nil (hq h5 _ t' dx (fun b o hbx e => k5 b o hbx (F4.keep b o (X1L b o e hbx))) hx5 ?_ dne hn5)
  have : s.heap.objs.size ≤ h4.objs.size := Nat.le_trans (Nat.le_of_lt z0) hLh
  exact Nat.le_trans this dn
/-- InvalidOrder(v) made -/
theorem ord_made (T : OrdC P K mg C fI cc cda) (Mo : Mod K mg base) {v : Value} (hb : ∀ b o, base.get? b = some o → s.heap.get? b = some o) (X : K.In s.heap) (hlim : s.heap.NoLimit) (hroom : A.depth + 1 < recursionLimit)
    (hq : ∀ h' tk e t1 dx, (∀ b o, s.heap.get? b = some o → h'.get? b = some o) → s.heap.objs.size ≤ e → h'.get? e = some (excObj C t1 (some dx) .none) → s.heap.objs.size ≤ dx → dx ≠ e → h'.Ns1 dx (fun y => if y = "listing" then some v else none) → R (.ok (.ret (.ref e))) { s with heap := h', toks := tk }) :
    codeAny (model P w) A (.call (.ref C) ⟨[v], []⟩) R s := by
  obtain ⟨nm, N', qn, bs, bm, hdct, sn, sub, ab, col, dd, k0, k1, k2, k3, k5, hC, hT⟩ := excInit_of X T.q
  obtain ⟨hp, g, dr, tk, os⟩ := s
  have k : ∀ b o, hp.get? b = some o → ((hp.push (kdv_tup [v])).push (HandSPX.excO C hp.objs.size)).get? b = some o := fun b o e => Heap.get?_push_of_some _ (Heap.get?_push_of_some _ e)
  have hget : ((hp.push (kdv_tup [v])).push (HandSPX.excO C hp.objs.size)).get? (hp.objs.size + 1) = some (HandSPX.excO C hp.objs.size) := by heap_get
  have hnx : K.lookup (hp.objs.size + 1) = none := by
    cases e : K.lookup (hp.objs.size + 1) with
    | none => rfl
    | some o =>
      have z : hp.get? (hp.objs.size + 1) = some o := X _ _ e
      exact absurd (Nat.lt_of_succ_lt (Heap.lt_size z)) (Nat.lt_irrefl _)
  refine HandSPX.call_own PySem.F.excBase_ValueError hT hC (looks_findIn X T.iC) (fun self => PySem.W.bind_fn X self T.tC) (by rw [sizeLine_eq]; exact (by decide : 1 ≤ 16777216)) ?_
  refine ord_init (s := ⟨(hp.push (kdv_tup [v])).push (HandSPX.excO C hp.objs.size), g, dr, tk, os⟩) T Mo (fun b o e => k b o (hb b o e)) (X.keeps k) hget hnx (hlim.keeps k) ?_ fun h' tk' t1 dx k' hx big ne ns => ?_
  · show A.depth + 1 < recursionLimit
    exact hroom
  · have big' : hp.objs.size ≤ dx := by
      have e : ((hp.push (kdv_tup [v])).push (HandSPX.excO C hp.objs.size)).objs.size = hp.objs.size + 1 + 1 := by rw [Heap.size_push, Heap.size_push]
      have b2 : ((hp.push (kdv_tup [v])).push (HandSPX.excO C hp.objs.size)).objs.size ≤ dx := big
      rw [e] at b2
      omega
    exact ⟨rfl, hq h' tk' (hp.objs.size + 1) t1 dx (fun b o e => k' b o (Nat.ne_of_lt (Nat.lt_succ_of_lt (Heap.lt_size e))) (k b o e)) (Nat.le_succ _) hx big' ne ns⟩
end
theorem relO_ord {v : V} {v' : Value} (r : RelV v v') (f : Str) : RelO (List.lookup f [(("listing" : Str), v)]) (if f = "listing" then some v' else none) := by
  by_cases c : f = "listing"
  · subst c
    rw [if_pos rfl, show List.lookup ("listing" : Str) [(("listing" : Str), v)] = some v by simp [List.lookup]]
    exact r
  · have e : (f == ("listing" : Str)) = false := by simpa using c
    rw [if_neg c, show List.lookup f [(("listing" : Str), v)] = none by simp [List.lookup, e]]
    trivial
section
variable {X : Cx} {C fI cc cda : Addr}
/-- InvalidOrder(e) as what a raise takes -/
def tMkord (C : Addr) (ta : TA) : L2.St → Hp → XK → Prop := fun σ H Q => ta σ H fun vs H1 => ∃ v, vs = [v] ∧ ∀ d, H1 d = none → Q (.ref C) (some d) (upd H1 d (.xd [(("listing" : Str), v)]))
theorem pmk_ord {a : Expr} {ta : TA} {p pos : Pos} {k : Nat} (T : OrdC X.prog X.K X.mg C fI cc cda) (hr : Room k X.A) (hk : 2 ≤ k) (ha : PA X [a] ta) (hg : Gl X "InvalidOrder" := by rfl)
    (he : starEach (a :: []) X.env = (false, eval a X.env) :: starEach [] X.env := by rfl) (hpl : (backTo pos (starEach [] X.env)).any (·.1) = false := by rfl) :
    PMk X (.Call (.Name "InvalidOrder" p) [a] [] pos) (tMkord C ta) := by
  intro pins s σ H Q I h
  refine wpAny_Call_Name_kw (ld_glob I hg T.gC ?_)
  refine callWith_K (h₀ := X.base) I.ok.mod.kin T.kC (thn (ha.run pos pins s σ H _ I h) fun us s1 hh => ?_) he hpl
  obtain ⟨vs, H1, J1, r1, v, ev, q1⟩ := hh
  subst ev
  refine ⟨J1.kIn, ?_⟩
  cases r1 with
  | cons rv rn =>
    rename_i v' us'
    cases rn
    show wpAny _ _ (call (.ref C) [v']) _ _ _
    have nolim := J1.nolimit
    obtain ⟨hp, g, dr, tk, os⟩ := s1
    refine wpAny_call (ord_made T J1.ok.mod J1.bk J1.kIn nolim (by have := hr.dp; omega) fun h' tk' e t1 dx kp new he' big ne ns => ?_)
    show MkP X pins σ Q (.ref e) ⟨h', g, dr, tk', os⟩
    obtain ⟨G', g1, g2⟩ := restrict h' fun b => decide (b ≠ e)
    have gk : ∀ b, b ≠ e → G'.get? b = h'.get? b := fun b hb => g1 b (decide_eq_true hb)
    have ge : G'.get? e = none := g2 e (by simp)
    have old : ∀ b o, hp.get? b = some o → G'.get? b = some o := fun b o q => (gk b (Nat.ne_of_lt (Nat.lt_of_lt_of_le (Heap.lt_size q) new))).trans (kp b o q)
    have ob : ObjOk X.prog X.w (upd H1 dx (.xd [(("listing" : Str), v)])) G' dx (.xd [(("listing" : Str), v)]) := ⟨_, ns.at (fun o q => (gk dx ne).trans q), fun f => relO_ord rv f⟩
    have J : Inv X pins σ (upd H1 dx (.xd [(("listing" : Str), v)])) ⟨G', g, dr, tk', os⟩ := J1.laid (t' := tk') old big ob
    refine ⟨e, _, _, ⟨G', g, dr, tk', os⟩, _, .ref C, some dx, rfl, J, fun b o q => ?_, ge, he', ⟨rfl, rfl⟩, rfl, rfl, ?_, rfl, J1.bare, raises_own T.exC T.tyC, q1 dx (J1.hok.fresh big)⟩
    · by_cases hb : b = e
      · have q' : G'.get? b = some o := q
        rw [hb, ge] at q'; cases q'
      · exact (gk b hb).symm.trans q
    · rw [upd_ne (Ne.symm ne)]
      exact J1.hok.fresh new
end
end KP
set_option maxRecDepth 100000
set_option maxHeartbeats 4000000
/-! Graph.__init__: of arrows that are good; of a list with one that is none. -/
namespace KP
open PySem PySem.Spec PyProof.Rows L2 KT
open GR (Arr upto succ Srtd okA pl)
abbrev nG : List Str := ["self", "size", "arrows", "listed", "arrow"]
section
variable {P : Program} {w : World} {K : PySem.W.Frag} {mg : Str → Option Value} {base : Heap}
/-- is_arrow, as the top has made it -/
structure ArwD (K : PySem.W.Frag) (mg : Str → Option Value) (P : Program) (w : World) (base : Heap) (fi : Addr) (di : FuncData) : Prop where
  ok : FnOk P w K mg base CX0 3 fi di ["size", "value"] spIsArrow
  m : mg "is_arrow" = some (.ref fi)
  k : PySem.W.keepIn K (.ref fi) = true
  b : Binds K di ["size", "value"] []
def spGInit (K : PySem.W.Frag) (C : Addr) : Sp := fun vs H Q _ => ∃ (x dx a : Addr) (n : Nat) (L : List (V × (Int × Int))), vs = [.ref x, .int (n : Int), .ref a] ∧ H x = some (.ins C dx []) ∧ SqA K H a (L.map (·.1)) ∧ AllP H L ∧ (∀ y ∈ L, okA n y.2 = true) ∧ L.length ≤ 60 ∧ n ≤ 60 ∧
  ∀ (A : List (Int × Int)) (H' : Hp), Srtd A (L.map (·.2)) → GrAt C H' x n A → (∀ c o, H c = some o → c ≠ x → H' c = some o) → Q .non H'
def spGInitX (K : PySem.W.Frag) (C CA : Addr) : Sp := fun vs H Q En => ∃ (x dx a : Addr) (n : Nat) (L : List (V × (Int × Int))), vs = [.ref x, .int (n : Int), .ref a] ∧ H x = some (.ins C dx []) ∧ SqA K H a (L.map (·.1)) ∧ AllP H L ∧ L.length ≤ 60 ∧ n ≤ 60 ∧
  ((∀ y ∈ L, okA n y.2 = true) → ∀ (A : List (Int × Int)) (H' : Hp), Srtd A (L.map (·.2)) → GrAt C H' x n A → (∀ c o, H c = some o → c ≠ x → H' c = some o) → Q .non H') ∧
  ∀ (k : Nat) (v : V) (b : Int × Int), L[k]? = some (v, b) → okA n b = false → (∀ i y, i < k → L[i]? = some y → okA n y.2 = true) → ∀ d H', Same H H' → H d = none → H' d = some (.xd [(("arrow" : Str), v)]) → En (.ref CA) (some d) H'
theorem gi_tail {C f : Addr} {cdv : Value} {A : Around} {outer : List Env} {s : Shared} {H0 : Hp} {E : XK} {k : Nat} (B : Blt mg) (G : GrC K mg C) (hr : Room k (A.deeper (envOfC "Graph.__init__" (defScope sGInit) s.heap.objs.size f cdv))) :
    ∃ u, PSs (cxOf CX0 P w K mg base nG "Graph.__init__" (defScope sGInit) f cdv A outer s H0 E).nox ((defBody sGInit).drop 2) u ∧ PSs (cxOf (L2.CX P w) P w K mg base nG "Graph.__init__" (defScope sGInit) f cdv A outer s H0 E) ((defBody sGInit).drop 2) u ∧
      ∀ (Q : VK) (H H2 : Hp) (x dx a l : Addr) (n : Nat) (L : List (V × (Int × Int))) (v4 : Option V), H x = some (.ins C dx []) → Same H H2 → H2 l = some (.lst (L.map (·.1))) → AllP H L → (∀ y ∈ L, okA n y.2 = true) → L.length ≤ 60 → n ≤ 60 →
        (∀ (A : List (Int × Int)) (H' : Hp), Srtd A (L.map (·.2)) → GrAt C H' x n A → (∀ c o, H c = some o → c ≠ x → H' c = some o) → Q .non H') →
        u { nx := fun _ H' => Q .non H', rt := Q } [some (.ref x), some (.int (n : Int)), some (.ref a), some (.ref l), v4] H2 := by
  refine ⟨_, pss_cons (ps_fld (pv 0) (pv 1) rfl) (pss_one (ps_fld (pv 0) (pe_callTy call_tuple_of (by rfl) B.tuple (by decide +kernel) (pa_cons (pe_callB (cr_sortedT rfl) (by rfl) B.sorted (by decide +kernel) (pa_cons (pe_callTy (cr_setOfT rfl hr.units) (by rfl) B.set (by decide +kernel) (pa_cons (pv 3) pa_nil)) pa_nil)) pa_nil)) rfl)),
    pss_cons (ps_fld (pv 0) (pv 1) rfl) (pss_one (ps_fld (pv 0) (pe_callTy call_tuple_of (by rfl) B.tuple (by decide +kernel) (pa_cons (pe_callB (cr_sortedT rfl) (by rfl) B.sorted (by decide +kernel) (pa_cons (pe_callTy (cr_setOfT rfl hr.units) (by rfl) B.set (by decide +kernel) (pa_cons (pv 3) pa_nil)) pa_nil)) pa_nil)) rfl)), ?_⟩
  intro Q H H2 x dx a l n L v4 hx s02 hl hA ok len ln k
  have hx2 := s02 _ _ hx
  have hlx : l ≠ x := fun z => by rw [z, hx2] at hl; cases hl
  refine ⟨_, rfl, _, rfl, x, C, dx, _, rfl, hx2, G.cl, G.n1, (by show 0 < 1000; decide), ?_⟩
  rw [gput1]
  have keep3 : ∀ c o, H c = some o → c ≠ x → upd H2 x (.ins C dx [("size", .int (n : Int))]) c = some o := fun c o e hc => by rw [upd_ne hc]; exact s02 _ _ e
  have hx3 : upd H2 x (.ins C dx [("size", .int (n : Int))]) x = some (.ins C dx [("size", .int (n : Int))]) := upd_same
  have hl3 : upd H2 x (.ins C dx [("size", .int (n : Int))]) l = some (.lst (L.map (·.1))) := by rw [upd_ne hlx]; exact hl
  generalize upd H2 x (.ins C dx [("size", .int (n : Int))]) = H3 at keep3 hx3 hl3
  have A3 : AllP H3 L := fun y hy => by
    obtain ⟨t, e, ht⟩ := hA y hy
    exact ⟨t, e, keep3 _ _ ht (by rintro rfl; rw [hx] at ht; cases ht)⟩
  have bd : ∀ y ∈ L, (0 ≤ y.2.1 ∧ y.2.1 < 64) ∧ 0 ≤ y.2.2 ∧ y.2.2 < 64 := fun y hy => by
    obtain ⟨h1, h2, _⟩ := GR.okA_iff.mp (ok y hy)
    have h1 := GR.mem_upto.mp h1
    have h2 := GR.mem_upto.mp h2
    omega
  refine ⟨_, rfl, ?_⟩
  dsimp only [tNil]
  refine set_sort (SqL.of hl3) A3 (by omega) bd fun M p H4 s4 np hp sr sub => ⟨p, _, rfl, .inl ⟨SqL.of hp.at_, fun t ht => ?_⟩⟩
  have s5 : Same H4 (upd H4 t (.tup (M.map (·.1)))) := same_upd ht
  have s35 : Same H3 (upd H4 t (.tup (M.map (·.1)))) := s4.trans s5
  have t5 : upd H4 t (.tup (M.map (·.1))) t = some (.tup (M.map (·.1))) := upd_same
  generalize upd H4 t (.tup (M.map (·.1))) = H5 at s5 s35 t5
  have hx5 := s35 _ _ hx3
  have htx : t ≠ x := fun z => by rw [z, hx5] at t5; cases t5
  refine ⟨_, rfl, x, C, dx, _, rfl, hx5, G.cl, G.n2, (by show 1 < 1000; decide), ?_⟩
  rw [gput2]
  have lM : (M.map (·.2)).length ≤ 60 := by have := sr.len; rw [List.length_map (as := L)] at this; omega
  refine k (M.map (·.2)) _ sr ⟨dx, t, M, upd_same, ⟨by rw [upd_ne htx]; exact t5, fun y hy => ?_, rfl⟩, sr.arr fun b hb => ?_, lM, ln⟩ fun c o e hc => ?_
  · obtain ⟨q, e, hq⟩ := (hp.all.same s5) y hy
    exact ⟨q, e, by rw [upd_ne (by rintro rfl; rw [hx5] at hq; cases hq)]; exact hq⟩
  · obtain ⟨y, hy, rfl⟩ := List.mem_map.mp hb
    exact ok y hy
  · rw [upd_ne hc]
    exact s35 _ _ (keep3 _ _ e hc)
theorem ok_ginit {f C fi q0 : Addr} {fd di : FuncData} (F : FunD K "__init__" "Graph.__init__" (defArgs sGInit) (defBody sGInit) (defScope sGInit) [.ref q0] [] f fd) (B : Blt mg) (G : GrC K mg C) (D : ArwD K mg P w base fi di) :
    FnOk P w K mg base CX0 4 f fd ["self", "size", "arrows"] (spGInit K C) := by
  refine fnX_ok0 F scGInit (fun vs H Q E h => ?_) (fun cdv A outer s H vs Q E hr h => ?_)
  · obtain ⟨_, _, _, _, _, rfl, _⟩ := h
    rfl
  · obtain ⟨x, dx, a, n, L, rfl, hx, hS, hA, ok, len, ln, k⟩ := h
    obtain ⟨u, pu, _, hu⟩ := gi_tail (P := P) (w := w) (base := base) (f := f) (cdv := cdv) (A := A) (outer := outer) (s := s) (H0 := H) (E := E) B G hr
    refine ⟨_, pss_cons (ps_set (i := 3) scGInit.nd rfl (.inl rfl) (pe_callTy call_list_of (by rfl) B.list (by decide +kernel) (pa_cons (pv 2) pa_nil)))
      (pss_cons (ps_for PassesOwn.never rfl (pi_list (pv 3)) (pg_name (i := 4) scGInit.nd rfl (.inl rfl))
        (pss_one (ps_if (pt_not (pt_val (pe_call D.ok hr (by rfl) D.m D.k D.b .nil pass0 (pa_cons (pv 1) (pa_cons (pv 4) pa_nil))))) (pss_one ps_never) pss_nil))) pu), ?_⟩
    refine ⟨_, rfl, a, _, rfl, hS, fun l hl => ?_⟩
    have s0 : Same H (upd H l (.lst (L.map (·.1)))) := same_upd hl
    refine ⟨_, rfl, l, rfl, ⟨_, SqL.of upd_same⟩, for_list (K := K) (a := l) (xs := L.map (·.1)) (fun i σ H2 => ∃ v4 : Option V, σ = [some (.ref x), some (.int (n : Int)), some (.ref a), some (.ref l), v4] ∧ Same (upd H l (.lst (L.map (·.1)))) H2)
      ⟨none, rfl, Same.refl _⟩ (fun i σ H2 _ ⟨_, _, s2⟩ => SqL.of (s2 _ _ upd_same)) ?_ ?_⟩
    · rintro i v σ H2 hi ⟨v4, rfl, s2⟩
      obtain ⟨p, hp⟩ := at_map hi
      have hm := List.mem_of_getElem? hp
      refine ⟨_, rfl, _, rfl, n, v, p, rfl, ((hA _ hm).same s0).same s2, fun H3 s3 => ?_⟩
      have okp : okA n p = true := ok _ hm
      rw [okp]
      exact ⟨_, rfl, iteF ⟨_, rfl, s2.trans s3⟩⟩
    · rintro σ H2 ⟨v4, rfl, s2⟩
      exact hu Q H H2 x dx a l n L v4 hx (s0.trans s2) (s2 _ _ upd_same) hA ok len ln k
theorem ok_ginitX {f C fi q0 CA fA cc cda : Addr} {fd di : FuncData} (F : FunD K "__init__" "Graph.__init__" (defArgs sGInit) (defBody sGInit) (defScope sGInit) [.ref q0] [] f fd) (B : Blt mg) (G : GrC K mg C) (D : ArwD K mg P w base fi di) (T : ArrC P K mg CA fA cc cda) :
    FnOk P w K mg base (L2.CX P w) 4 f fd ["self", "size", "arrows"] (spGInitX K C CA) := by
  refine F.ok scGInit (fun vs H Q E h => ?_) (fun cdv A outer s H vs Q E hr h => ?_)
  · obtain ⟨_, _, _, _, _, rfl, _⟩ := h
    rfl
  · obtain ⟨x, dx, a, n, L, rfl, hx, hS, hA, len, ln, kg, kb⟩ := h
    obtain ⟨u, _, pu, hu⟩ := gi_tail (P := P) (w := w) (base := base) (f := f) (cdv := cdv) (A := A) (outer := outer) (s := s) (H0 := H) (E := E) B G hr
    refine ⟨_, pss_cons (ps_set (i := 3) scGInit.nd rfl (.inl rfl) (pe_callTy call_list_of (by rfl) B.list (by decide +kernel) (pa_cons (pv 2) pa_nil)))
      (pss_cons (ps_for (passes_of rfl) rfl (pi_list (pv 3)) (pg_name (i := 4) scGInit.nd rfl (.inl rfl))
        (pss_one (ps_if (pt_not (pt_val (pe_call D.ok hr (by rfl) D.m D.k D.b .nil pass0 (pa_cons (pv 1) (pa_cons (pv 4) pa_nil))))) (pss_one (ps_raise rfl (takes_of rfl rfl rfl rfl) (pmk_arr T hr (by decide) (pa_cons (pv 4) pa_nil)))) pss_nil))) pu), ?_⟩
    refine ⟨_, rfl, a, _, rfl, hS, fun l hl => ?_⟩
    have s0 : Same H (upd H l (.lst (L.map (·.1)))) := same_upd hl
    refine ⟨_, rfl, l, rfl, ⟨_, SqL.of upd_same⟩, for_list (K := K) (a := l) (xs := L.map (·.1)) (fun i σ H2 => (∀ j y, j < i → L[j]? = some y → okA n y.2 = true) ∧ ∃ v4 : Option V, σ = [some (.ref x), some (.int (n : Int)), some (.ref a), some (.ref l), v4] ∧ Same (upd H l (.lst (L.map (·.1)))) H2)
      ⟨fun j y h => absurd h (by omega), none, rfl, Same.refl _⟩ (fun i σ H2 _ ⟨_, _, _, s2⟩ => SqL.of (s2 _ _ upd_same)) ?_ ?_⟩
    · rintro i v σ H2 hi ⟨okl, v4, rfl, s2⟩
      obtain ⟨p, hp⟩ := at_map hi
      have hm := List.mem_of_getElem? hp
      refine ⟨_, rfl, _, rfl, n, v, p, rfl, ((hA _ hm).same s0).same s2, fun H3 s3 => ?_⟩
      cases okp : okA n p with
      | true => exact ⟨_, rfl, iteF ⟨fun j y h e => by
          by_cases c : j = i
          · subst c
            rw [hp] at e
            cases e
            exact okp
          · exact okl j y (by omega) e, _, rfl, s2.trans s3⟩⟩
      | false =>
        refine ⟨_, rfl, iteT ⟨_, rfl, _, rfl, fun d nd => ?_⟩⟩
        have s03 : Same H H3 := (s0.trans s2).trans s3
        exact kb i v p hp okp okl d _ (s03.trans (same_upd nd)) (s03.free nd) upd_same
    · rintro σ H2 ⟨okl, v4, rfl, s2⟩
      rw [List.length_map] at okl
      have ok : ∀ y ∈ L, okA n y.2 = true := fun y hy => by
        obtain ⟨j, hj, e⟩ := List.getElem_of_mem hy
        exact okl j y hj (by rw [List.getElem?_eq_getElem hj, e])
      exact hu Q H H2 x dx a l n L v4 hx (s0.trans s2) (s2 _ _ upd_same) hA ok len ln (kg ok)
end
end KP
set_option maxRecDepth 100000
set_option maxHeartbeats 4000000
/-! check_order. -/
namespace KP
open PySem PySem.Spec PyProof.Rows L2 KT
open GR (Arr upto succ IsOrd)
section
variable {P : Program} {w : World} {K : PySem.W.Frag} {mg : Str → Option Value} {base : Heap}
/-- what raises nothing here -/
theorem quiet {k : Nat} {f : Addr} {fd : FuncData} {ps : List Str} {sp spX : Sp} (F : FnOk P w K mg base (L2.CX P w) k f fd ps spX) (h : ∀ vs H Q E, sp vs H Q E → spX vs H Q (fun _ _ _ => False)) : FnOk P w K mg base CX0 k f fd ps sp :=
  ⟨fun vs H Q E z => F.len _ _ _ _ (h vs H Q E z), fun A outer s H args us vs Q E hr e0 bt vl z => codeAny_mono (F.run A outer s H args us vs Q (fun _ _ _ => False) hr e0 bt vl (h vs H Q E z)) fun r s' c => by
    cases r with
    | error e =>
      obtain ⟨_, _, _, _, _, _, _, _, _, _, _, _, no⟩ := (show L2.CX P w outer H s (fun _ _ _ => False) e s' from c)
      exact no.elim
    | ok fl => cases fl <;> exact c⟩
theorem upto_rng (n : Nat) : ((List.range ((n : Int) + 1 - 1).toNat).map fun k => (1 : Int) + ((k : Nat) : Int)) = upto n := by
  rw [show ((n : Int) + 1 - 1).toNat = n by omega]
  unfold upto
  refine List.map_congr_left fun k _ => ?_
  omega
theorem eqv_upto (ms : List Int) (n : Nat) : (!PyData.eqv (dI ms) (dI (upto n))) = decide (¬ ms = upto n) := by
  rw [show PyData.eqv (dI ms) (dI (upto n)) = decide (ms = upto n) from eq_dI.dec ms (upto n), not_dec]
theorem all_num {n : Nat} {ns : List Int} (h : IsOrd n ns) : ((ns.map fun i => decide (1 ≤ i ∧ i ≤ (n : Int))).all id) = true := by
  rw [List.all_eq_true]
  intro b hb
  obtain ⟨i, hi, rfl⟩ := List.mem_map.mp hb
  exact decide_eq_true (h.mem.mp hi)
def spCheckX (K : PySem.W.Frag) (CO : Addr) : Sp := fun vs H Q En => ∃ (n : Nat) (a : Addr) (ns : List Int), vs = [.int (n : Int), .ref a] ∧ SqA K H a (ns.map V.int) ∧ ns.length ≤ 60 ∧ n ≤ 60 ∧
  (IsOrd n ns → ∀ H', Same H H' → Q .non H') ∧ (¬ IsOrd n ns → ∀ t d H', Same H H' → SqT K H' t (ns.map V.int) → H d = none → H' d = some (.xd [(("listing" : Str), .ref t)]) → En (.ref CO) (some d) H')
theorem ok_checkX {f fi CO fO cc cda : Addr} {fd di : FuncData} (F : Fun K "check_order" "check_order" sCheckO f fd) (B : Blt mg) (D : NumD K mg P w base fi di) (T : OrdC P K mg CO fO cc cda) :
    FnOk P w K mg base (L2.CX P w) 3 f fd ["size", "order"] (spCheckX K CO) := by
  refine F.okX scCheckO (fun vs H Q E h => ?_) (fun cdv A outer s H vs Q E hr h => ?_)
  · obtain ⟨_, _, _, rfl, _⟩ := h
    rfl
  · obtain ⟨n, a, ns, rfl, hS, ls, ln, q0, q1⟩ := h
    refine ⟨_, pss_cons (ps_set (i := 2) scCheckO.nd rfl (.inl rfl) (pe_callTy cr_tupA (by rfl) B.tuple (by decide +kernel) (pa_cons (pv 1) pa_nil)))
      (pss_cons (ps_set (i := 3) scCheckO.nd rfl (.inl rfl) (pe_callB (cr_all rfl) (by rfl) B.all (by decide +kernel) (pa_cons (pe_lc (own := [("number", 4)]) (g := gName 4) (tt := tYes) rfl scCheckO.nd (pi_tup (pv 2))
          (blkOk_by (N := ["size", "order", "listed", "numbered", "number"]) (sc := defScope sCheckO) (by decide +kernel))
          (fun _ _ _ _ _ => pg_name (i := 4) scCheckO.nd rfl (.inl rfl)) (fun _ _ _ _ _ => pts_nil)
          (fun _ _ _ _ _ => pe_call D.ok hr (by rfl) D.m D.k D.b .nil pass0 (pa_cons (pv 4) (pa_cons pe_int (pa_cons (pv 0) pa_nil))))) pa_nil)))
      (pss_one (ps_if (PW.pt (pw_or (pt_not (pt_val (pv 3))) (pw_or1 (pt_cmpR (op_neD hr.units) (pe_callB cr_sortedTI (by rfl) B.sorted (by decide +kernel) (pa_cons (pv 2) pa_nil))
          (pe_callTy (cr_listR rfl) (by rfl) B.list (by decide +kernel) (pa_cons (pe_callTy cr_range2 (by rfl) B.range (by decide +kernel) (pa_cons pe_int (pa_cons (pe_op op_add (pv 0) pe_int) pa_nil))) pa_nil)) (nomark _)))))
        (pss_one (ps_raise rfl (takes_of rfl rfl rfl rfl) (pmk_ord T hr (by decide) (pa_cons (pv 2) pa_nil)))) pss_nil))), ?_⟩
    refine ⟨_, rfl, a, _, rfl, hS, fun t H1 s1 ht => ?_⟩
    refine ⟨_, rfl, t, rfl, ⟨_, ht⟩, fun D1 nD => lc_tup (K := K) (a := t) (xs := ns.map V.int) (fun i H2 => But D1 (upd H1 D1 (.lst [])) H2 ∧ H2 D1 = some (.lst (((ns.take i).map fun y => decide (1 ≤ y ∧ y ≤ (n : Int))).map V.bl)))
      ⟨But.refl, upd_same⟩ (fun i H2 _ hb => seqT_same ht (But.new hb.1 rfl nD)) ?_ ?_⟩
    · rintro i v H2 hi ⟨hb, hD⟩
      obtain ⟨y, hy, rfl⟩ := int_at hi
      have hil : i < ns.length := (List.getElem?_eq_some_iff.mp hy).1
      refine ⟨rfl, ?_⟩
      refine yes_i ?_
      refine ⟨_, rfl, _, rfl, y, 1, (n : Int), rfl, _, hD, small1000 (by rw [List.length_map, List.length_map, List.length_take]; omega), hb.trans But.upd, ?_⟩
      rw [upd_same, List.take_add_one, hy, List.map_append, List.map_append]
      rfl
    · rintro H2 ⟨hb, hD⟩
      rw [List.length_map, List.take_length] at hD
      have s2 : Same H1 H2 := But.new hb rfl nD
      have s02 := s1.trans s2
      have ht2 := seqT_same ht s2
      refine ⟨D1, _, rfl, SqL.of hD, _, rfl, _, rfl, ?_⟩
      have bad : ¬ IsOrd n ns → ∀ H3, Same H H3 → SqT K H3 t (ns.map V.int) → ∃ v, ([some (V.int (n : Int)), some (V.ref a), some (V.ref t), some (V.bl ((ns.map fun y => decide (1 ≤ y ∧ y ≤ (n : Int))).all id)), none] : L2.St)[2]? = some (some v) ∧ ∃ v_1, [v] = [v_1] ∧ ∀ d, H3 d = none → E (.ref CO) (some d) (upd H3 d (.xd [(("listing" : Str), v_1)])) := fun no H3 s3 h3 =>
        ⟨_, rfl, _, rfl, fun d nd => q1 no t d _ (s3.trans (same_upd nd)) (seqT_same h3 (same_upd nd)) (s3.free nd) upd_same⟩
      cases c : (ns.map fun y => decide (1 ≤ y ∧ y ≤ (n : Int))).all id with
      | false =>
        rw [c] at bad
        exact iteT (bad (fun o => by rw [all_num o] at c; cases c) H2 s02 ht2)
      | true =>
        rw [c] at bad
        refine iteF ⟨_, rfl, t, ns, rfl, ht2, fun ms p pm pw np => ?_⟩
        have s3 : Same H2 (upd H2 p (.lst (ms.map V.int))) := same_upd np
        have hp3 : upd H2 p (.lst (ms.map V.int)) p = some (.lst (ms.map V.int)) := upd_same
        generalize upd H2 p (.lst (ms.map V.int)) = H3 at s3 hp3
        refine ⟨_, rfl, _, _, rfl, rfl, _, _, rfl, fun r nr => ?_⟩
        have s4 : Same H3 (upd H3 r (.rng 1 ((n : Int) + 1))) := same_upd nr
        have hr4 : upd H3 r (.rng 1 ((n : Int) + 1)) r = some (.rng 1 ((n : Int) + 1)) := upd_same
        generalize upd H3 r (.rng 1 ((n : Int) + 1)) = H4 at s4 hr4
        refine ⟨r, 1, (n : Int) + 1, rfl, hr4, by omega, by omega, by omega, by omega, fun l nl => ?_⟩
        rw [upto_rng]
        have s5 : Same H4 (upd H4 l (.lst ((upto n).map V.int))) := same_upd nl
        have hl5 : upd H4 l (.lst ((upto n).map V.int)) l = some (.lst ((upto n).map V.int)) := upd_same
        generalize upd H4 l (.lst ((upto n).map V.int)) = H5 at s5 hl5
        have s35 := s4.trans s5
        refine ⟨dI ms, dI (upto n), dp_lst (SqL.of (s35 _ _ hp3)), dp_lst (SqL.of hl5), sh_dI ms, sh_dI (upto n), _, rfl, ?_⟩
        rw [eqv_upto]
        have s05 := (s02.trans s3).trans s35
        by_cases o : IsOrd n ns
        · rw [decide_eq_false (show ¬ ¬ ms = upto n from not_not_intro ((GR.ord_iff pm pw).mpr o))]
          exact iteF (q0 o H5 s05)
        · rw [decide_eq_true (show ¬ ms = upto n from fun z => o ((GR.ord_iff pm pw).mp z))]
          exact iteT (bad o H5 s05 (seqT_same ht2 (s3.trans s35)))
end
end KP
set_option maxRecDepth 100000
set_option maxHeartbeats 4000000
/-! keeps. -/
namespace KP
open PySem PySem.Spec PyProof.Rows L2 KT
open GR (Arr upto succ IsOrd kept)
abbrev nKp : List Str := ["graph", "order", "places", "place", "node", "start", "goal"]
/-- a dict comprehension over what a walk tells -/
theorem dc_it {J : It} {n : Nat} {G : Hp → Prop} {Y : Nat → Hp → V → Hp → Prop} (w : Walk J n G Y) {g : TG} {tt : TT} {tk tv : TE} {vs : List Nat} {σ : L2.St} {H1 : Hp} {D : Addr} {Qd : Hp → Prop} (Pv : Nat → Hp → Prop) (h0 : Pv 0 (upd H1 D (.dK []))) (hG : ∀ i H, i ≤ n → Pv i H → G H)
    (hs : ∀ i x H H', i < n → Pv i H → Y i H x H' → g x (wipe σ vs) H' fun σ2 H2 => wipe σ2 vs = wipe σ vs ∧ tt σ2 H2 fun b H3 =>
      if b = true then tk σ2 H3 fun y H4 => tv σ2 H4 fun z H5 => ∃ kvs k, y = kV k ∧ H5 D = some (.dK kvs) ∧ kvs.length < sizeLine ∧ Pv (i + 1) (upd H5 D (.dK (putK kvs k z))) else Pv (i + 1) H3) (hd : ∀ H, Pv n H → Qd H) :
    ∃ W : Nat → Nat → Hp → Prop, (∃ m, W 0 m (upd H1 D (.dK []))) ∧ ∀ i m H, W i m H →
      (J.stop i H ∧ Qd H) ∨ (J.go i H ∧ ∃ Nx : Hp → Prop, (∀ H', Nx H' → ∃ m', m' < m ∧ W (i + 1) m' H') ∧ ∀ x H', J.yld i H x H' → g x (wipe σ vs) H' fun σ2 H2 => wipe σ2 vs = wipe σ vs ∧ tt σ2 H2 fun b H3 =>
        if b = true then tk σ2 H3 fun y H4 => tv σ2 H4 fun z H5 => ∃ kvs k, y = kV k ∧ H5 D = some (.dK kvs) ∧ kvs.length < sizeLine ∧ Nx (upd H5 D (.dK (putK kvs k z))) else Nx H3) := by
  refine ⟨fun i m H => m = n - i ∧ i ≤ n ∧ Pv i H, ⟨n, by simp, Nat.zero_le _, h0⟩, ?_⟩
  rintro i m H ⟨rfl, hi, p⟩
  have q := hG i H hi p
  by_cases hlt : i < n
  · exact .inr ⟨w.goes i H hlt q, Pv (i + 1), fun H' p' => ⟨n - (i + 1), by omega, rfl, hlt, p'⟩, fun x H' y => hs i x H H' hlt p (w.yields i H x H' hlt q y)⟩
  · have e : i = n := by omega
    subst e
    exact .inl ⟨w.stops H q, hd H p⟩
theorem u1 {A : Around} (h : A.units + 64 < cLine) : A.units + 1 < cLine := Nat.lt_of_le_of_lt (Nat.add_le_add_left (by decide : 1 ≤ 64) _) h
/-- where each of these stands -/
def Plc (ns : List Int) (kvs : List (Key × V)) : Prop := kvs.length = ns.length ∧ ∀ x : Int, valV kvs (.inl x) = if x ∈ ns then some (.int (ns.idxOf x : Nat)) else none
theorem Plc.snoc {ns : List Int} {kvs : List (Key × V)} {a : Int} (h : Plc ns kvs) (n : a ∉ ns) : Plc (ns ++ [a]) (putK kvs (.inl a) (.int (ns.length : Nat))) := by
  refine ⟨?_, fun x => ?_⟩
  · rw [putK_new _ (by rw [h.2 a, if_neg n]), List.length_append, List.length_append, h.1]
    rfl
  · rw [valV_put, h.2 x]
    by_cases c : x = a
    · subst c
      rw [if_pos rfl, if_pos (by simp), List.idxOf_append, if_neg n]
      simp
    · rw [if_neg (fun z => c (Sum.inl.inj z))]
      by_cases d : x ∈ ns
      · rw [if_pos d, if_pos (by simp [d]), List.idxOf_append, if_pos d]
      · rw [if_neg d, if_neg (by simp [c, d])]
section
variable {P : Program} {w : World} {K : PySem.W.Frag} {mg : Str → Option Value} {base : Heap}
structure ChkD (K : PySem.W.Frag) (mg : Str → Option Value) (P : Program) (w : World) (base : Heap) (CO fi : Addr) (di : FuncData) : Prop where
  ok : FnOk P w K mg base (L2.CX P w) 3 fi di ["size", "order"] (spCheckX K CO)
  m : mg "check_order" = some (.ref fi)
  k : PySem.W.keepIn K (.ref fi) = true
  b : Binds K di ["size", "order"] []
def spKeepsX (K : PySem.W.Frag) (C CO : Addr) : Sp := fun vs H Q En => ∃ (x : Addr) (n : Nat) (A : List (Int × Int)) (a : Addr) (ns : List Int), vs = [.ref x, .ref a] ∧ GrAt C H x n A ∧ SqA K H a (ns.map V.int) ∧ ns.length ≤ 60 ∧
  (IsOrd n ns → ∀ H', Same H H' → Q (.bl (kept A ns)) H') ∧ (¬ IsOrd n ns → ∀ t d H', Same H H' → SqT K H' t (ns.map V.int) → H d = none → H' d = some (.xd [(("listing" : Str), .ref t)]) → En (.ref CO) (some d) H')
def spKeeps (K : PySem.W.Frag) (C : Addr) : Sp := fun vs H Q _ => ∃ (x : Addr) (n : Nat) (A : List (Int × Int)) (a : Addr) (ns : List Int), vs = [.ref x, .ref a] ∧ GrAt C H x n A ∧ SqA K H a (ns.map V.int) ∧ IsOrd n ns ∧ ∀ H', Same H H' → Q (.bl (kept A ns)) H'
theorem ok_keepsX {C CO f fi : Addr} {fd di : FuncData} (F : Fun K "keeps" "keeps" sKeeps f fd) (B : Blt mg) (G : GrC K mg C) (D : ChkD K mg P w base CO fi di) :
    FnOk P w K mg base (L2.CX P w) 4 f fd ["graph", "order"] (spKeepsX K C CO) := by
  refine F.okX scKeeps (fun vs H Q E h => ?_) (fun cdv A outer s H vs Q E hr h => ?_)
  · obtain ⟨_, _, _, _, _, rfl, _⟩ := h
    rfl
  · obtain ⟨x, n, As, a, ns, rfl, hG, hS, ls, q0, q1⟩ := h
    obtain ⟨dx, t, L, hx, hT, ar, la, ln⟩ := id hG
    refine ⟨_, pss_cons (ps_expr (pe_call D.ok hr (by rfl) D.m D.k D.b .nil (passes_call (takes_of rfl rfl rfl rfl) fun cls d σ H h => h) (pa_cons (pe_fld (pv 0) rfl) (pa_cons (pv 1) pa_nil))))
      (pss_cons (ps_set (i := 2) scKeeps.nd rfl (.inr rfl) (pe_dc (own := [("place", 3), ("node", 4)]) (g := gTup K 2 (gCons (gName 3) (gCons (gName 4) gNil))) (tt := tYes) rfl scKeeps.nd (pi_enumA (by rfl) B.enumerate (pa_cons (pv 1) pa_nil))
          (blkOk_by (N := nKp) (sc := defScope sKeeps) (by decide +kernel))
          (fun _ _ _ _ _ => pg_tup rfl (pgs_cons (pg_name (i := 3) scKeeps.nd rfl (.inl rfl)) (pgs_cons (pg_name (i := 4) scKeeps.nd rfl (.inl rfl)) pgs_nil)))
          (fun _ _ _ _ _ => pts_nil) (fun _ _ _ _ _ => pv 4) (fun _ _ _ _ _ => pv 3)))
      (pss_one (ps_ret (pe_callB (cr_all rfl) (by rfl) B.all (by decide +kernel) (pa_cons (pe_lc (own := [("start", 5), ("goal", 6)]) (g := gTup K 2 (gCons (gName 5) (gCons (gName 6) gNil))) (tt := tYes) rfl scKeeps.nd (pi_tup (pe_fld (pv 0) rfl))
          (blkOk_by (N := nKp) (sc := defScope sKeeps) (by decide +kernel))
          (fun _ _ _ _ _ => pg_tup rfl (pgs_cons (pg_name (i := 5) scKeeps.nd rfl (.inl rfl)) (pgs_cons (pg_name (i := 6) scKeeps.nd rfl (.inl rfl)) pgs_nil)))
          (fun _ _ _ _ _ => pts_nil)
          (fun _ _ _ _ _ => pe_cmpR op_lt (pe_dget (u1 hr.units) (pv 2) (pv 5) (fun _ _ => rfl)) (pe_dget (u1 hr.units) (pv 2) (pv 6) (fun _ _ => rfl)) (nomark _))) pa_nil))))), ?_⟩
    refine ⟨_, rfl, x, C, dx, _, _, rfl, hx, G.cl, G.n1, grf_1 _ _, _, rfl, n, a, ns, rfl, hS, ls, ln, fun o H1 s1 => ?_, fun no => q1 no⟩
    refine ⟨_, rfl, a, _, rfl, hS.same s1, fun J wk D1 nD => dc_it wk (fun i H2 => ∃ kvs, But D1 (upd H1 D1 (.dK [])) H2 ∧ H2 D1 = some (.dK kvs) ∧ Plc (ns.take i) kvs)
      ⟨[], But.refl, upd_same, rfl, fun x => by simp [valV_nil]⟩ (fun i H2 _ hb => by obtain ⟨_, hb, _⟩ := hb; exact But.new hb rfl nD) ?_ ?_⟩
    · rintro i v H2 H3 hi ⟨kvs, hb, hD, pl⟩ ⟨Tt, y, z, rfl, hTt, rfl, hy, hz⟩
      cases hy
      obtain ⟨c, hc, rfl⟩ := int_at hz
      have s3 : Same H2 (upd H2 Tt (.tup [.int (i : Nat), .int c])) := same_upd hTt
      have hil : i < ns.length := (List.getElem?_eq_some_iff.mp hc).1
      have lt : (ns.take i).length = i := by rw [List.length_take]; omega
      refine ⟨Tt, _, rfl, SqT.of upd_same, rfl, _, _, rfl, _, _, rfl, rfl, rfl, ?_⟩
      refine yes_i ?_
      refine ⟨_, rfl, _, rfl, kvs, .inl c, rfl, s3 _ _ hD, small1000 (by rw [pl.1, lt]; omega), _, (hb.same s3).trans But.upd, upd_same, ?_⟩
      have nd := o.nodup
      have ni : c ∉ ns.take i := fun m => by
        have e := List.take_append_drop i ns
        have e2 : ns.drop i = c :: ns.drop (i + 1) := by
          rw [List.drop_eq_getElem_cons hil]
          congr 1
          exact (List.getElem?_eq_some_iff.mp hc).2
        rw [← e, e2] at nd
        exact (List.nodup_append.mp nd).2.2 _ m _ (by simp) rfl
      rw [List.take_add_one, hc]
      have := pl.snoc ni
      rw [lt] at this
      exact this
    · rintro H2 ⟨kvs, hb, hD, pl⟩
      rw [List.length_map, List.take_length] at pl
      have s2 : Same H1 H2 := But.new hb rfl nD
      have s02 := s1.trans s2
      have hT2 := hT.same s02
      refine ⟨_, rfl, x, C, dx, _, _, rfl, s02 _ _ hx, G.cl, G.n2, grf_2 _ _, t, rfl, ⟨_, SqT.of hT2.at_⟩, fun D2 nD2 => lc_tup (K := K) (a := t) (xs := L.map (·.1)) (fun i H3 => But D2 (upd H2 D2 (.lst [])) H3 ∧ H3 D2 = some (.lst (((L.take i).map fun y => decide (ns.idxOf y.2.1 < ns.idxOf y.2.2)).map V.bl)))
        ⟨But.refl, upd_same⟩ (fun i H3 _ hb => SqT.of ((But.new hb.1 rfl nD2) _ _ hT2.at_)) ?_ ?_⟩
      · rintro i v H3 hi ⟨hb3, hD3⟩
        obtain ⟨⟨b, c⟩, hp⟩ := at_map hi
        have s3 : Same H2 H3 := But.new hb3 rfl nD2
        have hm := List.mem_of_getElem? hp
        obtain ⟨e, he', he⟩ := (hT2.all _ hm).same s3
        have he' : v = .ref e := he'
        subst he'
        have hil : i < L.length := (List.getElem?_eq_some_iff.mp hp).1
        have lL : L.length ≤ 60 := by have := congrArg List.length hT.eq; rw [List.length_map] at this; omega
        have inA : (b, c) ∈ As := by rw [← hT.eq]; exact List.mem_map.mpr ⟨_, hm, rfl⟩
        obtain ⟨m1, m2, _⟩ := ar.lo _ inA
        have i1 : b ∈ ns := o.mem.mpr (GR.mem_upto.mp m1)
        have i2 : c ∈ ns := o.mem.mpr (GR.mem_upto.mp m2)
        have v1 : valV kvs (.inl b) = some (.int (ns.idxOf b : Nat)) := by rw [pl.2 b, if_pos i1]
        have v2 : valV kvs (.inl c) = some (.int (ns.idxOf c : Nat)) := by rw [pl.2 c, if_pos i2]
        have hD' := s3 _ _ hD
        refine ⟨e, _, rfl, SqT.of he, rfl, _, _, rfl, _, _, rfl, rfl, rfl, ?_⟩
        refine yes_i ?_
        refine ⟨_, rfl, _, rfl, D1, _, rfl, v1 ▸ DGet.k (k := .inl b) hD', _, rfl, _, rfl, D1, _, rfl, v2 ▸ DGet.k (k := .inl c) hD', _, _, rfl, rfl, _, hD3, small1000 (by rw [List.length_map, List.length_map, List.length_take]; omega), hb3.trans But.upd, ?_⟩
        rw [upd_same, List.take_add_one, hp, List.map_append, List.map_append]
        have ed : decide (((ns.idxOf b : Nat) : Int) < ((ns.idxOf c : Nat) : Int)) = decide (ns.idxOf b < ns.idxOf c) := decide_eq_decide.mpr (by omega)
        show some (HO.lst (_ ++ [V.bl (decide (((ns.idxOf b : Nat) : Int) < ((ns.idxOf c : Nat) : Int)))])) = _
        rw [ed]
        rfl
      · rintro H3 ⟨hb3, hD3⟩
        rw [List.length_map, List.take_length] at hD3
        have s3 : Same H2 H3 := But.new hb3 rfl nD2
        refine ⟨D2, _, rfl, SqL.of hD3, ?_⟩
        have ek : ((L.map fun y => decide (ns.idxOf y.2.1 < ns.idxOf y.2.2)).all id) = kept As ns := by
          unfold kept
          rw [← hT.eq, List.all_map, List.all_map]
          rfl
        rw [ek]
        exact q0 o H3 (s02.trans s3)
theorem ok_keeps {C CO f fi : Addr} {fd di : FuncData} (F : Fun K "keeps" "keeps" sKeeps f fd) (B : Blt mg) (G : GrC K mg C) (D : ChkD K mg P w base CO fi di) :
    FnOk P w K mg base CX0 4 f fd ["graph", "order"] (spKeeps K C) := by
  refine quiet (ok_keepsX F B G D) fun vs H Q E h => ?_
  obtain ⟨x, n, As, a, ns, rfl, hG, hS, o, q⟩ := h
  have ln : n ≤ 60 := by obtain ⟨_, _, _, _, _, _, _, ln⟩ := hG; exact ln
  exact ⟨x, n, As, a, ns, rfl, hG, hS, by rw [o.len]; exact ln, fun _ => q, fun no => absurd o no⟩
end
end KP
set_option maxRecDepth 100000
set_option maxHeartbeats 4000000
/-! Graph.path: one node met. -/
namespace KP
open PySem PySem.Spec PyProof.Rows L2 KT
open GR (Arr upto succ wide proc Bfs LeastW lst)
abbrev nPa : List Str := ["self", "start", "goal", "paths", "reached", "longer", "nodes", "node"]
/-- all but the objects at a and b stays -/
def But2 (a b : Addr) (H H' : Hp) : Prop := ∀ c o, H c = some o → c ≠ a → c ≠ b → H' c = some o
theorem But2.refl {a b : Addr} {H : Hp} : But2 a b H H := fun _ _ e _ _ => e
theorem But2.trans {a b : Addr} {H H1 H2 : Hp} (h : But2 a b H H1) (k : But2 a b H1 H2) : But2 a b H H2 := fun c o e n m => k c o (h c o e n m) n m
theorem But2.of {a b : Addr} {H H' : Hp} (s : Same H H') : But2 a b H H' := fun c o e _ _ => s c o e
theorem But2.left {a b : Addr} {H : Hp} {o : HO} : But2 a b H (upd H a o) := fun c u e n _ => by rw [upd_ne n]; exact e
theorem But2.right {a b : Addr} {H : Hp} {o : HO} : But2 a b H (upd H b o) := fun c u e _ n => by rw [upd_ne n]; exact e
/-- the nodes that are reached, as the keys of a dict -/
def RD (R : List Int) (kvs : List (Key × V)) : Prop := kvs.length ≤ R.length ∧ ∀ x : Int, (valV kvs (.inl x)).isSome = decide (x ∈ R)
theorem putK_len (kvs : List (Key × V)) (k : Key) (v : V) : (putK kvs k v).length ≤ kvs.length + 1 := by
  unfold putK
  split
  · rw [List.length_map]; omega
  · rw [List.length_append]; exact Nat.le_refl _
theorem RD.snoc {R : List Int} {kvs : List (Key × V)} (h : RD R kvs) (a : Int) (v : V) : RD (R ++ [a]) (putK kvs (.inl a) v) := by
  refine ⟨Nat.le_trans (putK_len _ _ _) (by rw [List.length_append]; exact Nat.add_le_add_right h.1 1), fun x => ?_⟩
  rw [valV_put]
  by_cases c : x = a
  · subst c
    rw [if_pos rfl, decide_eq_true (by simp)]
    rfl
  · rw [if_neg (fun z => c (Sum.inl.inj z)), h.2 x]
    exact decide_eq_decide.mpr (by simp [c])
/-- where a round of the search stands -/
def Stg (n : Nat) (q d : Addr) (Hb H : Hp) (R : List Int) (N : List (List Int)) : Prop :=
  But2 d q Hb H ∧ (∃ kvs, H d = some (.dK kvs) ∧ RD R kvs) ∧ (∃ M, IsLs H q N M ∧ ∀ y ∈ M, y.1 ≠ .ref q) ∧ R.Nodup ∧ (∀ r ∈ R, r ∈ upto n) ∧ N.length ≤ R.length
theorem Stg.same {n : Nat} {q d : Addr} {Hb H H' : Hp} {R N} (h : Stg n q d Hb H R N) (s : Same H H') : Stg n q d Hb H' R N := by
  obtain ⟨h1, ⟨kvs, h2, h3⟩, ⟨M, h4, h5⟩, h6⟩ := h
  exact ⟨h1.trans (.of s), ⟨kvs, s _ _ h2, h3⟩, ⟨M, h4.same s, h5⟩, h6⟩
theorem Stg.base {n : Nat} {q d : Addr} {Hb Hc H : Hp} {R N} (h : Stg n q d Hc H R N) (b : But2 d q Hb Hc) : Stg n q d Hb H R N := ⟨b.trans h.1, h.2⟩
theorem Stg.here {n : Nat} {q d : Addr} {Hb H : Hp} {R N} (h : Stg n q d Hb H R N) : Stg n q d H H R N := ⟨But2.refl, h.2⟩
theorem Stg.few {n : Nat} {q d : Addr} {Hb H : Hp} {R N} (h : Stg n q d Hb H R N) : R.length ≤ n := by
  obtain ⟨_, _, _, nd, inn, _⟩ := h
  have := GR.nodup_len nd inn
  rwa [GR.upto_len] at this
abbrev stP (x : Addr) (s g : Int) (p d q wn : Addr) (v : Int) : L2.St := [some (.ref x), some (.int s), some (.int g), some (.ref p), some (.ref d), some (.ref q), some (.ref wn), some (.int v)]
def whileBody (s : Stmt) : List Stmt := match s with
  | .While _ b _ _ => b
  | _ => []
def forBody (s : Stmt) : List Stmt := match s with
  | .For _ _ b _ _ => b
  | _ => []
abbrev bodyP1 : List Stmt := whileBody ((defBody sPath).getD 2 (.Pass ⟨0, 0, 0, 0⟩))
abbrev bodyP2 : List Stmt := forBody (bodyP1.getD 1 (.Pass ⟨0, 0, 0, 0⟩))
abbrev bodyP3 : List Stmt := forBody (bodyP2.getD 0 (.Pass ⟨0, 0, 0, 0⟩))
section
variable {P : Program} {w : World} {K : PySem.W.Frag} {mg : Str → Option Value} {base : Heap}
theorem path_in {f : Addr} {cdv : Value} {A : Around} {outer : List Env} {st : Shared} {H0 : Hp} {E : XK} {k : Nat} (hr : Room k (A.deeper (envOfC "Graph.path" (defScope sPath) st.heap.objs.size f cdv))) :
    ∃ u, PSs (cxOf CX0 P w K mg base nPa "Graph.path" (defScope sPath) f cdv A outer st H0 E).nox bodyP3 u ∧ ∀ (D : Ends) (x : Addr) (s g : Int) (p d q wn : Addr) (ws : List Int) (v : Int) (n : Nat) (Hb H : Hp) (R : List Int) (N : List (List Int)),
      Stg n q d Hb H R N → H wn = some (.lst (ws.map V.int)) → wn ≠ q → ws.length ≤ 61 → v ∈ upto n → n ≤ 60 →
      (v = g → ∀ l H', Same H H' → H l = none → H' l = some (.lst ((ws ++ [v]).map V.int)) → D.rt (.ref l) H') →
      (v ≠ g → v ∈ R → D.nx (stP x s g p d q wn v) H) →
      (v ≠ g → v ∉ R → ∀ H', Stg n q d Hb H' (R ++ [v]) (N ++ [ws ++ [v]]) → D.nx (stP x s g p d q wn v) H') → u D (stP x s g p d q wn v) H := by
  refine ⟨_, pss_cons (ps_if (pt_cmpR op_eq (pv 7) (pv 2) (nomark _)) (pss_one (ps_ret (pe_lst (StX.pa_star (pv 6) (pa_cons (pv 7) pa_nil))))) pss_nil)
    (pss_one (ps_if (pt_cmp (pc_dnotin (u1 hr.units) (pv 7) (pv 4))) (pss_cons (ps_dput (u1 hr.units) (pv 4) (pv 7) pe_bl rfl)
      (pss_one (ps_expr (pe_bm PySem.F.plainAttrs_list PySem.F.slot_list_append PySem.F.type_list_append mt_append (pv 5) (pa_cons (pe_lst (StX.pa_star (pv 6) (pa_cons (pv 7) pa_nil))) pa_nil))))) pss_nil)), ?_⟩
  intro D x s g p d q wn ws v n Hb H R N S hw nq lw hv ln yes old new
  have few := S.few
  obtain ⟨b2, ⟨kvs, hd, rd⟩, ⟨M, hM, hMq⟩, nd, inn, lN⟩ := id S
  have app : ws.map V.int ++ [V.int v] = (ws ++ [v]).map V.int := by rw [List.map_append]; rfl
  have dw : d ≠ wn := fun z => by rw [z, hw] at hd; cases hd
  have dq : d ≠ q := fun z => by rw [z, hM.at_] at hd; cases hd
  refine ⟨_, rfl, _, rfl, rfl, _, rfl, ?_⟩
  by_cases c : v = g
  · rw [show decide (V.int v = V.int g) = true from decide_eq_true (by rw [c])]
    refine iteT ⟨_, rfl, wn, _, rfl, .inr (SqL.of hw), _, rfl, ?_, fun l nl => ?_⟩
    · rw [app, List.length_map, List.length_append, sizeLine_eq]
      have : [v].length = 1 := rfl
      omega
    · refine yes c l _ (same_upd nl) nl ?_
      rw [upd_same]
      exact congrArg (fun z => some (HO.lst z)) app
  · rw [show decide (V.int v = V.int g) = false from decide_eq_false fun z => c (by injection z)]
    refine iteF ⟨_, rfl, _, rfl, d, _, rfl, DGet.k (k := .inl v) hd, _, rfl, ?_⟩
    rw [rd.2 v]
    by_cases m : v ∈ R
    · rw [decide_eq_true m]
      exact iteF (old c m)
    · rw [decide_eq_false m]
      refine iteT ⟨_, rfl, _, rfl, d, _, rfl, DPut.k (k := .inl v) hd (small1000 (by have := rd.1; omega)), ?_⟩
      have hd1 : upd H d (.dK (putK kvs (.inl v) (.bl true))) d = some (.dK (putK kvs (.inl v) (.bl true))) := upd_same
      have b1 : But2 d q H (upd H d (.dK (putK kvs (.inl v) (.bl true)))) := But2.left
      have k1 : ∀ c' o, H c' = some o → c' ≠ d → upd H d (.dK (putK kvs (.inl v) (.bl true))) c' = some o := fun c' o e n' => by rw [upd_ne n']; exact e
      generalize upd H d (.dK (putK kvs (.inl v) (.bl true))) = H1 at hd1 b1 k1
      have hw1 := k1 _ _ hw dw.symm
      have hq1 := k1 _ _ hM.at_ dq.symm
      have A1 : AllI H1 M := fun y hy => by
        obtain ⟨t, e, ht⟩ := hM.all y hy
        exact ⟨t, e, k1 _ _ ht (by rintro rfl; rw [hd] at ht; cases ht)⟩
      refine ⟨_, rfl, .inl ⟨rfl, _, SqL.of hq1⟩, _, rfl, wn, _, rfl, .inr (SqL.of hw1), _, rfl, ?_, fun l nl => ?_⟩
      · rw [app, List.length_map, List.length_append, sizeLine_eq]
        have : [v].length = 1 := rfl
        omega
      · rw [app]
        have s2 : Same H1 (upd H1 l (.lst ((ws ++ [v]).map V.int))) := same_upd nl
        have hl2 : upd H1 l (.lst ((ws ++ [v]).map V.int)) l = some (.lst ((ws ++ [v]).map V.int)) := upd_same
        generalize upd H1 l (.lst ((ws ++ [v]).map V.int)) = H2 at s2 hl2
        have lq : l ≠ q := fun z => by rw [z, hq1] at nl; cases nl
        have lM : M.length = N.length := by have := congrArg List.length hM.eq; rwa [List.length_map] at this
        refine ⟨q, _, _, rfl, rfl, s2 _ _ hq1, small1000 (by rw [List.length_map]; omega), ?_⟩
        refine new c m _ ⟨((b2.trans b1).trans (.of s2)).trans But2.right, ⟨_, by rw [upd_ne dq]; exact s2 _ _ hd1, rd.snoc v _⟩, ⟨M ++ [(.ref l, ws ++ [v])], ⟨?_, fun y hy => ?_, ?_⟩, fun y hy => ?_⟩, ?_, fun r hr' => ?_, ?_⟩
        · rw [upd_same, List.map_append]
          rfl
        · rcases List.mem_append.mp hy with hy | hy
          · obtain ⟨t, e, ht⟩ := A1 y hy
            exact ⟨t, e, by rw [upd_ne (fun z => hMq y hy (by rw [e, z]))]; exact s2 _ _ ht⟩
          · rw [List.mem_singleton.mp hy]
            exact ⟨l, rfl, by rw [upd_ne lq]; exact hl2⟩
        · rw [List.map_append, hM.eq]
          rfl
        · rcases List.mem_append.mp hy with hy | hy
          · exact hMq y hy
          · rw [List.mem_singleton.mp hy]
            exact fun z => lq (V.ref.inj z)
        · rw [List.nodup_append]
          exact ⟨nd, by simp, fun a ha b hb e => by rw [List.mem_singleton.mp hb] at e; exact m (e ▸ ha)⟩
        · rcases List.mem_append.mp hr' with h | h
          · exact inn r h
          · rw [List.mem_singleton.mp h]
            exact hv
        · rw [List.length_append, List.length_append]
          exact Nat.add_le_add_right lN 1
end
end KP
set_option maxRecDepth 100000
set_option maxHeartbeats 4000000
/-! Graph.path: the nodes behind a list; a round; the whole search. -/
namespace KP
open PySem PySem.Spec PyProof.Rows L2 KT
open GR (Arr upto succ wide proc Bfs LeastW lst)
theorem But2.free {a b l : Addr} {H H' : Hp} (h : But2 a b H H') (na : l ≠ a) (nb : l ≠ b) (e : H' l = none) : H l = none := by
  cases c : H l with
  | none => rfl
  | some o => rw [h l o c na nb] at e; cases e
theorem GrAt.but2 {C d q : Addr} {H H' : Hp} {x : Addr} {n : Nat} {A} {kvs} {xs} (h : GrAt C H x n A) (b : But2 d q H H') (hd : H d = some (.dK kvs)) (hq : H q = some (.lst xs)) : GrAt C H' x n A := by
  obtain ⟨dx, t, L, h1, ⟨h2, h3, h4⟩, h5⟩ := h
  have st : ∀ c o, H c = some o → (∀ ks, o ≠ .dK ks) → (∀ ys, o ≠ .lst ys) → H' c = some o := fun c o e n1 n2 => b c o e (by rintro rfl; rw [hd] at e; exact n1 _ (Option.some.inj e).symm) (by rintro rfl; rw [hq] at e; exact n2 _ (Option.some.inj e).symm)
  exact ⟨dx, t, L, st _ _ h1 (fun _ e => nomatch e) (fun _ e => nomatch e), ⟨st _ _ h2 (fun _ e => nomatch e) (fun _ e => nomatch e), fun y hy => by
    obtain ⟨t', e, ht⟩ := h3 y hy
    exact ⟨t', e, st _ _ ht (fun _ e => nomatch e) (fun _ e => nomatch e)⟩, h4⟩, h5⟩
theorem atI_lst {ws : List Int} (h : ws ≠ []) : atI (ws.map V.int) (-1) = some (.int (lst ws)) := by
  have e : ws.map V.int = ws.dropLast.map V.int ++ [.int (lst ws)] := by
    conv => lhs; rw [GR.snoc_of h]
    rw [List.map_append]
    rfl
  rw [e]
  exact atI_last _ _
theorem proc_cons (g : Int) (R : List Int) (N : List (List Int)) (t : List Int) (T : List (List Int)) : proc g R N (t :: T) = if lst t = g then .inl t else if lst t ∈ R then proc g R N T else proc g (R ++ [lst t]) (N ++ [t]) T := rfl
section
variable {P : Program} {w : World} {K : PySem.W.Frag} {mg : Str → Option Value} {base : Heap}
structure FolD (K : PySem.W.Frag) (mg : Str → Option Value) (P : Program) (w : World) (base : Heap) (C ff : Addr) (df : FuncData) : Prop where
  ok : FnOk P w K mg base CX0 1 ff df ["self", "node"] (spFollow C)
  m : Meth K C "_following" ff
  b : Binds K df ["self", "node"] []
abbrev stQ (x : Addr) (s g : Int) (p d q : Addr) (v6 v7 : Option V) : L2.St := [some (.ref x), some (.int s), some (.int g), some (.ref p), some (.ref d), some (.ref q), v6, v7]
theorem path_mid {C ff f : Addr} {df : FuncData} {cdv : Value} {A : Around} {outer : List Env} {st : Shared} {H0 : Hp} {E : XK} (G : GrC K mg C) (M : FolD K mg P w base C ff df) (hr : Room 1 (A.deeper (envOfC "Graph.path" (defScope sPath) st.heap.objs.size f cdv))) :
    ∃ u, PSs (cxOf CX0 P w K mg base nPa "Graph.path" (defScope sPath) f cdv A outer st H0 E).nox bodyP2 u ∧ ∀ (D : Ends) (x : Addr) (s g : Int) (p d q wn : Addr) (ws : List Int) (v7 : Option V) (n : Nat) (As : List (Int × Int)) (Hb H : Hp) (R : List Int) (N T : List (List Int)) (E0 : List Int ⊕ (List Int × List (List Int))),
      GrAt C H x n As → Stg n q d Hb H R N → H wn = some (.lst (ws.map V.int)) → wn ≠ q → ws ≠ [] → ws.length ≤ 61 → E0 = proc g R N (wide As ws ++ T) →
      (∀ t l H', E0 = .inl t → But2 d q Hb H' → (∀ c, c ≠ d → c ≠ q → H' c = none → Hb c = none) → l ≠ d → l ≠ q → Hb l = none → H' l = some (.lst (t.map V.int)) → D.rt (.ref l) H') →
      (∀ v7' R' N' H', Stg n q d Hb H' R' N' → E0 = proc g R' N' T → D.nx (stQ x s g p d q (some (.ref wn)) v7') H') → u D (stQ x s g p d q (some (.ref wn)) v7) H := by
  obtain ⟨u3, p3, h3⟩ := path_in (P := P) (w := w) (K := K) (mg := mg) (base := base) (f := f) (cdv := cdv) (A := A) (outer := outer) (st := st) (H0 := H0) (E := E) hr
  refine ⟨_, pss_one (ps_for PassesOwn.never rfl (pi_list (pe_meth (pv 0) G.cl M.m M.ok hr M.b .nil pass0 (pa_cons (pe_ix ix_list (pv 6) (pe_un un_neg pe_int) (fun _ _ => rfl)) pa_nil))) (pg_name (i := 7) scPath.nd rfl (.inl rfl)) p3), ?_⟩
  intro D x s g p d q wn ws v7 n As Hb H R N T E0 hG S hw nq ne lw eE ret go
  obtain ⟨dx, t, L, hx, hT, ar, la, ln⟩ := id hG
  obtain ⟨b2, ⟨kvs, hd, rd⟩, ⟨M0, hM, hMq⟩, _⟩ := id S
  refine ⟨_, rfl, x, dx, _, rfl, hx, grf_no _ _ (by decide +kernel) (by decide +kernel), _, rfl, _, rfl, wn, _, _, _, rfl, rfl, SqL.of hw, atI_lst ne, x, n, As, lst ws, rfl, hG, fun l H1 s1 nl hl => ?_⟩
  have S1 := (S.same s1).here
  have ld : l ≠ d := fun z => by rw [z, hd] at nl; cases nl
  have lq : l ≠ q := fun z => by rw [z, hM.at_] at nl; cases nl
  have wd : wn ≠ d := fun z => by rw [z, hd] at hw; cases hw
  have b1 : But2 d q Hb H1 := b2.trans (.of s1)
  refine ⟨l, rfl, ⟨_, SqL.of hl⟩, for_list (K := K) (a := l) (xs := (succ As (lst ws)).map V.int) (fun j σ H2 => ∃ R1 N1 v7', σ = stQ x s g p d q (some (.ref wn)) v7' ∧ Stg n q d H1 H2 R1 N1 ∧ E0 = proc g R1 N1 ((((succ As (lst ws)).drop j).map fun v => ws ++ [v]) ++ T))
    ⟨R, N, v7, rfl, S1, by rw [List.drop_zero]; exact eE⟩ (fun j σ H2 _ h => by obtain ⟨_, _, _, _, S2, _⟩ := h; exact SqL.of (S2.1 _ _ hl ld lq)) ?_ ?_⟩
  · rintro j v σ H2 hj ⟨R1, N1, v7', rfl, S2, e2⟩
    obtain ⟨c, hc, rfl⟩ := int_at hj
    have hjl : j < (succ As (lst ws)).length := (List.getElem?_eq_some_iff.mp hc).1
    have ed : (succ As (lst ws)).drop j = c :: (succ As (lst ws)).drop (j + 1) := by
      rw [List.drop_eq_getElem_cons hjl]
      congr 1
      exact (List.getElem?_eq_some_iff.mp hc).2
    rw [ed, List.map_cons, List.cons_append, proc_cons, GR.lst_snoc] at e2
    have cu : c ∈ upto n := (ar.lo _ ((GR.mem_succ As).mp (List.mem_of_getElem? hc))).2.1
    have hw2 := S2.1 _ _ (s1 _ _ hw) wd nq
    refine h3 _ x s g p d q wn ws c n H1 H2 R1 N1 S2 hw2 nq lw cu ln (fun e l' H' s' nl' hl' => ?_) (fun ne' m => ?_) (fun ne' m H' S' => ?_)
    · rw [if_pos e] at e2
      obtain ⟨_, ⟨kvs2, hd2, _⟩, ⟨M2, hM2, _⟩, _⟩ := id S2
      have l'd : l' ≠ d := fun z => by rw [z, hd2] at nl'; cases nl'
      have l'q : l' ≠ q := fun z => by rw [z, hM2.at_] at nl'; cases nl'
      exact ret _ l' H' e2 ((b1.trans S2.1).trans (.of s')) (fun c' n1 n2 z => ((b1.trans S2.1).trans (.of s')).free n1 n2 z) l'd l'q ((b1.trans S2.1).free l'd l'q nl') hl'
    · rw [if_neg ne', if_pos m] at e2
      exact ⟨R1, N1, _, rfl, S2, e2⟩
    · rw [if_neg ne', if_neg m] at e2
      exact ⟨_, _, _, rfl, S', e2⟩
  · rintro σ H2 ⟨R1, N1, v7', rfl, S2, e2⟩
    rw [List.length_map, List.drop_length, List.map_nil, List.nil_append] at e2
    exact go v7' R1 N1 H2 (S2.base b1) e2
end
end KP
set_option maxRecDepth 100000
set_option maxHeartbeats 4000000
/-! Graph.path: a round; the whole search. -/
namespace KP
open PySem PySem.Spec PyProof.Rows L2 KT
open GR (Arr upto succ wide proc Bfs LeastW lst)
theorem But2.one {q d : Addr} {H H1 H2 : Hp} (s : ∀ c o, H c = some o → c ≠ d → H1 c = some o) (b : But2 d q H1 H2) (nq : H q = none) : But d H H2 := fun c o e n => b c o (s c o e n) n (ne_of_none e nq)
section
variable {P : Program} {w : World} {K : PySem.W.Frag} {mg : Str → Option Value} {base : Heap}
theorem path_round {C ff f : Addr} {df : FuncData} {cdv : Value} {A : Around} {outer : List Env} {st : Shared} {H0 : Hp} {E : XK} (B : Blt mg) (G : GrC K mg C) (M : FolD K mg P w base C ff df) (hr : Room 1 (A.deeper (envOfC "Graph.path" (defScope sPath) st.heap.objs.size f cdv))) :
    ∃ u, PSs (cxOf CX0 P w K mg base nPa "Graph.path" (defScope sPath) f cdv A outer st H0 E).nox bodyP1 u ∧ ∀ (D : Ends) (x : Addr) (s g : Int) (p d : Addr) (v5 v6 v7 : Option V) (n : Nat) (As : List (Int × Int)) (H : Hp) (R : List Int) (L : List (List Int)) (Ms : List (V × List Int)) (kvs : List (Key × V)),
      GrAt C H x n As → H d = some (.dK kvs) → RD R kvs → IsLs H p L Ms → (∀ ws ∈ L, ws ≠ [] ∧ ws.length ≤ 61) → L.length ≤ 1000 → R.Nodup → (∀ r ∈ R, r ∈ upto n) →
      (∀ t l H', proc g R [] (L.flatMap (wide As)) = .inl t → But d H H' → l ≠ d → H l = none → H' l = some (.lst (t.map V.int)) → D.rt (.ref l) H') →
      (∀ R' N q v6' v7' H' Ms' kvs', proc g R [] (L.flatMap (wide As)) = .inr (R', N) → But d H H' → H q = none → H' d = some (.dK kvs') → RD R' kvs' → IsLs H' q N Ms' → D.nx [some (.ref x), some (.int s), some (.int g), some (.ref q), some (.ref d), some (.ref q), v6', v7'] H') →
      u D [some (.ref x), some (.int s), some (.int g), some (.ref p), some (.ref d), v5, v6, v7] H := by
  obtain ⟨u2, p2, h2⟩ := path_mid (P := P) (w := w) (base := base) (f := f) (cdv := cdv) (A := A) (outer := outer) (st := st) (H0 := H0) (E := E) G M hr
  refine ⟨_, pss_cons (ps_set (i := 5) scPath.nd rfl (.inl rfl) (pe_lst pa_nil))
    (pss_cons (ps_for PassesOwn.never rfl (pi_list (pe_callTy call_list_of (by rfl) B.list (by decide +kernel) (pa_cons (pv 3) pa_nil))) (pg_name (i := 6) scPath.nd rfl (.inl rfl)) p2)
    (pss_one (ps_set (i := 3) scPath.nd rfl (.inl rfl) (pv 5)))), ?_⟩
  intro D x s g p d v5 v6 v7 n As H R L Ms kvs hG hd rd hL hws hlen nd inn ret go
  refine ⟨by show 0 ≤ sizeLine; decide, fun q nq => ?_⟩
  have s1 : Same H (upd H q (.lst [])) := same_upd nq
  have hq1 : upd H q (.lst []) q = some (.lst []) := upd_same
  generalize upd H q (.lst []) = H1 at s1 hq1
  refine ⟨_, rfl, p, _, rfl, .inl (SqL.of (s1 _ _ hL.at_)), fun c nc => ?_⟩
  have s2 : Same H1 (upd H1 c (.lst (Ms.map (·.1)))) := same_upd nc
  have hc2 : upd H1 c (.lst (Ms.map (·.1))) c = some (.lst (Ms.map (·.1))) := upd_same
  generalize upd H1 c (.lst (Ms.map (·.1))) = H2 at s2 hc2
  have s12 := s1.trans s2
  have hq2 := s2 _ _ hq1
  have hd2 := s12 _ _ hd
  have cd : c ≠ d := fun z => by rw [z, s1 _ _ hd] at nc; cases nc
  have cq : c ≠ q := fun z => by rw [z, hq1] at nc; cases nc
  have lM : Ms.length = L.length := by have := congrArg List.length hL.eq; rwa [List.length_map] at this
  refine ⟨c, rfl, ⟨_, SqL.of hc2⟩, for_list (K := K) (a := c) (xs := Ms.map (·.1)) (fun i σ H3 => ∃ R1 N1 v6' v7', σ = stQ x s g p d q v6' v7' ∧ Stg n q d H2 H3 R1 N1 ∧ proc g R [] (L.flatMap (wide As)) = proc g R1 N1 ((L.drop i).flatMap (wide As)))
    ⟨R, [], v6, v7, rfl, ⟨But2.refl, ⟨kvs, hd2, rd⟩, ⟨[], ⟨hq2, fun _ h => (nomatch h), rfl⟩, fun _ h => (nomatch h)⟩, nd, inn, Nat.zero_le _⟩, by rw [List.drop_zero]⟩
    (fun i σ H3 _ h => by obtain ⟨_, _, _, _, _, S3, _⟩ := h; exact SqL.of (S3.1 _ _ hc2 cd cq)) ?_ ?_⟩
  · rintro i v σ H3 hi ⟨R1, N1, v6', v7', rfl, S3, e3⟩
    obtain ⟨ws, hp⟩ := at_map hi
    have hm := List.mem_of_getElem? hp
    obtain ⟨wn, ev, hw⟩ := hL.all _ hm
    have ev : v = .ref wn := ev
    subst ev
    have hw : H wn = some (.lst (ws.map V.int)) := hw
    have wd : wn ≠ d := fun z => by rw [z, hd] at hw; cases hw
    have wq : wn ≠ q := ne_of_none hw nq
    have hwL : ws ∈ L := by rw [← hL.eq]; exact List.mem_map.mpr ⟨_, hm, rfl⟩
    have hiL : L[i]? = some ws := by rw [← hL.eq, List.getElem?_map, hp]; rfl
    have hil : i < L.length := (List.getElem?_eq_some_iff.mp hiL).1
    have ed : L.drop i = ws :: L.drop (i + 1) := by
      rw [List.drop_eq_getElem_cons hil]
      congr 1
      exact (List.getElem?_eq_some_iff.mp hiL).2
    rw [ed, List.flatMap_cons] at e3
    have G3 := (hG.same s12).but2 S3.1 hd2 hq2
    refine h2 _ x s g p d q wn ws v7' n As H2 H3 R1 N1 _ _ G3 S3 (S3.1 _ _ (s12 _ _ hw) wd wq) wq (hws ws hwL).1 (hws ws hwL).2 e3 (fun t l H' et b' fr ld lq nl hl => ?_) fun v7'' R' N' H' S' e' => ⟨R', N', _, _, rfl, S', e'⟩
    exact ret t l H' et (But2.one (fun c o e _ => s12 c o e) b' nq) ld (s12.free nl) hl
  · rintro σ H3 ⟨R1, N1, v6', v7', rfl, ⟨b3, ⟨kvs3, hd3, rd3⟩, ⟨M3, hM3, _⟩, _⟩, e3⟩
    rw [List.length_map, lM, List.drop_length] at e3
    exact ⟨_, rfl, go R1 N1 q v6' v7' H3 M3 kvs3 e3 (But2.one (fun c o e _ => s12 c o e) b3 nq) nq hd3 rd3 hM3⟩
def spPath (C : Addr) : Sp := fun vs H Q _ => ∃ (x : Addr) (n : Nat) (A : List (Int × Int)) (s g : Int), vs = [.ref x, .int s, .int g] ∧ GrAt C H x n A ∧
  (LeastW A s g none → ∀ H', Same H H' → Q .non H') ∧ ∀ t, LeastW A s g (some t) → t.length ≤ 62 → ∀ l H', Same H H' → H l = none → H' l = some (.lst (t.map V.int)) → Q (.ref l) H'
theorem ok_path {C ff f : Addr} {fd df : FuncData} (F : Fun K "path" "Graph.path" sPath f fd) (B : Blt mg) (G : GrC K mg C) (M : FolD K mg P w base C ff df) : FnOk P w K mg base CX0 2 f fd ["self", "start", "goal"] (spPath C) := by
  refine F.ok scPath (fun vs H Q E h => ?_) (fun cdv A outer st H vs Q E hr h => ?_)
  · obtain ⟨_, _, _, _, _, rfl, _⟩ := h
    rfl
  · obtain ⟨x, n, As, s, g, rfl, hG, q0, q1⟩ := h
    obtain ⟨dx, t, L0, hx, hT, ar, la, ln⟩ := id hG
    obtain ⟨u, pu, hu⟩ := path_round (P := P) (w := w) (base := base) (f := f) (cdv := cdv) (A := A) (outer := outer) (st := st) (H0 := H) (E := E) B G M hr
    refine ⟨_, pss_cons (ps_set (i := 3) scPath.nd rfl (.inl rfl) (pe_lst (pa_cons (pe_lst (pa_cons (pv 1) pa_nil)) pa_nil)))
      (pss_cons (ps_set (i := 4) scPath.nd rfl (.inl rfl) pe_dnewK)
      (pss_cons (ps_while PassesOwn.never (pt_truth (pv 3) (by intro _; rfl)) pu)
      (pss_one (ps_ret pe_non)))), ?_⟩
    refine ⟨_, rfl, by show 1 ≤ sizeLine; decide, fun a na => ⟨by show 1 ≤ sizeLine; decide, fun p np => ?_⟩⟩
    have s1 : Same H (upd H a (.lst [.int s])) := same_upd na
    have ha1 : upd H a (.lst [.int s]) a = some (.lst [.int s]) := upd_same
    generalize upd H a (.lst [.int s]) = H1 at s1 ha1 np
    have s2 : Same H1 (upd H1 p (.lst [.ref a])) := same_upd np
    have hp2 : upd H1 p (.lst [.ref a]) p = some (.lst [.ref a]) := upd_same
    generalize upd H1 p (.lst [.ref a]) = H2 at s2 hp2
    refine fun d nd => ?_
    have s3 : Same H2 (upd H2 d (.dK [])) := same_upd nd
    have hd3 : upd H2 d (.dK []) d = some (.dK []) := upd_same
    generalize upd H2 d (.dK []) = H3 at s3 hd3
    have s03 := (s1.trans s2).trans s3
    have ndH : H d = none := (s1.trans s2).free nd
    have ls0 : IsLs H3 p [[s]] [(.ref a, [s])] := ⟨s3 _ _ hp2, fun y hy => by rw [List.mem_singleton.mp hy]; exact ⟨a, rfl, s3 _ _ (s2 _ _ ha1)⟩, rfl⟩
    refine ⟨fun m σ H4 => ∃ (p : Addr) (v5 v6 v7 : Option V) (k : Nat) (R : List Int) (L : List (List Int)) (Ms : List (V × List Int)) (kvs : List (Key × V)), σ = [some (.ref x), some (.int s), some (.int g), some (.ref p), some (.ref d), v5, v6, v7] ∧ Same H H4 ∧ H4 d = some (.dK kvs) ∧ RD R kvs ∧ IsLs H4 p L Ms ∧
      Bfs As n s g k L R ∧ (L = [] ∨ k ≤ R.length) ∧ L.length ≤ 1000 ∧ m = if L = [] then 0 else n + 1 - R.length, ⟨_, p, none, none, none, 0, [], [[s]], _, [], rfl, s03, hd3, ⟨Nat.le_refl _, fun x => by simp [valV_nil]⟩, ls0, Bfs.start As n s g, .inr (Nat.zero_le _), (by show 1 ≤ 1000; decide), rfl⟩, ?_⟩
    rintro m σ H4 ⟨p4, v5, v6, v7, k, R, L, Ms, kvs, rfl, s4, hd4, rd, ls, bf, lk, lL, rfl⟩
    have lM : Ms.length = L.length := by have := congrArg List.length ls.eq; rwa [List.length_map] at this
    refine ⟨_, rfl, _, .inl ⟨_, SqL.of ls.at_, rfl⟩, ?_⟩
    have lR : R.length ≤ n := by
      have := GR.nodup_len bf.nd bf.inn
      rwa [GR.upto_len] at this
    cases L with
    | nil =>
      have eM : Ms = [] := List.length_eq_zero_iff.mp lM
      subst eM
      exact iteF (q0 (bf.none As) H4 s4)
    | cons w0 L =>
      have nM : (!((Ms.map fun y : V × List Int => y.1).isEmpty)) = true := by
        cases Ms with
        | nil => cases lM
        | cons y Ms => rfl
      rw [nM]
      have lk' : k ≤ R.length := lk.resolve_left (by simp)
      refine iteT ⟨fun σ' H' => ∃ m', m' < (if w0 :: L = [] then 0 else n + 1 - R.length) ∧ _, fun σ' H' h => h, ?_⟩
      refine hu _ x s g p4 d v5 v6 v7 n As H4 R (w0 :: L) Ms kvs (hG.same s4) hd4 rd ls (fun ws hws => ?_) lL bf.nd bf.inn (fun t l H' et b' ld nl hl => ?_) fun R' N q v6' v7' H' Ms' kvs' e' b' nq hd' rd' ls' => ?_
      · have wk := bf.wk ws hws
        refine ⟨fun z => ?_, ?_⟩
        · have := wk.2.2
          rw [z] at this
          cases this
        · rw [wk.2.2]
          omega
      · have fo := bf.found As ar et
        refine q1 t fo ?_ l H' (fun c o e => b' c o (s4 c o e) (ne_of_none e ndH)) (s4.free nl) hl
        obtain ⟨h1, h2, h3⟩ := GR.proc_inl et (GR.wide_srt As ar bf.srt)
        obtain ⟨w1, hw1, v, hv, rfl⟩ := (GR.mem_wide As).mp h1
        have := (bf.wk w1 hw1).2.2
        rw [List.length_append, this]
        show k + 1 + 1 ≤ 62
        omega
      · have bn := bf.next As ar e'
        obtain ⟨g1, g2⟩ := bf.grow As ar e'
        refine ⟨if N = [] then 0 else n + 1 - R'.length, ?_, q, some (.ref q), v6', v7', k + 1, R', N, Ms', kvs', rfl, fun c o e => b' c o (s4 c o e) (ne_of_none e ndH), hd', rd', ls', bn, ?_, by omega, rfl⟩
        · rw [if_neg (show ¬ (w0 :: L = []) from List.cons_ne_nil _ _)]
          by_cases z : N = []
          · rw [if_pos z]
            omega
          · rw [if_neg z]
            have : 0 < N.length := List.length_pos_iff.mpr z
            omega
        · by_cases z : N = []
          · exact .inl z
          · have : 0 < N.length := List.length_pos_iff.mpr z
            exact .inr (by omega)
end
end KP
set_option maxRecDepth 100000
set_option maxHeartbeats 4000000
/-! Graph.ring. -/
namespace KP
open PySem PySem.Spec PyProof.Rows L2 KT
open GR (Arr upto LeastW RingIs)
/-- a list of ints, or None -/
def IsO (H : Hp) (v : V) (o : Option (List Int)) : Prop := match o with
  | none => v = .non
  | some t => IsI H v t
theorem IsO.keep {D : Addr} {H H' : Hp} {v : V} {o : Option (List Int)} (h : IsO H v o) (b : But D H H') (n : v ≠ .ref D) : IsO H' v o := by
  cases o with
  | none => exact h
  | some t =>
    obtain ⟨a, rfl, e⟩ := h
    exact ⟨a, rfl, b _ _ e fun z => n (by rw [z])⟩
theorem cut_last {ws : List Int} : cutV (ws.map V.int) none (some (-1)) = ws.dropLast.map V.int := by
  unfold cutV
  rw [List.length_map]
  show ((ws.map V.int).drop 0).take ((if (-1 : Int) < 0 then ((-1 : Int) + (ws.length : Int)).toNat else min (-1 : Int).toNat ws.length) - 0) = _
  rw [if_pos (by decide), List.drop_zero, show ((-1 : Int) + (ws.length : Int)).toNat - 0 = ws.length - 1 by omega, List.dropLast_eq_take, List.map_take]
/-- the pair of a ring's length and the ring -/
def prR (t : List Int) : Int × List Int := ((t.length : Nat), t.dropLast)
def prsR (F : List (V × Option (List Int))) : List (Int × List Int) := F.filterMap fun y => y.2.map prR
theorem prsR_take {F : List (V × Option (List Int))} {i : Nat} {y : V × Option (List Int)} (h : F[i]? = some y) : prsR (F.take (i + 1)) = prsR (F.take i) ++ (match y.2 with | none => [] | some t => [prR t]) := by
  unfold prsR
  rw [List.take_add_one, h, List.filterMap_append]
  congr 1
  cases e : y.2 with
  | none => simp [e]
  | some t => simp [e]
theorem prsR_len (F : List (V × Option (List Int))) : (prsR F).length ≤ F.length := List.length_filterMap_le _ _
/-- a pair whose list is new -/
def NewIL (D : Addr) (H0 H : Hp) (v : V) (b : Int × List Int) : Prop := ∃ t l, v = .ref t ∧ H t = some (.tup [.int b.1, .ref l]) ∧ H l = some (.lst (b.2.map V.int)) ∧ H0 l = none ∧ l ≠ D
/-- len of a list or a tuple -/
def rLen (K : PySem.W.Frag) : List V → Hp → VK → Prop := fun xs H Q => ∃ p ys, xs = [V.ref p] ∧ (SqL K H p ys ∨ SqT K H p ys) ∧ Q (.int ys.length) H
theorem NewIL.il {D : Addr} {H0 H : Hp} {v b} (h : NewIL D H0 H v b) : IsIL H v b := let ⟨t, l, e, h1, h2, _⟩ := h; ⟨t, l, e, h1, h2⟩
section
variable {P : Program} {w : World} {K : PySem.W.Frag} {mg : Str → Option Value} {base : Heap}
structure PathD (K : PySem.W.Frag) (mg : Str → Option Value) (P : Program) (w : World) (base : Heap) (C fp : Addr) (dp : FuncData) : Prop where
  ok : FnOk P w K mg base CX0 2 fp dp ["self", "start", "goal"] (spPath C)
  m : Meth K C "path" fp
  b : Binds K dp ["self", "start", "goal"] []
abbrev nRi : List Str := ["self", "found", "rings", "node", "nodes"]
def spRing (C : Addr) : Sp := fun vs H Q _ => ∃ (x : Addr) (n : Nat) (A : List (Int × Int)), vs = [.ref x] ∧ GrAt C H x n A ∧ (RingIs A none → ∀ H', Same H H' → Q .non H') ∧
  ∀ ws, RingIs A (some ws) → ws.length ≤ 62 → ∀ l H', Same H H' → H l = none → H' l = some (.lst (ws.map V.int)) → Q (.ref l) H'
theorem ring_end {n : Nat} {A : List (Int × Int)} (ar : Arr n A) {F : List (V × Option (List Int))} (lF : F.length = n) (hF : ∀ j y, F[j]? = some y → LeastW A ((1 : Int) + (j : Nat)) ((1 : Int) + (j : Nat)) y.2)
    {M : List (V × (Int × List Int))} (pm : (M.map (·.2)).Perm (prsR F)) (pw : M.Pairwise fun x y => leIL x.2 y.2) : RingIs A (M.head?.map fun y => y.2.2) := by
  let f : Int → Option (List Int) := fun v => (F[(v - 1).toNat]?).bind (·.2)
  have at_ : ∀ v ∈ upto n, ∃ y, F[(v - 1).toNat]? = some y ∧ f v = y.2 ∧ LeastW A v v y.2 := fun v hv => by
    have hv' := GR.mem_upto.mp hv
    have lt : (v - 1).toNat < F.length := by omega
    refine ⟨F[(v - 1).toNat], by rw [List.getElem?_eq_getElem lt], ?_, ?_⟩
    · show (F[(v - 1).toNat]?).bind (·.2) = _
      rw [List.getElem?_eq_getElem lt]
      rfl
    · have := hF _ _ (List.getElem?_eq_getElem lt)
      rw [show (1 : Int) + ((v - 1).toNat : Nat) = v by omega] at this
      exact this
  have inM : ∀ v ∈ upto n, ∀ t, f v = some t → ∃ y ∈ M, y.2 = prR t := fun v hv t e => by
    obtain ⟨y, hy, ey, _⟩ := at_ v hv
    rw [e] at ey
    have : prR t ∈ prsR F := List.mem_filterMap.mpr ⟨y, List.mem_of_getElem? hy, by rw [← ey]; rfl⟩
    obtain ⟨z, hz, ez⟩ := List.mem_map.mp (pm.mem_iff.mpr this)
    exact ⟨z, hz, ez⟩
  refine GR.ring_all A ar (f := f) (fun v hv => ?_) ?_
  · obtain ⟨y, _, ey, h⟩ := at_ v hv
    rw [ey]
    exact h
  · cases M with
    | nil =>
      intro v hv
      cases e : f v with
      | none => rfl
      | some t =>
        obtain ⟨y, hy, _⟩ := inM v hv t e
        cases hy
    | cons y M =>
      have hy : y.2 ∈ prsR F := pm.mem_iff.mp (by simp)
      obtain ⟨z, hz, ez⟩ := List.mem_filterMap.mp hy
      obtain ⟨j, hj, ej⟩ := List.getElem_of_mem hz
      have zj : F[j]? = some z := by rw [List.getElem?_eq_getElem hj, ej]
      cases e : z.2 with
      | none => rw [e] at ez; cases ez
      | some t =>
        rw [e] at ez
        have ey : prR t = y.2 := Option.some.inj ez
        have hv : (1 : Int) + (j : Nat) ∈ upto n := GR.mem_upto.mpr (by omega)
        refine ⟨(1 : Int) + (j : Nat), hv, t, ?_, by show y.2.2 = t.dropLast; rw [← ey]; rfl, fun v' hv' t' e' => ?_⟩
        · show (F[((1 : Int) + (j : Nat) - 1).toNat]?).bind (·.2) = _
          rw [show ((1 : Int) + (j : Nat) - 1).toNat = j by omega, zj]
          exact e
        · obtain ⟨u, hu, eu⟩ := inM v' hv' t' e'
          have le : leIL y.2 u.2 ∨ y.2 = u.2 := by
            rcases List.mem_cons.mp hu with rfl | hu
            · exact .inr rfl
            · exact .inl ((List.pairwise_cons.mp pw).1 u hu)
          rw [← ey, eu] at le
          rcases le with h | h
          · rcases h with h | ⟨h1, h2⟩
            · have h : ((t.length : Nat) : Int) < ((t'.length : Nat) : Int) := h
              exact .inl (by omega)
            · have h1 : ((t.length : Nat) : Int) = ((t'.length : Nat) : Int) := h1
              have h1' : t.length = t'.length := by omega
              exact .inr ⟨h1', GR.le_of_not (by rw [List.length_dropLast, List.length_dropLast, h1']) h2⟩
          · have h1 : ((t.length : Nat) : Int) = ((t'.length : Nat) : Int) := congrArg Prod.fst h
            have h2 : t.dropLast = t'.dropLast := congrArg Prod.snd h
            exact .inr ⟨by omega, .inl h2⟩
theorem ok_ring {C fp f : Addr} {fd dp : FuncData} (F : Fun K "ring" "Graph.ring" sRing f fd) (B : Blt mg) (G : GrC K mg C) (M : PathD K mg P w base C fp dp) : FnOk P w K mg base CX0 3 f fd ["self"] (spRing C) := by
  refine F.ok scRing (fun vs H Q E h => ?_) (fun cdv A outer st H vs Q E hr h => ?_)
  · obtain ⟨_, _, _, rfl, _⟩ := h
    rfl
  · obtain ⟨x, n, As, rfl, hG, q0, q1⟩ := h
    obtain ⟨dx, t, L0, hx, hT, ar, la, ln⟩ := id hG
    refine ⟨_, pss_cons (ps_setLc (i := 1) (own := [("node", 3)]) (g := gName 3) (tt := tYes) rfl scRing.nd rfl rfl (sw_true rfl rfl rfl rfl) (pi_range2 (by rfl) B.range (pa_cons pe_int (pa_cons (pe_op op_add (pe_fld (pv 0) rfl) pe_int) pa_nil)))
        (blkOk_by (N := nRi) (sc := defScope sRing) (by decide +kernel)) (fun _ _ _ _ _ => pg_name (i := 3) scRing.nd rfl (.inl rfl)) (fun _ _ _ _ _ => pts_nil)
        (fun _ _ _ _ _ => pe_meth (pv 0) G.cl M.m M.ok hr M.b .nil pass0 (pa_cons (pv 3) (pa_cons (pv 3) pa_nil))))
      (pss_cons (ps_set (i := 2) scRing.nd rfl (.inl rfl) (pe_callB (cr_sortIL hr.units) (by rfl) B.sorted (by decide +kernel) (pa_cons (pe_lc (own := [("nodes", 4)]) (g := gName 4) rfl scRing.nd (pi_list (pv 1))
        (blkOk_by (N := nRi) (sc := defScope sRing) (by decide +kernel)) (fun _ _ _ _ _ => pg_name (i := 4) scRing.nd rfl (.inl rfl)) (fun _ _ _ _ _ => pts_one (pt_cmpR op_notN (pv 4) pe_non (nomark _)))
        (fun _ _ _ _ _ => pe_tup (pa_cons (pe_callB (show CallR _ _ (rLen K) from call_len_seq) (by rfl) B.len PySem.boot_len (pa_cons (pv 4) pa_nil)) (pa_cons (pe_slice (show SlR _ (rSlL K) from sl_list) (pv 4) po_none (po_some (pe_un un_neg pe_int))) pa_nil)))) pa_nil)))
      (pss_one (ps_ret (pe_ifExp (pt_truth (pv 2) (by intro _; rfl)) (pe_ix ix_tup (pe_ix ix_list (pv 2) pe_int (fun _ _ => rfl)) pe_int (fun _ _ => rfl)) pe_non)))), ?_⟩
    refine ⟨_, rfl, x, C, dx, _, _, rfl, hx, G.cl, G.n1, grf_1 _ _, _, _, rfl, rfl, ?_⟩
    refine ⟨1, (n : Int) + 1, rfl, ⟨by omega, by omega, by omega, by omega⟩, fun D nD => ?_⟩
    rw [show ((n : Int) + 1 - 1).toNat = n by omega]
    refine lc_range (lo := 1) (n := n) (fun i H2 => ∃ F : List (V × Option (List Int)), But D (upd H D (.lst [])) H2 ∧ H2 D = some (.lst (F.map (·.1))) ∧ F.length = i ∧ (∀ y ∈ F, IsO H2 y.1 y.2 ∧ y.1 ≠ .ref D) ∧ ∀ j y, F[j]? = some y → LeastW As ((1 : Int) + (j : Nat)) ((1 : Int) + (j : Nat)) y.2 ∧ ∀ t, y.2 = some t → t.length ≤ 62)
      ⟨[], But.refl, upd_same, rfl, fun _ h => (nomatch h), fun j y h => by simp at h⟩ ?_ ?_
    · rintro i H2 hi ⟨F, hb, hD, lF, hI, hW⟩
      have s2 : Same H H2 := But.new hb rfl nD
      refine ⟨rfl, ?_⟩
      refine yes_i ?_
      have done : ∀ (v : V) (o : Option (List Int)) (H3 : Hp), Same H2 H3 → IsO H3 v o → v ≠ .ref D → LeastW As ((1 : Int) + (i : Nat)) ((1 : Int) + (i : Nat)) o → (∀ t, o = some t → t.length ≤ 62) → ∃ acc, H3 D = some (.lst acc) ∧ acc.length < sizeLine ∧ ∃ F : List (V × Option (List Int)), But D (upd H D (.lst [])) (upd H3 D (.lst (acc ++ [v]))) ∧ (upd H3 D (.lst (acc ++ [v]))) D = some (.lst (F.map (·.1))) ∧ F.length = i + 1 ∧ (∀ y ∈ F, IsO (upd H3 D (.lst (acc ++ [v]))) y.1 y.2 ∧ y.1 ≠ .ref D) ∧
          ∀ j y, F[j]? = some y → LeastW As ((1 : Int) + (j : Nat)) ((1 : Int) + (j : Nat)) y.2 ∧ ∀ t, y.2 = some t → t.length ≤ 62 := by
        intro v o H3 s3 io nv lw lo
        refine ⟨_, s3 _ _ hD, small1000 (by rw [List.length_map]; omega), F ++ [(v, o)], (hb.same s3).trans But.upd, by rw [upd_same, List.map_append]; rfl, by simp [lF], fun y hy => ?_, fun j y hj => ?_⟩
        · rcases List.mem_append.mp hy with hy | hy
          · exact ⟨((hI y hy).1.keep (.of s3) (hI y hy).2).keep But.upd (hI y hy).2, (hI y hy).2⟩
          · rw [List.mem_singleton.mp hy]
            exact ⟨io.keep But.upd nv, nv⟩
        · by_cases c : j < F.length
          · rw [List.getElem?_append_left c] at hj
            exact hW j y hj
          · rw [List.getElem?_append_right (by omega)] at hj
            have ej : j = i := by
              have := (List.getElem?_eq_some_iff.mp hj).1
              have e1 : [(v, o)].length = 1 := rfl
              omega
            subst ej
            rw [lF, Nat.sub_self] at hj
            have : (v, o) = y := Option.some.inj hj
            subst this
            exact ⟨lw, lo⟩
      refine ⟨_, rfl, x, dx, _, rfl, s2 _ _ hx, grf_no _ _ (by decide +kernel) (by decide +kernel), _, rfl, _, rfl, x, n, As, _, _, rfl, hG.same s2, fun lw H3 s3 => ?_, fun ws lw lb l H3 s3 nl hl => ?_⟩
      · exact done .non none H3 s3 rfl (fun z => nomatch z) lw fun _ z => nomatch z
      · exact done (.ref l) (some ws) H3 s3 ⟨l, rfl, hl⟩ (fun z => by rw [V.ref.inj z, hD] at nl; cases nl) lw fun t e => by rw [← Option.some.inj e]; exact lb
    · rintro H2 ⟨F, hb, hD, lF, hI, hW⟩
      have s2 : Same H H2 := But.new hb rfl nD
      refine ⟨_, rfl, D, rfl, ⟨_, SqL.of hD⟩, fun D2 nD2 => lc_list (K := K) (a := D) (xs := F.map (·.1)) (fun i H3 => ∃ M : List (V × (Int × List Int)), But D2 (upd H2 D2 (.lst [])) H3 ∧ H3 D2 = some (.lst (M.map (·.1))) ∧ M.map (·.2) = prsR (F.take i) ∧ ∀ y ∈ M, NewIL D2 H H3 y.1 y.2)
        ⟨[], But.refl, upd_same, rfl, fun _ h => (nomatch h)⟩ (fun i H3 _ h => by obtain ⟨_, hb3, _⟩ := h; exact SqL.of ((But.new hb3 rfl nD2) _ _ hD)) ?_ ?_⟩
      · rintro i v H3 hi ⟨M, hb3, hD3, eM, hM⟩
        have s3 : Same H2 H3 := But.new hb3 rfl nD2
        obtain ⟨o, hp⟩ : ∃ o, F[i]? = some (v, o) := at_map hi
        have hil : i < F.length := (List.getElem?_eq_some_iff.mp hp).1
        have lp := prsR_len (F.take i)
        rw [List.length_take] at lp
        have lM : M.length = (prsR (F.take i)).length := by rw [← eM, List.length_map]
        have st := prsR_take hp
        obtain ⟨io, nv⟩ := hI _ (List.mem_of_getElem? hp)
        refine ⟨rfl, _, rfl, rfl, _, rfl, ?_⟩
        cases o with
        | none =>
          have io : v = .non := io
          subst io
          refine iteF ⟨M, hb3, hD3, ?_, hM⟩
          rw [st, eM]
          exact (List.append_nil _).symm
        | some ws =>
          obtain ⟨l, rfl, hl⟩ := io
          have hl3 := s3 _ _ hl
          refine iteT ⟨_, rfl, l, _, rfl, .inl (SqL.of hl3), _, rfl, _, rfl, _, rfl, l, _, rfl, SqL.of hl3, fun l2 nl2 => ?_⟩
          rw [cut_last, List.length_map]
          have s4 : Same H3 (upd H3 l2 (.lst (ws.dropLast.map V.int))) := same_upd nl2
          have hl4 : upd H3 l2 (.lst (ws.dropLast.map V.int)) l2 = some (.lst (ws.dropLast.map V.int)) := upd_same
          generalize upd H3 l2 (.lst (ws.dropLast.map V.int)) = H4 at s4 hl4
          refine ⟨by show 2 ≤ sizeLine; decide, fun T nT => ?_⟩
          have s5 : Same H4 (upd H4 T (.tup [.int (ws.length : Nat), .ref l2])) := same_upd nT
          have hT5 : upd H4 T (.tup [.int (ws.length : Nat), .ref l2]) T = some (.tup [.int (ws.length : Nat), .ref l2]) := upd_same
          generalize upd H4 T (.tup [.int (ws.length : Nat), .ref l2]) = H5 at s5 hT5
          have s35 := s4.trans s5
          have nTD : T ≠ D2 := fun z => by rw [z, s4 _ _ hD3] at nT; cases nT
          have nlD : l2 ≠ D2 := fun z => by rw [z, hD3] at nl2; cases nl2
          refine ⟨_, s35 _ _ hD3, small1000 (by rw [List.length_map]; omega), M ++ [(.ref T, prR ws)], (hb3.same s35).trans But.upd, by rw [upd_same, List.map_append]; rfl, by rw [List.map_append, eM, st]; rfl, fun y hy => ?_⟩
          rcases List.mem_append.mp hy with hy | hy
          · obtain ⟨t', l', e', h1, h2, h3, h4⟩ := hM y hy
            exact ⟨t', l', e', by rw [upd_ne (fun z => by rw [z, hD3] at h1; cases h1)]; exact s35 _ _ h1, by rw [upd_ne h4]; exact s35 _ _ h2, h3, h4⟩
          · rw [List.mem_singleton.mp hy]
            exact ⟨T, l2, rfl, by rw [upd_ne nTD]; exact hT5, by rw [upd_ne nlD]; exact s5 _ _ hl4, (s2.trans s3).free nl2, nlD⟩
      · rintro H3 ⟨M, hb3, hD3, eM, hM⟩
        rw [List.length_map, List.take_length] at eM
        have s3 : Same H2 H3 := But.new hb3 rfl nD2
        have s03 := s2.trans s3
        refine ⟨D2, M, rfl, SqL.of hD3, fun y hy => (hM y hy).il, fun M' p pm pw np => ?_⟩
        have s4 : Same H3 (upd H3 p (.lst (M'.map (·.1)))) := same_upd np
        have hp4 : upd H3 p (.lst (M'.map (·.1))) p = some (.lst (M'.map (·.1))) := upd_same
        generalize upd H3 p (.lst (M'.map (·.1))) = H4 at s4 hp4
        have ring := ring_end ar lF (fun j y e => (hW j y e).1) (M := M') (by rw [← eM]; exact pm.map _) pw
        refine ⟨_, rfl, _, .inl ⟨_, SqL.of hp4, rfl⟩, ?_⟩
        cases M' with
        | nil => exact iteF (q0 ring H4 (s03.trans s4))
        | cons y M' =>
          obtain ⟨T, l, e1, h1, h2, h3, _⟩ := hM y (pm.mem_iff.mp (by simp))
          refine iteT ⟨_, rfl, p, _, _, y.1, rfl, rfl, SqL.of hp4, atI_nat (j := 0) rfl, T, _, _, .ref l, e1, rfl, SqT.of (s4 _ _ h1), atI_nat (j := 1) rfl, ?_⟩
          have yin : y.2 ∈ prsR F := by
            rw [← eM]
            exact List.mem_map.mpr ⟨y, pm.mem_iff.mp (by simp), rfl⟩
          obtain ⟨z, hz, ez⟩ := List.mem_filterMap.mp yin
          refine q1 y.2.2 ring ?_ l H4 (s03.trans s4) h3 (s4 _ _ h2)
          obtain ⟨j, hj, ej⟩ := List.getElem_of_mem hz
          cases e : z.2 with
          | none => rw [e] at ez; cases ez
          | some ws =>
            rw [e] at ez
            have ey : prR ws = y.2 := Option.some.inj ez
            have := (hW j z (by rw [List.getElem?_eq_getElem hj, ej])).2 ws e
            rw [← ey]
            show ws.dropLast.length ≤ 62
            rw [List.length_dropLast]
            omega
end
end KP
set_option maxRecDepth 100000
set_option maxHeartbeats 4000000
/-! The law's draws: any number within its bound may come. -/
namespace KP
open PySem PySem.Spec PyProof.Rows L2 KT
/-- a pot of draws -/
def PotAt (H : Hp) (a : Addr) : Prop := ∃ x y : Int, H a = some (.lst [.int x, .int y]) ∧ 0 ≤ x ∧ x < 2147483647 ∧ 0 ≤ y
theorem PotAt.same {a : Addr} {H H' : Hp} (h : PotAt H a) (s : Same H H') : PotAt H' a := let ⟨x, y, e, r⟩ := h; ⟨x, y, s _ _ e, r⟩
theorem menu {ms : List Int} {k : Int} (h0 : 0 ≤ k) (h1 : k < ms.length) : ∃ m, m ∈ ms ∧ atI (ms.map V.int) k = some (.int m) := by
  obtain ⟨j, rfl⟩ : ∃ j : Nat, k = (j : Int) := ⟨k.toNat, by omega⟩
  have hj : j < ms.length := by omega
  exact ⟨ms[j], List.getElem_mem hj, atI_nat (by rw [List.getElem?_map, List.getElem?_eq_getElem hj]; rfl)⟩
section
variable {P : Program} {w : World} {K : PySem.W.Frag} {mg : Str → Option Value} {base : Heap}
/-! _law_pot -/
def spPot (K : PySem.W.Frag) : Sp := fun vs H Q _ => ∃ (a : Addr) (ns : List Int) (k : Nat), vs = [.ref a, .int (k : Int)] ∧ SqL K H a (ns.map V.int) ∧ ∀ p H', Same H H' → H p = none → PotAt H' p → Q (.ref p) H'
theorem ok_pot {f : Addr} {fd : FuncData} (F : Fun K "_law_pot" "_law_pot" sPot f fd) (B : Blt mg) : FnOk P w K mg base CX0 1 f fd ["_law_script", "_law_k"] (spPot K) := by
  refine F.ok scPot (fun vs H Q E h => ?_) (fun cdv A outer s H vs Q E hr h => ?_)
  · obtain ⟨_, _, _, rfl, _⟩ := h
    rfl
  · obtain ⟨a, ns, k, rfl, hS, q⟩ := h
    have tail : ∃ t, PSs (cxOf CX0 P w K mg base ["_law_script", "_law_k", "_law_number"] "_law_pot" (defScope sPot) f cdv A outer s H E).nox ((defBody sPot).drop 2) t ∧
        ∀ n : Int, 0 ≤ n → t { nx := fun _ H' => Q .non H', rt := Q } [some (.ref a), some (.int k), some (.int n)] H := by
      refine ⟨_, pss_cons (ps_if (pt_cmpR op_lt (pv 2) (pe_op op_pow pe_int pe_int) (nomark _))
          (pss_one (ps_ret (pe_lst (pa_cons (pe_op op_mod (pe_callTy call_int1 (by rfl) B.int (by decide +kernel) (pa_cons (pv 2) pa_nil)) pe_int) (pa_cons pe_int pa_nil))))) pss_nil)
        (pss_one (ps_ret (pe_lst (pa_cons pe_int (pa_cons (pe_op op_sub (pv 2) (pe_op op_pow pe_int pe_int)) pa_nil))))), ?_⟩
      intro n hn
      refine ⟨_, rfl, _, _, rfl, rfl, ⟨by decide, by decide, by decide⟩, _, _, rfl, rfl, _, rfl, ite2 (fun c => ?_) fun c => ?_⟩
      · refine ⟨_, rfl, .inl ⟨_, rfl, _, _, rfl, rfl, by show (0 : Int) < 2147483647; decide, by show 2 ≤ sizeLine; decide, fun p hp => ?_⟩⟩
        exact q p _ (same_upd hp) hp ⟨_, _, upd_same, Int.emod_nonneg _ (by decide), Int.emod_lt_of_pos _ (by decide), Int.le_refl _⟩
      · have c' : ¬ n < 10 ^ (18 : Int).toNat := fun z => c (decide_eq_true z)
        refine ⟨_, rfl, _, _, rfl, rfl, ⟨by decide, by decide, by decide⟩, _, _, rfl, rfl, by show 2 ≤ sizeLine; decide, fun p hp => ?_⟩
        exact q p _ (same_upd hp) hp ⟨_, _, upd_same, Int.le_refl _, by decide, by omega⟩
    obtain ⟨t, ht, h2⟩ := tail
    refine ⟨_, pss_cons (ps_set (i := 2) scPot.nd rfl (.inl rfl) pe_int)
      (pss_cons (ps_if (pt_cmpR op_lt (pv 1) (pe_callB call_len_seq (by rfl) B.len PySem.boot_len (pa_cons (pv 0) pa_nil)) (nomark _))
          (pss_one (ps_set (i := 2) scPot.nd rfl (.inl rfl) (pe_callB call_abs (by rfl) B.abs (by decide +kernel) (pa_cons (pe_ix ix_list (pv 0) (pv 1) (fun _ _ => rfl)) pa_nil)))) pss_nil) ht), ?_⟩
    refine ⟨_, rfl, _, rfl, a, _, rfl, .inl hS, _, _, rfl, rfl, _, rfl, ite2 (fun c => ?_) fun c => ?_⟩
    · have c' := of_decide_eq_true c
      rw [List.length_map] at c'
      have hk : k < ns.length := by omega
      refine ⟨_, rfl, _, rfl, a, _, _, _, rfl, rfl, hS, atI_nat (j := k) (v := V.int ns[k]) (by rw [List.getElem?_map, List.getElem?_eq_getElem hk]; rfl), _, rfl, ?_⟩
      exact h2 _ (by split <;> omega)
    · exact h2 0 (Int.le_refl _)
/-! _law_draw -/
def spDraw : Sp := fun vs H Q _ => ∃ (a : Addr) (m : Int), vs = [.ref a, .int m] ∧ PotAt H a ∧ 0 < m ∧ ∀ (v : Int) (H' : Hp), 0 ≤ v → v < m → PotAt H' a → But a H H' → Q (.int v) H'
theorem ok_draw {f : Addr} {fd : FuncData} (F : Fun K "_law_draw" "_law_draw" sDraw f fd) (B : Blt mg) : FnOk P w K mg base CX0 1 f fd ["_law_pot_here", "_law_many"] spDraw := by
  refine F.ok scDraw (fun vs H Q E h => ?_) (fun cdv A outer s H vs Q E hr h => ?_)
  · obtain ⟨_, _, rfl, _⟩ := h
    rfl
  · obtain ⟨a, m, rfl, ⟨x, y, hp, x0, x1, y0⟩, hm, q⟩ := h
    refine ⟨_, pss_cons (ps_if (pt_cmpR op_eq (pe_ix ix_list (pv 0) pe_int (fun _ _ => rfl)) pe_int (nomark _))
        (pss_cons (ps_set (i := 2) scDraw.nd rfl (.inl rfl) (pe_op op_mod (pe_op op_mod (pe_callTy call_int1 (by rfl) B.int (by decide +kernel) (pa_cons (pe_ix ix_list (pv 0) pe_int (fun _ _ => rfl)) pa_nil)) pe_int) (pv 1)))
        (pss_cons (ps_asg (pe_op op_fdiv (pe_callTy call_int1 (by rfl) B.int (by decide +kernel) (pa_cons (pe_ix ix_list (pv 0) pe_int (fun _ _ => rfl)) pa_nil)) pe_int) (pg_sub (pv 0) pe_int set_list))
        (pss_one (ps_ret (pv 2))))) pss_nil)
      (pss_cons (ps_asg (pe_op op_mod (pe_callTy call_int1 (by rfl) B.int (by decide +kernel) (pa_cons (pe_op op_mul (pe_ix ix_list (pv 0) pe_int (fun _ _ => rfl)) pe_int) pa_nil)) pe_int) (pg_sub (pv 0) pe_int set_list))
      (pss_one (ps_ret (pe_op op_mod (pe_op op_mod (pe_callTy call_int1 (by rfl) B.int (by decide +kernel) (pa_cons (pe_op op_mul (pe_ix ix_list (pv 0) pe_int (fun _ _ => rfl)) (pe_ix ix_list (pv 0) pe_int (fun _ _ => rfl))) pa_nil)) pe_int) (pv 1))))), ?_⟩
    have a0 : ∀ {u v : Int}, atI [V.int u, V.int v] 0 = some (V.int u) := fun {u v} => atI_nat (j := 0) rfl
    have a1 : ∀ {u v : Int}, atI [V.int u, V.int v] 1 = some (V.int v) := fun {u v} => atI_nat (j := 1) rfl
    refine ⟨_, rfl, a, _, _, _, rfl, rfl, SqL.of hp, a0, rfl, _, rfl, ite2 (fun c => ?_) fun c => ?_⟩
    · refine ⟨_, rfl, a, _, _, _, rfl, rfl, SqL.of hp, a1, .inl ⟨_, rfl, _, _, rfl, rfl, by show (0 : Int) < 1000; decide, _, rfl, _, _, rfl, rfl, hm, ?_⟩⟩
      refine ⟨_, rfl, a, _, _, _, rfl, rfl, SqL.of hp, a1, .inl ⟨_, rfl, _, _, rfl, rfl, ⟨by decide, by decide⟩, _, rfl, a, _, _, 1, rfl, rfl, hp, by show ixN 2 1 = some 1; decide, ?_⟩⟩
      refine ⟨_, rfl, q _ _ (Int.emod_nonneg _ (by omega)) (Int.emod_lt_of_pos _ hm) ⟨x, y / 1000, upd_same, x0, x1, Int.ediv_nonneg y0 (by decide)⟩ But.upd⟩
    · refine ⟨_, rfl, a, _, _, _, rfl, rfl, SqL.of hp, a0, _, _, rfl, rfl, .inl ⟨by omega, by omega⟩, .inl ⟨_, rfl, _, _, rfl, rfl, by show (0 : Int) < 2147483647; decide, _, rfl, a, _, _, 0, rfl, rfl, hp, by show ixN 2 0 = some 0; decide, ?_⟩⟩
      have z0 : 0 ≤ x * 48271 % 2147483647 := Int.emod_nonneg _ (by decide)
      have z1 : x * 48271 % 2147483647 < 2147483647 := Int.emod_lt_of_pos _ (by decide)
      refine ⟨_, rfl, a, _, _, _, rfl, rfl, SqL.of upd_same, atI_nat (j := 0) rfl, _, rfl, a, _, _, _, rfl, rfl, SqL.of upd_same, atI_nat (j := 0) rfl, _, _, rfl, rfl, .inl ⟨by omega, by omega⟩, .inl ⟨_, rfl, _, _, rfl, rfl, by show (0 : Int) < 2147483629; decide, _, rfl, _, _, rfl, rfl, hm, ?_⟩⟩
      exact q _ _ (Int.emod_nonneg _ (by omega)) (Int.emod_lt_of_pos _ hm) ⟨_, y, upd_same, z0, z1, y0⟩ But.upd
end
end KP
set_option maxRecDepth 100000
set_option maxHeartbeats 4000000
/-! The law's orders. -/
namespace KP
open PySem PySem.Spec PyProof.Rows L2 KT
open GR (upto levels more)
theorem small5000 {n : Nat} (h : n ≤ 10000) : n < sizeLine := Nat.lt_of_le_of_lt h (by decide)
theorem more_len (n : Nat) (p : List Int) : (more n p).length ≤ n := by
  unfold more
  rw [List.length_map]
  exact Nat.le_trans (List.length_filter_le _ _) (by rw [GR.upto_len]; exact Nat.le_refl _)
theorem flat_more (n : Nat) : ∀ L : List (List Int), (L.flatMap (more n)).length ≤ n * L.length
  | [] => Nat.zero_le _
  | p :: L => by
    rw [List.flatMap_cons, List.length_append, List.length_cons, Nat.mul_succ]
    have := more_len n p
    have := flat_more n L
    omega
theorem pow_le5 {n : Nat} (h : n ≤ 5) : ∀ k, k ≤ 5 → (levels n k).length ≤ 5 ^ k
  | 0, _ => Nat.le_refl _
  | k + 1, hk => by
    show ((levels n k).flatMap (more n)).length ≤ _
    have h1 := flat_more n (levels n k)
    have h2 := pow_le5 h k (by omega)
    have h3 : n * (levels n k).length ≤ 5 * 5 ^ k := Nat.mul_le_mul h h2
    rw [Nat.pow_succ, Nat.mul_comm]
    omega
theorem lev_len {n k : Nat} (h : n ≤ 5) (hk : k ≤ 5) : (levels n k).length ≤ 3125 := Nat.le_trans (pow_le5 h k hk) (Nat.le_trans (Nat.pow_le_pow_right (by decide) hk) (by decide))
theorem more_take {n i : Nat} {p : List Int} (h : i < n) : (((upto n).take (i + 1)).filter fun e => decide (e ∉ p)).map (fun e => p ++ [e]) = (((upto n).take i).filter fun e => decide (e ∉ p)).map (fun e => p ++ [e]) ++ (if (1 : Int) + (i : Nat) ∉ p then [p ++ [(1 : Int) + (i : Nat)]] else []) := by
  rw [filt_take (upto_at h), List.map_append]
  congr 1
  by_cases c : (1 : Int) + (i : Nat) ∈ p
  · simp [c]
  · simp [c]
/-- a list of lists grows -/
theorem ls_snoc {H : Hp} {p l : Addr} {M : List (V × List Int)} {W : List (List Int)} {ws : List Int} (hA : AllI H M) (hn : ∀ y ∈ M, y.1 ≠ .ref p) (e : M.map (·.2) = W) (hl : H l = some (.lst (ws.map V.int))) (lp : l ≠ p) :
    IsLs (upd H p (.lst (M.map (·.1) ++ [.ref l]))) p (W ++ [ws]) (M ++ [(.ref l, ws)]) ∧ ∀ y ∈ M ++ [(.ref l, ws)], y.1 ≠ .ref p := by
  refine ⟨⟨by rw [upd_same, List.map_append]; rfl, fun y hy => ?_, by rw [List.map_append, e]; rfl⟩, fun y hy => ?_⟩
  · rcases List.mem_append.mp hy with hy | hy
    · obtain ⟨t, et, ht⟩ := hA y hy
      exact ⟨t, et, by rw [upd_ne (fun z => hn y hy (by rw [et, z]))]; exact ht⟩
    · rw [List.mem_singleton.mp hy]
      exact ⟨l, rfl, by rw [upd_ne lp]; exact hl⟩
  · rcases List.mem_append.mp hy with hy | hy
    · exact hn y hy
    · rw [List.mem_singleton.mp hy]
      exact fun z => lp (V.ref.inj z)
section
variable {P : Program} {w : World} {K : PySem.W.Frag} {mg : Str → Option Value} {base : Heap}
abbrev nOr : List Str := ["_law_many", "_law_found_here", "_law_k", "_law_longer", "_law_order", "_law_entry"]
def spOrders : Sp := fun vs H Q _ => ∃ n : Nat, vs = [.int (n : Int)] ∧ n ≤ 5 ∧ ∀ l M H', Same H H' → H l = none → IsLs H' l (levels n n) M → Q (.ref l) H'
theorem ok_orders {f : Addr} {fd : FuncData} (F : Fun K "_law_orders" "_law_orders" sOrders f fd) (B : Blt mg) : FnOk P w K mg base CX0 1 f fd ["_law_many"] spOrders := by
  refine F.ok scOrders (fun vs H Q E h => ?_) (fun cdv A outer st H vs Q E hr h => ?_)
  · obtain ⟨_, rfl, _⟩ := h
    rfl
  · obtain ⟨n, rfl, hn, q⟩ := h
    refine ⟨_, pss_cons (ps_set (i := 1) scOrders.nd rfl (.inl rfl) (pe_lst (pa_cons (pe_lst pa_nil) pa_nil)))
      (pss_cons (ps_for PassesOwn.never rfl (pi_range1 (by rfl) B.range (pa_cons (pv 0) pa_nil)) (pg_name (i := 2) scOrders.nd rfl (.inl rfl))
        (pss_cons (ps_set (i := 3) scOrders.nd rfl (.inl rfl) (pe_lst pa_nil))
        (pss_cons (ps_for PassesOwn.never rfl (pi_list (pv 1)) (pg_name (i := 4) scOrders.nd rfl (.inr rfl))
          (pss_one (ps_set (i := 3) scOrders.nd rfl (.inl rfl) (pe_op op_cat (pv 3) (pe_lc (own := [("_law_entry", 5)]) (g := gName 5) rfl scOrders.nd (pi_range2 (by rfl) B.range (pa_cons pe_int (pa_cons (pe_op op_add (pv 0) pe_int) pa_nil)))
            (blkOk_by (N := nOr) (sc := defScope sOrders) (by decide +kernel)) (fun _ _ _ _ _ => pg_name (i := 5) scOrders.nd rfl (.inl rfl))
            (fun _ _ _ _ _ => pts_one (pt_cmpR (show OpR _ _ (rIn K true) from op_notIn_seq) (pv 5) (pv 4) rfl)) (fun _ _ _ _ _ => pe_op op_cat (pv 4) (pe_lst (pa_cons (pv 5) pa_nil))))))))
        (pss_one (ps_set (i := 1) scOrders.nd rfl (.inl rfl) (pv 3))))))
      (pss_one (ps_ret (pv 1)))), ?_⟩
    refine ⟨by show 0 ≤ sizeLine; decide, fun a na => ⟨by show 1 ≤ sizeLine; decide, fun p np => ?_⟩⟩
    have s1 : Same H (upd H a (.lst [])) := same_upd na
    have ha1 : upd H a (.lst []) a = some (.lst []) := upd_same
    generalize upd H a (.lst []) = H1 at s1 ha1 np
    have s2 : Same H1 (upd H1 p (.lst [.ref a])) := same_upd np
    have hp2 : upd H1 p (.lst [.ref a]) p = some (.lst [.ref a]) := upd_same
    generalize upd H1 p (.lst [.ref a]) = H2 at s2 hp2
    have s12 := s1.trans s2
    refine ⟨_, rfl, _, rfl, by omega, by omega, ?_⟩
    rw [show ((n : Int)).toNat = n by omega]
    refine for_range (lo := 0) (n := n) (fun i σ H3 => ∃ (p : Addr) (v2 v3 v4 v5 : Option V) (M : List (V × List Int)), σ = [some (.int (n : Int)), some (.ref p), v2, v3, v4, v5] ∧ Same H H3 ∧ H p = none ∧ IsLs H3 p (levels n i) M)
      ⟨p, none, none, none, none, [(.ref a, [])], rfl, s12, s1.free np, hp2, fun y hy => by rw [List.mem_singleton.mp hy]; exact ⟨a, rfl, s2 _ _ ha1⟩, rfl⟩ ?_ ?_
    · rintro i σ H3 hi ⟨p, v2, v3, v4, v5, M, rfl, s3, np, ls⟩
      refine ⟨by show 0 ≤ sizeLine; decide, fun q nq => ?_⟩
      have s4 : Same H3 (upd H3 q (.lst [])) := same_upd nq
      have hq4 : upd H3 q (.lst []) q = some (.lst []) := upd_same
      generalize upd H3 q (.lst []) = H4 at s4 hq4
      have lM : M.length = (levels n i).length := by rw [← ls.eq, List.length_map]
      have ll := lev_len (k := i) hn (by omega)
      refine ⟨_, rfl, p, rfl, ⟨_, SqL.of (s4 _ _ ls.at_)⟩, for_list (K := K) (a := p) (xs := M.map (·.1)) (fun j σ H5 => ∃ (q : Addr) (v4 v5 : Option V) (M' : List (V × List Int)), σ = [some (.int (n : Int)), some (.ref p), some (.int (0 + (i : Nat))), some (.ref q), v4, v5] ∧ Same H4 H5 ∧ H q = none ∧ IsLs H5 q (((levels n i).take j).flatMap (more n)) M')
        ⟨q, v4, v5, [], rfl, Same.refl _, s3.free nq, hq4, fun _ h => (nomatch h), rfl⟩ (fun j σ H5 _ h => by obtain ⟨_, _, _, _, _, s5, _⟩ := h; exact SqL.of (s5 _ _ (s4 _ _ ls.at_))) ?_ ?_⟩
      · rintro j v σ H5 hj ⟨q, v4, v5, M', rfl, s5, nq, ls'⟩
        obtain ⟨ws, hp⟩ := at_map hj
        have hm := List.mem_of_getElem? hp
        obtain ⟨wn, ev, hw⟩ := ls.all _ hm
        have ev : v = .ref wn := ev
        subst ev
        have hw : H3 wn = some (.lst (ws.map V.int)) := hw
        have s35 := s4.trans s5
        have hw5 := s35 _ _ hw
        have hjL : (levels n i)[j]? = some ws := by rw [← ls.eq, List.getElem?_map, hp]; rfl
        have wl : ws.length ≤ 60 := by
          have h0 := List.mem_of_getElem? hjL
          rw [GR.levels_ext] at h0
          obtain ⟨r, e, l, _⟩ := (GR.mem_ext n i [] ws).mp h0
          rw [e, List.nil_append, l]
          omega
        have lM' : M'.length ≤ 5 * 3125 := by
          have e1 : M'.length = (((levels n i).take j).flatMap (more n)).length := by rw [← ls'.eq, List.length_map]
          have e2 := flat_more n ((levels n i).take j)
          have e3 : n * ((levels n i).take j).length ≤ 5 * 3125 := Nat.mul_le_mul hn (by rw [List.length_take]; omega)
          omega
        refine ⟨_, rfl, _, rfl, _, _, rfl, rfl, ?_⟩
        refine ⟨1, (n : Int) + 1, rfl, ⟨by omega, by omega, by omega, by omega⟩, fun D nD => ?_⟩
        rw [show ((n : Int) + 1 - 1).toNat = n by omega]
        refine lc_range (lo := 1) (n := n) (fun i H6 => ∃ M2 : List (V × List Int), But D (upd H5 D (.lst [])) H6 ∧ IsLs H6 D ((((upto n).take i).filter fun e => decide (e ∉ ws)).map fun e => ws ++ [e]) M2 ∧ ∀ y ∈ M2, y.1 ≠ .ref D)
          ⟨[], But.refl, ⟨upd_same, fun _ h => (nomatch h), rfl⟩, fun _ h => (nomatch h)⟩ ?_ ?_
        · rintro i' H6 hi' ⟨M2, hb, l2, n2⟩
          have s6 : Same H5 H6 := But.new hb rfl nD
          have hw6 := s6 _ _ hw5
          have lM2 : M2.length ≤ 1000 := by
            have e1 : M2.length = ((((upto n).take i').filter fun e => decide (e ∉ ws)).map fun e => ws ++ [e]).length := by rw [← l2.eq, List.length_map]
            have e2 := filt_len (A := upto n) (f := fun e => decide (e ∉ ws)) (i := i')
            rw [List.length_map] at e1
            rw [GR.upto_len] at e2
            omega
          have st := more_take (p := ws) hi'
          refine ⟨rfl, _, rfl, _, rfl, wn, _, rfl, .inl (SqL.of hw6), rfl, flat_int _, ?_⟩
          rw [if_pos rfl, in_ints, not_dec]
          refine ⟨_, rfl, ?_⟩
          by_cases c : (1 : Int) + (i' : Nat) ∈ ws
          · rw [decide_eq_false (not_not_intro c)]
            rw [if_neg (not_not_intro c), List.append_nil] at st
            refine iteF ⟨M2, hb, ?_, n2⟩
            rw [st]
            exact l2
          · rw [decide_eq_true c]
            rw [if_pos c] at st
            refine iteT ⟨_, rfl, _, rfl, by show 1 ≤ sizeLine; decide, fun e ne => ?_⟩
            have s7 : Same H6 (upd H6 e (.lst [.int ((1 : Int) + (i' : Nat))])) := same_upd ne
            have he7 : upd H6 e (.lst [.int ((1 : Int) + (i' : Nat))]) e = some (.lst [.int ((1 : Int) + (i' : Nat))]) := upd_same
            generalize upd H6 e (.lst [.int ((1 : Int) + (i' : Nat))]) = H7 at s7 he7
            refine ⟨wn, e, _, _, rfl, rfl, s7 _ _ hw6, he7, ?_, fun z nz => ?_⟩
            · rw [List.length_map, sizeLine_eq]
              have : [V.int ((1 : Int) + (i' : Nat))].length = 1 := rfl
              omega
            · have ea : ws.map V.int ++ [V.int ((1 : Int) + (i' : Nat))] = (ws ++ [(1 : Int) + (i' : Nat)]).map V.int := by rw [List.map_append]; rfl
              rw [ea]
              have s8 : Same H7 (upd H7 z (.lst ((ws ++ [(1 : Int) + (i' : Nat)]).map V.int))) := same_upd nz
              have hz8 : upd H7 z (.lst ((ws ++ [(1 : Int) + (i' : Nat)]).map V.int)) z = some (.lst ((ws ++ [(1 : Int) + (i' : Nat)]).map V.int)) := upd_same
              generalize upd H7 z (.lst ((ws ++ [(1 : Int) + (i' : Nat)]).map V.int)) = H8 at s8 hz8
              have s68 := s7.trans s8
              have zD : z ≠ D := fun y => by rw [y, s7 _ _ l2.at_] at nz; cases nz
              obtain ⟨k1, k2⟩ := ls_snoc (l2.same s68).all n2 l2.eq hz8 zD
              refine ⟨_, s68 _ _ l2.at_, small1000 (by rw [List.length_map]; exact lM2), _, (hb.same s68).trans But.upd, ?_, k2⟩
              rw [st]
              exact k1
        · rintro H6 ⟨M2, hb, l2, n2⟩
          have s6 : Same H5 H6 := But.new hb rfl nD
          rw [show (upto n).take n = upto n from List.take_of_length_le (by rw [GR.upto_len]; omega)] at l2
          have lM2 : M2.length ≤ 1000 := by
            have e1 : M2.length = (more n ws).length := by
              show M2.length = (((upto n).filter fun e => decide (e ∉ ws)).map fun e => ws ++ [e]).length
              rw [← l2.eq, List.length_map]
            have := more_len n ws
            omega
          refine ⟨q, D, _, _, rfl, rfl, s6 _ _ ls'.at_, l2.at_, ?_, fun r nr => ?_⟩
          · rw [List.length_map, List.length_map, sizeLine_eq]
            omega
          · have s7 : Same H6 (upd H6 r (.lst (M'.map (·.1) ++ M2.map (·.1)))) := same_upd nr
            have hr7 : upd H6 r (.lst (M'.map (·.1) ++ M2.map (·.1))) r = some (.lst (M'.map (·.1) ++ M2.map (·.1))) := upd_same
            generalize upd H6 r (.lst (M'.map (·.1) ++ M2.map (·.1))) = H7 at s7 hr7
            have s67 := s6.trans s7
            refine ⟨r, _, _, M' ++ M2, rfl, s5.trans s67, (s3.trans (s35.trans s6)).free nr, by rw [hr7, List.map_append], fun y hy => ?_, ?_⟩
            · rcases List.mem_append.mp hy with hy | hy
              · exact (ls'.all y hy).same s67
              · exact (l2.all y hy).same s7
            · rw [List.map_append, ls'.eq, l2.eq, List.take_add_one, hjL, List.flatMap_append]
              show _ ++ _ = _ ++ [ws].flatMap (more n)
              rw [List.flatMap_cons, List.flatMap_nil, List.append_nil]
              rfl
      · rintro σ H5 ⟨q, v4, v5, M', rfl, s5, nq, ls'⟩
        rw [List.length_map, lM, List.take_length] at ls'
        exact ⟨_, rfl, q, _, _, _, _, M', rfl, s3.trans (s4.trans s5), nq, ls'⟩
    · rintro σ H3 ⟨p, v2, v3, v4, v5, M, rfl, s3, np, ls⟩
      exact ⟨_, rfl, q p M H3 s3 np ls⟩
end
end KP
set_option maxRecDepth 100000
set_option maxHeartbeats 4000000
/-! The law's lined, kept, listing. -/
namespace KP
open PySem PySem.Spec PyProof.Rows L2 KT
open GR (upto IsOrd kept)
theorem cut_lo {xs : List V} {k : Nat} (h : k ≤ xs.length) : cutV xs none (some (k : Int)) = xs.take k := by
  unfold cutV
  rw [HT.sIx_none, HT.sIx_nat, Nat.min_eq_left h, List.drop_zero, Nat.sub_zero]
theorem cut_hi {xs : List V} {k : Nat} (h : k ≤ xs.length) : cutV xs (some (k : Int)) none = xs.drop k := by
  unfold cutV
  rw [HT.sIx_none, HT.sIx_nat, Nat.min_eq_left h]
  exact List.take_of_length_le (by rw [List.length_drop]; omega)
theorem u65 {k : Nat} {A : Around} (r : Room k A) : A.units + 65 < cLine := by have := r.un; omega
theorem upto_succ (i : Nat) : upto (i + 1) = upto i ++ [(1 : Int) + (i : Nat)] := by
  unfold upto
  rw [List.range_succ, List.map_append]
  congr 1
  show [((i + 1 : Nat) : Int)] = _
  congr 1
  omega
theorem ins_perm {ns : List Int} {i k : Nat} (h : ns.Perm (upto i)) : (ns.take k ++ [(1 : Int) + (i : Nat)] ++ ns.drop k).Perm (upto (i + 1)) := by
  rw [upto_succ]
  have e : ns.take k ++ ns.drop k = ns := List.take_append_drop k ns
  refine List.Perm.trans ?_ ((h.append_right [(1 : Int) + (i : Nat)]))
  conv => rhs; rw [← e]
  rw [List.append_assoc, List.append_assoc]
  exact List.Perm.append_left _ List.perm_append_comm
section
variable {P : Program} {w : World} {K : PySem.W.Frag} {mg : Str → Option Value} {base : Heap}
/-- the law's draws, as the top has made them -/
structure DrwD (K : PySem.W.Frag) (mg : Str → Option Value) (P : Program) (w : World) (base : Heap) (fr : Addr) (dr : FuncData) : Prop where
  ok : FnOk P w K mg base CX0 1 fr dr ["_law_pot_here", "_law_many"] spDraw
  m : mg "_law_draw" = some (.ref fr)
  k : PySem.W.keepIn K (.ref fr) = true
  b : Binds K dr ["_law_pot_here", "_law_many"] []
def spLined : Sp := fun vs H Q _ => ∃ (z : Addr) (n : Nat), vs = [.ref z, .int (n : Int)] ∧ PotAt H z ∧ n ≤ 5 ∧ ∀ ns l H', PotAt H' z → But z H H' → H l = none → H' l = some (.lst (ns.map V.int)) → IsOrd n ns → Q (.ref l) H'
theorem ok_lined {f fr : Addr} {fd dr : FuncData} (F : Fun K "_law_lined" "_law_lined" sLined f fd) (B : Blt mg) (D : DrwD K mg P w base fr dr) : FnOk P w K mg base CX0 2 f fd ["_law_pot_here", "_law_size"] spLined := by
  refine F.ok scLined (fun vs H Q E h => ?_) (fun cdv A outer st H vs Q E hr h => ?_)
  · obtain ⟨_, _, rfl, _⟩ := h
    rfl
  · obtain ⟨z, n, rfl, hz, hn, q⟩ := h
    refine ⟨_, pss_cons (ps_set (i := 2) scLined.nd rfl (.inl rfl) (pe_lst pa_nil))
      (pss_cons (ps_for PassesOwn.never rfl (pi_range2 (by rfl) B.range (pa_cons pe_int (pa_cons (pe_op op_add (pv 1) pe_int) pa_nil))) (pg_name (i := 3) scLined.nd rfl (.inl rfl))
        (pss_cons (ps_set (i := 4) scLined.nd rfl (.inl rfl) (pe_call D.ok hr (by rfl) D.m D.k D.b .nil pass0 (pa_cons (pv 0) (pa_cons (pe_op op_add (pe_callB call_len_seq (by rfl) B.len PySem.boot_len (pa_cons (pv 2) pa_nil)) pe_int) pa_nil))))
        (pss_one (ps_set (i := 2) scLined.nd rfl (.inl rfl) (pe_op op_cat (pe_op op_cat (pe_slice sl_list (pv 2) po_none (po_some (pv 4))) (pe_lst (pa_cons (pv 3) pa_nil))) (pe_slice sl_list (pv 2) (po_some (pv 4)) po_none))))))
      (pss_one (ps_ret (pv 2)))), ?_⟩
    refine ⟨by show 0 ≤ sizeLine; decide, fun p np => ?_⟩
    have s1 : Same H (upd H p (.lst [])) := same_upd np
    refine ⟨_, rfl, _, _, rfl, rfl, 1, (n : Int) + 1, rfl, ⟨by omega, by omega, by omega, by omega⟩, ?_⟩
    rw [show ((n : Int) + 1 - 1).toNat = n by omega]
    refine for_range (lo := 1) (n := n) (fun i σ H2 => ∃ (p : Addr) (v3 v4 : Option V) (ns : List Int), σ = [some (.ref z), some (.int (n : Int)), some (.ref p), v3, v4] ∧ PotAt H2 z ∧ But z H H2 ∧ H p = none ∧ H2 p = some (.lst (ns.map V.int)) ∧ ns.Perm (upto i))
      ⟨p, none, none, [], rfl, hz.same s1, .of s1, np, upd_same, List.Perm.refl _⟩ ?_ ?_
    · rintro i σ H2 hi ⟨p, v3, v4, ns, rfl, hz2, b2, np, hp, pm⟩
      have ln : ns.length = i := by rw [pm.length_eq, GR.upto_len]
      have pz : p ≠ z := fun e => by
        obtain ⟨_, _, e2, _⟩ := hz
        rw [e, e2] at np
        cases np
      refine ⟨_, rfl, _, rfl, p, _, rfl, .inl (SqL.of hp), _, _, rfl, rfl, z, _, rfl, hz2, by omega, fun at' H3 a0 a1 hz3 b3 => ?_⟩
      rw [List.length_map] at a1
      obtain ⟨k, rfl⟩ : ∃ k : Nat, at' = (k : Int) := ⟨at'.toNat, by omega⟩
      have hk : k ≤ ns.length := by omega
      have hp3 := b3 _ _ hp pz
      have bb := b2.trans b3
      refine ⟨_, rfl, _, rfl, _, rfl, p, _, rfl, SqL.of hp3, fun q1 nq1 => ?_⟩
      rw [cut_lo (by rw [List.length_map]; exact hk), ← List.map_take]
      have s4 : Same H3 (upd H3 q1 (.lst ((ns.take k).map V.int))) := same_upd nq1
      have h4 : upd H3 q1 (.lst ((ns.take k).map V.int)) q1 = some (.lst ((ns.take k).map V.int)) := upd_same
      generalize upd H3 q1 (.lst ((ns.take k).map V.int)) = H4 at s4 h4
      refine ⟨_, rfl, by show 1 ≤ sizeLine; decide, fun q2 nq2 => ?_⟩
      have s5 : Same H4 (upd H4 q2 (.lst [.int ((1 : Int) + (i : Nat))])) := same_upd nq2
      have h5 : upd H4 q2 (.lst [.int ((1 : Int) + (i : Nat))]) q2 = some (.lst [.int ((1 : Int) + (i : Nat))]) := upd_same
      generalize upd H4 q2 (.lst [.int ((1 : Int) + (i : Nat))]) = H5 at s5 h5
      refine ⟨q1, q2, _, _, rfl, rfl, s5 _ _ h4, h5, ?_, fun q3 nq3 => ?_⟩
      · rw [List.length_map, List.length_take, sizeLine_eq]
        have : [V.int ((1 : Int) + (i : Nat))].length = 1 := rfl
        omega
      have e5 : (ns.take k).map V.int ++ [V.int ((1 : Int) + (i : Nat))] = (ns.take k ++ [(1 : Int) + (i : Nat)]).map V.int := by rw [List.map_append]; rfl
      rw [e5]
      have s6 : Same H5 (upd H5 q3 (.lst ((ns.take k ++ [(1 : Int) + (i : Nat)]).map V.int))) := same_upd nq3
      have h6 : upd H5 q3 (.lst ((ns.take k ++ [(1 : Int) + (i : Nat)]).map V.int)) q3 = some (.lst ((ns.take k ++ [(1 : Int) + (i : Nat)]).map V.int)) := upd_same
      generalize upd H5 q3 (.lst ((ns.take k ++ [(1 : Int) + (i : Nat)]).map V.int)) = H6 at s6 h6
      have s36 := (s4.trans s5).trans s6
      refine ⟨_, rfl, _, rfl, _, rfl, p, _, rfl, SqL.of (s36 _ _ hp3), fun q4 nq4 => ?_⟩
      rw [cut_hi (by rw [List.length_map]; exact hk), ← List.map_drop]
      have s7 : Same H6 (upd H6 q4 (.lst ((ns.drop k).map V.int))) := same_upd nq4
      have h7 : upd H6 q4 (.lst ((ns.drop k).map V.int)) q4 = some (.lst ((ns.drop k).map V.int)) := upd_same
      generalize upd H6 q4 (.lst ((ns.drop k).map V.int)) = H7 at s7 h7
      refine ⟨q3, q4, _, _, rfl, rfl, s7 _ _ h6, h7, ?_, fun r nr => ?_⟩
      · rw [List.length_map, List.length_map, List.length_append, List.length_take, List.length_drop, sizeLine_eq]
        have : [(1 : Int) + (i : Nat)].length = 1 := rfl
        omega
      rw [← List.map_append]
      have s37 := s36.trans s7
      have s38 := same_updN (o := .lst ((ns.take k ++ [(1 : Int) + (i : Nat)] ++ ns.drop k).map V.int)) s37 (s37.free nr)
      have nrH : H r = none := by
        have h3 := s37.free nr
        cases c : H r with
        | none => rfl
        | some o =>
          by_cases e : r = z
          · obtain ⟨_, _, e2, _⟩ := hz3
            rw [e, e2] at h3
            cases h3
          · rw [bb _ _ c e] at h3
            cases h3
      exact ⟨r, _, _, _, rfl, hz3.same s38, bb.trans (.of s38), nrH, upd_same, ins_perm pm⟩
    · rintro σ H2 ⟨p, v3, v4, ns, rfl, hz2, b2, np, hp, pm⟩
      exact ⟨_, rfl, q ns p H2 hz2 b2 np hp pm⟩
def spListing : Sp := fun vs H Q _ => ∃ (z : Addr) (n : Nat), vs = [.ref z, .int (n : Int)] ∧ PotAt H z ∧ n ≤ 5 ∧ ∀ (ns : List Int) l H', PotAt H' z → But z H H' → H l = none → H' l = some (.lst (ns.map V.int)) → ns.length ≤ 6 → Q (.ref l) H'
theorem ok_listing {f fr fl : Addr} {fd dr dl : FuncData} (F : Fun K "_law_listing" "_law_listing" sListing f fd) (B : Blt mg) (D : DrwD K mg P w base fr dr)
    (lOk : FnOk P w K mg base CX0 2 fl dl ["_law_pot_here", "_law_size"] spLined) (lM : mg "_law_lined" = some (.ref fl)) (lK : PySem.W.keepIn K (.ref fl) = true) (lB : Binds K dl ["_law_pot_here", "_law_size"] []) :
    FnOk P w K mg base CX0 3 f fd ["_law_pot_here", "_law_size"] spListing := by
  refine F.ok scListing (fun vs H Q E h => ?_) (fun cdv A outer st H vs Q E hr h => ?_)
  · obtain ⟨_, _, rfl, _⟩ := h
    rfl
  · obtain ⟨z, n, rfl, hz, hn, q⟩ := h
    have hr1 := hr.mono (show 1 ≤ 2 by decide)
    refine ⟨_, pss_cons (ps_if (pt_cmpR op_eq (pe_call D.ok hr1 (by rfl) D.m D.k D.b .nil pass0 (pa_cons (pv 0) (pa_cons pe_int pa_nil))) pe_int (nomark _))
        (pss_one (ps_ret (pe_call lOk hr (by rfl) lM lK lB .nil pass0 (pa_cons (pv 0) (pa_cons (pv 1) pa_nil))))) pss_nil)
      (pss_one (ps_ret (pe_lc (own := [("_law_k", 2)]) (g := gName 2) (tt := tYes) rfl scListing.nd (pi_range1 (by rfl) B.range (pa_cons (pe_call D.ok hr1 (by rfl) D.m D.k D.b .nil pass0 (pa_cons (pv 0) (pa_cons pe_int pa_nil))) pa_nil))
        (blkOk_by (N := ["_law_pot_here", "_law_size", "_law_k"]) (sc := defScope sListing) (by decide +kernel)) (fun _ _ _ _ _ => pg_name (i := 2) scListing.nd rfl (.inl rfl)) (fun _ _ _ _ _ => pts_nil)
        (fun _ _ _ _ _ => pe_op op_sub (pe_call D.ok hr1 (by rfl) D.m D.k D.b .nil pass0 (pa_cons (pv 0) (pa_cons pe_int pa_nil))) pe_int)))), ?_⟩
    refine ⟨_, rfl, z, 2, rfl, hz, by decide, fun c H1 c0 c1 hz1 b1 => ⟨rfl, _, rfl, ite2 (fun _ => ?_) fun _ => ?_⟩⟩
    · refine ⟨_, rfl, _, rfl, z, n, rfl, hz1, hn, fun ns l H2 hz2 b2 nl hl o => ?_⟩
      refine q ns l H2 hz2 (b1.trans b2) ?_ hl (by rw [o.len]; omega)
      cases e : H l with
      | none => rfl
      | some u =>
        by_cases y : l = z
        · obtain ⟨_, _, e2, _⟩ := hz1
          rw [y, e2] at nl
          cases nl
        · rw [b1 _ _ e y] at nl
          cases nl
    · refine ⟨_, rfl, z, 7, rfl, hz1, by decide, fun m H2 m0 m1 hz2 b2 => ⟨m, rfl, by omega, by omega, fun D1 nD => ?_⟩⟩
      have b12 := b1.trans b2
      have zD : z ≠ D1 := fun e => by
        obtain ⟨_, _, e2, _⟩ := hz2
        rw [← e, e2] at nD
        cases nD
      have sD : Same H2 (upd H2 D1 (.lst [])) := same_upd nD
      refine lc_range (lo := 0) (n := m.toNat) (fun i H3 => ∃ ns : List Int, But2 z D1 (upd H2 D1 (.lst [])) H3 ∧ PotAt H3 z ∧ H3 D1 = some (.lst (ns.map V.int)) ∧ ns.length = i)
        ⟨[], But2.refl, hz2.same sD, upd_same, rfl⟩ ?_ ?_
      · rintro i H3 hi ⟨ns, b3, hz3, hD3, ln⟩
        refine ⟨rfl, ?_⟩
        refine yes_i ?_
        refine ⟨_, rfl, z, 8, rfl, hz3, by decide, fun v H4 v0 v1 hz4 b4 => ⟨_, _, rfl, rfl, ?_⟩⟩
        have hD4 := b4 _ _ hD3 zD.symm
        obtain ⟨x, y, ez, r⟩ := id hz4
        refine ⟨_, hD4, small1000 (by rw [List.length_map]; omega), ns ++ [v - 1], (b3.trans fun c o e n1 n2 => b4 c o e n1).trans But2.right, ⟨x, y, by rw [upd_ne zD]; exact ez, r⟩, by rw [upd_same, List.map_append]; rfl, by simp [ln]⟩
      · rintro H3 ⟨ns, b3, hz3, hD3, ln⟩
        refine q ns D1 H3 hz3 (fun c o e n => b3 c o (sD _ _ (b12 c o e n)) n (ne_of_none (b12 c o e n) nD)) ?_ hD3 (by omega)
        cases e : H D1 with
        | none => rfl
        | some u => rw [b12 _ _ e zD.symm] at nD; cases nD
/-! kept -/
theorem eqv_int (a b : Int) : eqV (.int a) (.int b) = decide (a = b) := by by_cases c : a = b <;> simp [eqV, c]
theorem idx_at {ns : List Int} {x : Int} (h : x ∈ ns) : (ns.map V.int)[ns.idxOf x]? = some (.int x) ∧ ∀ (m : Nat) (z : V), m < ns.idxOf x → (ns.map V.int)[m]? = some z → eqV z (.int x) = false := by
  have lt := List.idxOf_lt_length_of_mem h
  refine ⟨by rw [List.getElem?_map, List.getElem?_eq_getElem lt, List.getElem_idxOf lt]; rfl, fun m z hm hz => ?_⟩
  obtain ⟨c, hc, rfl⟩ := int_at hz
  rw [eqv_int]
  refine decide_eq_false fun e => ?_
  subst e
  have hml := (List.getElem?_eq_some_iff.mp hc).1
  have hc' := (List.getElem?_eq_some_iff.mp hc).2
  have := List.not_of_lt_findIdx (p := (· == c)) (xs := ns) hm
  simp [hc'] at this
def spLKept : Sp := fun vs H Q _ => ∃ (a o : Addr) (A : List (Int × Int)) (L : List (V × (Int × Int))) (ns : List Int), vs = [.ref a, .ref o] ∧ PsL H a A L ∧ A.length ≤ 60 ∧ H o = some (.lst (ns.map V.int)) ∧ (∀ b ∈ A, b.1 ∈ ns ∧ b.2 ∈ ns) ∧ ∀ H', Same H H' → Q (.bl (kept A ns)) H'
theorem ok_lkept {f : Addr} {fd : FuncData} (F : Fun K "_law_kept" "_law_kept" sKept f fd) (B : Blt mg) : FnOk P w K mg base CX0 1 f fd ["_law_arrows_here", "_law_order"] spLKept := by
  refine F.ok scKept (fun vs H Q E h => ?_) (fun cdv A outer st H vs Q E hr h => ?_)
  · obtain ⟨_, _, _, _, _, rfl, _⟩ := h
    rfl
  · obtain ⟨a, o, As, L, ns, rfl, hL, lA, ho, inn, q⟩ := h
    refine ⟨_, pss_one (ps_ret (pe_callB (cr_all rfl) (by rfl) B.all (by decide +kernel) (pa_cons (pe_lc (own := [("_law_x", 2), ("_law_y", 3)]) (g := gTup K 2 (gCons (gName 2) (gCons (gName 3) gNil))) (tt := tYes) rfl scKept.nd (pi_list (pv 0))
        (blkOk_by (N := ["_law_arrows_here", "_law_order", "_law_x", "_law_y"]) (sc := defScope sKept) (by decide +kernel))
        (fun _ _ _ _ _ => pg_tup rfl (pgs_cons (pg_name (i := 2) scKept.nd rfl (.inl rfl)) (pgs_cons (pg_name (i := 3) scKept.nd rfl (.inl rfl)) pgs_nil)))
        (fun _ _ _ _ _ => pts_nil)
        (fun _ _ _ _ _ => pe_cmpR op_lt (show PE _ _ (tBM K "list" (rIndex K) (tVar 1) (tCons (tVar 2) tNil)) from pe_bm PySem.F.plainAttrs_list PySem.F.slot_list_index PySem.F.type_list_index mt_index (pv 1) (pa_cons (pv 2) pa_nil))
          (show PE _ _ (tBM K "list" (rIndex K) (tVar 1) (tCons (tVar 3) tNil)) from pe_bm PySem.F.plainAttrs_list PySem.F.slot_list_index PySem.F.type_list_index mt_index (pv 1) (pa_cons (pv 3) pa_nil)) (nomark _))) pa_nil))), ?_⟩
    have lL : L.length ≤ 60 := by have := congrArg List.length hL.eq; rw [List.length_map] at this; omega
    refine ⟨_, rfl, a, rfl, ⟨_, SqL.of hL.at_⟩, fun D nD => lc_list (K := K) (a := a) (xs := L.map (·.1)) (fun i H2 => But D (upd H D (.lst [])) H2 ∧ H2 D = some (.lst (((L.take i).map fun y => decide (ns.idxOf y.2.1 < ns.idxOf y.2.2)).map V.bl)))
      ⟨But.refl, upd_same⟩ (fun i H2 _ hb => SqL.of ((But.new hb.1 rfl nD) _ _ hL.at_)) ?_ ?_⟩
    · rintro i v H2 hi ⟨hb, hD⟩
      obtain ⟨⟨b, c⟩, hp⟩ := at_map hi
      have s2 : Same H H2 := But.new hb rfl nD
      have hm := List.mem_of_getElem? hp
      obtain ⟨e, he', he⟩ := (hL.all _ hm).same s2
      have he' : v = .ref e := he'
      subst he'
      have hil : i < L.length := (List.getElem?_eq_some_iff.mp hp).1
      have inA : (b, c) ∈ As := by rw [← hL.eq]; exact List.mem_map.mpr ⟨_, hm, rfl⟩
      obtain ⟨i1, i2⟩ := inn _ inA
      obtain ⟨a1, n1⟩ := idx_at i1
      obtain ⟨a2, n2⟩ := idx_at i2
      have ho2 := s2 _ _ ho
      refine ⟨e, _, rfl, SqT.of he, rfl, _, _, rfl, _, _, rfl, rfl, rfl, ?_⟩
      refine yes_i ?_
      refine ⟨_, rfl, .inl ⟨rfl, _, SqL.of ho2⟩, _, rfl, o, _, .int b, _, _, rfl, rfl, SqL.of ho2, rfl, flat_int _, a1, by rw [eqv_int]; exact decide_eq_true rfl, n1, ?_⟩
      refine ⟨_, rfl, .inl ⟨rfl, _, SqL.of ho2⟩, _, rfl, o, _, .int c, _, _, rfl, rfl, SqL.of ho2, rfl, flat_int _, a2, by rw [eqv_int]; exact decide_eq_true rfl, n2, ?_⟩
      refine ⟨_, _, rfl, rfl, _, hD, small1000 (by rw [List.length_map, List.length_map, List.length_take]; omega), hb.trans But.upd, ?_⟩
      rw [upd_same, List.take_add_one, hp, List.map_append, List.map_append]
      have ed : decide (((ns.idxOf b : Nat) : Int) < ((ns.idxOf c : Nat) : Int)) = decide (ns.idxOf b < ns.idxOf c) := decide_eq_decide.mpr (by omega)
      show some (HO.lst (_ ++ [V.bl (decide (((ns.idxOf b : Nat) : Int) < ((ns.idxOf c : Nat) : Int)))])) = _
      rw [ed]
      rfl
    · rintro H2 ⟨hb, hD⟩
      rw [List.length_map, List.take_length] at hD
      refine ⟨D, _, rfl, SqL.of hD, ?_⟩
      have ek : ((L.map fun y => decide (ns.idxOf y.2.1 < ns.idxOf y.2.2)).all id) = kept As ns := by
        unfold kept
        rw [← hL.eq, List.all_map, List.all_map]
        rfl
      rw [ek]
      exact q H2 (But.new hb rfl nD)
end
end KP
set_option maxRecDepth 100000
set_option maxHeartbeats 4000000
/-! The law's arrows. -/
namespace KP
open PySem PySem.Spec PyProof.Rows L2 KT
open GR (upto IsOrd okA)
abbrev nAr : List Str := ["_law_pot_here", "_law_size", "_law_line", "_law_along", "_law_turned", "_law_many", "_law_found_here", "_law_k", "_law_start", "_law_step", "_law_pair"]
def ifBody (s : Stmt) : List Stmt := match s with
  | .If _ b _ _ => b
  | _ => []
abbrev bodyA1 : List Stmt := forBody ((defBody sArrows).getD 5 (.Pass ⟨0, 0, 0, 0⟩))
abbrev bodyA2 : List Stmt := ifBody (bodyA1.getD 0 (.Pass ⟨0, 0, 0, 0⟩))
abbrev stA (z : Addr) (n : Nat) (line : Addr) (al tu : Bool) (m : Int) (q : Addr) (k s e : Int) (pr : Addr) : L2.St :=
  [some (.ref z), some (.int (n : Int)), some (.ref line), some (.bl al), some (.bl tu), some (.int m), some (.ref q), some (.int k), some (.int s), some (.int e), some (.ref pr)]
/-- the pot and the list of what was found change alone -/
def Grw (n : Nat) (z q : Addr) (Hb H : Hp) (L : List (V × (Int × Int))) : Prop := But2 z q Hb H ∧ PotAt H z ∧ H q = some (.lst (L.map (·.1))) ∧ AllP H L ∧ ∀ y ∈ L, okA n y.2 = true
theorem Grw.same {n : Nat} {z q : Addr} {Hb H H' : Hp} {L} (h : Grw n z q Hb H L) (s : Same H H') : Grw n z q Hb H' L := ⟨h.1.trans (.of s), h.2.1.same s, s _ _ h.2.2.1, h.2.2.2.1.same s, h.2.2.2.2⟩
theorem PotAt.ne_lst {H : Hp} {z a : Addr} {xs : List V} (h : PotAt H z) (e : H a = some (.lst xs)) (l : xs.length ≠ 2) : a ≠ z := fun k => by
  obtain ⟨x, y, ez, _⟩ := h
  rw [k, ez] at e
  have := Option.some.inj e
  injection this with this
  exact l (by rw [← this]; rfl)
theorem AllP.pot {H H' : Hp} {z : Addr} {L} (h : AllP H L) (b : But z H H') (hz : PotAt H z) : AllP H' L := by
  obtain ⟨x, y, ez, _⟩ := hz
  exact h.but b ez
theorem Grw.draw {n : Nat} {z q : Addr} {Hb H H' : Hp} {L} (h : Grw n z q Hb H L) (zq : q ≠ z) (b : But z H H') (hz : PotAt H' z) : Grw n z q Hb H' L :=
  ⟨fun c o e n1 n2 => b c o (h.1 c o e n1 n2) n1, hz, b _ _ h.2.2.1 zq, h.2.2.2.1.pot b h.2.1, h.2.2.2.2⟩
section
variable {P : Program} {w : World} {K : PySem.W.Frag} {mg : Str → Option Value} {base : Heap}
variable {f : Addr} {cdv : Value} {A : Around} {outer : List Env} {st : Shared} {H0 : Hp} {E : XK}
theorem ar_app : ∃ u, PSs (cxOf CX0 P w K mg base nAr "_law_arrows" (defScope sArrows) f cdv A outer st H0 E).nox (bodyA2.drop 5) u ∧ ∀ (D : Ends) (z line q pr : Addr) (n : Nat) (al tu : Bool) (m k s e a b : Int) (Hb H : Hp) (L : List (V × (Int × Int))),
    Grw n z q Hb H L → q ≠ z → L.length ≤ 100 → H pr = some (.lst [.int a, .int b]) → okA n (a, b) = true → (∀ H' v, Grw n z q Hb H' (L ++ [(v, (a, b))]) → D.nx (stA z n line al tu m q k s e pr) H') → u D (stA z n line al tu m q k s e pr) H := by
  refine ⟨_, pss_one (ps_expr (pe_bm PySem.F.plainAttrs_list PySem.F.slot_list_append PySem.F.type_list_append mt_append (pv 6) (pa_cons (pe_tup (pa_cons (pe_ix ix_list (pv 10) pe_int (fun _ _ => rfl)) (pa_cons (pe_ix ix_list (pv 10) pe_int (fun _ _ => rfl)) pa_nil))) pa_nil))), ?_⟩
  intro D z line q pr n al tu m k s e a b Hb H L hG zq lL hp ok go
  obtain ⟨b2, hz, hq, hA, hok⟩ := id hG
  refine ⟨_, rfl, .inl ⟨rfl, _, SqL.of hq⟩, _, rfl, pr, _, _, .int a, rfl, rfl, SqL.of hp, atI_nat (j := 0) rfl, _, rfl, pr, _, _, .int b, rfl, rfl, SqL.of hp, atI_nat (j := 1) rfl, by show 2 ≤ sizeLine; decide, fun T nT => ?_⟩
  have s1 : Same H (upd H T (.tup [.int a, .int b])) := same_upd nT
  have hT : upd H T (.tup [.int a, .int b]) T = some (.tup [.int a, .int b]) := upd_same
  generalize upd H T (.tup [.int a, .int b]) = H1 at s1 hT
  have hq1 := s1 _ _ hq
  refine ⟨q, _, _, rfl, rfl, hq1, small1000 (by rw [List.length_map]; omega), ?_⟩
  obtain ⟨x, y, ez, r⟩ := hz.same s1
  have qT : q ≠ T := fun c => by rw [← c, hq1] at hT; cases hT
  refine go _ (.ref T) ⟨(b2.trans (.of s1)).trans But2.right, ⟨x, y, by rw [upd_ne zq.symm]; exact ez, r⟩, by rw [upd_same, List.map_append]; rfl, fun u hu => ?_, fun u hu => ?_⟩
  · rcases List.mem_append.mp hu with hu | hu
    · exact ((hA u hu).same s1).but (d := q) (fun c o e n => by rw [upd_ne n]; exact e) hq1
    · rw [List.mem_singleton.mp hu]
      exact ⟨T, rfl, by rw [upd_ne qT.symm]; exact hT⟩
  · rcases List.mem_append.mp hu with hu | hu
    · exact hok u hu
    · rw [List.mem_singleton.mp hu]
      exact ok
theorem okA_swap {n : Nat} {a b : Int} (h : okA n (a, b) = true) : okA n (b, a) = true := by
  obtain ⟨h1, h2, h3⟩ := GR.okA_iff.mp h
  exact GR.okA_iff.mpr ⟨h2, h1, fun e => h3 e.symm⟩
theorem ar_if2 : ∃ u, PSs (cxOf CX0 P w K mg base nAr "_law_arrows" (defScope sArrows) f cdv A outer st H0 E).nox (bodyA2.drop 4) u ∧ ∀ (D : Ends) (z line q pr : Addr) (n : Nat) (al tu : Bool) (m k s e a b : Int) (Hb H : Hp) (L : List (V × (Int × Int))),
    Grw n z q Hb H L → q ≠ z → L.length ≤ 100 → H pr = some (.lst [.int a, .int b]) → okA n (a, b) = true → (∀ pr' H' y, okA n y.2 = true → Grw n z q Hb H' (L ++ [y]) → D.nx (stA z n line al tu m q k s e pr') H') → u D (stA z n line al tu m q k s e pr) H := by
  obtain ⟨u, pu, hu⟩ := ar_app (P := P) (w := w) (K := K) (mg := mg) (base := base) (f := f) (cdv := cdv) (A := A) (outer := outer) (st := st) (H0 := H0) (E := E)
  refine ⟨_, pss_cons (ps_if (PW.pt (pw_and (pt_val (pv 3)) (pw_and (pt_val (pv 4)) (pw_and1 (pt_cmpR op_eq (pv 7) (pe_op op_sub (pv 5) pe_int) (nomark _))))))
    (pss_one (ps_set (i := 10) scArrows.nd rfl (.inl rfl) (pe_lst (pa_cons (pe_ix ix_list (pv 10) pe_int (fun _ _ => rfl)) (pa_cons (pe_ix ix_list (pv 10) pe_int (fun _ _ => rfl)) pa_nil))))) pss_nil) pu, ?_⟩
  intro D z line q pr n al tu m k s e a b Hb H L hG zq lL hp ok go
  have no := hu D z line q pr n al tu m k s e a b Hb H L hG zq lL hp ok fun H' v g => go pr H' (v, (a, b)) ok g
  refine ⟨_, rfl, al, rfl, ?_⟩
  cases al with
  | false => exact iteF (iteF no)
  | true =>
    refine iteT ⟨_, rfl, tu, rfl, ?_⟩
    cases tu with
    | false => exact iteF (iteF no)
    | true =>
      refine iteT ⟨_, rfl, _, rfl, _, _, rfl, rfl, rfl, _, rfl, ite2 (fun c => ?_) fun c => no⟩
      refine ⟨_, rfl, pr, _, _, .int b, rfl, rfl, SqL.of hp, atI_nat (j := 1) rfl, _, rfl, pr, _, _, .int a, rfl, rfl, SqL.of hp, atI_nat (j := 0) rfl, by show 2 ≤ sizeLine; decide, fun T nT => ?_⟩
      exact hu D z line q T n true true m k s e b a Hb _ L (hG.same (same_upd nT)) zq lL upd_same (okA_swap ok) fun H' v g => go T H' (v, (b, a)) (okA_swap ok) g
theorem ar_if1 : ∃ u, PSs (cxOf CX0 P w K mg base nAr "_law_arrows" (defScope sArrows) f cdv A outer st H0 E).nox (bodyA2.drop 3) u ∧ ∀ (D : Ends) (z line q pr : Addr) (n : Nat) (al tu : Bool) (m k s e a b : Int) (Hb H : Hp) (L : List (V × (Int × Int))),
    Grw n z q Hb H L → q ≠ z → L.length ≤ 100 → H pr = some (.lst [.int a, .int b]) → okA n (a, b) = true → (∀ pr' H' y, okA n y.2 = true → Grw n z q Hb H' (L ++ [y]) → D.nx (stA z n line al tu m q k s e pr') H') → u D (stA z n line al tu m q k s e pr) H := by
  obtain ⟨u, pu, hu⟩ := ar_if2 (P := P) (w := w) (K := K) (mg := mg) (base := base) (f := f) (cdv := cdv) (A := A) (outer := outer) (st := st) (H0 := H0) (E := E)
  refine ⟨_, pss_cons (ps_if (PW.pt (pw_and (pt_val (pv 3)) (pw_and1 (pt_cmpR op_ge (pe_op op_add (pv 8) (pv 9)) (pv 1) (nomark _)))))
    (pss_one (ps_set (i := 10) scArrows.nd rfl (.inl rfl) (pe_lst (pa_cons (pe_ix ix_list (pv 10) pe_int (fun _ _ => rfl)) (pa_cons (pe_ix ix_list (pv 10) pe_int (fun _ _ => rfl)) pa_nil))))) pss_nil) pu, ?_⟩
  intro D z line q pr n al tu m k s e a b Hb H L hG zq lL hp ok go
  have no := hu D z line q pr n al tu m k s e a b Hb H L hG zq lL hp ok go
  refine ⟨_, rfl, al, rfl, ?_⟩
  cases al with
  | false => exact iteF (iteF no)
  | true =>
    refine iteT ⟨_, rfl, _, rfl, _, _, rfl, rfl, _, rfl, _, _, rfl, rfl, _, rfl, ite2 (fun c => ?_) fun c => no⟩
    refine ⟨_, rfl, pr, _, _, .int b, rfl, rfl, SqL.of hp, atI_nat (j := 1) rfl, _, rfl, pr, _, _, .int a, rfl, rfl, SqL.of hp, atI_nat (j := 0) rfl, by show 2 ≤ sizeLine; decide, fun T nT => ?_⟩
    exact hu D z line q T n true tu m k s e b a Hb _ L (hG.same (same_upd nT)) zq lL upd_same (okA_swap ok) go
end
end KP
set_option maxRecDepth 100000
set_option maxHeartbeats 4000000
/-! The law's arrows, all of them. -/
namespace KP
open PySem PySem.Spec PyProof.Rows L2 KT
open GR (upto IsOrd okA)
theorem mod_two {s e n : Int} (s0 : 0 ≤ s) (s1 : s < n) (e0 : 1 ≤ e) (e1 : e < n) : 0 ≤ (s + e) % n ∧ (s + e) % n < n ∧ (s + e) % n ≠ s := by
  refine ⟨Int.emod_nonneg _ (by omega), Int.emod_lt_of_pos _ (by omega), ?_⟩
  by_cases c : s + e < n
  · rw [Int.emod_eq_of_lt (by omega) c]
    omega
  · have h : (s + e) % n = (s + e - n) % n := by
      conv => lhs; rw [show s + e = (s + e - n) + n by omega]
      simp
    rw [h, Int.emod_eq_of_lt (by omega) (by omega)]
    omega
section
variable {P : Program} {w : World} {K : PySem.W.Frag} {mg : Str → Option Value} {base : Heap}
variable {f : Addr} {cdv : Value} {A : Around} {outer : List Env} {st : Shared} {H0 : Hp} {E : XK}
abbrev stA' (z : Addr) (n : Nat) (line : Addr) (al tu : Bool) (m : Int) (q : Addr) (v7 v8 v9 v10 : Option V) : L2.St :=
  [some (.ref z), some (.int (n : Int)), some (.ref line), some (.bl al), some (.bl tu), some (.int m), some (.ref q), v7, v8, v9, v10]
theorem ar_body {fr : Addr} {dr : FuncData} (B : Blt mg) (Dr : DrwD K mg P w base fr dr) (hr : Room 1 (A.deeper (envOfC "_law_arrows" (defScope sArrows) st.heap.objs.size f cdv))) :
    ∃ u, PSs (cxOf CX0 P w K mg base nAr "_law_arrows" (defScope sArrows) f cdv A outer st H0 E).nox bodyA1 u ∧ ∀ (D : Ends) (z line q : Addr) (n : Nat) (al tu : Bool) (m k : Int) (v8 v9 v10 : Option V) (Hb H : Hp) (L : List (V × (Int × Int))) (ns : List Int),
      Grw n z q Hb H L → q ≠ z → L.length ≤ 100 → Hb line = some (.lst (ns.map V.int)) → IsOrd n ns → line ≠ z → line ≠ q → n ≤ 5 → (∀ v8' v9' v10' H' L', Grw n z q Hb H' L' → L'.length ≤ L.length + 1 → D.nx (stA' z n line al tu m q (some (.int k)) v8' v9' v10') H') → u D (stA' z n line al tu m q (some (.int k)) v8 v9 v10) H := by
  obtain ⟨u, pu, hu⟩ := ar_if1 (P := P) (w := w) (K := K) (mg := mg) (base := base) (f := f) (cdv := cdv) (A := A) (outer := outer) (st := st) (H0 := H0) (E := E)
  refine ⟨_, pss_one (ps_if (pt_cmpR op_gt (pv 1) pe_int (nomark _))
    (pss_cons (ps_set (i := 8) scArrows.nd rfl (.inl rfl) (pe_call Dr.ok hr (by rfl) Dr.m Dr.k Dr.b .nil pass0 (pa_cons (pv 0) (pa_cons (pv 1) pa_nil))))
    (pss_cons (ps_set (i := 9) scArrows.nd rfl (.inl rfl) (pe_op op_add pe_int (pe_call Dr.ok hr (by rfl) Dr.m Dr.k Dr.b .nil pass0 (pa_cons (pv 0) (pa_cons (pe_op op_sub (pv 1) pe_int) pa_nil)))))
    (pss_cons (ps_set (i := 10) scArrows.nd rfl (.inl rfl) (pe_lst (pa_cons (pe_ix ix_list (pv 2) (pv 8) (fun _ _ => rfl)) (pa_cons (pe_ix ix_list (pv 2) (pe_op op_mod (pe_callTy call_int1 (by rfl) B.int (by decide +kernel) (pa_cons (pe_op op_add (pv 8) (pv 9)) pa_nil)) (pv 1)) (fun _ _ => rfl)) pa_nil)))) pu))) pss_nil), ?_⟩
  intro D z line q n al tu m k v8 v9 v10 Hb H L ns hG zq lL hln o nz nq hn go
  refine ⟨_, rfl, _, _, rfl, rfl, _, rfl, ite2 (fun c => ?_) fun c => go v8 v9 v10 H L hG (by omega)⟩
  have c' : (n : Int) > 1 := of_decide_eq_true c
  refine ⟨_, rfl, _, rfl, z, n, rfl, hG.2.1, by omega, fun s H1 s0 s1 hz1 b1 => ?_⟩
  have G1 := hG.draw zq b1 hz1
  refine ⟨_, rfl, _, rfl, _, _, rfl, rfl, z, _, rfl, hz1, by omega, fun e H2 e0 e1 hz2 b2 => ⟨_, _, rfl, rfl, ?_⟩⟩
  have G2 := G1.draw zq b2 hz2
  have hl2 : H2 line = some (.lst (ns.map V.int)) := G2.1 _ _ hln nz nq
  obtain ⟨m0, m1, m2⟩ := mod_two (n := (n : Int)) s0 s1 (show 1 ≤ 1 + e by omega) (by omega)
  have lns := o.len
  obtain ⟨i, rfl⟩ : ∃ i : Nat, s = (i : Int) := ⟨s.toNat, by omega⟩
  generalize ej : ((i : Int) + (1 + e)) % (n : Int) = jj at m0 m1 m2
  obtain ⟨j, rfl⟩ : ∃ j : Nat, jj = (j : Int) := ⟨jj.toNat, by omega⟩
  have hi : i < ns.length := by omega
  have hj : j < ns.length := by omega
  have at1 : (ns.map V.int)[i]? = some (.int ns[i]) := by rw [List.getElem?_map, List.getElem?_eq_getElem hi]; rfl
  have at2 : (ns.map V.int)[j]? = some (.int ns[j]) := by rw [List.getElem?_map, List.getElem?_eq_getElem hj]; rfl
  refine ⟨_, rfl, _, rfl, line, _, _, _, rfl, rfl, SqL.of hl2, atI_nat at1, _, rfl, _, rfl, _, rfl, _, _, rfl, rfl, .inl ⟨_, rfl, _, rfl, _, _, rfl, rfl, by omega, line, _, _, _, rfl, congrArg V.int ej, SqL.of hl2, atI_nat at2, by show 2 ≤ sizeLine; decide, fun pr np => ?_⟩⟩
  have ok : okA n (ns[i], ns[j]) = true := by
    refine GR.okA_iff.mpr ⟨GR.mem_upto.mpr (o.mem.mp (List.getElem_mem hi)), GR.mem_upto.mpr (o.mem.mp (List.getElem_mem hj)), fun e' => ?_⟩
    have e' : ns[i] = ns[j] := e'
    have := (List.getElem?_inj hi o.nodup (j := j)).mp (by rw [List.getElem?_eq_getElem hi, List.getElem?_eq_getElem hj, e'])
    omega
  exact hu D z line q pr n al tu m k _ _ ns[i] ns[j] Hb _ L (G2.same (same_upd np)) zq lL upd_same ok fun pr' H' y oy g => go _ _ _ H' _ g (by rw [List.length_append]; exact Nat.le_refl _)
end
section
variable {P : Program} {w : World} {K : PySem.W.Frag} {mg : Str → Option Value} {base : Heap}
def spArrows : Sp := fun vs H Q _ => ∃ (z : Addr) (n : Nat), vs = [.ref z, .int (n : Int)] ∧ PotAt H z ∧ n ≤ 5 ∧ ∀ (L : List (V × (Int × Int))) (l : Addr) (H' : Hp), PotAt H' z → But z H H' → H l = none → H' l = some (.lst (L.map (·.1))) → AllP H' L → (∀ y ∈ L, okA n y.2 = true) → L.length ≤ 11 → Q (.ref l) H'
theorem free_but {H H' : Hp} {z l : Addr} (b : But z H H') (hz : PotAt H' z) (n : H' l = none) : H l = none := by
  cases e : H l with
  | none => rfl
  | some u =>
    by_cases c : l = z
    · obtain ⟨_, _, e2, _⟩ := hz
      rw [c, e2] at n
      cases n
    · rw [b _ _ e c] at n
      cases n
theorem ok_arrows {f fr fl : Addr} {fd dr dl : FuncData} (F : Fun K "_law_arrows" "_law_arrows" sArrows f fd) (B : Blt mg) (Dr : DrwD K mg P w base fr dr)
    (lOk : FnOk P w K mg base CX0 2 fl dl ["_law_pot_here", "_law_size"] spLined) (lM : mg "_law_lined" = some (.ref fl)) (lK : PySem.W.keepIn K (.ref fl) = true) (lB : Binds K dl ["_law_pot_here", "_law_size"] []) :
    FnOk P w K mg base CX0 3 f fd ["_law_pot_here", "_law_size"] spArrows := by
  refine F.ok scArrows (fun vs H Q E h => ?_) (fun cdv A outer st H vs Q E hr h => ?_)
  · obtain ⟨_, _, rfl, _⟩ := h
    rfl
  · obtain ⟨z, n, rfl, hz, hn, q⟩ := h
    have hr1 := hr.mono (show 1 ≤ 2 by decide)
    obtain ⟨u, pu, hu⟩ := ar_body (P := P) (w := w) (base := base) (f := f) (cdv := cdv) (A := A) (outer := outer) (st := st) (H0 := H) (E := E) B Dr hr1
    refine ⟨_, pss_cons (ps_set (i := 2) scArrows.nd rfl (.inl rfl) (pe_call lOk hr (by rfl) lM lK lB .nil pass0 (pa_cons (pv 0) (pa_cons (pv 1) pa_nil))))
      (pss_cons (ps_set (i := 3) scArrows.nd rfl (.inl rfl) (pe_cmpR op_eq (pe_call Dr.ok hr1 (by rfl) Dr.m Dr.k Dr.b .nil pass0 (pa_cons (pv 0) (pa_cons pe_int pa_nil))) pe_int (nomark _)))
      (pss_cons (ps_set (i := 4) scArrows.nd rfl (.inl rfl) (pe_cmpR op_eq (pe_call Dr.ok hr1 (by rfl) Dr.m Dr.k Dr.b .nil pass0 (pa_cons (pv 0) (pa_cons pe_int pa_nil))) pe_int (nomark _)))
      (pss_cons (ps_set (i := 5) scArrows.nd rfl (.inl rfl) (pe_call Dr.ok hr1 (by rfl) Dr.m Dr.k Dr.b .nil pass0 (pa_cons (pv 0) (pa_cons pe_int pa_nil))))
      (pss_cons (ps_set (i := 6) scArrows.nd rfl (.inl rfl) (pe_lst pa_nil))
      (pss_cons (ps_for PassesOwn.never rfl (pi_range1 (by rfl) B.range (pa_cons (pv 5) pa_nil)) (pg_name (i := 7) scArrows.nd rfl (.inl rfl)) pu)
      (pss_one (ps_ret (pv 6)))))))), ?_⟩
    refine ⟨_, rfl, _, rfl, z, n, rfl, hz, hn, fun ns line H1 hz1 b1 nl hl o => ?_⟩
    have lz : line ≠ z := fun e => by
      obtain ⟨_, _, e2, _⟩ := hz
      rw [e, e2] at nl
      cases nl
    refine ⟨_, rfl, z, 2, rfl, hz1, by decide, fun c1 H2 _ _ hz2 b2 => ⟨rfl, ?_⟩⟩
    refine ⟨_, rfl, z, 2, rfl, hz2, by decide, fun c2 H3 _ _ hz3 b3 => ⟨rfl, ?_⟩⟩
    refine ⟨_, rfl, z, 12, rfl, hz3, by decide, fun m H4 m0 m1 hz4 b4 => ?_⟩
    refine ⟨by show 0 ≤ sizeLine; decide, fun l nl5 => ?_⟩
    have b14 := (b2.trans b3).trans b4
    have b04 := b1.trans b14
    have s5 : Same H4 (upd H4 l (.lst [])) := same_upd nl5
    have h5 : upd H4 l (.lst []) l = some (.lst []) := upd_same
    generalize upd H4 l (.lst []) = H5 at s5 h5
    have hl5 := s5 _ _ (b14 _ _ hl lz)
    have nlH : H l = none := free_but b04 hz4 nl5
    have lz' : l ≠ z := fun e => by
      obtain ⟨_, _, e2, _⟩ := hz4
      rw [e, e2] at nl5
      cases nl5
    have ll : line ≠ l := fun e => by rw [← e, b14 _ _ hl lz] at nl5; cases nl5
    refine ⟨_, rfl, _, rfl, by omega, by omega, ?_⟩
    refine for_range (lo := 0) (n := m.toNat) (fun i σ H6 => ∃ (v7 v8 v9 v10 : Option V) (L : List (V × (Int × Int))), σ = stA' z n line (decide (V.int c1 = V.int 1)) (decide (V.int c2 = V.int 1)) m l v7 v8 v9 v10 ∧ Grw n z l H5 H6 L ∧ L.length ≤ i)
      ⟨none, none, none, none, [], rfl, ⟨But2.refl, hz4.same s5, h5, fun _ h => (nomatch h), fun _ h => (nomatch h)⟩, Nat.le_refl _⟩ ?_ ?_
    · rintro i σ H6 hi ⟨v7, v8, v9, v10, L, rfl, g, lL⟩
      exact hu _ z line l n _ _ m _ v8 v9 v10 H5 H6 L ns g lz' (by omega) hl5 o lz ll hn fun v8' v9' v10' H' L' g' l' => ⟨_, _, _, _, L', rfl, g', by omega⟩
    · rintro σ H6 ⟨v7, v8, v9, v10, L, rfl, ⟨b6, hz6, hq, hA, ok⟩, lL⟩
      exact ⟨_, rfl, q L l H6 hz6 (fun c o e n1 => b6 c o (s5 _ _ (b04 c o e n1)) n1 (ne_of_none e nlH)) nlH hq hA ok (by omega)⟩
end
end KP
set_option maxRecDepth 100000
set_option maxHeartbeats 4000000
/-! The law's ring. -/
namespace KP
open PySem PySem.Spec PyProof.Rows L2 KT
open GR (upto Arr RingIs sp cls lst hd)
abbrev nRg : List Str := ["_law_size", "_law_arrows_here", "_law_paths", "_law_turn", "_law_longer", "_law_path", "_law_last", "_law_nodes", "_law_node"]
/-- the nodes to which an arrow leads; the paths one step longer -/
def tos (A : List (Int × Int)) (n : Nat) (u : Int) : List Int := (upto n).filter fun v => decide ((u, v) ∈ A)
def stepL (A : List (Int × Int)) (n : Nat) (p : List Int) : List (List Int) := ((tos A n (lst p)).filter fun v => decide (v ∉ p)).map fun v => p ++ [v]
theorem sp_step (A : List (Int × Int)) (n t : Nat) : sp A n (t + 1) = (sp A n t).flatMap (stepL A n) := rfl
theorem tos_len (A : List (Int × Int)) (n : Nat) (u : Int) : (tos A n u).length ≤ n := Nat.le_trans (List.length_filter_le _ _) (by rw [GR.upto_len]; exact Nat.le_refl _)
theorem stepL_len (A : List (Int × Int)) (n : Nat) (p : List Int) : (stepL A n p).length ≤ n := by
  unfold stepL
  rw [List.length_map]
  exact Nat.le_trans (List.length_filter_le _ _) (tos_len A n _)
theorem flat_step (A : List (Int × Int)) (n : Nat) : ∀ L : List (List Int), (L.flatMap (stepL A n)).length ≤ n * L.length
  | [] => Nat.zero_le _
  | p :: L => by
    rw [List.flatMap_cons, List.length_append, List.length_cons, Nat.mul_succ]
    have := stepL_len A n p
    have := flat_step A n L
    omega
theorem sp_len5 (A : List (Int × Int)) {n : Nat} (h : n ≤ 5) : ∀ t, (sp A n t).length ≤ 5 ^ (t + 1)
  | 0 => by
    show ((upto n).map _).length ≤ 5
    rw [List.length_map, GR.upto_len]
    exact h
  | t + 1 => by
    rw [sp_step]
    have h1 := flat_step A n (sp A n t)
    have h2 := sp_len5 A h t
    have h3 : n * (sp A n t).length ≤ 5 * 5 ^ (t + 1) := Nat.mul_le_mul h h2
    rw [Nat.pow_succ, Nat.mul_comm (5 ^ (t + 1)) 5]
    omega
theorem sp_few (A : List (Int × Int)) {n t : Nat} (h : n ≤ 5) (ht : t ≤ 5) : (sp A n t).length ≤ 15625 := Nat.le_trans (sp_len5 A h t) (Nat.le_trans (Nat.pow_le_pow_right (by decide) (show t + 1 ≤ 6 by omega)) (by decide))
theorem hd_at {ws : List Int} (h : ws ≠ []) : (ws.map V.int)[0]? = some (.int (hd ws)) := by
  cases ws with
  | nil => exact absurd rfl h
  | cons a r => rfl
theorem lst_at {ws : List Int} (h : ws ≠ []) : (ws.map V.int)[ws.length - 1]? = some (.int (lst ws)) := by
  have e : ws = ws.dropLast ++ [lst ws] := GR.snoc_of h
  have l : ws.dropLast.length = ws.length - 1 := List.length_dropLast
  conv => lhs; rw [show ws.map V.int = ws.dropLast.map V.int ++ [.int (lst ws)] by (conv => lhs; rw [e]); rw [List.map_append]; rfl]
  rw [List.getElem?_append_right (by rw [List.length_map, l]; exact Nat.le_refl _), List.length_map, l, Nat.sub_self]
  rfl
section
variable {P : Program} {w : World} {K : PySem.W.Frag} {mg : Str → Option Value} {base : Heap}
/-- a pair asked for among the arrows -/
theorem in_arr {H : Hp} {a T : Addr} {A : List (Int × Int)} {L} {u v : Int} {Q : VK} (hL : PsL H a A L) (nT : H T = none) (q : Q (.bl (decide ((u, v) ∈ A))) (upd H T (.tup [.int u, .int v]))) : rInD K (.ref T) (.ref a) (upd H T (.tup [.int u, .int v])) Q := by
  have s := same_upd (o := .tup [.int u, .int v]) nT
  refine ⟨dP (u, v), A.map dP, IsP.dp (a := (u, v)) ⟨T, rfl, upd_same⟩, (hL.same s).dp, sh_dP _, sh_dPL A, ?_⟩
  rw [show ((A.map dP).any fun z => PyData.eqv z (dP (u, v))) = decide ((u, v) ∈ A) from (any_eq eq_dP A (u, v)).trans (decide_eq_decide.mpr Iff.rfl)]
  exact q
def spLRing : Sp := fun vs H Q _ => ∃ (n : Nat) (a : Addr) (A : List (Int × Int)) (L : List (V × (Int × Int))), vs = [.int (n : Int), .ref a] ∧ PsL H a A L ∧ Arr n A ∧ n ≤ 5 ∧
  (RingIs A none → ∀ H', Same H H' → Q .non H') ∧ ∀ ws, RingIs A (some ws) → ∀ l H', Same H H' → H' l = some (.lst (ws.map V.int)) → Q (.ref l) H'
theorem ok_lring {f : Addr} {fd : FuncData} (F : Fun K "_law_ring" "_law_ring" sLRing f fd) (B : Blt mg) : FnOk P w K mg base CX0 1 f fd ["_law_size", "_law_arrows_here"] spLRing := by
  refine F.ok scLRing (fun vs H Q E h => ?_) (fun cdv A outer st H vs Q E hr h => ?_)
  · obtain ⟨_, _, _, _, rfl, _⟩ := h
    rfl
  · obtain ⟨n, a, As, L, rfl, hL, ar, hn, q0, q1⟩ := h
    refine ⟨_, pss_cons (ps_setLc (i := 2) (own := [("_law_node", 8)]) (g := gName 8) (tt := tYes) rfl scLRing.nd rfl rfl (sw_true rfl rfl rfl (by decide +kernel)) (pi_range2 (by rfl) B.range (pa_cons pe_int (pa_cons (pe_op op_add (pv 0) pe_int) pa_nil)))
        (blkOk_by (N := nRg) (sc := defScope sLRing) (by decide +kernel)) (fun _ _ _ _ _ => pg_name (i := 8) scLRing.nd rfl (.inl rfl)) (fun _ _ _ _ _ => pts_nil) (fun _ _ _ _ _ => pe_lst (pa_cons (pv 8) pa_nil)))
      (pss_cons (ps_for PassesOwn.never rfl (pi_range1 (by rfl) B.range (pa_cons (pv 0) pa_nil)) (pg_name (i := 3) scLRing.nd rfl (.inl rfl))
        (pss_cons (ps_set (i := 4) scLRing.nd rfl (.inl rfl) (pe_lst pa_nil))
        (pss_cons (ps_for PassesOwn.never rfl (pi_list (pv 2)) (pg_name (i := 5) scLRing.nd rfl (.inr rfl))
          (pss_cons (ps_set (i := 6) scLRing.nd rfl (.inr rfl) (pe_ix ix_list (pv 5) (pe_op op_sub (pe_callB call_len_seq (by rfl) B.len PySem.boot_len (pa_cons (pv 5) pa_nil)) pe_int) (fun _ _ => rfl)))
          (pss_cons (ps_if (pt_cmpR (show OpR _ _ (rInD K) from op_inD (u65 hr)) (pe_tup (pa_cons (pv 6) (pa_cons (pe_ix ix_list (pv 5) pe_int (fun _ _ => rfl)) pa_nil))) (pv 1) rfl) (pss_one (ps_ret (pv 5))) pss_nil)
          (pss_cons (ps_setLc (i := 7) (own := [("_law_node", 8)]) (g := gName 8) rfl scLRing.nd rfl rfl (sw_true rfl rfl rfl (by decide +kernel)) (pi_range2 (by rfl) B.range (pa_cons pe_int (pa_cons (pe_op op_add (pv 0) pe_int) pa_nil)))
            (blkOk_by (N := nRg) (sc := defScope sLRing) (by decide +kernel)) (fun _ _ _ _ _ => pg_name (i := 8) scLRing.nd rfl (.inl rfl))
            (fun _ _ _ _ _ => pts_one (pt_cmpR (show OpR _ _ (rInD K) from op_inD (u65 hr)) (pe_tup (pa_cons (pv 6) (pa_cons (pv 8) pa_nil))) (pv 1) rfl)) (fun _ _ _ _ _ => pv 8))
          (pss_one (ps_set (i := 4) scLRing.nd rfl (.inl rfl) (pe_op op_cat (pv 4) (pe_lc (own := [("_law_node", 8)]) (g := gName 8) rfl scLRing.nd (pi_list (pv 7))
            (blkOk_by (N := nRg) (sc := defScope sLRing) (by decide +kernel)) (fun _ _ _ _ _ => pg_name (i := 8) scLRing.nd rfl (.inl rfl))
            (fun _ _ _ _ _ => pts_one (pt_cmpR (show OpR _ _ (rIn K true) from op_notIn_seq) (pv 8) (pv 5) rfl)) (fun _ _ _ _ _ => pe_op op_cat (pv 5) (pe_lst (pa_cons (pv 8) pa_nil)))))))))))
        (pss_one (ps_set (i := 2) scLRing.nd rfl (.inl rfl) (pv 4))))))
      (pss_one (ps_ret pe_non))), ?_⟩
    refine ⟨_, rfl, _, _, rfl, rfl, ?_⟩
    refine ⟨1, (n : Int) + 1, rfl, ⟨by omega, by omega, by omega, by omega⟩, fun D nD => ?_⟩
    rw [show ((n : Int) + 1 - 1).toNat = n by omega]
    refine lc_range (lo := 1) (n := n) (fun i H2 => ∃ M : List (V × List Int), But D (upd H D (.lst [])) H2 ∧ IsLs H2 D (((upto n).take i).map fun v => [v]) M ∧ ∀ y ∈ M, y.1 ≠ .ref D)
      ⟨[], But.refl, ⟨upd_same, fun _ h => (nomatch h), rfl⟩, fun _ h => (nomatch h)⟩ ?_ ?_
    · rintro i H2 hi ⟨M, hb, l2, n2⟩
      refine ⟨rfl, ?_⟩
      refine yes_i ?_
      refine ⟨_, rfl, by show 1 ≤ sizeLine; decide, fun e ne => ?_⟩
      have s3 : Same H2 (upd H2 e (.lst [.int ((1 : Int) + (i : Nat))])) := same_upd ne
      have h3 : upd H2 e (.lst [.int ((1 : Int) + (i : Nat))]) e = some (.lst (([(1 : Int) + (i : Nat)]).map V.int)) := upd_same
      generalize upd H2 e (.lst [.int ((1 : Int) + (i : Nat))]) = H3 at s3 h3
      have eD : e ≠ D := fun y => by rw [y, l2.at_] at ne; cases ne
      obtain ⟨k1, k2⟩ := ls_snoc (l2.same s3).all n2 l2.eq h3 eD
      have lM : M.length ≤ 1000 := by
        have e1 : M.length = (((upto n).take i).map fun v => [v]).length := by rw [← l2.eq, List.length_map]
        rw [List.length_map, List.length_take] at e1
        omega
      refine ⟨_, s3 _ _ l2.at_, small1000 (by rw [List.length_map]; exact lM), _, (hb.same s3).trans But.upd, ?_, k2⟩
      rw [List.take_add_one, upto_at hi, List.map_append]
      exact k1
    rintro H1 ⟨M1, hb1, ls1, _⟩
    rw [show (upto n).take n = upto n from List.take_of_length_le (by rw [GR.upto_len]; omega)] at ls1
    have s1 : Same H H1 := But.new hb1 rfl nD
    refine ⟨_, rfl, _, rfl, by omega, by omega, ?_⟩
    rw [show ((n : Int)).toNat = n by omega]
    refine for_range (lo := 0) (n := n) (fun i σ H2 => ∃ (p : Addr) (v3 v4 v5 v6 v7 v8 : Option V) (M : List (V × List Int)), σ = [some (.int (n : Int)), some (.ref a), some (.ref p), v3, v4, v5, v6, v7, v8] ∧ Same H H2 ∧ IsLs H2 p (sp As n i) M ∧ ∀ j < i, ∀ ws ∈ sp As n j, cls As ws = false)
      ⟨D, none, none, none, none, none, none, M1, rfl, s1, ls1, fun j h => absurd h (by omega)⟩ ?_ ?_
    · rintro i σ H2 hi ⟨p, v3, v4, v5, v6, v7, v8, M, rfl, s2, ls, no⟩
      refine ⟨by show 0 ≤ sizeLine; decide, fun q nq => ?_⟩
      have s3 : Same H2 (upd H2 q (.lst [])) := same_upd nq
      have h3 : upd H2 q (.lst []) q = some (.lst []) := upd_same
      generalize upd H2 q (.lst []) = H3 at s3 h3
      have lM : M.length = (sp As n i).length := by rw [← ls.eq, List.length_map]
      have few := sp_few As (t := i) hn (by omega)
      refine ⟨_, rfl, p, rfl, ⟨_, SqL.of (s3 _ _ ls.at_)⟩, for_list (K := K) (a := p) (xs := M.map (·.1)) (fun j σ H4 => ∃ (q : Addr) (v5 v6 v7 v8 : Option V) (M' : List (V × List Int)), σ = [some (.int (n : Int)), some (.ref a), some (.ref p), some (.int (0 + (i : Nat))), some (.ref q), v5, v6, v7, v8] ∧ Same H3 H4 ∧ IsLs H4 q (((sp As n i).take j).flatMap (stepL As n)) M' ∧ ∀ ws ∈ (sp As n i).take j, cls As ws = false)
        ⟨q, v5, v6, v7, v8, [], rfl, Same.refl _, ⟨h3, fun _ h => (nomatch h), rfl⟩, fun _ h => by simp at h⟩ (fun j σ H4 _ h => by obtain ⟨_, _, _, _, _, _, _, s4, _⟩ := h; exact SqL.of (s4 _ _ (s3 _ _ ls.at_))) ?_ ?_⟩
      · rintro j v σ H4 hj ⟨q, v5, v6, v7, v8, M', rfl, s4, ls', no'⟩
        obtain ⟨ws, hp⟩ := at_map hj
        have hm := List.mem_of_getElem? hp
        obtain ⟨wn, ev, hw⟩ := ls.all _ hm
        have ev : v = .ref wn := ev
        subst ev
        have hw : H2 wn = some (.lst (ws.map V.int)) := hw
        have s24 := s3.trans s4
        have s04 := s2.trans s24
        have hw4 := s24 _ _ hw
        have hjL : (sp As n i)[j]? = some ws := by rw [← ls.eq, List.getElem?_map, hp]; rfl
        have hjl : j < (sp As n i).length := (List.getElem?_eq_some_iff.mp hjL).1
        have inS : ws ∈ sp As n i := List.mem_of_getElem? hjL
        obtain ⟨ch, wl, wnd, winn⟩ := (GR.mem_sp As ar).mp inS
        have wne : ws ≠ [] := fun z => by rw [z] at wl; cases wl
        have lM' : M'.length ≤ 5 * 15625 := by
          have e1 : M'.length = (((sp As n i).take j).flatMap (stepL As n)).length := by rw [← ls'.eq, List.length_map]
          have e2 := flat_step As n ((sp As n i).take j)
          have e3 : n * ((sp As n i).take j).length ≤ 5 * 15625 := Nat.mul_le_mul hn (by rw [List.length_take]; omega)
          omega
        have idx : ((List.map V.int ws).length : Int) - 1 = ((ws.length - 1 : Nat) : Int) := by rw [List.length_map]; omega
        refine ⟨_, rfl, _, rfl, wn, _, rfl, .inl (SqL.of hw4), _, _, rfl, rfl, wn, _, _, _, rfl, congrArg V.int idx, SqL.of hw4, atI_nat (lst_at wne), ?_⟩
        refine ⟨_, rfl, _, rfl, wn, _, _, _, rfl, rfl, SqL.of hw4, atI_nat (j := 0) (hd_at wne), by show 2 ≤ sizeLine; decide, fun T nT => ⟨_, rfl, ?_⟩⟩
        have s5 : Same H4 (upd H4 T (.tup [.int (lst ws), .int (hd ws)])) := same_upd nT
        refine in_arr (hL.same s04) nT ⟨_, rfl, ?_⟩
        generalize upd H4 T (.tup [.int (lst ws), .int (hd ws)]) = H5 at s5
        have spl : sp As n i = (sp As n i).take j ++ ws :: (sp As n i).drop (j + 1) := by
          conv => lhs; rw [← List.take_append_drop j (sp As n i)]
          rw [List.drop_eq_getElem_cons hjl, (List.getElem?_eq_some_iff.mp hjL).2]
        cases cl : decide ((lst ws, hd ws) ∈ As) with
        | true => exact iteT ⟨_, rfl, q1 ws (GR.ring_found As ar spl cl no' no) wn H5 (s04.trans s5) (s5 _ _ hw4)⟩
        | false =>
          refine iteF ?_
          have s45 := s24.trans s5
          have s05 := s04.trans s5
          refine ⟨_, rfl, _, _, rfl, rfl, ?_⟩
          refine ⟨1, (n : Int) + 1, rfl, ⟨by omega, by omega, by omega, by omega⟩, fun D1 nD1 => ?_⟩
          rw [show ((n : Int) + 1 - 1).toNat = n by omega]
          refine lc_range (lo := 1) (n := n) (fun i' H6 => But D1 (upd H5 D1 (.lst [])) H6 ∧ H6 D1 = some (.lst ((((upto n).take i').filter fun v => decide ((lst ws, v) ∈ As)).map V.int)))
            ⟨But.refl, upd_same⟩ ?_ ?_
          · rintro i' H6 hi' ⟨hb, hD⟩
            have s6 : Same H5 H6 := But.new hb rfl nD1
            refine ⟨rfl, _, rfl, _, rfl, by show 2 ≤ sizeLine; decide, fun T' nT' => ⟨_, rfl, ?_⟩⟩
            have s7 : Same H6 (upd H6 T' (.tup [.int (lst ws), .int ((1 : Int) + (i' : Nat))])) := same_upd nT'
            refine in_arr (hL.same (s05.trans s6)) nT' ⟨_, rfl, ?_⟩
            generalize upd H6 T' (.tup [.int (lst ws), .int ((1 : Int) + (i' : Nat))]) = H7 at s7
            have stp := filt_take (f := fun v => decide ((lst ws, v) ∈ As)) (upto_at hi')
            have lf := filt_len (A := upto n) (f := fun v => decide ((lst ws, v) ∈ As)) (i := i')
            rw [GR.upto_len] at lf
            cases c : decide ((lst ws, (1 : Int) + (i' : Nat)) ∈ As) with
            | false =>
              rw [if_neg (by rw [c]; decide), List.append_nil] at stp
              refine iteF ⟨hb.same s7, ?_⟩
              rw [stp]
              exact s7 _ _ hD
            | true =>
              rw [if_pos c] at stp
              refine iteT ⟨_, rfl, _, s7 _ _ hD, small1000 (by rw [List.length_map]; omega), (hb.same s7).trans But.upd, ?_⟩
              rw [upd_same, stp, List.map_append]
              rfl
          · rintro H6 ⟨hb, hD⟩
            rw [show (upto n).take n = upto n from List.take_of_length_le (by rw [GR.upto_len]; omega)] at hD
            have hD : H6 D1 = some (.lst ((tos As n (lst ws)).map V.int)) := hD
            have s6 : Same H5 H6 := But.new hb rfl nD1
            have s46 := s5.trans s6
            have lt := tos_len As n (lst ws)
            refine ⟨_, rfl, _, rfl, D1, rfl, ⟨_, SqL.of hD⟩, fun D2 nD2 => lc_list (K := K) (a := D1) (xs := (tos As n (lst ws)).map V.int) (fun i' H7 => ∃ M2 : List (V × List Int), But D2 (upd H6 D2 (.lst [])) H7 ∧ IsLs H7 D2 ((((tos As n (lst ws)).take i').filter fun v => decide (v ∉ ws)).map fun v => ws ++ [v]) M2 ∧ ∀ y ∈ M2, y.1 ≠ .ref D2)
              ⟨[], But.refl, ⟨upd_same, fun _ h => (nomatch h), rfl⟩, fun _ h => (nomatch h)⟩ (fun i' H7 _ h => by obtain ⟨_, hb7, _⟩ := h; exact SqL.of ((But.new hb7 rfl nD2) _ _ hD)) ?_ ?_⟩
            · rintro i' v H7 hi' ⟨M2, hb7, l2, n2⟩
              obtain ⟨c, hc, rfl⟩ := int_at hi'
              have s7 : Same H6 H7 := But.new hb7 rfl nD2
              have hw7 := s7 _ _ (s46 _ _ hw4)
              have lf := filt_len (A := tos As n (lst ws)) (f := fun v => decide (v ∉ ws)) (i := i')
              have lM2 : M2.length ≤ 1000 := by
                have e1 : M2.length = ((((tos As n (lst ws)).take i').filter fun v => decide (v ∉ ws)).map fun v => ws ++ [v]).length := by rw [← l2.eq, List.length_map]
                rw [List.length_map] at e1
                omega
              have stp := filt_take (f := fun v => decide (v ∉ ws)) hc
              refine ⟨rfl, _, rfl, _, rfl, wn, _, rfl, .inl (SqL.of hw7), rfl, flat_int _, ?_⟩
              rw [if_pos rfl, in_ints, not_dec]
              refine ⟨_, rfl, ?_⟩
              by_cases d : c ∈ ws
              · rw [decide_eq_false (not_not_intro d)]
                rw [if_neg (by simp [d]), List.append_nil] at stp
                refine iteF ⟨M2, hb7, ?_, n2⟩
                rw [stp]
                exact l2
              · rw [decide_eq_true d]
                rw [if_pos (by simp [d])] at stp
                refine iteT ⟨_, rfl, _, rfl, by show 1 ≤ sizeLine; decide, fun e ne => ?_⟩
                have s8 : Same H7 (upd H7 e (.lst [.int c])) := same_upd ne
                have he8 : upd H7 e (.lst [.int c]) e = some (.lst [.int c]) := upd_same
                generalize upd H7 e (.lst [.int c]) = H8 at s8 he8
                refine ⟨wn, e, _, _, rfl, rfl, s8 _ _ hw7, he8, ?_, fun z nz => ?_⟩
                · rw [List.length_map, wl, sizeLine_eq]
                  have : [V.int c].length = 1 := rfl
                  omega
                · have ea : ws.map V.int ++ [V.int c] = (ws ++ [c]).map V.int := by rw [List.map_append]; rfl
                  rw [ea]
                  have s9 : Same H8 (upd H8 z (.lst ((ws ++ [c]).map V.int))) := same_upd nz
                  have hz9 : upd H8 z (.lst ((ws ++ [c]).map V.int)) z = some (.lst ((ws ++ [c]).map V.int)) := upd_same
                  generalize upd H8 z (.lst ((ws ++ [c]).map V.int)) = H9 at s9 hz9
                  have s79 := s8.trans s9
                  have zD : z ≠ D2 := fun y => by rw [y, s8 _ _ l2.at_] at nz; cases nz
                  obtain ⟨k1, k2⟩ := ls_snoc (l2.same s79).all n2 l2.eq hz9 zD
                  refine ⟨_, s79 _ _ l2.at_, small1000 (by rw [List.length_map]; exact lM2), _, (hb7.same s79).trans But.upd, ?_, k2⟩
                  rw [stp, List.map_append]
                  exact k1
            · rintro H7 ⟨M2, hb7, l2, n2⟩
              rw [List.length_map, List.take_length] at l2
              have s7 : Same H6 H7 := But.new hb7 rfl nD2
              have lM2 : M2.length ≤ 1000 := by
                have e1 : M2.length = (stepL As n ws).length := by
                  rw [← List.length_map (f := fun y : V × List Int => y.2) (as := M2), l2.eq]
                  rfl
                have := stepL_len As n ws
                omega
              have s47 := s46.trans s7
              refine ⟨q, D2, _, _, rfl, rfl, s47 _ _ ls'.at_, l2.at_, ?_, fun r nr => ?_⟩
              · rw [List.length_map, List.length_map, sizeLine_eq]
                omega
              · have s8 : Same H7 (upd H7 r (.lst (M'.map (·.1) ++ M2.map (·.1)))) := same_upd nr
                have hr8 : upd H7 r (.lst (M'.map (·.1) ++ M2.map (·.1))) r = some (.lst (M'.map (·.1) ++ M2.map (·.1))) := upd_same
                generalize upd H7 r (.lst (M'.map (·.1) ++ M2.map (·.1))) = H8 at s8 hr8
                have s48 := s47.trans s8
                refine ⟨r, _, _, _, _, M' ++ M2, rfl, s4.trans s48, ⟨by rw [hr8, List.map_append], fun y hy => ?_, ?_⟩, fun u hu => ?_⟩
                · rcases List.mem_append.mp hy with hy | hy
                  · exact (ls'.all y hy).same s48
                  · exact (l2.all y hy).same s8
                · rw [List.map_append, ls'.eq, l2.eq, List.take_add_one, hjL, List.flatMap_append]
                  show _ ++ _ = _ ++ [ws].flatMap (stepL As n)
                  rw [List.flatMap_cons, List.flatMap_nil, List.append_nil]
                  rfl
                · rw [List.take_add_one, hjL] at hu
                  rcases List.mem_append.mp hu with hu | hu
                  · exact no' u hu
                  · have : u = ws := by simpa using hu
                    rw [this]
                    exact cl
      · rintro σ H4 ⟨q, v5, v6, v7, v8, M', rfl, s4, ls', no'⟩
        rw [List.length_map, lM, List.take_length] at ls' no'
        refine ⟨_, rfl, q, _, _, _, _, _, _, M', rfl, s2.trans (s3.trans s4), ls', fun j hj ws hws => ?_⟩
        by_cases c : j < i
        · exact no j c ws hws
        · have : j = i := by omega
          subst this
          exact no' ws hws
    · rintro σ H2 ⟨p, v3, v4, v5, v6, v7, v8, M, rfl, s2, ls, no⟩
      exact q0 (GR.ring_none As ar no) H2 s2
end
end KP
set_option maxRecDepth 100000
set_option maxHeartbeats 4000000
/-! isinstance of a caught error that may have a dict. -/
namespace KP
open PySem PySem.Spec PyProof.Rows L2 KT
open PySem.W PySem.Calls
section
variable {prog : Program} {w : World} {A : Around} {E : Value → Shared → Prop} {s : Shared} {K : Frag} {x D : Addr} {ob : Obj} {di : Option Obj}
theorem find_dataD {C : Addr} {name : Str} {a g : Value} (known : (clsIn K C).isSome = true) (fd : findIn K (.ref C) name = some (some a)) (gt : specialIn K a "__get__" = some (some g)) (tk : takesIn K a = some true) : findObj K C di name = some (.bind g a) := by
  obtain ⟨cd, hc⟩ := Option.isSome_iff_exists.mp known
  unfold findObj
  rw [hc, Option.bind_some, fd, Option.bind_some]
  cases di <;> simp [gt, tk]
theorem class_of_exc {Q : Option Value → Shared → Prop} (T : ExcC K D) (X : K.In s.heap) (I : InstAt s.heap x ob D di) (q : Q (some (.ref D)) { s with toks := s.toks + 1 }) : wpAny (model prog w) A (getAttr? (.ref x) "__class__") Q E s := by
  have found : findObj K D di "__class__" = some (.bind (.builtin "getset_descriptor.__get__") (.builtin "object.__class__")) := find_dataD (by obtain ⟨cd, hc, _⟩ := any_some T.hd; rw [hc]; rfl) T.ha T.hn T.ht
  obtain ⟨h0, g, d, t, os⟩ := s
  have ty := I.type (M := model prog w)
  have ga := looks_findIn (M := model prog w) X T.hg
  have gn := looks_findIn (M := model prog w) X T.hk
  have fi := looks_find (M := model prog w) X I found
  have isB : Looks (model prog w) h0 (isInstance (.ref x) (.type "BaseException")) true := ty.andThen (looks_subIn X T.hs)
  have p0 : (false && onTheHeap (Value.builtin "BaseException.__getattribute__")) = false := rfl
  have p2 : (Value.builtin "BaseException.__getattribute__" == Value.builtin "object.__getattribute__") = false := by decide +kernel
  have p1 : (onTheHeap (Value.ref D) && Value.builtin "BaseException.__getattribute__" == Value.builtin "object.__getattribute__") = false := by rw [p2]; rfl
  unfold getAttr? getAttrBy? getAttrBy
  refine wpAny_bind (wpAny_mkText (wpAny_bind (wpAny_attempt (wpAny_holding (wpAny_bind (ty.at (wpAny_bind (ga.at ?_))))))))
  show wpAny _ _ (if (onTheHeap (Value.ref D) && Value.builtin "BaseException.__getattribute__" == Value.builtin "object.__getattribute__") = true then _ else _) _ _ _
  rw [p1, if_neg Bool.false_ne_true]
  unfold getAttrByItsOwn hookBefore
  refine wpAny_bind ?_
  rw [if_pos (show onTheHeap (Value.ref D) = true from rfl)]
  refine gn.at (wpAny_bind (wpAny_attempt (wpAny_holding ?_)))
  unfold callGetattribute
  rw [p0, if_neg Bool.false_ne_true]
  unfold boundAndCalled
  rw [PySem.F.excAttr_ValueError.ga.bind (.ref x)]
  refine wpAny_bind (wpAny_pure ?_)
  show wpAny _ _ (call (.builtin "BaseException.__getattribute__") [.ref x, .str "__class__" t]) _ _ _
  refine wpAny_call (codeAny_call_builtin PySem.F.excAttr_ValueError.ga.plain PySem.F.entry_bexc_ga ?_)
  refine @check_slot (model prog w) _ _ ⟨h0, g, d, t + 1, os⟩ "BaseException.__getattribute__" "BaseException" "__getattribute__" (.ref x) [.str "__class__" t] [] _ (by decide +kernel) (by decide +kernel) isB (PySem.F.args_bexc_ga (.ref x) (.str "__class__" t)) ?_
  unfold Builtin.«object.__getattribute__»
  refine wpAny_bind (wpAny_of_eq (a := ((Value.ref x : Value), [Value.str "__class__" t])) (by first | rfl | (simp only [slotArgs]; rfl)) ?_)
  refine wpAny_bind (wpAny_pure (wpAny_bind (ty.at (wpAny_bind (fi.at ?_)))))
  show wpAny _ _ (holding [Value.builtin "object.__class__"] (call (.builtin "getset_descriptor.__get__") [.builtin "object.__class__", .ref x, .ref D]) >>= ret) _ _ _
  refine wpAny_bind (wpAny_holding (wpAny_call (class_get (s := ⟨h0, g, d, t + 1, os⟩) (ox := ob) (od := di) X I T.hm ?_)))
  refine wpAny_pure ?_
  show wpAny _ _ (handedOut (.ref D)) _ _ _
  rw [handedOut_of (v := .ref D) rfl]
  first
    | exact wpAny_pure (wpAny_pure q)
    | exact wpAny_pure q
    | exact wpAny_pure (wpAny_bind (wpAny_pure (wpAny_pure q)))
theorem kitx_excD (T : ExcC K D) : KitX K (.ref x) (.ref D) (fun h => ∃ di, InstAt h x ob D di) where
  ty := fun _ _ _ ⟨_, I⟩ => I.type
  it := fun M h X _ => by
    obtain ⟨cdD, hcD, _⟩ := any_some T.hd
    unfold clsIn at hcD
    split at hcD
    · rename_i c' d' cd' sl' ho
      intro A' Q' E' s' k q
      obtain ⟨h1, g1, d1, t1, o1⟩ := s'
      exact ks_wpAny_isType_cls (k _ _ (X _ _ ho)) rfl q
    · cases hcD
  ne := (handS_kitx_exc (x := x) (ox := ob) T.hg T.hk T.hs T.hd T.ha T.hn T.ht T.hm).ne
  ca := fun X ⟨_, I⟩ k => class_of_exc T X I k
end
/-- isinstance(e, c), e of the suite, whatever its class and dict are as the suite stands -/
def rIsD (K : PySem.W.Frag) (D a : Addr) (kl : Value) (dk : Option Addr) : List V → Hp → VK → Prop := fun xs H Q => kl = .ref D ∧ (∃ dd l, dk = some dd ∧ H dd = some (.xd l)) ∧ ∃ (c : V) (cv : Value) (b : Bool), xs = [.ref a, c] ∧ (∀ u, RelV c u → u = cv) ∧ PySem.W.kitOne K (.ref D) cv = some b ∧ Q (.bl b) H
theorem call_isD {Y : L2.Cx} {a D : Addr} {oe : Obj} {kl : Value} {dk : Option Addr} {ps : List (Addr × Obj)} (T : ExcC Y.K D) (z : Zc kl dk oe) (f : ∃ vs, oe.data = .fields vs) : CallR (Y.suite a ((a, oe) :: ps)) (.builtin "isinstance") (rIsD Y.K D a kl dk) := by
  intro pins s σ H xs us Q I r h
  obtain ⟨rfl, ⟨dd, l, rfl, hdd⟩, c, cv, b, rfl, hcv, e, q⟩ := h
  cases r with
  | cons rx rr =>
    cases rr with
    | cons rt rr =>
      cases rr
      cases rx
      have ec := hcv _ rt
      subst ec
      obtain ⟨hget, _⟩ := I.pin (a, oe) (List.mem_append.mpr (.inl List.mem_cons_self))
      obtain ⟨vs, hv⟩ := f
      have J : ∃ di, PySem.W.InstAt s.heap a oe D di := by
        obtain ⟨oc, od, oda, osl⟩ := oe
        obtain ⟨h1, h2⟩ := z
        dsimp only at h1 h2 hv
        subst h1 h2 hv
        have hx : ObjOk Y.prog Y.w H s.heap dd (.xd l) := I.hok dd _ hdd
        obtain ⟨mA, hns, hr⟩ := hx
        obtain ⟨od, ho, hl⟩ := lookIn_ns hns
        exact ⟨some od, hget, rfl, rfl, ho⟩
      exact PySem.W.kia_one (kitx_excD T) I.kIn J e (fun z => nomatch z) fun tk => ⟨.bl b, H, I.kept (t' := tk) fun _ _ z => z, rfl, q⟩
end KP
set_option maxRecDepth 100000
set_option maxHeartbeats 4000000
/-! A try whose first clause, «except x as n», takes all that its body raises; further clauses stand behind it. -/
namespace KP
open PySem PySem.Spec PyProof.Rows L2
/-- what the first clause wishes -/
def wFirst (K : PySem.W.Frag) (c : Value) (i : Nat) (ts : Addr → Value → Option Addr → TS) (D : Ends) : WX := fun cls d σ H =>
  PySem.W.exmOne K cls c = some true ∧ ∀ a, H a = none → ts a cls d ⟨fun σ' H' => D.nx (σ'.set i none) H', D.rt, fun σ' H' => D.bk (σ'.set i none) H', fun σ' H' => D.ct (σ'.set i none) H'⟩ (σ.set i (some (.ref a))) H
section
variable {Y : Cx} {y ny : Str} {cv : Value} {j : Nat} {bod sui : List Stmt} {st0 : Stmt} {q1 q2 q3 : Pos} {tbd : WX → TS} {tsu : Addr → Value → Option Addr → TS} {more : List ExceptHandler}
theorem ps_try_first (stk : Y.stack = Y.env :: Y.outer) (fra : Y.env.frame = some Y.env.locals) (nod : Y.N.Nodup) (hj : Y.N[j]? = some ny) (loc : Y.env.kindOf ny = some .local) (nam : Names Y y cv)
    (okB : ∀ (V : WX) (ps : List (Addr × Obj)) (xo : Value → Shared → Prop), Takes (Y.tr ps xo) V → PassesOwn (model Y.prog Y.w) Y.A Y.env xo → PSs (Y.tr ps xo) bod (tbd V))
    (okS : ∀ (a : Addr) (ob : Obj) (cls : Value) (d : Option Addr) (ps : List (Addr × Obj)), Zc cls d ob → (∃ fv, ob.data = .fields fv) → PSs (Y.suite a ((a, ob) :: ps)) (st0 :: sui) (tsu a cls d)) :
    PS Y (.Try bod (.ExceptHandler (some (.Name y q1)) (some ny) (st0 :: sui) q2 :: more) [] [] q3) (fun D σ H => tbd (wFirst Y.K cv j tsu D) D σ H) := by
  constructor
  intro pins s σ H D J0 hyp
  have okY := J0.ok
  have frs' : Y.A.frames = some (Y.env :: Y.outer) := by rw [okY.frames, stk]
  have run := fun xo tk po => (okB (wFirst Y.K cv j tsu D) (Y.pn ++ pins) xo tk po).run [] s σ H D (J0.toTry _) hyp
  refine wpAny_Try_except (wpAny_mono (run (fun e s₁ => wpAny (model Y.prog Y.w) Y.A (noteFrame e Y.env) (fun _ s₂ => wpAny (model Y.prog Y.w) Y.A (setFlight e none) (fun _ s₃ => wpAny (model Y.prog Y.w) Y.A (handleBy e Y.env
    (.ExceptHandler (some (.Name y q1)) (some ny) (st0 :: sui) q2 :: more)) (SP Y pins D) Y.xe s₃) Y.xe s₂) Y.xe s₁) (fun u s' gone => ?_) PassesOwn.looking) (fun fl sz got => ?_) fun _ _ z => z)
  · obtain ⟨ea, Bs, sJ, pz, τ, G, kl, dk, rfl, Jz, nbz, upz, skz, naz, osz, agz, mat, yes⟩ := gone
    have J1 : Inv Y pins τ G sJ := Jz.ofTry okY
    have sk1 : Sky Bs (Y.env :: Y.outer) ea (Zc kl dk) Y.env.locals s'.heap := by
      rw [← stk]
      exact skz
    show wpAny (model Y.prog Y.w) Y.A (noteFrame (.ref ea) Y.env) _ _ _
    refine Sky.land Zc.steady frs' fra sk1 fun g1 flg upg => ?_
    have J2 : Inv Y pins τ G { s' with heap := g1 } := J1.landed nbz flg.1 (upz.trans upg) osz agz
    obtain ⟨o1, f1, at1, z1, dt1⟩ := flg.there
    have apart : ea ∉ frs (Y.env :: Y.outer) := fun hm => by
      obtain ⟨_, o', e', hnf⟩ := flg.2.2.1.mem hm
      rw [at1] at e'
      cases e'
      exact hnf _ dt1
    have apL : ea ≠ Y.env.locals := fun z => apart (List.mem_filterMap.mpr ⟨Y.env, List.mem_cons_self, by rw [fra, z]⟩)
    have apF : ea ∉ Y.fs := fun hm => by
      obtain ⟨ev, he, q⟩ := List.mem_filterMap.mp hm
      exact apart (List.mem_filterMap.mpr ⟨ev, List.mem_cons_of_mem _ he, q⟩)
    have S1 := J2.suite at1 dt1 naz apL apF
    have TY : PySem.W.Looks (model Y.prog Y.w) g1 (typeOf (.ref ea)) kl := fun A' Q' E' s₀ k₀ q₀ => wpAny_typeOf_ref (k₀ _ _ at1) (by rw [z1.1]; exact q₀)
    have MT := PySem.W.exm_one (M := model Y.prog Y.w) J2.kIn TY mat
    refine wpAny_handleBy_cons (codeAny_handlers_test ?_) (by intro q; cases q)
    have look : ∀ {Q' E' : Value → Shared → Prop}, Q' cv { s' with heap := g1 } → wpAny (model Y.prog Y.w) (Y.A.mark (some (.ref ea))) (eval (.Name y q1) Y.env) Q' E' { s' with heap := g1 } := fun {Q' E'} q => by
      obtain ⟨n1, n2, n3 | ⟨n3, n4, n5⟩⟩ := nam
      · exact ld_glob (X := Y.suite ea ((ea, o1) :: (Y.pn ++ pins))) S1 n1 n3 q n2
      · exact ld_blt (X := Y.suite ea ((ea, o1) :: (Y.pn ++ pins))) S1 n1 n3 n4 q n5 n2
    refine look (MT.here ?_)
    refine codeAny_handlers_suite_as (HandSPX.lands_againZ flg fun g2 flh uph => ?_)
    have J3 : Inv Y pins τ G { s' with heap := g2 } := J1.landed nbz flh.1 ((upz.trans upg).trans uph) osz agz
    obtain ⟨o2, f2, at2, z2, dt2⟩ := flh.there
    have S2 := J3.suite at2 dt2 naz apL apF
    refine store_ok (X := Y.suite ea ((ea, o2) :: (Y.pn ++ pins))) (v := .ref ea) S2 nod hj (.inl loc) rfl (fun s4 S4 => ?_) (.inr loc)
    have leave : ∀ {υ : L2.St} {G' : Hp} {Q' : Shared → Prop} {s5 : Shared}, Inv (Y.suite ea ((ea, o2) :: (Y.pn ++ pins))) [] υ G' s5 → (∀ s6, Inv Y pins (υ.set j none) G' s6 → Q' s6) →
        wpAny (model Y.prog Y.w) Y.A (do bindName Y.env ny .none; unbindBehindTheSuite Y.env ny q2) (fun _ s6 => Q' s6) Y.xe s5 := fun S5 q => gone_ok (S5.unsuite okY) nod hj loc q
    refine wpAny_mono ((okS ea o2 kl dk (Y.pn ++ pins) z2 ⟨_, dt2⟩).run [] s4 _ G _ S4 (yes ea naz)) (fun fl s5 got => ?_) (fun _ _ z => False.elim z)
    cases fl with
    | next =>
      obtain ⟨_, _, S5, q5⟩ := got
      exact leave S5 fun _ J6 => ⟨_, _, J6, q5⟩
    | brk =>
      obtain ⟨_, _, S5, q5⟩ := got
      exact leave S5 fun _ J6 => ⟨_, _, J6, q5⟩
    | cont =>
      obtain ⟨_, _, S5, q5⟩ := got
      exact leave S5 fun _ J6 => ⟨_, _, J6, q5⟩
    | ret u =>
      obtain ⟨_, _, _, S5, r5, q5⟩ := got
      exact leave S5 fun _ J6 => ⟨_, _, _, J6, r5, q5⟩
  · cases fl with
    | next =>
      obtain ⟨_, _, Jn, qn⟩ := got
      exact wpAny_execs_nil ⟨_, _, Jn.ofTry okY, qn⟩
    | brk =>
      obtain ⟨_, _, Jn, qn⟩ := got
      exact ⟨_, _, Jn.ofTry okY, qn⟩
    | cont =>
      obtain ⟨_, _, Jn, qn⟩ := got
      exact ⟨_, _, Jn.ofTry okY, qn⟩
    | ret u =>
      obtain ⟨_, _, _, Jn, rn, qn⟩ := got
      exact ⟨_, _, _, Jn.ofTry okY, rn, qn⟩
end
section
variable {Y : Cx} {CX : CXT} {j : Nat} {g C : Addr} {gd : FuncData} {prm : List Str} {pm : Sp} {dv : List V} {du : List Value} {En : L2.St → XK} {nm : Str} {p0 p1 : Pos} {e1 : Expr} {er : List Expr} {tas : TA}
/-- C(e, ..) whose __init__ may raise -/
def tMakeX (C : Addr) (pm : Sp) (dv : List V) (En : L2.St → XK) (tas : TA) : TE := fun σ H Q => tas σ H fun us H1 => ∀ z dz, H1 z = none → H1 dz = none → dz ≠ z →
  pm (.ref z :: (us ++ dv)) (upd (upd H1 dz (.own z)) z (.ins C dz [])) (fun r H2 => r = .non ∧ Q (.ref z) H2) (En σ)
theorem pe_makeX (M : Mk Y.K C g) (G : FnOk Y.prog Y.w Y.K Y.mg Y.base CX j g gd prm pm) (room : Room (j + 1) Y.A) (gl : Gl Y nm) (mgC : Y.mg nm = some (.ref C)) (bind : Binds Y.K gd prm du) (dvals : Vals dv du) (pass : ∀ σ, PassesAt CX Y σ (En σ))
    (args : PA Y (e1 :: er) tas) (nod : (nm == ("__debug__" : Str)) = false := by decide) (st : starEach (e1 :: er) Y.env = (false, eval e1 Y.env) :: starEach er Y.env := by rfl) (bk : (backTo p1 (starEach er Y.env)).any (·.1) = false := by rfl) :
    PE Y (.Call (.Name nm p0) (e1 :: er) [] p1) (tMakeX C pm dv En tas) := by
  constructor
  intro pins s σ H Q J hyp
  refine wpAny_Call_Name_kw (ld_glob J gl mgC ?_ nod)
  refine PySem.W.callWith_K (h₀ := Y.base) J.ok.mod.kin M.kp (thn (args.run p1 pins s σ H _ J hyp) fun us s1 got => ?_) st bk
  obtain ⟨vs, H1, J1, rv, q⟩ := got
  refine ⟨J1.kIn, ?_⟩
  have q0 := q (s1.heap.objs.size + 1) s1.heap.objs.size (J1.hok.fresh (Nat.le_succ _)) (J1.hok.fresh (Nat.le_refl _)) (Nat.ne_of_lt (Nat.lt_succ_self _))
  have J2 := Inv.made (C := C) J1
  have rv2 : Vals (V.ref (s1.heap.objs.size + 1) :: (vs ++ dv)) (Value.ref (s1.heap.objs.size + 1) :: (us ++ du)) := .cons rfl (rv.append dvals)
  have len : (Value.ref (s1.heap.objs.size + 1) :: us ++ du).length = prm.length := rv2.length.symm.trans (G.len _ _ _ _ q0)
  have bd := bind _ (Value.ref (s1.heap.objs.size + 1) :: us) J2.kIn len
  refine wpAny_call (make_map (f := g) J1.kIn M.makes M.init (beq_iff_eq.mp M.fn) (codeAny_mono (G.run _ Y.stack _ _ ⟨Value.ref (s1.heap.objs.size + 1) :: us, []⟩ (Value.ref (s1.heap.objs.size + 1) :: (us ++ du)) _ _ (En σ) (room.make C us []) (J2.env0.make C us []) bd rv2 q0) fun r s2 got2 => ?_))
  cases r with
  | error ev => exact pass σ pins _ _ ev s2 J2 got2
  | ok fl =>
    cases fl with
    | ret u =>
      obtain ⟨v, H', J3, rr, ev, q3⟩ := J2.after got2
      subst ev
      exact ⟨rr, ⟨V.ref (s1.heap.objs.size + 1), H', J3, rfl, q3⟩⟩
    | next => exact got2.elim
    | brk => exact got2.elim
    | cont => exact got2.elim
end
end KP
set_option maxRecDepth 100000
set_option maxHeartbeats 4000000
/-! The law's judged and with. -/
namespace KP
open PySem PySem.Spec PyProof.Rows L2 KT
open GR (upto IsOrd kept okA Srtd)
/-- an own error that is caught, and another one that it is not -/
structure ErrI (K : PySem.W.Frag) (C C2 : Addr) : Prop where
  ex : ExcC K C
  te : PySem.W.exmOne K (.ref C) (.ref C) = some true
  xf : XfC K C
  ki : PySem.W.kitOne K (.ref C) (.ref C2) = some false
section
variable {P : Program} {w : World} {K : PySem.W.Frag} {mg : Str → Option Value} {base : Heap}
def spJudged (K : PySem.W.Frag) (C : Addr) : Sp := fun vs H Q _ => ∃ (x : Addr) (n : Nat) (A : List (Int × Int)) (a : Addr) (ns : List Int), vs = [.ref x, .ref a] ∧ GrAt C H x n A ∧ SqA K H a (ns.map V.int) ∧ ns.length ≤ 60 ∧
  (IsOrd n ns → ∀ l H', Same H H' → H l = none → H' l = some (.lst [.bl (kept A ns)]) → Q (.ref l) H') ∧ (¬ IsOrd n ns → ∀ t l H', Same H H' → SqT K H' t (ns.map V.int) → H l = none → H' l = some (.lst [.ref t, .bl false]) → Q (.ref l) H')
theorem ok_judged {C CO CA fO cO cdO f fk : Addr} {fd dk : FuncData} (F : Fun K "_law_judged" "_law_judged" sJudged f fd) (B : Blt mg) (T : OrdC P K mg CO fO cO cdO) (gA : mg "InvalidArrow" = some (.ref CA)) (I : ErrI K CO CA)
    (kOk : FnOk P w K mg base (L2.CX P w) 4 fk dk ["graph", "order"] (spKeepsX K C CO)) (kM : mg "keeps" = some (.ref fk)) (kK : PySem.W.keepIn K (.ref fk) = true) (kB : Binds K dk ["graph", "order"] []) :
    FnOk P w K mg base CX0 5 f fd ["_law_graph", "_law_listing_here"] (spJudged K C) := by
  refine F.ok scJudged (fun vs H Q E h => ?_) (fun cdv A outer s H vs Q E hr h => ?_)
  · obtain ⟨_, _, _, _, _, rfl, _⟩ := h
    rfl
  · obtain ⟨x, n, As, a, ns, rfl, hG, hS, ls, q0, q1⟩ := h
    refine ⟨_, pss_cons (ps_set (i := 2) scJudged.nd rfl (.inl rfl) (pe_lst pa_nil))
      (pss_cons (ps_try_first (j := 3) (cv := .ref CO) (tbd := fun W => tAsg (tLst (tCons (tCallS (spKeepsX K C CO) (WE W) (tCons (tVar 0) (tCons (tVar 1) tNil))) tNil)) (gName 2)) rfl rfl scJudged.nd rfl rfl ⟨rfl, by decide, .inl T.gC⟩
          (fun W ps xo tk _ => pss_one (ps_set (i := 2) scJudged.nd rfl (.inl rfl) (pe_lst (pa_cons (pe_callS kOk hr (by rfl) kM kK kB (fun σ => passAt tk σ) (pa_cons (pv 0) (pa_cons (pv 1) pa_nil))) pa_nil))))
          (fun e oe cls d pn hz hf => pss_one (ps_set (i := 2) scJudged.nd rfl (.inl rfl) (pe_lst (pa_cons (pe_xf I.xf T.noP hz hf (pv 3))
            (pa_cons (pe_callB (call_isD I.ex hz hf) (by rfl) B.isinstance (by decide +kernel) (pa_cons (pv 3) (pa_cons (pe_glob (v := .ref CA) (by rfl) gA rfl) pa_nil))) pa_nil))))))
        (pss_one (ps_ret (pv 2)))), ?_⟩
    refine ⟨by show 0 ≤ sizeLine; decide, fun t0 nt0 => ?_⟩
    have s0 : Same H (upd H t0 (.lst [])) := same_upd nt0
    generalize upd H t0 (.lst []) = H0 at s0
    refine ⟨_, rfl, _, rfl, x, n, As, a, ns, rfl, hG.same s0, hS.same s0, ls, fun o H1 s1 => ?_, fun no t d H1 s1 ht nd hd => ?_⟩
    · refine ⟨by show 1 ≤ sizeLine; decide, fun l nl => ?_⟩
      have s01 := s0.trans s1
      exact ⟨_, rfl, q0 o l _ (s01.trans (same_upd nl)) (s01.free nl) upd_same⟩
    · have s01 := s0.trans s1
      refine ⟨I.te, fun e ne => ?_⟩
      refine ⟨_, rfl, rfl, rfl, d, _, _, rfl, hd, rfl, _, rfl, rfl, ⟨d, _, rfl, hd⟩, .ref CA, .ref CA, false, rfl, fun u r => r, I.ki, by show 2 ≤ sizeLine; decide, fun l nl => ?_⟩
      exact ⟨_, rfl, q1 no t l _ (s01.trans (same_upd nl)) (seqT_same ht (same_upd nl)) (s01.free nl) upd_same⟩
def spWith : Sp := fun vs H Q _ => ∃ (n : Nat) (a : Addr) (A : List (Int × Int)) (L : List (V × (Int × Int))), vs = [.int (n : Int), .ref a] ∧ PsL H a A L ∧ L.length ≤ 60 ∧ n ≤ 60 ∧
  ((∀ y ∈ L, okA n y.2 = true) → ∀ (A' : List (Int × Int)) M t l H', Srtd A' A → Same H H' → PsT H' t A' M → H l = none → H' l = some (.lst [.ref t]) → Q (.ref l) H') ∧
  ∀ (k : Nat) (v : V) (b : Int × Int), L[k]? = some (v, b) → okA n b = false → (∀ i y, i < k → L[i]? = some y → okA n y.2 = true) → ∀ l H', Same H H' → H l = none → H' l = some (.lst [v, .bl false]) → Q (.ref l) H'
theorem ok_with {C CO CA fA cA cdA f fi : Addr} {fd di : FuncData} (F : Fun K "_law_with" "_law_with" sWith f fd) (B : Blt mg) (G : GrC K mg C) (MC : Mk K C fi) (T : ArrC P K mg CA fA cA cdA) (gO : mg "InvalidOrder" = some (.ref CO)) (I : ErrI K CA CO)
    (iOk : FnOk P w K mg base (L2.CX P w) 4 fi di ["self", "size", "arrows"] (spGInitX K C CA)) (iB : Binds K di ["self", "size", "arrows"] []) :
    FnOk P w K mg base CX0 6 f fd ["_law_size", "_law_arrows_here"] spWith := by
  refine F.ok scWith (fun vs H Q E h => ?_) (fun cdv A outer s H vs Q E hr h => ?_)
  · obtain ⟨_, _, _, _, rfl, _⟩ := h
    rfl
  · obtain ⟨n, a, As, L, rfl, hL, ls, ln, q0, q1⟩ := h
    refine ⟨_, pss_cons (ps_set (i := 2) scWith.nd rfl (.inl rfl) (pe_lst pa_nil))
      (pss_cons (ps_try_first (j := 3) (cv := .ref CA) (tbd := fun W => tAsg (tLst (tCons (tFld K (tMakeX C (spGInitX K C CA) [] (WE W) (tCons (tVar 0) (tCons (tVar 1) tNil))) "arrows") tNil)) (gName 2)) rfl rfl scWith.nd rfl rfl ⟨rfl, by decide, .inl T.gC⟩
          (fun W ps xo tk _ => pss_one (ps_set (i := 2) scWith.nd rfl (.inl rfl) (pe_lst (pa_cons (pe_fld (pe_makeX MC iOk hr (by rfl) G.mgC iB .nil (fun σ => passAt tk σ) (pa_cons (pv 0) (pa_cons (pv 1) pa_nil))) rfl) pa_nil))))
          (fun e oe cls d pn hz hf => pss_one (ps_set (i := 2) scWith.nd rfl (.inl rfl) (pe_lst (pa_cons (pe_xf I.xf T.noP hz hf (pv 3))
            (pa_cons (pe_callB (call_isD I.ex hz hf) (by rfl) B.isinstance (by decide +kernel) (pa_cons (pv 3) (pa_cons (pe_glob (v := .ref CO) (by rfl) gO rfl) pa_nil))) pa_nil))))))
        (pss_one (ps_ret (pv 2)))), ?_⟩
    refine ⟨by show 0 ≤ sizeLine; decide, fun t0 nt0 => ?_⟩
    have s0 : Same H (upd H t0 (.lst [])) := same_upd nt0
    generalize upd H t0 (.lst []) = H0 at s0
    refine ⟨_, rfl, _, rfl, fun x dx nx ndx nex => ?_⟩
    have s2 : Same H0 (upd (upd H0 dx (.own x)) x (.ins C dx [])) := fun c o e => by rw [upd_ne (ne_of_none e nx), upd_ne (ne_of_none e ndx)]; exact e
    have t2 : upd (upd H0 dx (.own x)) x (.ins C dx []) x = some (.ins C dx []) := upd_same
    generalize upd (upd H0 dx (.own x)) x (.ins C dx []) = H2 at s2 t2
    have s02 := s0.trans s2
    have hL2 := hL.same s02
    have nxH : H x = none := s0.free nx
    refine ⟨x, dx, a, n, L, rfl, t2, .inl (SqL.of hL2.at_), hL2.all, ls, ln, fun ok A' H3 sr g k3 => ?_, fun k v b e bad fst d H3 s3 nd hd => ?_⟩
    · obtain ⟨dx', t, M, hx3, hT, _⟩ := id g
      have s03 : Same H H3 := fun c o e => k3 c o (s02 c o e) (ne_of_none e nxH)
      refine ⟨rfl, x, C, dx', _, _, rfl, hx3, G.cl, G.n2, grf_2 _ _, by show 1 ≤ sizeLine; decide, fun l nl => ?_⟩
      refine ⟨_, rfl, q0 ok A' M t l _ ?_ (s03.trans (same_upd nl)) (hT.same (same_upd nl)) (s03.free nl) upd_same⟩
      rw [← hL.eq]
      exact sr
    · have s03 := s02.trans s3
      refine ⟨I.te, fun e' ne => ?_⟩
      refine ⟨_, rfl, rfl, rfl, d, _, _, rfl, hd, rfl, _, rfl, rfl, ⟨d, _, rfl, hd⟩, .ref CO, .ref CO, false, rfl, fun u r => r, I.ki, by show 2 ≤ sizeLine; decide, fun l nl => ?_⟩
      exact ⟨_, rfl, q1 k v b e bad fst l _ (s03.trans (same_upd nl)) (s03.free nl) upd_same⟩
end
end KP
set_option maxRecDepth 100000
set_option maxHeartbeats 4000000
/-! The law's found. -/
namespace KP
open PySem PySem.Spec PyProof.Rows L2 KT
open GR (upto Arr RingIs good greedy)
section
variable {P : Program} {w : World} {K : PySem.W.Frag} {mg : Str → Option Value} {base : Heap}
structure FstD (K : PySem.W.Frag) (mg : Str → Option Value) (P : Program) (w : World) (base : Heap) (C ff fg : Addr) (df dg : FuncData) : Prop where
  ok : FnOk P w K mg base CX0 2 ff df ["graph"] (spFirst C)
  m : mg "first_order" = some (.ref ff)
  k : PySem.W.keepIn K (.ref ff) = true
  b : Binds K df ["graph"] []
  rOk : FnOk P w K mg base CX0 3 fg dg ["self"] (spRing C)
  rM : Meth K C "ring" fg
  rB : Binds K dg ["self"] []
def spFound (C : Addr) : Sp := fun vs H Q _ => ∃ (x g : Addr) (r : V) (n : Nat) (A : List (Int × Int)) (M : List (V × List Int)), vs = [.ref x, .ref g, r] ∧ GrAt C H x n A ∧ IsLs H g (good n A) M ∧ (good n A = [] → ∃ ws l, RingIs A (some ws) ∧ ws.length ≤ 62 ∧ r = .ref l ∧ H l = some (.lst (ws.map V.int))) ∧
  (∀ ws ∈ good n A, ws.length ≤ 60) ∧ ∀ H', Same H H' → Q (.bl true) H'
theorem eqv_same (ws : List Int) : (!PyData.eqv (dI ws) (dI ws)) = false := by
  rw [show PyData.eqv (dI ws) (dI ws) = decide (ws = ws) from eq_dI.dec ws ws, decide_eq_true rfl]
  rfl
theorem ok_found {C f ff fg : Addr} {fd df dg : FuncData} (F : Fun K "_law_found" "_law_found" sFound f fd) (B : Blt mg) (G : GrC K mg C) (D : FstD K mg P w base C ff fg df dg) :
    FnOk P w K mg base CX0 4 f fd ["_law_graph", "_law_good", "_law_ring_here"] (spFound C) := by
  refine F.ok scFound (fun vs H Q E h => ?_) (fun cdv A outer st H vs Q E hr h => ?_)
  · obtain ⟨_, _, _, _, _, _, rfl, _⟩ := h
    rfl
  · obtain ⟨x, g, r, n, As, M, rfl, hG, hg, hr0, hlen, q⟩ := h
    have ar : Arr n As := by obtain ⟨_, _, _, _, _, ar, _⟩ := hG; exact ar
    have hr2 := hr.mono (show 2 ≤ 3 by decide)
    refine ⟨_, pss_cons (ps_for PassesOwn.never rfl (pi_range1 (by rfl) B.range (pa_cons pe_int pa_nil)) (pg_name (i := 3) scFound.nd rfl (.inl rfl))
        (pss_cons (ps_set (i := 4) scFound.nd rfl (.inl rfl) (pe_call D.ok hr2 (by rfl) D.m D.k D.b .nil pass0 (pa_cons (pv 0) pa_nil)))
        (pss_cons (ps_set (i := 5) scFound.nd rfl (.inl rfl) (pe_meth0 (pv 0) G.cl D.rM D.rOk hr D.rB .nil pass0))
        (pss_one (ps_if (pt_truth (pv 1) (by intro _; rfl))
          (pss_cons (ps_if (PW.pt (pw_or (pt_cmpR op_notN (pv 5) pe_non (nomark _)) (pw_or (pt_not (pt_val (pe_callB call_isi (by rfl) B.isinstance (by decide +kernel) (pa_cons (pv 4) (pa_cons (pe_bltn (v := .ty "list") (by rfl) B.list (by decide +kernel) rfl) pa_nil)))))
              (pw_or1 (pt_cmpR (op_neD hr.units) (pv 4) (pe_ix ix_list (pv 1) pe_int (fun _ _ => rfl)) (nomark _)))))) (pss_one (ps_ret pe_bl)) pss_nil)
            (pss_one (ps_expr (pe_bm PySem.F.plainAttrs_list PySem.F.slot_list_append PySem.F.type_list_append mt_append (pv 4) (pa_cons pe_int pa_nil)))))
          (pss_cons (ps_if (PW.pt (pw_or (pt_cmpR op_notN (pv 4) pe_non (nomark _)) (pw_or (pt_not (pt_val (pe_callB call_isi (by rfl) B.isinstance (by decide +kernel) (pa_cons (pv 5) (pa_cons (pe_bltn (v := .ty "list") (by rfl) B.list (by decide +kernel) rfl) pa_nil)))))
              (pw_or1 (pt_cmpR (op_neD hr.units) (pv 5) (pv 2) (nomark _)))))) (pss_one (ps_ret pe_bl)) pss_nil)
            (pss_one (ps_expr (pe_bm PySem.F.plainAttrs_list PySem.F.slot_list_append PySem.F.type_list_append mt_append (pv 5) (pa_cons pe_int pa_nil))))))))))
      (pss_one (ps_ret pe_bl)), ?_⟩
    refine ⟨2, rfl, by decide, by decide, ?_⟩
    refine for_range (lo := 0) (n := 2) (fun i σ H2 => ∃ v3 v4 v5 : Option V, σ = [some (.ref x), some (.ref g), some r, v3, v4, v5] ∧ Same H H2)
      ⟨none, none, none, rfl, Same.refl _⟩ ?_ ?_
    · rintro i σ H2 hi ⟨v3, v4, v5, rfl, s2⟩
      have lM : M.length = (good n As).length := by rw [← hg.eq, List.length_map]
      cases eg : good n As with
      | nil =>
        obtain ⟨ws, l, hR, lw, rfl, hl⟩ := hr0 eg
        have gn : greedy n As n [] = none := by rw [← GR.good_head ar, eg]; rfl
        have eM : M = [] := List.length_eq_zero_iff.mp (by rw [lM, eg]; rfl)
        refine ⟨_, rfl, x, n, As, rfl, hG.same s2, fun _ H3 s3 => ?_, fun o e => by rw [gn] at e; cases e⟩
        have s23 := s2.trans s3
        obtain ⟨dx, t, L, hx, _⟩ := hG.same s23
        refine ⟨_, rfl, x, dx, _, rfl, hx, grf_no _ _ (by decide +kernel) (by decide +kernel), x, n, As, rfl, hG.same s23, fun no => (by have := RingIs.unique As hR no; cases this), fun ws' hR' lw' l' H4 s4 nl' hl' => ?_⟩
        have ew : ws' = ws := Option.some.inj (RingIs.unique As hR' hR)
        subst ew
        have s24 := s23.trans s4
        refine ⟨_, rfl, _, .inl ⟨_, SqL.of (s24 _ _ hg.at_), rfl⟩, ?_⟩
        rw [eM]
        refine iteF ?_
        refine ⟨_, rfl, rfl, _, rfl, iteF ?_⟩
        refine ⟨_, rfl, _, _, _, _, _, rfl, .ty _, .base (TyOf.lst hl'), kit_ty (r := true) (by decide +kernel), _, rfl, iteF ?_⟩
        refine ⟨_, rfl, _, rfl, dI ws', dI ws', dp_lst (SqL.of hl'), dp_lst (SqL.of (s24 _ _ hl)), sh_dI _, sh_dI _, _, rfl, ?_⟩
        rw [eqv_same]
        refine iteF ⟨_, rfl, .inl ⟨rfl, _, SqL.of hl'⟩, l', _, _, rfl, rfl, hl', small1000 (by rw [List.length_map]; omega), ?_⟩
        exact ⟨_, _, _, rfl, same_updN s24 (s23.free nl')⟩
      | cons o rest =>
        have gs : greedy n As n [] = some o := by rw [← GR.good_head ar, eg]; rfl
        have hN : RingIs As none := (GR.good_ring As ar).mp (by rw [eg]; simp)
        refine ⟨_, rfl, x, n, As, rfl, hG.same s2, fun e => (by rw [gs] at e; cases e), fun o' e l H3 s3 nl hl => ?_⟩
        have eo : o' = o := by rw [gs] at e; exact (Option.some.inj e).symm
        subst eo
        have s23 := s2.trans s3
        obtain ⟨dx, t, L, hx, _⟩ := hG.same s23
        refine ⟨_, rfl, x, dx, _, rfl, hx, grf_no _ _ (by decide +kernel) (by decide +kernel), x, n, As, rfl, hG.same s23, fun _ H4 s4 => ?_, fun ws hR => (by have := RingIs.unique As hR hN; cases this)⟩
        have s24 := s23.trans s4
        have hl4 := s4 _ _ hl
        cases M with
        | nil => rw [eg] at lM; cases lM
        | cons y M =>
          have ey : y.2 = o' := by
            have := hg.eq
            rw [eg] at this
            exact (List.cons.inj this).1
          obtain ⟨c, ec, hc⟩ := hg.all y (by simp)
          refine ⟨_, rfl, _, .inl ⟨_, SqL.of (s24 _ _ hg.at_), rfl⟩, iteT ?_⟩
          refine ⟨_, rfl, rfl, _, rfl, iteF ?_⟩
          refine ⟨_, rfl, _, _, _, _, _, rfl, .ty _, .base (TyOf.lst hl4), kit_ty (r := true) (by decide +kernel), _, rfl, iteF ?_⟩
          refine ⟨_, rfl, _, rfl, g, _, _, y.1, rfl, rfl, SqL.of (s24 _ _ hg.at_), atI_nat (j := 0) rfl, dI o', dI o', dp_lst (SqL.of hl4), ?_, sh_dI _, sh_dI _, _, rfl, ?_⟩
          · rw [ec, ← ey]
            exact dp_lst (SqL.of (s24 _ _ hc))
          · rw [eqv_same]
            refine iteF ⟨_, rfl, .inl ⟨rfl, _, SqL.of hl4⟩, l, _, _, rfl, rfl, hl4, small1000 (by rw [List.length_map]; have := hlen o' (by rw [eg]; simp); omega), ?_⟩
            exact ⟨_, _, _, rfl, same_updN s24 (s2.free nl)⟩
    · rintro σ H2 ⟨v3, v4, v5, rfl, s2⟩
      exact q H2 s2
end
end KP
set_option maxRecDepth 100000
set_option maxHeartbeats 4000000
/-! The law's last rows: the graph with a pair more. -/
namespace KP
open PySem PySem.Spec PyProof.Rows L2 KT
open GR (upto Arr IsOrd RingIs good greedy okA Srtd)
abbrev nLw : List Str := ["_law_script", "_law_pot_here", "_law_size", "_law_arrows_here", "_law_given", "_law_graph", "_law_known", "_law_order", "_law_good", "_law_ring_here", "_law_listing_here", "_law_due", "_law_told", "_law_spot", "_law_x", "_law_y", "_law_more"]
/-- what stands when the graph is judged -/
structure Lw (K : PySem.W.Frag) (C : Addr) (H : Hp) (sc ar x kn : Addr) (ss : List Int) (n : Nat) (A : List (Int × Int)) (La Lk : List (V × (Int × Int))) : Prop where
  sc : SqL K H sc (ss.map V.int)
  ar : H ar = some (.lst (La.map (·.1)))
  arA : AllP H La
  ok : ∀ y ∈ La, okA n y.2 = true
  la : La.length ≤ 11
  gr : GrAt C H x n A
  kn : PsL H kn A Lk
  n5 : n ≤ 5
section
variable {K : PySem.W.Frag} {C : Addr} {H H' : Hp} {sc ar x kn z : Addr} {ss : List Int} {n : Nat} {A : List (Int × Int)} {La Lk : List (V × (Int × Int))}
theorem Lw.same (h : Lw K C H sc ar x kn ss n A La Lk) (s : Same H H') : Lw K C H' sc ar x kn ss n A La Lk := ⟨s.seq h.sc, s _ _ h.ar, h.arA.same s, h.ok, h.la, h.gr.same s, h.kn.same s, h.n5⟩
theorem seqL_but {xs : List V} {a : Addr} (h : SqL K H a xs) (b : But z H H') (n : a ≠ z) : SqL K H' a xs := by
  rcases h with (h | ⟨o, h⟩) | h
  · exact .inl (.inl (b _ _ h n))
  · exact .inl (.inr ⟨o, b _ _ h n⟩)
  · exact .inr h
theorem Lw.but (h : Lw K C H sc ar x kn ss n A La Lk) (b : But z H H') (hz : PotAt H z) (n1 : sc ≠ z) (n2 : ar ≠ z) (n3 : kn ≠ z) : Lw K C H' sc ar x kn ss n A La Lk := by
  obtain ⟨u, v, ez, _⟩ := id hz
  obtain ⟨dx, t, L, g1, ⟨g2, g3, g4⟩, g5⟩ := h.gr
  exact ⟨seqL_but h.sc b n1, b _ _ h.ar n2, h.arA.pot b hz, h.ok, h.la, ⟨dx, t, L, b _ _ g1 (by rintro rfl; rw [ez] at g1; cases g1), ⟨b _ _ g2 (by rintro rfl; rw [ez] at g2; cases g2), g3.pot b hz, g4⟩, g5⟩, ⟨b _ _ h.kn.at_ n3, h.kn.all.pot b hz, h.kn.eq⟩, h.n5⟩
end
theorem eqv_two (a b c d : PyData) (h1 : PyData.eqv a c = true) (h2 : PyData.eqv b d = true) : PyData.eqv (.list [a, b]) (.list [c, d]) = true := by
  simp [PyData.eqv, PyData.eqvAll, h1, h2]
theorem eqv_one (a c : PyData) (h1 : PyData.eqv a c = true) : PyData.eqv (.list [a]) (.list [c]) = true := by
  simp [PyData.eqv, PyData.eqvAll, h1]
theorem eqv_bool (b : Bool) : PyData.eqv (.bool b) (.bool b) = true := by cases b <;> rfl
theorem sh_one (A : List (Int × Int)) : SeqAt.shaped (.list [dPT A]) = true := (lay_list (lay_tup lay_dP)).shaped (by decide) [A]
theorem sh_two (b : Int × Int) (c : Bool) : SeqAt.shaped (.list [dP b, .bool c]) = true := by
  unfold SeqAt.shaped
  simp [dP, PyData.canLay0, PyData.canLayAll0, PyData.depth, PyData.depthAll]
/-- what is due of the graph with the pair more -/
def DueW (H : Hp) (n : Nat) (du : Addr) (Lm : List (V × (Int × Int))) : Prop :=
  ((∀ y ∈ Lm, okA n y.2 = true) ∧ ∃ t M B, H du = some (.lst [.ref t]) ∧ PsT H t B M ∧ Srtd B (Lm.map (·.2))) ∨
  ∃ (k : Nat) (v : V) (b : Int × Int) (T : Addr), Lm[k]? = some (v, b) ∧ okA n b = false ∧ (∀ i y, i < k → Lm[i]? = some y → okA n y.2 = true) ∧ H du = some (.lst [.ref T, .bl false]) ∧ IsP H (.ref T) b
section
variable {P : Program} {w : World} {K : PySem.W.Frag} {mg : Str → Option Value} {base : Heap}
structure WthD (K : PySem.W.Frag) (mg : Str → Option Value) (P : Program) (w : World) (base : Heap) (fw : Addr) (dw : FuncData) : Prop where
  ok : FnOk P w K mg base CX0 6 fw dw ["_law_size", "_law_arrows_here"] spWith
  m : mg "_law_with" = some (.ref fw)
  k : PySem.W.keepIn K (.ref fw) = true
  b : Binds K dw ["_law_size", "_law_arrows_here"] []
section
variable {f : Addr} {cdv : Value} {A : Around} {outer : List Env} {st : Shared} {H0 : Hp} {E : XK}
theorem lw25 {C fw : Addr} {dw : FuncData} (B : Blt mg) (G : GrC K mg C) (W : WthD K mg P w base fw dw) (hr : Room 7 (A.deeper (envOfC "law" (defScope sLaw) st.heap.objs.size f cdv))) :
    ∃ u, PSs (cxOf CX0 P w K mg base nLw "law" (defScope sLaw) f cdv A outer st H0 E).nox ((defBody sLaw).drop 25) u ∧ ∀ (Q : VK), (∀ H', Q (.bl true) H') → ∀ (v1 v4 v7 v8 v9 v10 v12 v13 v14 v15 : Option V) (sc ar x kn du mo : Addr) (ss : List Int) (n : Nat) (As : List (Int × Int)) (La Lk Lm : List (V × (Int × Int))) (H : Hp),
      Lw K C H sc ar x kn ss n As La Lk → H mo = some (.lst (Lm.map (·.1))) → AllP H Lm → Lm.length ≤ 60 → DueW H n du Lm →
      u { nx := fun _ H' => Q .non H', rt := Q } [some (.ref sc), v1, some (.int (n : Int)), some (.ref ar), v4, some (.ref x), some (.ref kn), v7, v8, v9, v10, some (.ref du), v12, v13, v14, v15, some (.ref mo)] H := by
  refine ⟨_, pss_one (ps_ret (pe_and (pe_cmpR (op_eqD hr.units) (pe_call W.ok (hr.mono (by decide)) (by rfl) W.m W.k W.b .nil pass0 (pa_cons (pv 2) (pa_cons (pv 16) pa_nil))) (pv 11) (nomark _))
    (pe_one (pe_cmpR (op_eqD hr.units) (pe_callTy call_list_of (by rfl) B.list (by decide +kernel) (pa_cons (pe_fld (pv 5) rfl) pa_nil)) (pv 6) (nomark _))))), ?_⟩
  intro Q q v1 v4 v7 v8 v9 v10 v12 v13 v14 v15 sc ar x kn du mo ss n As La Lk Lm H S hmo hmA lm due
  have n5 := S.n5
  have fin : ∀ H', Same H H' → ∃ v, ([some (.ref sc), v1, some (.int (n : Int)), some (.ref ar), v4, some (.ref x), some (.ref kn), v7, v8, v9, v10, some (.ref du), v12, v13, v14, v15, some (.ref mo)] : L2.St)[5]? = some (some v) ∧ ∃ a C' dx fs v', v = .ref a ∧ H' a = some (.ins C' dx fs) ∧ Cls K C' ∧ NoAttr K C' "arrows" ∧ fs.lookup ("arrows" : Str) = some v' ∧ ∃ p ys, [v'] = [V.ref p] ∧ (SqL K H' p ys ∨ SqT K H' p ys) ∧ ∀ l, H' l = none → ∃ v, ([some (.ref sc), v1, some (.int (n : Int)), some (.ref ar), v4, some (.ref x), some (.ref kn), v7, v8, v9, v10, some (.ref du), v12, v13, v14, v15, some (.ref mo)] : L2.St)[6]? = some (some v) ∧ rEqD K (.ref l) v (upd H' l (.lst ys)) Q := by
    intro H' s
    obtain ⟨dx, t, L, hx, hT, ar', la, ln⟩ := (S.same s).gr
    refine ⟨_, rfl, x, C, dx, _, _, rfl, hx, G.cl, G.n2, grf_2 _ _, t, _, rfl, .inr (SqT.of hT.at_), fun l nl => ⟨_, rfl, ?_⟩⟩
    have s2 : Same H' (upd H' l (.lst (L.map (·.1)))) := same_upd nl
    have k1 : PsL (upd H' l (.lst (L.map (·.1)))) l As L := ⟨upd_same, hT.all.same s2, hT.eq⟩
    have k2 := (S.same (s.trans s2)).kn
    refine ⟨dPL As, dPL As, k1.dp, k2.dp, sh_dPL _, sh_dPL _, ?_⟩
    rw [show PyData.eqv (dPL As) (dPL As) = true from (eq_dPL As As).mpr rfl]
    exact q _
  refine ⟨_, rfl, _, rfl, n, mo, Lm.map (·.2), Lm, rfl, ⟨hmo, hmA, rfl⟩, lm, by omega, fun ok A' M t l H' sr s hT nl hl => ?_, fun k v b e bad fst l H' s nl hl => ?_⟩
  · rcases due with ⟨_, tt, M2, B2, hdu, hT2, sr2⟩ | ⟨k, v, b, T, e, bad, _⟩
    · have eB := sr.unique sr2
      subst eB
      refine ⟨_, rfl, .list [dPT A'], .list [dPT A'], .lst (SqL.of hl) (.cons hT.dp .nil), .lst (SqL.of (s _ _ hdu)) (.cons (hT2.same s).dp .nil), sh_one _, sh_one _, ?_⟩
      rw [eqv_one _ _ ((eq_dPT A' A').mpr rfl)]
      exact ⟨_, rfl, iteT (fin H' s)⟩
    · have := ok _ (List.mem_of_getElem? e)
      rw [bad] at this
      cases this
  · rcases due with ⟨ok, _⟩ | ⟨k2, v2, b2, T, e2, bad2, fst2, hdu, hT⟩
    · have := ok _ (List.mem_of_getElem? e)
      rw [bad] at this
      cases this
    · have ek : k = k2 := by
        rcases Nat.lt_trichotomy k k2 with c | c | c
        · have := fst2 k _ c e
          rw [bad] at this
          cases this
        · exact c
        · have := fst k2 _ c e2
          rw [bad2] at this
          cases this
      subst ek
      rw [e] at e2
      cases e2
      have hv : IsP H v b := hmA _ (List.mem_of_getElem? e)
      refine ⟨_, rfl, .list [dP b, .bool false], .list [dP b, .bool false], .lst (SqL.of hl) (.cons (hv.same s).dp (.cons (.bl false) .nil)), .lst (SqL.of (s _ _ hdu)) (.cons (hT.same s).dp (.cons (.bl false) .nil)), sh_two _ _, sh_two _ _, ?_⟩
      rw [eqv_two _ _ _ _ ((eq_dP b b).mpr rfl) (eqv_bool false)]
      exact ⟨_, rfl, iteT (fin H' s)⟩
end
end
end KP
set_option maxRecDepth 100000
set_option maxHeartbeats 4000000
/-! The law's rows 18 to 24. -/
namespace KP
open PySem PySem.Spec PyProof.Rows L2 KT
open GR (upto Arr IsOrd RingIs good greedy okA Srtd)
theorem okA_eq (n : Nat) (x y : Int) : okA n (x, y) = (decide (1 ≤ x ∧ x ≤ (n : Int)) && decide (1 ≤ y ∧ y ≤ (n : Int)) && decide (x ≠ y)) := rfl
section
variable {P : Program} {w : World} {K : PySem.W.Frag} {mg : Str → Option Value} {base : Heap}
structure PotD (K : PySem.W.Frag) (mg : Str → Option Value) (P : Program) (w : World) (base : Heap) (fp : Addr) (dp : FuncData) : Prop where
  ok : FnOk P w K mg base CX0 1 fp dp ["_law_script", "_law_k"] (spPot K)
  m : mg "_law_pot" = some (.ref fp)
  k : PySem.W.keepIn K (.ref fp) = true
  b : Binds K dp ["_law_script", "_law_k"] []
variable {f : Addr} {cdv : Value} {A : Around} {outer : List Env} {st : Shared} {H0 : Hp} {E : XK}
theorem lw24 {C fw : Addr} {dw : FuncData} (B : Blt mg) (G : GrC K mg C) (W : WthD K mg P w base fw dw) (hr : Room 7 (A.deeper (envOfC "law" (defScope sLaw) st.heap.objs.size f cdv))) :
    ∃ u, PSs (cxOf CX0 P w K mg base nLw "law" (defScope sLaw) f cdv A outer st H0 E).nox ((defBody sLaw).drop 24) u ∧ ∀ (Q : VK), (∀ H', Q (.bl true) H') → ∀ (v1 v4 v7 v8 v9 v10 v12 v13 : Option V) (xx yy : Int) (sc ar x kn du mo T : Addr) (ss : List Int) (n : Nat) (As : List (Int × Int)) (La Lk Lm : List (V × (Int × Int))) (k : Nat) (H : Hp),
      Lw K C H sc ar x kn ss n As La Lk → H mo = some (.lst (Lm.map (·.1))) → AllP H Lm → Lm.length ≤ 60 → Lm[k]? = some (.ref T, (xx, yy)) → (∀ i y, i ≠ k → Lm[i]? = some y → okA n y.2 = true) → (∃ T', H du = some (.lst [.ref T', .bl false]) ∧ IsP H (.ref T') (xx, yy)) →
      u { nx := fun _ H' => Q .non H', rt := Q } [some (.ref sc), v1, some (.int (n : Int)), some (.ref ar), v4, some (.ref x), some (.ref kn), v7, v8, v9, v10, some (.ref du), v12, v13, some (.int xx), some (.int yy), some (.ref mo)] H := by
  obtain ⟨u, pu, hu⟩ := lw25 (P := P) (w := w) (base := base) (f := f) (cdv := cdv) (A := A) (outer := outer) (st := st) (H0 := H0) (E := E) B G W hr
  refine ⟨_, pss_cons (ps_if (PW.pt (pw_and (pt_cmpR op_ne (pv 14) (pv 15) (nomark _)) (pw_and (pt_chain op_le op_le pe_int (pv 14) (pv 2)) (pw_and1 (pt_chain op_le op_le pe_int (pv 15) (pv 2))))))
    (pss_one (ps_set (i := 11) scLaw.nd rfl (.inl rfl) (pe_lst (pa_cons (pe_callTy call_tuple_of (by rfl) B.tuple (by decide +kernel) (pa_cons (pe_callB (cr_sortedT rfl) (by rfl) B.sorted (by decide +kernel) (pa_cons (pe_callTy (cr_setOfT rfl hr.units) (by rfl) B.set (by decide +kernel) (pa_cons (pv 16) pa_nil)) pa_nil)) pa_nil)) pa_nil)))) pss_nil) pu, ?_⟩
  intro Q q v1 v4 v7 v8 v9 v10 v12 v13 xx yy sc ar x kn du mo T ss n As La Lk Lm k H S hmo hmA lm hk rest ⟨T', hdu, hT'⟩
  have n5 := S.n5
  have oe := okA_eq n xx yy
  have bad : okA n (xx, yy) = false → u { nx := fun _ H' => Q .non H', rt := Q } [some (.ref sc), v1, some (.int (n : Int)), some (.ref ar), v4, some (.ref x), some (.ref kn), v7, v8, v9, v10, some (.ref du), v12, v13, some (.int xx), some (.int yy), some (.ref mo)] H := fun b =>
    hu Q q v1 v4 v7 v8 v9 v10 v12 v13 _ _ sc ar x kn du mo ss n As La Lk Lm H S hmo hmA lm (.inr ⟨k, _, (xx, yy), T', hk, b, fun i y hi e => rest i y (by omega) e, hdu, hT'⟩)
  refine ⟨_, rfl, _, rfl, rfl, _, rfl, ?_⟩
  by_cases c1 : xx = yy
  · have eb : (!decide (V.int xx = V.int yy)) = false := by simp [c1]
    rw [eb]
    refine iteF (iteF (bad ?_))
    rw [oe, decide_eq_false (fun z : xx ≠ yy => z c1), Bool.and_false]
  have eb : (!decide (V.int xx = V.int yy)) = true := by simp [c1]
  rw [eb]
  refine iteT ⟨_, rfl, _, _, rfl, rfl, _, rfl, ?_⟩
  by_cases c2 : 1 ≤ xx
  · rw [decide_eq_true c2]
    refine iteT ⟨_, rfl, _, _, rfl, rfl, _, rfl, ?_⟩
    by_cases c3 : xx ≤ (n : Int)
    · rw [decide_eq_true c3]
      refine iteT ⟨_, rfl, _, _, rfl, rfl, _, rfl, ?_⟩
      by_cases c4 : 1 ≤ yy
      · rw [decide_eq_true c4]
        refine iteT ⟨_, rfl, _, _, rfl, rfl, _, rfl, ?_⟩
        by_cases c5 : yy ≤ (n : Int)
        · rw [decide_eq_true c5]
          have good : okA n (xx, yy) = true := by
            rw [oe, decide_eq_true (show 1 ≤ xx ∧ xx ≤ (n : Int) from ⟨c2, c3⟩), decide_eq_true (show 1 ≤ yy ∧ yy ≤ (n : Int) from ⟨c4, c5⟩), decide_eq_true (show xx ≠ yy from c1)]
            rfl
          have all : ∀ y ∈ Lm, okA n y.2 = true := fun y hy => by
            obtain ⟨i, hi, e⟩ := List.getElem_of_mem hy
            have e' : Lm[i]? = some y := by rw [List.getElem?_eq_getElem hi, e]
            by_cases z : i = k
            · rw [z, hk] at e'
              rw [← Option.some.inj e']
              exact good
            · exact rest i y z e'
          have bd : ∀ y ∈ Lm, (0 ≤ y.2.1 ∧ y.2.1 < 64) ∧ 0 ≤ y.2.2 ∧ y.2.2 < 64 := fun y hy => by
            obtain ⟨h1, h2, _⟩ := GR.okA_iff.mp (all y hy)
            have h1 := GR.mem_upto.mp h1
            have h2 := GR.mem_upto.mp h2
            omega
          refine iteT ⟨_, rfl, ?_⟩
          dsimp only [tNil]
          refine set_sort (SqL.of hmo) hmA (by omega) bd fun M p H4 s4 np hp sr sub => ⟨p, _, rfl, .inl ⟨SqL.of hp.at_, fun t ht => ?_⟩⟩
          have s5 : Same H4 (upd H4 t (.tup (M.map (·.1)))) := same_upd ht
          have t5 : upd H4 t (.tup (M.map (·.1))) t = some (.tup (M.map (·.1))) := upd_same
          generalize upd H4 t (.tup (M.map (·.1))) = H5 at s5 t5
          refine ⟨by show 1 ≤ sizeLine; decide, fun d nd => ?_⟩
          have s6 : Same H5 (upd H5 d (.lst [.ref t])) := same_upd nd
          have d6 : upd H5 d (.lst [.ref t]) d = some (.lst [.ref t]) := upd_same
          generalize upd H5 d (.lst [.ref t]) = H6 at s6 d6
          have s := (s4.trans s5).trans s6
          exact hu Q q v1 v4 v7 v8 v9 v10 v12 v13 _ _ sc ar x kn d mo ss n As La Lk Lm H6 (S.same s) (s _ _ hmo) (hmA.same s) lm (.inl ⟨all, t, M, M.map (·.2), d6, ⟨s6 _ _ t5, hp.all.same (s5.trans s6), rfl⟩, sr⟩)
        · rw [decide_eq_false c5]
          refine iteF (bad ?_)
          rw [oe, decide_eq_false (fun z : 1 ≤ yy ∧ yy ≤ (n : Int) => c5 z.2), Bool.and_false, Bool.false_and]
      · rw [decide_eq_false c4]
        refine iteF ⟨_, rfl, iteF (bad ?_)⟩
        rw [oe, decide_eq_false (fun z : 1 ≤ yy ∧ yy ≤ (n : Int) => c4 z.1), Bool.and_false, Bool.false_and]
    · rw [decide_eq_false c3]
      refine iteF (iteF (bad ?_))
      rw [oe, decide_eq_false (fun z : 1 ≤ xx ∧ xx ≤ (n : Int) => c3 z.2), Bool.false_and, Bool.false_and]
  · rw [decide_eq_false c2]
    refine iteF ⟨_, rfl, iteF (iteF (bad ?_))⟩
    rw [oe, decide_eq_false (fun z : 1 ≤ xx ∧ xx ≤ (n : Int) => c2 z.1), Bool.false_and, Bool.false_and]
end
end KP
set_option maxRecDepth 100000
set_option maxHeartbeats 4000000
/-! The law's rows 18 to 23. -/
namespace KP
open PySem PySem.Spec PyProof.Rows L2 KT
open GR (upto Arr IsOrd RingIs good greedy okA Srtd)
/-- what stood before a pot was made stays, whatever the pot gives -/
theorem But.since {H H1 H2 : Hp} {z : Addr} (s : Same H H1) (n : H z = none) (b : But z H1 H2) : Same H H2 := fun c o e => b c o (s _ _ e) (ne_of_none e n)
section
variable {P : Program} {w : World} {K : PySem.W.Frag} {mg : Str → Option Value} {base : Heap}
variable {f : Addr} {cdv : Value} {A : Around} {outer : List Env} {st : Shared} {H0 : Hp} {E : XK}
theorem lw22 {C fw : Addr} {dw : FuncData} (B : Blt mg) (G : GrC K mg C) (W : WthD K mg P w base fw dw) (hr : Room 7 (A.deeper (envOfC "law" (defScope sLaw) st.heap.objs.size f cdv))) :
    ∃ u, PSs (cxOf CX0 P w K mg base nLw "law" (defScope sLaw) f cdv A outer st H0 E).nox ((defBody sLaw).drop 22) u ∧ ∀ (Q : VK), (∀ H', Q (.bl true) H') → ∀ (v1 v4 v7 v8 v9 v10 v11 v12 v16 : Option V) (k : Nat) (xx yy : Int) (sc ar x kn : Addr) (ss : List Int) (n : Nat) (As : List (Int × Int)) (La Lk : List (V × (Int × Int))) (H : Hp),
      Lw K C H sc ar x kn ss n As La Lk → k ≤ La.length →
      u { nx := fun _ H' => Q .non H', rt := Q } [some (.ref sc), v1, some (.int (n : Int)), some (.ref ar), v4, some (.ref x), some (.ref kn), v7, v8, v9, v10, v11, v12, some (.int (k : Int)), some (.int xx), some (.int yy), v16] H := by
  obtain ⟨u, pu, hu⟩ := lw24 (P := P) (w := w) (base := base) (f := f) (cdv := cdv) (A := A) (outer := outer) (st := st) (H0 := H0) (E := E) B G W hr
  refine ⟨_, pss_cons (ps_set (i := 16) scLaw.nd rfl (.inl rfl) (pe_op op_cat (pe_op op_cat (pe_slice sl_list (pv 3) po_none (po_some (pv 13))) (pe_lst (pa_cons (pe_tup (pa_cons (pv 14) (pa_cons (pv 15) pa_nil))) pa_nil))) (pe_slice sl_list (pv 3) (po_some (pv 13)) po_none)))
    (pss_cons (ps_set (i := 11) scLaw.nd rfl (.inl rfl) (pe_lst (pa_cons (pe_tup (pa_cons (pv 14) (pa_cons (pv 15) pa_nil))) (pa_cons pe_bl pa_nil)))) pu), ?_⟩
  intro Q q v1 v4 v7 v8 v9 v10 v11 v12 v16 k xx yy sc ar x kn ss n As La Lk H S hk
  have la := S.la
  refine ⟨_, rfl, _, rfl, _, rfl, ar, _, rfl, SqL.of S.ar, fun q1 n1 => ?_⟩
  rw [cut_lo (by rw [List.length_map]; exact hk), ← List.map_take]
  have s1 : Same H (upd H q1 (.lst ((La.take k).map (·.1)))) := same_upd n1
  have h1 : upd H q1 (.lst ((La.take k).map (·.1))) q1 = some (.lst ((La.take k).map (·.1))) := upd_same
  generalize upd H q1 (.lst ((La.take k).map (·.1))) = H1 at s1 h1
  refine ⟨_, rfl, _, rfl, by show 2 ≤ sizeLine; decide, fun T nT => ?_⟩
  have s2 : Same H1 (upd H1 T (.tup [.int xx, .int yy])) := same_upd nT
  have h2 : upd H1 T (.tup [.int xx, .int yy]) T = some (.tup [.int xx, .int yy]) := upd_same
  generalize upd H1 T (.tup [.int xx, .int yy]) = H2 at s2 h2
  refine ⟨by show 1 ≤ sizeLine; decide, fun q2 n2 => ?_⟩
  have s3 : Same H2 (upd H2 q2 (.lst [.ref T])) := same_upd n2
  have h3 : upd H2 q2 (.lst [.ref T]) q2 = some (.lst [.ref T]) := upd_same
  generalize upd H2 q2 (.lst [.ref T]) = H3 at s3 h3
  refine ⟨q1, q2, _, _, rfl, rfl, s3 _ _ (s2 _ _ h1), h3, ?_, fun q3 n3 => ?_⟩
  · rw [List.length_map, List.length_take, sizeLine_eq]
    have : [V.ref T].length = 1 := rfl
    omega
  have s4 : Same H3 (upd H3 q3 (.lst ((La.take k).map (·.1) ++ [.ref T]))) := same_upd n3
  have h4 : upd H3 q3 (.lst ((La.take k).map (·.1) ++ [.ref T])) q3 = some (.lst ((La.take k).map (·.1) ++ [.ref T])) := upd_same
  generalize upd H3 q3 (.lst ((La.take k).map (·.1) ++ [.ref T])) = H4 at s4 h4
  have s04 := ((s1.trans s2).trans s3).trans s4
  refine ⟨_, rfl, _, rfl, _, rfl, ar, _, rfl, SqL.of (s04 _ _ S.ar), fun q4 n4 => ?_⟩
  rw [cut_hi (by rw [List.length_map]; exact hk), ← List.map_drop]
  have s5 : Same H4 (upd H4 q4 (.lst ((La.drop k).map (·.1)))) := same_upd n4
  have h5 : upd H4 q4 (.lst ((La.drop k).map (·.1))) q4 = some (.lst ((La.drop k).map (·.1))) := upd_same
  generalize upd H4 q4 (.lst ((La.drop k).map (·.1))) = H5 at s5 h5
  refine ⟨q3, q4, _, _, rfl, rfl, s5 _ _ h4, h5, ?_, fun mo nmo => ?_⟩
  · rw [List.length_append, List.length_map, List.length_map, List.length_take, List.length_drop, sizeLine_eq]
    have : [V.ref T].length = 1 := rfl
    omega
  have em : (La.take k).map (·.1) ++ [.ref T] ++ (La.drop k).map (·.1) = (La.take k ++ [((V.ref T), (xx, yy))] ++ La.drop k).map (·.1) := by rw [List.map_append, List.map_append]; rfl
  rw [em]
  have s6 : Same H5 (upd H5 mo (.lst ((La.take k ++ [((V.ref T), (xx, yy))] ++ La.drop k).map (·.1)))) := same_upd nmo
  have h6 : upd H5 mo (.lst ((La.take k ++ [((V.ref T), (xx, yy))] ++ La.drop k).map (·.1))) mo = some (.lst ((La.take k ++ [((V.ref T), (xx, yy))] ++ La.drop k).map (·.1))) := upd_same
  generalize upd H5 mo (.lst ((La.take k ++ [((V.ref T), (xx, yy))] ++ La.drop k).map (·.1))) = H6 at s6 h6
  refine ⟨_, rfl, _, rfl, by show 2 ≤ sizeLine; decide, fun T' nT' => ?_⟩
  have s7 : Same H6 (upd H6 T' (.tup [.int xx, .int yy])) := same_upd nT'
  have h7 : upd H6 T' (.tup [.int xx, .int yy]) T' = some (.tup [.int xx, .int yy]) := upd_same
  generalize upd H6 T' (.tup [.int xx, .int yy]) = H7 at s7 h7
  refine ⟨by show 2 ≤ sizeLine; decide, fun du ndu => ?_⟩
  have s8 : Same H7 (upd H7 du (.lst [.ref T', .bl false])) := same_upd ndu
  have h8 : upd H7 du (.lst [.ref T', .bl false]) du = some (.lst [.ref T', .bl false]) := upd_same
  generalize upd H7 du (.lst [.ref T', .bl false]) = H8 at s8 h8
  have s68 := s7.trans s8
  have s06 := (s04.trans s5).trans s6
  have s08 := s06.trans s68
  have lt : (La.take k).length = k := by rw [List.length_take]; omega
  refine hu Q q v1 v4 v7 v8 v9 v10 v12 _ xx yy sc ar x kn du mo T ss n As La Lk (La.take k ++ [((V.ref T), (xx, yy))] ++ La.drop k) k H8 (S.same s08) (s68 _ _ h6) (fun y hy => ?_) ?_ ?_ (fun i y hi e => ?_) ⟨T', h8, T', rfl, s8 _ _ h7⟩
  · rcases List.mem_append.mp hy with hy | hy
    · rcases List.mem_append.mp hy with hy | hy
      · exact (S.arA y (List.mem_of_mem_take hy)).same s08
      · rw [List.mem_singleton.mp hy]
        exact ⟨T, rfl, (((s3.trans s4).trans s5).trans s6).trans s68 _ _ h2⟩
    · exact (S.arA y (List.mem_of_mem_drop hy)).same s08
  · rw [List.length_append, List.length_append, lt, List.length_drop]
    have : [((V.ref T), (xx, yy))].length = 1 := rfl
    omega
  · rw [List.append_assoc, List.getElem?_append_right (by rw [lt]; exact Nat.le_refl _), lt, Nat.sub_self]
    rfl
  · have hy : y ∈ La := by
      rw [List.append_assoc] at e
      by_cases c : i < k
      · rw [List.getElem?_append_left (by rw [lt]; exact c)] at e
        exact List.mem_of_mem_take (List.mem_of_getElem? e)
      · rw [List.getElem?_append_right (by rw [lt]; omega), lt] at e
        obtain ⟨j, hj⟩ : ∃ j, i - k = j + 1 := ⟨i - k - 1, by omega⟩
        rw [hj] at e
        have e : (La.drop k)[j]? = some y := e
        exact List.mem_of_mem_drop (List.mem_of_getElem? e)
    exact S.ok y hy
theorem lw18 {C fw fr fp : Addr} {dw dr dp : FuncData} (B : Blt mg) (G : GrC K mg C) (W : WthD K mg P w base fw dw) (Dr : DrwD K mg P w base fr dr) (Po : PotD K mg P w base fp dp) (hr : Room 7 (A.deeper (envOfC "law" (defScope sLaw) st.heap.objs.size f cdv))) :
    ∃ u, PSs (cxOf CX0 P w K mg base nLw "law" (defScope sLaw) f cdv A outer st H0 E).nox ((defBody sLaw).drop 18) u ∧ ∀ (Q : VK), (∀ H', Q (.bl true) H') → ∀ (v1 v4 v7 v8 v9 v10 v11 v12 v13 v14 v15 v16 : Option V) (sc ar x kn : Addr) (ss : List Int) (n : Nat) (As : List (Int × Int)) (La Lk : List (V × (Int × Int))) (H : Hp),
      Lw K C H sc ar x kn ss n As La Lk →
      u { nx := fun _ H' => Q .non H', rt := Q } [some (.ref sc), v1, some (.int (n : Int)), some (.ref ar), v4, some (.ref x), some (.ref kn), v7, v8, v9, v10, v11, v12, v13, v14, v15, v16] H := by
  have hr1 := hr.mono (show 1 ≤ 7 by decide)
  obtain ⟨u, pu, hu⟩ := lw22 (P := P) (w := w) (base := base) (f := f) (cdv := cdv) (A := A) (outer := outer) (st := st) (H0 := H0) (E := E) B G W hr
  refine ⟨_, pss_cons (ps_set (i := 1) scLaw.nd rfl (.inl rfl) (pe_call Po.ok hr1 (by rfl) Po.m Po.k Po.b .nil pass0 (pa_cons (pv 0) (pa_cons pe_int pa_nil))))
    (pss_cons (ps_set (i := 13) scLaw.nd rfl (.inl rfl) (pe_call Dr.ok hr1 (by rfl) Dr.m Dr.k Dr.b .nil pass0 (pa_cons (pv 1) (pa_cons (pe_op op_add (pe_callB call_len_seq (by rfl) B.len PySem.boot_len (pa_cons (pv 3) pa_nil)) pe_int) pa_nil))))
    (pss_cons (ps_set (i := 14) scLaw.nd rfl (.inl rfl) (pe_op op_sub (pe_call Dr.ok hr1 (by rfl) Dr.m Dr.k Dr.b .nil pass0 (pa_cons (pv 1) (pa_cons (pe_op op_add (pv 2) pe_int) pa_nil))) pe_int))
    (pss_cons (ps_set (i := 15) scLaw.nd rfl (.inl rfl) (pe_op op_sub (pe_call Dr.ok hr1 (by rfl) Dr.m Dr.k Dr.b .nil pass0 (pa_cons (pv 1) (pa_cons (pe_op op_add (pv 2) pe_int) pa_nil))) pe_int)) pu))), ?_⟩
  intro Q q v1 v4 v7 v8 v9 v10 v11 v12 v13 v14 v15 v16 sc ar x kn ss n As La Lk H S
  refine ⟨_, rfl, sc, ss, 2, rfl, S.sc, fun z H1 s1 nz hz => ?_⟩
  refine ⟨_, rfl, _, rfl, ar, _, rfl, .inl (SqL.of (s1 _ _ S.ar)), _, _, rfl, rfl, z, _, rfl, hz, by omega, fun k H2 k0 k1 hz2 b2 => ?_⟩
  have s2 := But.since s1 nz b2
  rw [List.length_map] at k1
  obtain ⟨k, rfl⟩ : ∃ k' : Nat, k = (k' : Int) := ⟨k.toNat, by omega⟩
  refine ⟨_, rfl, _, rfl, _, _, rfl, rfl, z, _, rfl, hz2, by omega, fun a H3 _ _ hz3 b3 => ⟨_, _, rfl, rfl, ?_⟩⟩
  have s3 := But.since s2 nz b3
  refine ⟨_, rfl, _, rfl, _, _, rfl, rfl, z, _, rfl, hz3, by omega, fun b H4 _ _ hz4 b4 => ⟨_, _, rfl, rfl, ?_⟩⟩
  have s4 := But.since s3 nz b4
  exact hu Q q _ v4 v7 v8 v9 v10 v11 v12 v16 k _ _ sc ar x kn ss n As La Lk H4 (S.same s4) (by omega)
end
end KP
set_option maxRecDepth 100000
set_option maxHeartbeats 4000000
/-! The law's rows 13 to 17. -/
namespace KP
open PySem PySem.Spec PyProof.Rows L2 KT
open GR (upto Arr IsOrd RingIs good greedy okA Srtd kept levels)
theorem sh_jg (ns : List Int) (c : Bool) (h : ns.length ≤ 60) : SeqAt.shaped (.list [dTI ns, .bool c]) = true := by
  have a1 : PyData.canLay0 (dTI ns) = true := ((lay_tup lay_int : LayE dTI 1) ns).1
  have a2 : (dTI ns).depth ≤ 1 := ((lay_tup lay_int : LayE dTI 1) ns).2
  generalize dTI ns = d at a1 a2 ⊢
  unfold SeqAt.shaped
  simp only [PyData.canLay0, PyData.canLayAll0, PyData.depth, PyData.depthAll, a1, Bool.and_true, Bool.true_and]
  exact decide_eq_true (by omega)
theorem sh_b (b : Bool) : SeqAt.shaped (.list [.bool b]) = true := by cases b <;> decide
/-- what is due of the listing -/
def DueJ (K : PySem.W.Frag) (H : Hp) (n : Nat) (A : List (Int × Int)) (du : Addr) (ns : List Int) : Prop :=
  (IsOrd n ns ∧ H du = some (.lst [.bl (kept A ns)])) ∨ (¬ IsOrd n ns ∧ ∃ t, SqT K H t (ns.map V.int) ∧ H du = some (.lst [.ref t, .bl false]))
theorem DueJ.same {K : PySem.W.Frag} {H H' : Hp} {n A du ns} (h : DueJ K H n A du ns) (s : Same H H') : DueJ K H' n A du ns := by
  rcases h with ⟨o, h⟩ | ⟨o, t, h1, h2⟩
  · exact .inl ⟨o, s _ _ h⟩
  · exact .inr ⟨o, t, seqT_same h1 s, s _ _ h2⟩
section
variable {P : Program} {w : World} {K : PySem.W.Frag} {mg : Str → Option Value} {base : Heap}
structure OrdD (K : PySem.W.Frag) (mg : Str → Option Value) (P : Program) (w : World) (base : Heap) (C fo fk fj fl fy : Addr) (do' dk dj dl dy : FuncData) : Prop where
  oOk : FnOk P w K mg base CX0 1 fo do' ["_law_many"] spOrders
  oM : mg "_law_orders" = some (.ref fo)
  oK : PySem.W.keepIn K (.ref fo) = true
  oB : Binds K do' ["_law_many"] []
  kOk : FnOk P w K mg base CX0 4 fk dk ["graph", "order"] (spKeeps K C)
  kM : mg "keeps" = some (.ref fk)
  kK : PySem.W.keepIn K (.ref fk) = true
  kB : Binds K dk ["graph", "order"] []
  jOk : FnOk P w K mg base CX0 5 fj dj ["_law_graph", "_law_listing_here"] (spJudged K C)
  jM : mg "_law_judged" = some (.ref fj)
  jK : PySem.W.keepIn K (.ref fj) = true
  jB : Binds K dj ["_law_graph", "_law_listing_here"] []
  lOk : FnOk P w K mg base CX0 3 fl dl ["_law_pot_here", "_law_size"] spListing
  lM : mg "_law_listing" = some (.ref fl)
  lK : PySem.W.keepIn K (.ref fl) = true
  lB : Binds K dl ["_law_pot_here", "_law_size"] []
  yOk : FnOk P w K mg base CX0 1 fy dy ["_law_arrows_here", "_law_order"] spLKept
  yM : mg "_law_kept" = some (.ref fy)
  yK : PySem.W.keepIn K (.ref fy) = true
  yB : Binds K dy ["_law_arrows_here", "_law_order"] []
variable {f : Addr} {cdv : Value} {A : Around} {outer : List Env} {st : Shared} {H0 : Hp} {E : XK}
theorem lw17 {C fw fr fp fo fk fj fl fy : Addr} {dw dr dp do' dk dj dl dy : FuncData} (B : Blt mg) (G : GrC K mg C) (W : WthD K mg P w base fw dw) (Dr : DrwD K mg P w base fr dr) (Po : PotD K mg P w base fp dp) (O : OrdD K mg P w base C fo fk fj fl fy do' dk dj dl dy)
    (hr : Room 7 (A.deeper (envOfC "law" (defScope sLaw) st.heap.objs.size f cdv))) :
    ∃ u, PSs (cxOf CX0 P w K mg base nLw "law" (defScope sLaw) f cdv A outer st H0 E).nox ((defBody sLaw).drop 17) u ∧ ∀ (Q : VK), (∀ H', Q (.bl true) H') → ∀ (v1 v4 v7 v9 v10 v11 v12 v13 v14 v15 v16 : Option V) (sc ar x kn gd : Addr) (ss : List Int) (n : Nat) (As : List (Int × Int)) (La Lk : List (V × (Int × Int))) (Mg : List (V × List Int)) (H : Hp),
      Lw K C H sc ar x kn ss n As La Lk → IsLs H gd (good n As) Mg →
      u { nx := fun _ H' => Q .non H', rt := Q } [some (.ref sc), v1, some (.int (n : Int)), some (.ref ar), v4, some (.ref x), some (.ref kn), v7, some (.ref gd), v9, v10, v11, v12, v13, v14, v15, v16] H := by
  have hr1 := hr.mono (show 1 ≤ 7 by decide)
  obtain ⟨u, pu, hu⟩ := lw18 (P := P) (w := w) (base := base) (f := f) (cdv := cdv) (A := A) (outer := outer) (st := st) (H0 := H0) (E := E) B G W Dr Po hr
  refine ⟨_, pss_cons (ps_for PassesOwn.never rfl (pi_list (pe_call O.oOk hr1 (by rfl) O.oM O.oK O.oB .nil pass0 (pa_cons (pv 2) pa_nil))) (pg_name (i := 7) scLaw.nd rfl (.inl rfl))
      (pss_cons (ps_set (i := 12) scLaw.nd rfl (.inl rfl) (pe_call O.kOk (hr.mono (by decide)) (by rfl) O.kM O.kK O.kB .nil pass0 (pa_cons (pv 5) (pa_cons (pv 7) pa_nil))))
      (pss_one (ps_if (PW.pt (pw_or (pt_not (pt_val (pe_callB call_isi (by rfl) B.isinstance (by decide +kernel) (pa_cons (pv 12) (pa_cons (pe_bltn (v := .ty "bool") (by rfl) B.bool (by decide +kernel) rfl) pa_nil)))))
        (pw_or1 (pt_cmpR op_ne (pv 12) (pe_cmpR (op_inD (u65 hr)) (pv 7) (pv 8) rfl) (nomark _))))) (pss_one (ps_ret pe_bl)) pss_nil)))) pu, ?_⟩
  intro Q q v1 v4 v7 v9 v10 v11 v12 v13 v14 v15 v16 sc ar x kn gd ss n As La Lk Mg H S hg
  have n5 := S.n5
  refine ⟨_, rfl, n, rfl, n5, fun l M H1 s1 nl ls => ?_⟩
  refine ⟨l, rfl, ⟨_, SqL.of ls.at_⟩, for_list (K := K) (a := l) (xs := M.map (·.1)) (fun i σ H2 => ∃ v7 v12 : Option V, σ = [some (.ref sc), v1, some (.int (n : Int)), some (.ref ar), v4, some (.ref x), some (.ref kn), v7, some (.ref gd), v9, v10, v11, v12, v13, v14, v15, v16] ∧ Same H1 H2)
    ⟨v7, v12, rfl, Same.refl _⟩ (fun i σ H2 _ h => by obtain ⟨_, _, _, s2⟩ := h; exact SqL.of (s2 _ _ ls.at_)) ?_ ?_⟩
  · rintro i v σ H2 hi ⟨v7, v12, rfl, s2⟩
    obtain ⟨ws, hp⟩ := at_map hi
    have hm := List.mem_of_getElem? hp
    obtain ⟨wn, ev, hw⟩ := ls.all _ hm
    have ev : v = .ref wn := ev
    subst ev
    have hw : H1 wn = some (.lst (ws.map V.int)) := hw
    have s02 := s1.trans s2
    have inL : ws ∈ levels n n := by rw [← ls.eq]; exact List.mem_map.mpr ⟨_, hm, rfl⟩
    refine ⟨_, rfl, _, rfl, x, n, As, wn, ws, rfl, S.gr.same s02, .inl (SqL.of (s2 _ _ hw)), GR.levels_ord inL, fun H3 s3 => ?_⟩
    have s23 := s2.trans s3
    have s03 := s02.trans s3
    refine ⟨_, rfl, _, _, _, _, _, rfl, .ty _, .base (TyOf.bl _), kit_ty (r := true) (by decide +kernel), _, rfl, iteF ?_⟩
    refine ⟨_, rfl, _, rfl, _, rfl, dI ws, (good n As).map dI, dp_lst (SqL.of (s23 _ _ hw)), (hg.same s03).dp, sh_dI _, sh_dIs (good n As), rfl, _, rfl, ?_⟩
    have e : (((good n As).map dI).any fun z => PyData.eqv z (dI ws)) = kept As ws := by
      have im : ws ∈ good n As ↔ kept As ws = true := by
        unfold good
        rw [List.mem_filter]
        exact ⟨fun z => z.2, fun z => ⟨inL, z⟩⟩
      rw [Bool.eq_iff_iff, List.any_eq_true]
      constructor
      · rintro ⟨z, hz, ez⟩
        obtain ⟨a, ha, rfl⟩ := List.mem_map.mp hz
        rw [(eq_dI a ws).mp ez] at ha
        exact im.mp ha
      · exact fun c => ⟨_, List.mem_map.mpr ⟨ws, im.mpr c, rfl⟩, (eq_dI ws ws).mpr rfl⟩
    rw [e, show (!decide (V.bl (kept As ws) = V.bl (kept As ws))) = false by rw [decide_eq_true rfl]; rfl]
    exact iteF ⟨_, _, rfl, s23⟩
  · rintro σ H2 ⟨v7, v12, rfl, s2⟩
    exact hu Q q v1 v4 v7 _ v9 v10 v11 v12 v13 v14 v15 v16 sc ar x kn ss n As La Lk H2 (S.same (s1.trans s2))
theorem lw16 {C fw fr fp fo fk fj fl fy : Addr} {dw dr dp do' dk dj dl dy : FuncData} (B : Blt mg) (G : GrC K mg C) (W : WthD K mg P w base fw dw) (Dr : DrwD K mg P w base fr dr) (Po : PotD K mg P w base fp dp) (O : OrdD K mg P w base C fo fk fj fl fy do' dk dj dl dy)
    (hr : Room 7 (A.deeper (envOfC "law" (defScope sLaw) st.heap.objs.size f cdv))) :
    ∃ u, PSs (cxOf CX0 P w K mg base nLw "law" (defScope sLaw) f cdv A outer st H0 E).nox ((defBody sLaw).drop 16) u ∧ ∀ (Q : VK), (∀ H', Q (.bl true) H') → ∀ (v1 v4 v7 v9 v12 v13 v14 v15 v16 : Option V) (sc ar x kn gd li du : Addr) (ss ns : List Int) (n : Nat) (As : List (Int × Int)) (La Lk : List (V × (Int × Int))) (Mg : List (V × List Int)) (H : Hp),
      Lw K C H sc ar x kn ss n As La Lk → IsLs H gd (good n As) Mg → H li = some (.lst (ns.map V.int)) → ns.length ≤ 60 → DueJ K H n As du ns →
      u { nx := fun _ H' => Q .non H', rt := Q } [some (.ref sc), v1, some (.int (n : Int)), some (.ref ar), v4, some (.ref x), some (.ref kn), v7, some (.ref gd), v9, some (.ref li), some (.ref du), v12, v13, v14, v15, v16] H := by
  have hr5 := hr.mono (show 5 ≤ 7 by decide)
  obtain ⟨u, pu, hu⟩ := lw17 (P := P) (w := w) (base := base) (f := f) (cdv := cdv) (A := A) (outer := outer) (st := st) (H0 := H0) (E := E) B G W Dr Po O hr
  refine ⟨_, pss_cons (ps_if (PW.pt (pw_or (pt_cmpR (op_neD hr.units) (pe_call O.jOk hr5 (by rfl) O.jM O.jK O.jB .nil pass0 (pa_cons (pv 5) (pa_cons (pe_callTy call_list_of (by rfl) B.list (by decide +kernel) (pa_cons (pv 10) pa_nil)) pa_nil))) (pv 11) (nomark _))
      (pw_or1 (pt_cmpR (op_neD hr.units) (pe_call O.jOk hr5 (by rfl) O.jM O.jK O.jB .nil pass0 (pa_cons (pv 5) (pa_cons (pe_callTy cr_tupA (by rfl) B.tuple (by decide +kernel) (pa_cons (pv 10) pa_nil)) pa_nil))) (pv 11) (nomark _))))) (pss_one (ps_ret pe_bl)) pss_nil) pu, ?_⟩
  intro Q q v1 v4 v7 v9 v12 v13 v14 v15 v16 sc ar x kn gd li du ss ns n As La Lk Mg H S hg hli lns due
  have cmp : ∀ (H1 : Hp) (R : VK), Same H H1 → (∀ H2, Same H H2 → R (.bl false) H2) → ∀ a, SqA K H1 a (ns.map V.int) → spJudged K C [.ref x, .ref a] H1 (fun y H2 => ∃ v, ([some (.ref sc), v1, some (.int (n : Int)), some (.ref ar), v4, some (.ref x), some (.ref kn), v7, some (.ref gd), v9, some (.ref li), some (.ref du), v12, v13, v14, v15, v16] : L2.St)[11]? = some (some v) ∧ rNeD K y v H2 R) E := by
    intro H1 R s1 fin a ha
    refine ⟨x, n, As, a, ns, rfl, S.gr.same s1, ha, lns, fun o l H2 s2 nl hl => ⟨_, rfl, ?_⟩, fun no t l H2 s2 ht nl hl => ⟨_, rfl, ?_⟩⟩
    · rcases due.same (s1.trans s2) with ⟨_, hd⟩ | ⟨no, _⟩
      · refine ⟨.list [.bool (kept As ns)], .list [.bool (kept As ns)], .lst (SqL.of hl) (.cons (.bl _) .nil), .lst (SqL.of hd) (.cons (.bl _) .nil), sh_b _, sh_b _, ?_⟩
        rw [eqv_one _ _ (eqv_bool _)]
        exact fin H2 (s1.trans s2)
      · exact absurd o no
    · rcases due.same (s1.trans s2) with ⟨o, _⟩ | ⟨_, t', ht', hd⟩
      · exact absurd o no
      · refine ⟨.list [dTI ns, .bool false], .list [dTI ns, .bool false], .lst (SqL.of hl) (.cons (dp_tup ht) (.cons (.bl false) .nil)), .lst (SqL.of hd) (.cons (dp_tup ht') (.cons (.bl false) .nil)), sh_jg _ _ lns, sh_jg _ _ lns, ?_⟩
        rw [eqv_two _ _ _ _ ((eq_dTI ns ns).mpr rfl) (eqv_bool false)]
        exact fin H2 (s1.trans s2)
  refine ⟨_, rfl, _, rfl, li, _, rfl, .inl (SqL.of hli), fun l nl => ?_⟩
  have s1 : Same H (upd H l (.lst (ns.map V.int))) := same_upd nl
  refine cmp _ _ s1 (fun H2 s2 => ⟨_, rfl, iteF ?_⟩) l (.inl (SqL.of upd_same))
  refine ⟨_, rfl, _, rfl, li, _, rfl, .inl (SqL.of (s2 _ _ hli)), fun t H3 s3 ht => ?_⟩
  refine cmp _ _ (s2.trans s3) (fun H4 s4 => ⟨_, rfl, iteF ?_⟩) t (.inr ht)
  exact hu Q q v1 v4 v7 v9 _ _ v12 v13 v14 v15 v16 sc ar x kn gd ss n As La Lk Mg H4 (S.same s4) (hg.same s4)
theorem lw13 {C fw fr fp fo fk fj fl fy : Addr} {dw dr dp do' dk dj dl dy : FuncData} (B : Blt mg) (G : GrC K mg C) (W : WthD K mg P w base fw dw) (Dr : DrwD K mg P w base fr dr) (Po : PotD K mg P w base fp dp) (O : OrdD K mg P w base C fo fk fj fl fy do' dk dj dl dy)
    (hr : Room 7 (A.deeper (envOfC "law" (defScope sLaw) st.heap.objs.size f cdv))) :
    ∃ u, PSs (cxOf CX0 P w K mg base nLw "law" (defScope sLaw) f cdv A outer st H0 E).nox ((defBody sLaw).drop 13) u ∧ ∀ (Q : VK), (∀ H', Q (.bl true) H') → ∀ (v1 v4 v7 v9 v10 v11 v12 v13 v14 v15 v16 : Option V) (sc ar x kn gd : Addr) (ss : List Int) (n : Nat) (As : List (Int × Int)) (La Lk : List (V × (Int × Int))) (Mg : List (V × List Int)) (H : Hp),
      Lw K C H sc ar x kn ss n As La Lk → IsLs H gd (good n As) Mg →
      u { nx := fun _ H' => Q .non H', rt := Q } [some (.ref sc), v1, some (.int (n : Int)), some (.ref ar), v4, some (.ref x), some (.ref kn), v7, some (.ref gd), v9, v10, v11, v12, v13, v14, v15, v16] H := by
  have hr1 := hr.mono (show 1 ≤ 7 by decide)
  obtain ⟨u, pu, hu⟩ := lw16 (P := P) (w := w) (base := base) (f := f) (cdv := cdv) (A := A) (outer := outer) (st := st) (H0 := H0) (E := E) B G W Dr Po O hr
  refine ⟨_, pss_cons (ps_set (i := 10) scLaw.nd rfl (.inl rfl) (pe_call O.lOk (hr.mono (by decide)) (by rfl) O.lM O.lK O.lB .nil pass0 (pa_cons (pe_call Po.ok hr1 (by rfl) Po.m Po.k Po.b .nil pass0 (pa_cons (pv 0) (pa_cons pe_int pa_nil))) (pa_cons (pv 2) pa_nil))))
    (pss_cons (ps_set (i := 11) scLaw.nd rfl (.inl rfl) (pe_lst (pa_cons (pe_callTy call_tuple_of (by rfl) B.tuple (by decide +kernel) (pa_cons (pv 10) pa_nil)) (pa_cons pe_bl pa_nil))))
    (pss_cons (ps_if (pt_cmpR (op_eqD hr.units) (pe_callB cr_sortedI (by rfl) B.sorted (by decide +kernel) (pa_cons (pv 10) pa_nil)) (pe_callTy (cr_listR rfl) (by rfl) B.list (by decide +kernel) (pa_cons (pe_callTy cr_range2 (by rfl) B.range (by decide +kernel) (pa_cons pe_int (pa_cons (pe_op op_add (pv 2) pe_int) pa_nil))) pa_nil)) (nomark _))
      (pss_one (ps_set (i := 11) scLaw.nd rfl (.inl rfl) (pe_lst (pa_cons (pe_call O.yOk hr1 (by rfl) O.yM O.yK O.yB .nil pass0 (pa_cons (pv 6) (pa_cons (pv 10) pa_nil))) pa_nil)))) pss_nil) pu)), ?_⟩
  intro Q q v1 v4 v7 v9 v10 v11 v12 v13 v14 v15 v16 sc ar x kn gd ss n As La Lk Mg H S hg
  have n5 := S.n5
  obtain ⟨dx, t0, L0, hx, hT, arr, lA, ln⟩ := id S.gr
  refine ⟨_, rfl, sc, ss, 1, rfl, S.sc, fun z H1 s1 nz hz => ⟨_, rfl, z, n, rfl, hz, n5, fun ns li H2 hz2 b2 nl hli l6 => ?_⟩⟩
  have s2 := But.since s1 nz b2
  refine ⟨_, rfl, li, _, rfl, .inl ⟨SqL.of hli, fun t nt => ?_⟩⟩
  have s3 : Same H2 (upd H2 t (.tup (ns.map V.int))) := same_upd nt
  have h3 : upd H2 t (.tup (ns.map V.int)) t = some (.tup (ns.map V.int)) := upd_same
  generalize upd H2 t (.tup (ns.map V.int)) = H3 at s3 h3
  refine ⟨by show 2 ≤ sizeLine; decide, fun du ndu => ?_⟩
  have s4 : Same H3 (upd H3 du (.lst [.ref t, .bl false])) := same_upd ndu
  have h4 : upd H3 du (.lst [.ref t, .bl false]) du = some (.lst [.ref t, .bl false]) := upd_same
  generalize upd H3 du (.lst [.ref t, .bl false]) = H4 at s4 h4
  have s24 := s3.trans s4
  have s04 := s2.trans s24
  refine ⟨_, rfl, li, ns, rfl, SqL.of (s24 _ _ hli), fun ms p pm pw np => ?_⟩
  have s5 : Same H4 (upd H4 p (.lst (ms.map V.int))) := same_upd np
  have h5 : upd H4 p (.lst (ms.map V.int)) p = some (.lst (ms.map V.int)) := upd_same
  generalize upd H4 p (.lst (ms.map V.int)) = H5 at s5 h5
  refine ⟨_, rfl, _, _, rfl, rfl, _, _, rfl, fun r nr => ?_⟩
  have s6 : Same H5 (upd H5 r (.rng 1 ((n : Int) + 1))) := same_upd nr
  have h6 : upd H5 r (.rng 1 ((n : Int) + 1)) r = some (.rng 1 ((n : Int) + 1)) := upd_same
  generalize upd H5 r (.rng 1 ((n : Int) + 1)) = H6 at s6 h6
  refine ⟨r, 1, (n : Int) + 1, rfl, h6, by omega, by omega, by omega, by omega, fun l nl7 => ?_⟩
  rw [upto_rng]
  have s7 : Same H6 (upd H6 l (.lst ((upto n).map V.int))) := same_upd nl7
  have h7 : upd H6 l (.lst ((upto n).map V.int)) l = some (.lst ((upto n).map V.int)) := upd_same
  generalize upd H6 l (.lst ((upto n).map V.int)) = H7 at s7 h7
  have s57 := s6.trans s7
  have s47 := s5.trans s57
  have s07 := s04.trans s47
  refine ⟨dI ms, dI (upto n), dp_lst (SqL.of (s57 _ _ h5)), dp_lst (SqL.of h7), sh_dI ms, sh_dI (upto n), _, rfl, ?_⟩
  rw [show PyData.eqv (dI ms) (dI (upto n)) = decide (ms = upto n) from eq_dI.dec ms (upto n)]
  have hli7 := s47 _ _ (s24 _ _ hli)
  by_cases o : IsOrd n ns
  · rw [decide_eq_true ((GR.ord_iff pm pw).mpr o)]
    refine iteT ⟨_, rfl, _, rfl, kn, li, As, Lk, ns, rfl, S.kn.same s07, lA, hli7, fun b hb => ?_, fun H8 s8 => ?_⟩
    · obtain ⟨m1, m2, _⟩ := arr.lo b hb
      exact ⟨o.mem.mpr (GR.mem_upto.mp m1), o.mem.mpr (GR.mem_upto.mp m2)⟩
    · refine ⟨by show 1 ≤ sizeLine; decide, fun d nd => ?_⟩
      have s9 := s8.trans (same_upd (o := .lst [.bl (kept As ns)]) nd)
      exact hu Q q v1 v4 v7 v9 v12 v13 v14 v15 v16 sc ar x kn gd li d ss ns n As La Lk Mg _ (S.same (s07.trans s9)) (hg.same (s07.trans s9)) (s9 _ _ hli7) (by omega) (.inl ⟨o, upd_same⟩)
  · rw [decide_eq_false (fun z => o ((GR.ord_iff pm pw).mp z))]
    refine iteF ?_
    exact hu Q q v1 v4 v7 v9 v12 v13 v14 v15 v16 sc ar x kn gd li du ss ns n As La Lk Mg H7 (S.same s07) (hg.same s07) hli7 (by omega) (.inr ⟨o, t, SqT.of (s47 _ _ (s4 _ _ h3)), s47 _ _ h4⟩)
end
end KP
set_option maxRecDepth 100000
set_option maxHeartbeats 4000000
/-! The law's rows 8 to 12. -/
namespace KP
open PySem PySem.Spec PyProof.Rows L2 KT
open GR (upto Arr IsOrd RingIs good greedy okA Srtd kept levels)
theorem good_len {n : Nat} {A : List (Int × Int)} (h : n ≤ 5) {ws : List Int} (m : ws ∈ good n A) : ws.length ≤ 60 := by
  have := (GR.levels_ord (List.mem_filter.mp m).1).len
  omega
section
variable {P : Program} {w : World} {K : PySem.W.Frag} {mg : Str → Option Value} {base : Heap}
structure FndD (K : PySem.W.Frag) (mg : Str → Option Value) (P : Program) (w : World) (base : Heap) (C fg ff : Addr) (dg df : FuncData) : Prop where
  rOk : FnOk P w K mg base CX0 1 fg dg ["_law_size", "_law_arrows_here"] spLRing
  rM : mg "_law_ring" = some (.ref fg)
  rK : PySem.W.keepIn K (.ref fg) = true
  rB : Binds K dg ["_law_size", "_law_arrows_here"] []
  fOk : FnOk P w K mg base CX0 4 ff df ["_law_graph", "_law_good", "_law_ring_here"] (spFound C)
  fM : mg "_law_found" = some (.ref ff)
  fK : PySem.W.keepIn K (.ref ff) = true
  fB : Binds K df ["_law_graph", "_law_good", "_law_ring_here"] []
variable {f : Addr} {cdv : Value} {A : Around} {outer : List Env} {st : Shared} {H0 : Hp} {E : XK}
theorem lw11 {C fw fr fp fo fk fj fl fy fg ff : Addr} {dw dr dp do' dk dj dl dy dg df : FuncData} (B : Blt mg) (G : GrC K mg C) (W : WthD K mg P w base fw dw) (Dr : DrwD K mg P w base fr dr) (Po : PotD K mg P w base fp dp) (O : OrdD K mg P w base C fo fk fj fl fy do' dk dj dl dy)
    (Fd : FndD K mg P w base C fg ff dg df) (hr : Room 7 (A.deeper (envOfC "law" (defScope sLaw) st.heap.objs.size f cdv))) :
    ∃ u, PSs (cxOf CX0 P w K mg base nLw "law" (defScope sLaw) f cdv A outer st H0 E).nox ((defBody sLaw).drop 11) u ∧ ∀ (Q : VK), (∀ H', Q (.bl true) H') → ∀ (v1 v4 v7 v9 v10 v11 v12 v13 v14 v15 v16 : Option V) (sc ar x kn gd : Addr) (ss : List Int) (n : Nat) (As : List (Int × Int)) (La Lk : List (V × (Int × Int))) (Mg : List (V × List Int)) (H : Hp),
      Lw K C H sc ar x kn ss n As La Lk → IsLs H gd (good n As) Mg →
      u { nx := fun _ H' => Q .non H', rt := Q } [some (.ref sc), v1, some (.int (n : Int)), some (.ref ar), v4, some (.ref x), some (.ref kn), v7, some (.ref gd), v9, v10, v11, v12, v13, v14, v15, v16] H := by
  have hr1 := hr.mono (show 1 ≤ 7 by decide)
  obtain ⟨u, pu, hu⟩ := lw13 (P := P) (w := w) (base := base) (f := f) (cdv := cdv) (A := A) (outer := outer) (st := st) (H0 := H0) (E := E) B G W Dr Po O hr
  refine ⟨_, pss_cons (ps_set (i := 9) scLaw.nd rfl (.inl rfl) (pe_call Fd.rOk hr1 (by rfl) Fd.rM Fd.rK Fd.rB .nil pass0 (pa_cons (pv 2) (pa_cons (pv 6) pa_nil))))
    (pss_cons (ps_if (PW.pt (pw_or (pt_cmpR op_ne (pe_cmpR op_isN (pv 9) pe_non (nomark _)) (pe_cmpR op_gt (pe_callB call_len_seq (by rfl) B.len PySem.boot_len (pa_cons (pv 8) pa_nil)) pe_int (nomark _)) (nomark _))
      (pw_or1 (pt_not (pt_val (pe_call Fd.fOk (hr.mono (by decide)) (by rfl) Fd.fM Fd.fK Fd.fB .nil pass0 (pa_cons (pv 5) (pa_cons (pv 8) (pa_cons (pv 9) pa_nil))))))))) (pss_one (ps_ret pe_bl)) pss_nil) pu), ?_⟩
  intro Q q v1 v4 v7 v9 v10 v11 v12 v13 v14 v15 v16 sc ar x kn gd ss n As La Lk Mg H S hg
  have n5 := S.n5
  have arr : Arr n As := by obtain ⟨_, _, _, _, _, arr, _⟩ := S.gr; exact arr
  have lM : Mg.length = (good n As).length := by rw [← hg.eq, List.length_map]
  refine ⟨_, rfl, _, rfl, n, kn, As, Lk, rfl, S.kn, arr, n5, fun no H1 s1 => ?_, fun ws hR l H1 s1 hl => ?_⟩
  · have ne : good n As ≠ [] := (GR.good_ring As arr).mpr no
    have pos : 0 < Mg.length := by rw [lM]; exact List.length_pos_iff.mpr ne
    refine ⟨_, rfl, rfl, _, rfl, gd, _, rfl, .inl (SqL.of (s1 _ _ hg.at_)), _, _, rfl, rfl, rfl, false, ?_, ?_⟩
    · show V.bl (!decide (V.bl (decide ((V.non : V) = .non)) = V.bl (decide (((Mg.map (·.1)).length : Int) > 0)))) = .bl false
      rw [show decide (((Mg.map (·.1)).length : Int) > 0) = true from decide_eq_true (by rw [List.length_map]; omega), show decide ((V.non : V) = .non) = true from decide_eq_true rfl, decide_eq_true (show V.bl true = V.bl true from rfl)]
      rfl
    refine iteF ⟨_, rfl, _, rfl, _, rfl, x, gd, .non, n, As, Mg, rfl, S.gr.same s1, hg.same s1, fun z => absurd z ne, fun ws m => good_len n5 m, fun H2 s2 => ⟨_, rfl, iteF ?_⟩⟩
    have s02 := s1.trans s2
    exact hu Q q v1 v4 v7 _ v10 v11 v12 v13 v14 v15 v16 sc ar x kn gd ss n As La Lk Mg H2 (S.same s02) (hg.same s02)
  · have em : good n As = [] := by
      by_cases c : good n As = []
      · exact c
      · have := RingIs.unique As hR ((GR.good_ring As arr).mp c)
        cases this
    have zero : Mg.length = 0 := by rw [lM, em]; rfl
    refine ⟨_, rfl, rfl, _, rfl, gd, _, rfl, .inl (SqL.of (s1 _ _ hg.at_)), _, _, rfl, rfl, rfl, false, ?_, ?_⟩
    · show V.bl (!decide (V.bl (decide ((V.ref l : V) = .non)) = V.bl (decide (((Mg.map (·.1)).length : Int) > 0)))) = .bl false
      rw [show decide (((Mg.map (·.1)).length : Int) > 0) = false from decide_eq_false (by rw [List.length_map]; omega), show decide ((V.ref l : V) = .non) = false from decide_eq_false (fun z => nomatch z), decide_eq_true (show V.bl false = V.bl false from rfl)]
      rfl
    have lw : ws.length ≤ 62 := by
      obtain ⟨u', k1, k2, k3⟩ := GR.Cl.simple As hR.1
      have := hR.2 u' k1
      have b := GR.nodup_len k2 (GR.Cl.inn As arr k1)
      rw [GR.upto_len] at b
      omega
    refine iteF ⟨_, rfl, _, rfl, _, rfl, x, gd, .ref l, n, As, Mg, rfl, S.gr.same s1, hg.same s1, fun _ => ⟨ws, l, hR, lw, rfl, hl⟩, fun ws m => good_len n5 m, fun H2 s2 => ⟨_, rfl, iteF ?_⟩⟩
    have s02 := s1.trans s2
    exact hu Q q v1 v4 v7 _ v10 v11 v12 v13 v14 v15 v16 sc ar x kn gd ss n As La Lk Mg H2 (S.same s02) (hg.same s02)
theorem lw8 {C fw fr fp fo fk fj fl fy fg ff : Addr} {dw dr dp do' dk dj dl dy dg df : FuncData} (B : Blt mg) (G : GrC K mg C) (W : WthD K mg P w base fw dw) (Dr : DrwD K mg P w base fr dr) (Po : PotD K mg P w base fp dp) (O : OrdD K mg P w base C fo fk fj fl fy do' dk dj dl dy)
    (Fd : FndD K mg P w base C fg ff dg df) (hr : Room 7 (A.deeper (envOfC "law" (defScope sLaw) st.heap.objs.size f cdv))) :
    ∃ u, PSs (cxOf CX0 P w K mg base nLw "law" (defScope sLaw) f cdv A outer st H0 E).nox ((defBody sLaw).drop 8) u ∧ ∀ (Q : VK), (∀ H', Q (.bl true) H') → ∀ (v1 v4 v8 v9 v10 v11 v12 v13 v14 v15 v16 : Option V) (sc ar x kn : Addr) (ss : List Int) (n : Nat) (As : List (Int × Int)) (La Lk : List (V × (Int × Int))) (H : Hp),
      Lw K C H sc ar x kn ss n As La Lk →
      u { nx := fun _ H' => Q .non H', rt := Q } [some (.ref sc), v1, some (.int (n : Int)), some (.ref ar), v4, some (.ref x), some (.ref kn), none, v8, v9, v10, v11, v12, v13, v14, v15, v16] H := by
  have hr1 := hr.mono (show 1 ≤ 7 by decide)
  obtain ⟨u, pu, hu⟩ := lw11 (P := P) (w := w) (base := base) (f := f) (cdv := cdv) (A := A) (outer := outer) (st := st) (H0 := H0) (E := E) B G W Dr Po O Fd hr
  refine ⟨_, pss_cons (ps_if (PW.pt (pw_or (pt_not (pt_val (pe_callB call_isi (by rfl) B.isinstance (by decide +kernel) (pa_cons (pe_fld (pv 5) rfl) (pa_cons (pe_bltn (v := .ty "int") (by rfl) B.int (by decide +kernel) rfl) pa_nil)))))
      (pw_or (pt_val (pe_callB call_isi (by rfl) B.isinstance (by decide +kernel) (pa_cons (pe_fld (pv 5) rfl) (pa_cons (pe_bltn (v := .ty "bool") (by rfl) B.bool (by decide +kernel) rfl) pa_nil))))
      (pw_or1 (pt_cmpR op_ne (pe_fld (pv 5) rfl) (pv 2) (nomark _)))))) (pss_one (ps_ret pe_bl)) pss_nil)
    (pss_cons (ps_if (PW.pt (pw_or (pt_not (pt_val (pe_callB call_isi (by rfl) B.isinstance (by decide +kernel) (pa_cons (pe_fld (pv 5) rfl) (pa_cons (pe_bltn (v := .ty "tuple") (by rfl) B.tuple (by decide +kernel) rfl) pa_nil)))))
      (pw_or1 (pt_cmpR (op_neD hr.units) (pe_callTy call_list_of (by rfl) B.list (by decide +kernel) (pa_cons (pe_fld (pv 5) rfl) pa_nil)) (pv 6) (nomark _))))) (pss_one (ps_ret pe_bl)) pss_nil)
    (pss_cons (ps_setLc (i := 8) (own := [("_law_order", 7)]) (g := gName 7) rfl scLaw.nd rfl rfl (sw_true rfl rfl rfl (by decide +kernel)) (pi_list (pe_call O.oOk hr1 (by rfl) O.oM O.oK O.oB .nil pass0 (pa_cons (pv 2) pa_nil)))
      (blkOk_by (N := nLw) (sc := defScope sLaw) (by decide +kernel)) (fun _ _ _ _ _ => pg_name (i := 7) scLaw.nd rfl (.inl rfl))
      (fun _ _ _ _ _ => pts_one (pt_val (pe_call O.yOk hr1 (by rfl) O.yM O.yK O.yB .nil pass0 (pa_cons (pv 6) (pa_cons (pv 7) pa_nil))))) (fun _ _ _ _ _ => pv 7)) pu)), ?_⟩
  intro Q q v1 v4 v8 v9 v10 v11 v12 v13 v14 v15 v16 sc ar x kn ss n As La Lk H S
  have n5 := S.n5
  obtain ⟨dx, t, L, hx, hT, arr, lA, ln⟩ := id S.gr
  refine ⟨_, rfl, x, C, dx, _, _, rfl, hx, G.cl, G.n1, grf_1 _ _, _, _, _, _, _, rfl, .ty _, tyInt _, kit_ty (r := true) (by decide +kernel), _, rfl, iteF ?_⟩
  refine ⟨_, rfl, x, C, dx, _, _, rfl, hx, G.cl, G.n1, grf_1 _ _, _, _, _, _, _, rfl, .ty _, tyInt _, kit_ty (r := false) (by decide +kernel), _, rfl, iteF ?_⟩
  refine ⟨_, rfl, x, C, dx, _, _, rfl, hx, G.cl, G.n1, grf_1 _ _, _, rfl, rfl, _, rfl, ?_⟩
  rw [show (!decide (V.int (n : Int) = V.int (n : Int))) = false by rw [decide_eq_true rfl]; rfl]
  refine iteF ?_
  refine ⟨_, rfl, x, C, dx, _, _, rfl, hx, G.cl, G.n2, grf_2 _ _, _, _, _, _, _, rfl, .ty _, .base (TyOf.tup hT.at_), kit_ty (r := true) (by decide +kernel), _, rfl, iteF ?_⟩
  refine ⟨_, rfl, x, C, dx, _, _, rfl, hx, G.cl, G.n2, grf_2 _ _, t, _, rfl, .inr (SqT.of hT.at_), fun l nl => ⟨_, rfl, ?_⟩⟩
  have s1 : Same H (upd H l (.lst (L.map (·.1)))) := same_upd nl
  have k1 : PsL (upd H l (.lst (L.map (·.1)))) l As L := ⟨upd_same, hT.all.same s1, hT.eq⟩
  generalize upd H l (.lst (L.map (·.1))) = H1 at s1 k1
  refine ⟨dPL As, dPL As, k1.dp, (S.same s1).kn.dp, sh_dPL _, sh_dPL _, _, rfl, ?_⟩
  rw [show PyData.eqv (dPL As) (dPL As) = true from (eq_dPL As As).mpr rfl]
  refine iteF ?_
  refine ⟨_, rfl, n, rfl, n5, fun lo M H2 s2 nlo ls => ?_⟩
  have s02 := s1.trans s2
  refine ⟨lo, rfl, ⟨_, SqL.of ls.at_⟩, fun D nD => lc_list (K := K) (a := lo) (xs := M.map (·.1)) (fun i H3 => But D (upd H2 D (.lst [])) H3 ∧ H3 D = some (.lst (((M.take i).filter fun y => kept As y.2).map (·.1))))
    ⟨But.refl, upd_same⟩ (fun i H3 _ hb => SqL.of ((But.new hb.1 rfl nD) _ _ ls.at_)) ?_ ?_⟩
  · rintro i v H3 hi ⟨hb, hD⟩
    obtain ⟨ws, hp⟩ := at_map hi
    have hm := List.mem_of_getElem? hp
    obtain ⟨wn, ev, hw⟩ := ls.all _ hm
    have ev : v = .ref wn := ev
    subst ev
    have hw : H2 wn = some (.lst (ws.map V.int)) := hw
    have s3 : Same H2 H3 := But.new hb rfl nD
    have inL : ws ∈ levels n n := by rw [← ls.eq]; exact List.mem_map.mpr ⟨_, hm, rfl⟩
    have o := GR.levels_ord inL
    have lM : M.length ≤ 3125 := by
      have e : M.length = (levels n n).length := by rw [← ls.eq, List.length_map]
      rw [e]
      exact lev_len n5 n5
    have stp := filt_take (f := fun y : V × List Int => kept As y.2) hp
    have lf := filt_len (A := M) (f := fun y : V × List Int => kept As y.2) (i := i)
    refine ⟨rfl, _, rfl, _, rfl, kn, wn, As, Lk, ws, rfl, (S.same (s02.trans s3)).kn, lA, s3 _ _ hw, fun b hb' => ?_, fun H4 s4 => ⟨_, rfl, ?_⟩⟩
    · obtain ⟨m1, m2, _⟩ := arr.lo b hb'
      exact ⟨o.mem.mpr (GR.mem_upto.mp m1), o.mem.mpr (GR.mem_upto.mp m2)⟩
    · cases c : kept As ws with
      | false =>
        rw [if_neg (by rw [c]; decide), List.append_nil] at stp
        refine iteF ⟨hb.same s4, ?_⟩
        rw [stp]
        exact s4 _ _ hD
      | true =>
        rw [if_pos c] at stp
        refine iteT ⟨_, rfl, _, s4 _ _ hD, small5000 (by rw [List.length_map]; omega), (hb.same s4).trans But.upd, ?_⟩
        rw [upd_same, stp, List.map_append]
        rfl
  · rintro H3 ⟨hb, hD⟩
    rw [List.length_map, List.take_length] at hD
    have s3 : Same H2 H3 := But.new hb rfl nD
    refine hu Q q v1 v4 none v9 v10 v11 v12 v13 v14 v15 v16 sc ar x kn D ss n As La Lk (M.filter fun y => kept As y.2) H3 (S.same (s02.trans s3)) ⟨hD, fun y hy => (ls.all y (List.mem_filter.mp hy).1).same s3, ?_⟩
    unfold good
    rw [← ls.eq, List.filter_map]
    rfl
end
end KP
set_option maxRecDepth 100000
set_option maxHeartbeats 4000000
/-! The law. -/
namespace KP
open PySem PySem.Spec PyProof.Rows L2 KT
open GR (upto Arr IsOrd RingIs good greedy okA Srtd kept levels)
/-- the positional values, then the keywords' -/
def catN : {α : Type} → List α → List α → List α → List α := fun us _ ws => us ++ ws
/-- a new instance is laid -/
theorem made {C x dx : Addr} {H : Hp} (nx : H x = none) (nd : H dx = none) : Same H (upd (upd H dx (.own x)) x (.ins C dx [])) ∧ upd (upd H dx (.own x)) x (.ins C dx []) x = some (.ins C dx []) :=
  ⟨fun c o e => by rw [upd_ne (ne_of_none e nx), upd_ne (ne_of_none e nd)]; exact e, upd_same⟩
theorem GrAt.but {C q : Addr} {H H' : Hp} {x : Addr} {n : Nat} {A} {xs} (h : GrAt C H x n A) (b : But q H H') (hq : H q = some (.lst xs)) : GrAt C H' x n A := by
  obtain ⟨dx, t, L, h1, ⟨h2, h3, h4⟩, h5⟩ := h
  exact ⟨dx, t, L, b _ _ h1 (by rintro rfl; rw [hq] at h1; cases h1), ⟨b _ _ h2 (by rintro rfl; rw [hq] at h2; cases h2), h3.but b hq, h4⟩, h5⟩
theorem srtd_nil {A : List (Int × Int)} (h : Srtd A []) : A = [] := by
  cases A with
  | nil => rfl
  | cons a r => exact absurd ((h.mem a).mp (by simp)) (by simp)
section
variable {P : Program} {w : World} {K : PySem.W.Frag} {mg : Str → Option Value} {base : Heap}
structure MkG (K : PySem.W.Frag) (mg : Str → Option Value) (P : Program) (w : World) (base : Heap) (C fi q0 : Addr) (di : FuncData) (d1 its : List Value) : Prop where
  ok : FnOk P w K mg base CX0 4 fi di ["self", "size", "arrows"] (spGInit K C)
  mkC : Mk K C fi
  b1 : Binds K di ["self", "size", "arrows"] d1
  v1 : Vals [V.ref q0] d1
  b0 : Binds K di ["self", "size", "arrows"] []
  kb : KBn K di ["self", "size", "arrows"] 2 ["arrows"] (fun us ws => catN us its ws) (fun vs zs => catN vs [V.ref q0] zs)
  e0 : ∀ H, SqT K H q0 []
structure ArsD (K : PySem.W.Frag) (mg : Str → Option Value) (P : Program) (w : World) (base : Heap) (fa : Addr) (da : FuncData) : Prop where
  ok : FnOk P w K mg base CX0 3 fa da ["_law_pot_here", "_law_size"] spArrows
  m : mg "_law_arrows" = some (.ref fa)
  k : PySem.W.keepIn K (.ref fa) = true
  b : Binds K da ["_law_pot_here", "_law_size"] []
variable {f : Addr} {cdv : Value} {A : Around} {outer : List Env} {st : Shared} {H0 : Hp} {E : XK}
theorem lw6 {C fw fr fp fo fk fj fl fy fg ff fi q0 : Addr} {dw dr dp do' dk dj dl dy dg df di : FuncData} {d1 its : List Value} (B : Blt mg) (G : GrC K mg C) (W : WthD K mg P w base fw dw) (Dr : DrwD K mg P w base fr dr) (Po : PotD K mg P w base fp dp) (O : OrdD K mg P w base C fo fk fj fl fy do' dk dj dl dy)
    (Fd : FndD K mg P w base C fg ff dg df) (M : MkG K mg P w base C fi q0 di d1 its) (hr : Room 7 (A.deeper (envOfC "law" (defScope sLaw) st.heap.objs.size f cdv))) :
    ∃ u, PSs (cxOf CX0 P w K mg base nLw "law" (defScope sLaw) f cdv A outer st H0 E).nox ((defBody sLaw).drop 6) u ∧ ∀ (Q : VK), (∀ H', Q (.bl true) H') → ∀ (v1 v4 : Option V) (sc ar x : Addr) (ss : List Int) (n : Nat) (As : List (Int × Int)) (La : List (V × (Int × Int))) (H : Hp),
      SqL K H sc (ss.map V.int) → H ar = some (.lst (La.map (·.1))) → AllP H La → (∀ y ∈ La, okA n y.2 = true) → La.length ≤ 11 → GrAt C H x n As → Srtd As (La.map (·.2)) → n ≤ 5 →
      u { nx := fun _ H' => Q .non H', rt := Q } [some (.ref sc), v1, some (.int (n : Int)), some (.ref ar), v4, some (.ref x), none, none, none, none, none, none, none, none, none, none, none] H := by
  have hr5 := hr.mono (show 5 ≤ 7 by decide)
  obtain ⟨u, pu, hu⟩ := lw8 (P := P) (w := w) (base := base) (f := f) (cdv := cdv) (A := A) (outer := outer) (st := st) (H0 := H0) (E := E) B G W Dr Po O Fd hr
  refine ⟨_, pss_cons (ps_if (PW.pt (pw_or (pt_cmpR (op_neD hr.units) (pe_fld (pe_make M.mkC M.ok hr5 (by rfl) G.mgC M.b1 M.v1 pass0 (pa_cons (pv 2) pa_nil)) rfl) (pe_tup pa_nil) (nomark _))
      (pw_or1 (pt_cmpR (op_neD hr.units) (pe_fld (pe_make M.mkC M.ok hr5 (by rfl) G.mgC M.b0 .nil pass0 (pa_cons (pv 2) (pa_cons (pe_callTy cr_tupA (by rfl) B.tuple (by decide +kernel) (pa_cons (pv 3) pa_nil)) pa_nil))) rfl) (pe_fld (pv 5) rfl) (nomark _))))) (pss_one (ps_ret pe_bl)) pss_nil)
    (pss_cons (ps_set (i := 6) scLaw.nd rfl (.inr rfl) (pe_callB (cr_sortedT rfl) (by rfl) B.sorted (by decide +kernel) (pa_cons (pe_callTy (cr_setOfT rfl hr.units) (by rfl) B.set (by decide +kernel) (pa_cons (pv 3) pa_nil)) pa_nil))) pu), ?_⟩
  intro Q q v1 v4 sc ar x ss n As La H hsc har hA ok la g sr n5
  refine ⟨_, rfl, fun y dy ny ndy ney => ?_⟩
  obtain ⟨s1, h1⟩ := made (C := C) ny ndy
  generalize upd (upd H dy (.own y)) y (.ins C dy []) = H1 at s1 h1
  refine ⟨y, dy, q0, n, [], rfl, h1, .inr (M.e0 H1), fun _ h => (nomatch h), fun _ h => (nomatch h), Nat.zero_le _, by omega, fun A2 H2 sr2 g2 k2 => ⟨rfl, ?_⟩⟩
  have eA := srtd_nil sr2
  subst eA
  have s02 : Same H H2 := fun c o e => k2 c o (s1 c o e) (ne_of_none e ny)
  obtain ⟨dy2, ty, Ly, hy2, hTy, _⟩ := g2
  refine ⟨y, C, dy2, _, _, rfl, hy2, G.cl, G.n2, grf_2 _ _, by show 0 ≤ sizeLine; decide, fun T nT => ?_⟩
  have s3 : Same H2 (upd H2 T (.tup [])) := same_upd nT
  have h3 : upd H2 T (.tup []) T = some (.tup []) := upd_same
  generalize upd H2 T (.tup []) = H3 at s3 h3
  refine ⟨dPT [], dPT [], (hTy.same s3).dp, .tup (SqT.of h3) .nil, sh_dPT [], sh_dPT [], _, rfl, ?_⟩
  rw [show PyData.eqv (dPT []) (dPT []) = true from (eq_dPT [] []).mpr rfl]
  have s03 := s02.trans s3
  refine iteF ⟨_, rfl, _, rfl, ar, _, rfl, .inl (SqL.of (s03 _ _ har)), fun t H4 s4 ht => ?_⟩
  have s04 := s03.trans s4
  refine fun z dz nz ndz nez => ?_
  obtain ⟨s5, h5⟩ := made (C := C) nz ndz
  generalize upd (upd H4 dz (.own z)) z (.ins C dz []) = H5 at s5 h5
  have s05 := s04.trans s5
  refine ⟨z, dz, t, n, La, rfl, h5, .inr (seqT_same ht s5), hA.same s05, ok, by omega, by omega, fun A6 H6 sr6 g6 k6 => ⟨rfl, ?_⟩⟩
  have eA := sr6.unique sr
  subst eA
  have s06 : Same H H6 := fun c o e => k6 c o (s05 c o e) (ne_of_none (s04 c o e) nz)
  obtain ⟨dz2, tz, Lz, hz2, hTz, _⟩ := g6
  obtain ⟨dx, tx, Lx, hx, hTx, _⟩ := g.same s06
  refine ⟨z, C, dz2, _, _, rfl, hz2, G.cl, G.n2, grf_2 _ _, _, rfl, x, C, dx, _, _, rfl, hx, G.cl, G.n2, grf_2 _ _, ?_⟩
  refine ⟨dPT A6, dPT A6, hTz.dp, hTx.dp, sh_dPT _, sh_dPT _, _, rfl, ?_⟩
  rw [show PyData.eqv (dPT A6) (dPT A6) = true from (eq_dPT A6 A6).mpr rfl]
  have bd : ∀ y ∈ La, (0 ≤ y.2.1 ∧ y.2.1 < 64) ∧ 0 ≤ y.2.2 ∧ y.2.2 < 64 := fun y hy => by
    obtain ⟨h1, h2, _⟩ := GR.okA_iff.mp (ok y hy)
    have h1 := GR.mem_upto.mp h1
    have h2 := GR.mem_upto.mp h2
    omega
  refine iteF ⟨_, rfl, ?_⟩
  dsimp only [tNil]
  refine set_sort (SqL.of (s06 _ _ har)) (hA.same s06) (by omega) bd fun Mk p H7 s7 np hp sr7 sub => ?_
  have eA := sr7.unique sr
  have s07 := s06.trans s7
  rw [eA] at hp
  exact hu Q q v1 v4 none none none none none none none none none sc ar x p ss n A6 La Mk H7 ⟨s07.seq hsc, s07 _ _ har, hA.same s07, ok, la, g.same s07, hp, n5⟩
def spLaw (K : PySem.W.Frag) : Sp := fun vs H Q _ => ∃ (a : Addr) (ns : List Int), vs = [.ref a] ∧ SqL K H a (ns.map V.int) ∧ ∀ H', Q (.bl true) H'
theorem ok_law {fl' C fw fr fp fo fk fj fl fy fg ff fi q0 fa : Addr} {fd dw dr dp do' dk dj dl dy dg df di da : FuncData} {d1 its : List Value} (F : Fun K "law" "law" sLaw fl' fd) (B : Blt mg) (G : GrC K mg C) (W : WthD K mg P w base fw dw) (Dr : DrwD K mg P w base fr dr) (Po : PotD K mg P w base fp dp) (O : OrdD K mg P w base C fo fk fj fl fy do' dk dj dl dy)
    (Fd : FndD K mg P w base C fg ff dg df) (M : MkG K mg P w base C fi q0 di d1 its) (Ad : ArsD K mg P w base fa da) : FnOk P w K mg base CX0 8 fl' fd ["_law_script"] (spLaw K) := by
  refine F.ok scLaw (fun vs H Q E h => ?_) (fun cdv A outer st H vs Q E hr h => ?_)
  · obtain ⟨_, _, rfl, _⟩ := h
    rfl
  · obtain ⟨sc, ss, rfl, hsc, q⟩ := h
    have hr1 := hr.mono (show 1 ≤ 7 by decide)
    have hr5 := hr.mono (show 5 ≤ 7 by decide)
    obtain ⟨u, pu, hu⟩ := lw6 (P := P) (w := w) (base := base) (f := fl') (cdv := cdv) (A := A) (outer := outer) (st := st) (H0 := H) (E := E) B G W Dr Po O Fd M hr
    refine ⟨_, pss_cons (ps_set (i := 1) scLaw.nd rfl (.inl rfl) (pe_call Po.ok hr1 (by rfl) Po.m Po.k Po.b .nil pass0 (pa_cons (pv 0) (pa_cons pe_int pa_nil))))
      (pss_cons (ps_set (i := 2) scLaw.nd rfl (.inl rfl) (pe_call Dr.ok hr1 (by rfl) Dr.m Dr.k Dr.b .nil pass0 (pa_cons (pv 1) (pa_cons pe_int pa_nil))))
      (pss_cons (ps_set (i := 3) scLaw.nd rfl (.inl rfl) (pe_call Ad.ok (hr.mono (by decide)) (by rfl) Ad.m Ad.k Ad.b .nil pass0 (pa_cons (pv 1) (pa_cons (pv 2) pa_nil))))
      (pss_cons (ps_set (i := 4) scLaw.nd rfl (.inl rfl) (pe_callTy call_list_of (by rfl) B.list (by decide +kernel) (pa_cons (pv 3) pa_nil)))
      (pss_cons (ps_set (i := 5) scLaw.nd rfl (.inl rfl) (pe_makeN M.mkC M.ok hr5 (by rfl) G.mgC M.kb pass0 (pa_cons (pv 2) pa_nil) (pk_cons (pv 4) pk_nil)))
      (pss_cons (ps_expr (pe_bm PySem.F.plainAttrs_list PySem.F.slot_list_append PySem.F.type_list_append mt_append (pv 4) (pa_cons (pe_tup (pa_cons pe_int (pa_cons pe_int pa_nil))) pa_nil))) pu))))), ?_⟩
    refine ⟨_, rfl, sc, ss, 0, rfl, hsc, fun z H1 s1 nz hz => ?_⟩
    refine ⟨_, rfl, z, 6, rfl, hz, by decide, fun n H2 n0 n6 hz2 b2 => ?_⟩
    have s2 := But.since s1 nz b2
    obtain ⟨n, rfl⟩ : ∃ n' : Nat, n = (n' : Int) := ⟨n.toNat, by omega⟩
    refine ⟨_, rfl, _, rfl, z, n, rfl, hz2, by omega, fun La ar H3 hz3 b3 nar har hA ok la => ?_⟩
    have s3 := But.since s2 nz b3
    refine ⟨_, rfl, ar, _, rfl, .inl (SqL.of har), fun gv ngv => ?_⟩
    have s4 : Same H3 (upd H3 gv (.lst (La.map (·.1)))) := same_upd ngv
    have h4 : upd H3 gv (.lst (La.map (·.1))) gv = some (.lst (La.map (·.1))) := upd_same
    generalize upd H3 gv (.lst (La.map (·.1))) = H4 at s4 h4
    refine ⟨_, rfl, _, rfl, rfl, rfl, fun x dx nx ndx nex => ?_⟩
    obtain ⟨s5, h5⟩ := made (C := C) nx ndx
    generalize upd (upd H4 dx (.own x)) x (.ins C dx []) = H5 at s5 h5
    have s35 := s4.trans s5
    refine ⟨x, dx, gv, n, La, rfl, h5, .inl (SqL.of (s5 _ _ h4)), hA.same s35, ok, by omega, by omega, fun A6 H6 sr g k6 => ⟨rfl, ?_⟩⟩
    have s46 : Same H4 H6 := fun c o e => k6 c o (s5 c o e) (ne_of_none e nx)
    have hg6 := s46 _ _ h4
    refine ⟨_, rfl, .inl ⟨rfl, _, SqL.of hg6⟩, by show 2 ≤ sizeLine; decide, fun T nT => ?_⟩
    have s7 : Same H6 (upd H6 T (.tup [.int 0, .int 0])) := same_upd nT
    generalize upd H6 T (.tup [.int 0, .int 0]) = H7 at s7
    have hg7 := s7 _ _ hg6
    refine ⟨gv, _, _, rfl, rfl, hg7, small1000 (by rw [List.length_map]; omega), ?_⟩
    have b8 : But gv H7 (upd H7 gv (.lst (La.map (·.1) ++ [.ref T]))) := But.upd
    generalize upd H7 gv (.lst (La.map (·.1) ++ [.ref T])) = H8 at b8
    have s38 : Same H3 H8 := fun c o e => b8 c o (s7 _ _ (s46 _ _ (s4 _ _ e))) (ne_of_none e ngv)
    have s08 : Same H H8 := s3.trans s38
    exact hu Q q _ _ sc ar x ss n A6 La H8 (s08.seq hsc) (s38 _ _ har) (hA.same s38) ok la ((g.same s7).but b8 hg7) sr (by omega)
end
end KP
set_option maxRecDepth 100000
set_option maxHeartbeats 4000000
/-! The end: all facts of the written part, put together. -/
namespace KP
open PySem PySem.Spec PyProof.Rows L2 KT
/-- a def of the module's top as it lies in the written part -/
abbrev GlobF (K : PySem.W.Frag) (x : Str) (st : Stmt) : Prop := ∃ (f : Addr) (oc : Value) (od an : Option Addr) (sl : Array (Option Value)) (kV dc pm cd ct : Value),
  PySem.W.nsIn K mainGlobals x = some (some (.ref f)) ∧ K.lookup f = some ⟨oc, od, .func (PySem.W.fnOf x x (defArgs st) (defBody st) (defScope st) .none kV dc pm an cd ct), sl⟩ ∧ PySem.W.codeIn K cd x = true ∧ PySem.W.keepIn K (.ref f) = true
/-- a method of the class at C -/
abbrev MethF (K : PySem.W.Frag) (C : Addr) (x q : Str) (st : Stmt) : Prop := ∃ (f : Addr) (oc : Value) (od an : Option Addr) (sl : Array (Option Value)) (kV dc pm cd ct : Value),
  PySem.W.findIn K (.ref C) x = some (some (.ref f)) ∧ PySem.W.isFn K (.ref f) = true ∧ K.lookup f = some ⟨oc, od, .func (PySem.W.fnOf x q (defArgs st) (defBody st) (defScope st) .none kV dc pm an cd ct), sl⟩ ∧ PySem.W.codeIn K cd q = true ∧ PySem.W.keepIn K (.ref f) = true
theorem GlobF.get {K : PySem.W.Frag} {h : Heap} {mg : Str → Option Value} {x : Str} {st : Stmt} (g : GlobF K x st) (X : K.In h) (G : h.Ns mainGlobals mg) : ∃ f fd, mg x = some (.ref f) ∧ Fun K x x st f fd := by
  obtain ⟨f, oc, od, an, sl, kV, dc, pm, cd, ct, a, l, c, k⟩ := g
  exact ⟨f, _, PySem.W.mg_of X G a, fun_mk (st := st) l c k⟩
theorem MethF.get {K : PySem.W.Frag} {C : Addr} {x q : Str} {st : Stmt} (g : MethF K C x q st) : ∃ f fd, Meth K C x f ∧ Fun K x q st f fd := by
  obtain ⟨f, oc, od, an, sl, kV, dc, pm, cd, ct, a, i, l, c, k⟩ := g
  exact ⟨f, _, ⟨a, i, k⟩, fun_mk (st := st) l c k⟩
/-- Graph.__init__ with its default -/
abbrev InitF (K : PySem.W.Frag) (C : Addr) : Prop := ∃ (f T q0 : Addr) (oc oT : Value) (od odT an od0 : Option Addr) (sl slT sl0 : Array (Option Value)) (nT n0 : Nat) (kV dc pm cd ct : Value),
  PySem.W.findIn K (.ref C) "__init__" = some (some (.ref f)) ∧ PySem.W.isFn K (.ref f) = true ∧ K.lookup f = some ⟨oc, od, .func (PySem.W.fnOf "__init__" "Graph.__init__" (defArgs sGInit) (defBody sGInit) (defScope sGInit) (.ref T) kV dc pm an cd ct), sl⟩ ∧ PySem.W.codeIn K cd "Graph.__init__" = true ∧
  PySem.W.keepIn K (.ref f) = true ∧ K.lookup T = some ⟨oT, odT, .seq #[.ref q0] nT, slT⟩ ∧ K.lookup q0 = some ⟨.type "tuple", od0, .seq #[] n0, sl0⟩
theorem InitF.get {K : PySem.W.Frag} {C : Addr} (g : InitF K C) : ∃ f fd q0, PySem.W.findIn K (.ref C) "__init__" = some (some (.ref f)) ∧ PySem.W.isFn K (.ref f) = true ∧ FunD K "__init__" "Graph.__init__" (defArgs sGInit) (defBody sGInit) (defScope sGInit) [.ref q0] [] f fd ∧ ∀ H, SqT K H q0 [] := by
  obtain ⟨f, T, q0, oc, oT, od, odT, an, od0, sl, slT, sl0, nT, n0, kV, dc, pm, cd, ct, a, i, l, c, k, lT, l0⟩ := g
  exact ⟨f, _, q0, a, i, ⟨⟨_, _, _, _, _, _, _, _, _, _, rfl, l, c, .inr ⟨(fun z => nomatch z), T, _, [.ref q0], nT, rfl, lT, rfl, .cons rfl .nil⟩, .inl rfl⟩, k⟩, fun H => .inr ⟨_, _, n0, l0, rfl, rfl, Nat.zero_le _, .nil⟩⟩
theorem init_kb {K : PySem.W.Frag} {f q0 : Addr} {fd : FuncData} (F : FunD K "__init__" "Graph.__init__" (defArgs sGInit) (defBody sGInit) (defScope sGInit) [.ref q0] [] f fd) :
    ∃ its : List Value, KBn K fd ["self", "size", "arrows"] 2 ["arrows"] (fun us ws => catN us its ws) (fun vs zs => catN vs [V.ref q0] zs) :=
  F.kbindsD 2 ["arrows"] catN (fun z => nomatch z) (fun a _ c => a.append c) fun T kV doc pm an cdv ct us its ws h1 h2 h3 =>
    match us, its, ws, h1, h2, h3 with
    | [_, _], [_], [_], _, _, _ => ⟨_, rfl, rfl⟩
theorem init_b1 {K : PySem.W.Frag} {f q0 : Addr} {fd : FuncData} (F : FunD K "__init__" "Graph.__init__" (defArgs sGInit) (defBody sGInit) (defScope sGInit) [.ref q0] [] f fd) :
    ∃ ds : List Value, Vals [V.ref q0] ds ∧ Binds K fd ["self", "size", "arrows"] ds :=
  F.binds1 2 0 (fun z => nomatch z) rfl fun T kV doc pm an cdv ct us its h1 h2 =>
    match us, its, h1, h2 with
    | [_, _], [_], _, _ => ⟨_, rfl, rfl⟩
theorem init_b0 {K : PySem.W.Frag} {f q0 : Addr} {fd : FuncData} (F : FunD K "__init__" "Graph.__init__" (defArgs sGInit) (defBody sGInit) (defScope sGInit) [.ref q0] [] f fd) :
    Binds K fd ["self", "size", "arrows"] [] := by
  obtain ⟨ds, v, b⟩ := F.binds1 (ps := ["self", "size", "arrows"]) 3 1 (fun z => nomatch z) rfl fun T kV doc pm an cdv ct us its h1 h2 =>
    match us, its, h1, h2 with
    | [_, _, _], [_], _, _ => ⟨_, rfl, rfl⟩
  cases v
  exact b
theorem GlobF.of {K : PySem.W.Frag} {x : Str} {st : Stmt} {f : Addr} {oc : Value} {od an : Option Addr} {sl : Array (Option Value)} {kV dc pm cd ct : Value}
    (a : PySem.W.nsIn K mainGlobals x = some (some (.ref f))) (l : K.lookup f = some ⟨oc, od, .func (PySem.W.fnOf x x (defArgs st) (defBody st) (defScope st) .none kV dc pm an cd ct), sl⟩) (c : PySem.W.codeIn K cd x = true) (k : PySem.W.keepIn K (.ref f) = true) : GlobF K x st :=
  ⟨f, oc, od, an, sl, kV, dc, pm, cd, ct, a, l, c, k⟩
theorem MethF.of {K : PySem.W.Frag} {C : Addr} {x q : Str} {st : Stmt} {f : Addr} {oc : Value} {od an : Option Addr} {sl : Array (Option Value)} {kV dc pm cd ct : Value}
    (a : PySem.W.findIn K (.ref C) x = some (some (.ref f))) (i : PySem.W.isFn K (.ref f) = true) (l : K.lookup f = some ⟨oc, od, .func (PySem.W.fnOf x q (defArgs st) (defBody st) (defScope st) .none kV dc pm an cd ct), sl⟩) (c : PySem.W.codeIn K cd q = true) (k : PySem.W.keepIn K (.ref f) = true) : MethF K C x q st :=
  ⟨f, oc, od, an, sl, kV, dc, pm, cd, ct, a, i, l, c, k⟩
theorem InitF.of {K : PySem.W.Frag} {C f T q0 : Addr} {oc oT : Value} {od odT an od0 : Option Addr} {sl slT sl0 : Array (Option Value)} {nT n0 : Nat} {kV dc pm cd ct : Value}
    (a : PySem.W.findIn K (.ref C) "__init__" = some (some (.ref f))) (i : PySem.W.isFn K (.ref f) = true) (l : K.lookup f = some ⟨oc, od, .func (PySem.W.fnOf "__init__" "Graph.__init__" (defArgs sGInit) (defBody sGInit) (defScope sGInit) (.ref T) kV dc pm an cd ct), sl⟩) (c : PySem.W.codeIn K cd "Graph.__init__" = true)
    (k : PySem.W.keepIn K (.ref f) = true) (t : K.lookup T = some ⟨oT, odT, .seq #[.ref q0] nT, slT⟩) (z : K.lookup q0 = some ⟨.type "tuple", od0, .seq #[] n0, sl0⟩) : InitF K C :=
  ⟨f, T, q0, oc, oT, od, odT, an, od0, sl, slT, sl0, nT, n0, kV, dc, pm, cd, ct, a, i, l, c, k, t, z⟩

abbrev CAF (P : Program) (K : PySem.W.Frag) (CE : Addr) : Prop := ∃ (fI cc cda : Addr) (oc : Value) (od : Option Addr) (kV doc pm : Value) (an : Option Addr) (ct : Value) (osl : Array (Option Value)) (cl : Value) (cld : Option Addr) (csl : Array (Option Value)) (ccl : Value) (cdd : Option Addr) (vs : Array Value) (ccs : Array (Option Value)) (file : Str) (tf : Tok),
  PySem.W.findIn K (.ref CE) "__init__" = some (some (.ref fI)) ∧ PySem.W.typeIn K (.ref fI) = some (.type "function") ∧
  K.lookup fI = some ⟨oc, od, .func (PySem.W.ksFn "__init__" "InvalidArrow.__init__" (defArgs sBadA) (defBody sBadA) (defScope sBadA) .none kV doc pm an (.ref cda) ct cc), osl⟩ ∧ PySem.W.codeIn K (.ref cda) "InvalidArrow.__init__" = true ∧
  K.lookup cc = some ⟨cl, cld, .cell (some (.ref CE)), csl⟩ ∧ K.lookup cda = some ⟨ccl, cdd, .fields vs, ccs⟩ ∧ vs[2]? = some (.str file tf) ∧ ((P.main.file : Str) == file) = true
theorem CAF.of {P : Program} {K : PySem.W.Frag} {CE fI cc cda : Addr} {oc : Value} {od : Option Addr} {kV doc pm : Value} {an : Option Addr} {ct : Value} {osl : Array (Option Value)} {cl : Value} {cld : Option Addr} {csl : Array (Option Value)} {ccl : Value} {cdd : Option Addr} {vs : Array Value} {ccs : Array (Option Value)} {file : Str} {tf : Tok}
    (a : PySem.W.findIn K (.ref CE) "__init__" = some (some (.ref fI))) (i : PySem.W.typeIn K (.ref fI) = some (.type "function"))
    (l : K.lookup fI = some ⟨oc, od, .func (PySem.W.ksFn "__init__" "InvalidArrow.__init__" (defArgs sBadA) (defBody sBadA) (defScope sBadA) .none kV doc pm an (.ref cda) ct cc), osl⟩) (c : PySem.W.codeIn K (.ref cda) "InvalidArrow.__init__" = true)
    (k : K.lookup cc = some ⟨cl, cld, .cell (some (.ref CE)), csl⟩) (t : K.lookup cda = some ⟨ccl, cdd, .fields vs, ccs⟩) (n : vs[2]? = some (.str file tf)) (f : ((P.main.file : Str) == file) = true) : CAF P K CE :=
  ⟨fI, cc, cda, oc, od, kV, doc, pm, an, ct, osl, cl, cld, csl, ccl, cdd, vs, ccs, file, tf, a, i, l, c, k, t, n, f⟩
/-- its base classes -/
abbrev CAL (K : PySem.W.Frag) (CE : Addr) : Prop := ∃ (nm q : Str) (N : Addr) (bs bm : List Value) (sn : List Str) (sub : List Value) (ab : Bool) (col : Option Bool) (dd : Option Addr) (m0 m1 m2 m3 m5 : Option Value),
  K.lookup CE = some (excClassObj nm q CE N bs bm true sn sub ab col dd m0 m1 m2 m3 m5 "ValueError.__new__") ∧ HandSPX.refsVE bm = true
theorem CAL.of {K : PySem.W.Frag} {CE : Addr} {nm q : Str} {N : Addr} {bs bm : List Value} {sn : List Str} {sub : List Value} {ab : Bool} {col : Option Bool} {dd : Option Addr} {m0 m1 m2 m3 m5 : Option Value}
    (l : K.lookup CE = some (excClassObj nm q CE N bs bm true sn sub ab col dd m0 m1 m2 m3 m5 "ValueError.__new__")) (r : HandSPX.refsVE bm = true) : CAL K CE := ⟨nm, q, N, bs, bm, sn, sub, ab, col, dd, m0, m1, m2, m3, m5, l, r⟩
theorem CAL.get {K : PySem.W.Frag} {CE : Addr} (g : CAL K CE) : ∀ cd, PySem.W.clsIn K CE = some cd → HandSPX.refsVE cd.mro = true := by
  obtain ⟨nm, q, N, bs, bm, sn, sub, ab, col, dd, m0, m1, m2, m3, m5, l, r⟩ := g
  intro cd h
  unfold PySem.W.clsIn at h
  rw [l] at h
  have h' := Option.some.inj h
  subst h'
  exact r

abbrev COF (P : Program) (K : PySem.W.Frag) (CE : Addr) : Prop := ∃ (fI cc cda : Addr) (oc : Value) (od : Option Addr) (kV doc pm : Value) (an : Option Addr) (ct : Value) (osl : Array (Option Value)) (cl : Value) (cld : Option Addr) (csl : Array (Option Value)) (ccl : Value) (cdd : Option Addr) (vs : Array Value) (ccs : Array (Option Value)) (file : Str) (tf : Tok),
  PySem.W.findIn K (.ref CE) "__init__" = some (some (.ref fI)) ∧ PySem.W.typeIn K (.ref fI) = some (.type "function") ∧
  K.lookup fI = some ⟨oc, od, .func (PySem.W.ksFn "__init__" "InvalidOrder.__init__" (defArgs sBadO) (defBody sBadO) (defScope sBadO) .none kV doc pm an (.ref cda) ct cc), osl⟩ ∧ PySem.W.codeIn K (.ref cda) "InvalidOrder.__init__" = true ∧
  K.lookup cc = some ⟨cl, cld, .cell (some (.ref CE)), csl⟩ ∧ K.lookup cda = some ⟨ccl, cdd, .fields vs, ccs⟩ ∧ vs[2]? = some (.str file tf) ∧ ((P.main.file : Str) == file) = true
theorem COF.of {P : Program} {K : PySem.W.Frag} {CE fI cc cda : Addr} {oc : Value} {od : Option Addr} {kV doc pm : Value} {an : Option Addr} {ct : Value} {osl : Array (Option Value)} {cl : Value} {cld : Option Addr} {csl : Array (Option Value)} {ccl : Value} {cdd : Option Addr} {vs : Array Value} {ccs : Array (Option Value)} {file : Str} {tf : Tok}
    (a : PySem.W.findIn K (.ref CE) "__init__" = some (some (.ref fI))) (i : PySem.W.typeIn K (.ref fI) = some (.type "function"))
    (l : K.lookup fI = some ⟨oc, od, .func (PySem.W.ksFn "__init__" "InvalidOrder.__init__" (defArgs sBadO) (defBody sBadO) (defScope sBadO) .none kV doc pm an (.ref cda) ct cc), osl⟩) (c : PySem.W.codeIn K (.ref cda) "InvalidOrder.__init__" = true)
    (k : K.lookup cc = some ⟨cl, cld, .cell (some (.ref CE)), csl⟩) (t : K.lookup cda = some ⟨ccl, cdd, .fields vs, ccs⟩) (n : vs[2]? = some (.str file tf)) (f : ((P.main.file : Str) == file) = true) : COF P K CE :=
  ⟨fI, cc, cda, oc, od, kV, doc, pm, an, ct, osl, cl, cld, csl, ccl, cdd, vs, ccs, file, tf, a, i, l, c, k, t, n, f⟩
/-- its base classes -/
abbrev COL (K : PySem.W.Frag) (CE : Addr) : Prop := ∃ (nm q : Str) (N : Addr) (bs bm : List Value) (sn : List Str) (sub : List Value) (ab : Bool) (col : Option Bool) (dd : Option Addr) (m0 m1 m2 m3 m5 : Option Value),
  K.lookup CE = some (excClassObj nm q CE N bs bm true sn sub ab col dd m0 m1 m2 m3 m5 "ValueError.__new__") ∧ HandSPX.refsVE bm = true
theorem COL.of {K : PySem.W.Frag} {CE : Addr} {nm q : Str} {N : Addr} {bs bm : List Value} {sn : List Str} {sub : List Value} {ab : Bool} {col : Option Bool} {dd : Option Addr} {m0 m1 m2 m3 m5 : Option Value}
    (l : K.lookup CE = some (excClassObj nm q CE N bs bm true sn sub ab col dd m0 m1 m2 m3 m5 "ValueError.__new__")) (r : HandSPX.refsVE bm = true) : COL K CE := ⟨nm, q, N, bs, bm, sn, sub, ab, col, dd, m0, m1, m2, m3, m5, l, r⟩
theorem COL.get {K : PySem.W.Frag} {CE : Addr} (g : COL K CE) : ∀ cd, PySem.W.clsIn K CE = some cd → HandSPX.refsVE cd.mro = true := by
  obtain ⟨nm, q, N, bs, bm, sn, sub, ab, col, dd, m0, m1, m2, m3, m5, l, r⟩ := g
  intro cd h
  unfold PySem.W.clsIn at h
  rw [l] at h
  have h' := Option.some.inj h
  subst h'
  exact r

theorem all_mk {P : Program} {w : World} {K : PySem.W.Frag} {h : Heap} {mg : Str → Option Value} {fa C CA CO : Addr} (X : K.In h) (G : h.Ns mainGlobals mg) (hfa : mg "law" = some (.ref fa))
    (top : (P.main.scope.names.lookup ("super" : Str)).isSome = false)
    (aC : PySem.W.nsIn K mainGlobals "Graph" = some (some (.ref C)))
    (aCA : PySem.W.nsIn K mainGlobals "InvalidArrow" = some (some (.ref CA)))
    (aCO : PySem.W.nsIn K mainGlobals "InvalidOrder" = some (some (.ref CO)))
    (n_isinstance : PySem.W.nsIn K mainGlobals "isinstance" = some none)
    (n_int : PySem.W.nsIn K mainGlobals "int" = some none)
    (n_bool : PySem.W.nsIn K mainGlobals "bool" = some none)
    (n_tuple : PySem.W.nsIn K mainGlobals "tuple" = some none)
    (n_list : PySem.W.nsIn K mainGlobals "list" = some none)
    (n_len : PySem.W.nsIn K mainGlobals "len" = some none)
    (n_sorted : PySem.W.nsIn K mainGlobals "sorted" = some none)
    (n_abs : PySem.W.nsIn K mainGlobals "abs" = some none)
    (n_range : PySem.W.nsIn K mainGlobals "range" = some none)
    (n_enumerate : PySem.W.nsIn K mainGlobals "enumerate" = some none)
    (n_set : PySem.W.nsIn K mainGlobals "set" = some none)
    (n_all : PySem.W.nsIn K mainGlobals "all" = some none)
    (n_super : PySem.W.nsIn K mainGlobals "super" = some none)
    (g_is_content : GlobF K "is_content" sIsContent)
    (g_is_numbered : GlobF K "is_numbered" sIsNum)
    (g_check_order : GlobF K "check_order" sCheckO)
    (g_keeps : GlobF K "keeps" sKeeps)
    (g_next_nodes : GlobF K "next_nodes" sNext)
    (g_first_order : GlobF K "first_order" sFirst)
    (g_is_arrow : GlobF K "is_arrow" sIsArrow)
    (g_l_pot : GlobF K "_law_pot" sPot)
    (g_l_draw : GlobF K "_law_draw" sDraw)
    (g_l_orders : GlobF K "_law_orders" sOrders)
    (g_l_lined : GlobF K "_law_lined" sLined)
    (g_l_arrows : GlobF K "_law_arrows" sArrows)
    (g_l_kept : GlobF K "_law_kept" sKept)
    (g_l_ring : GlobF K "_law_ring" sLRing)
    (g_l_listing : GlobF K "_law_listing" sListing)
    (g_l_judged : GlobF K "_law_judged" sJudged)
    (g_l_with : GlobF K "_law_with" sWith)
    (g_l_found : GlobF K "_law_found" sFound)
    (g_law : GlobF K "law" sLaw)
    (m_path : MethF K C "path" "Graph.path" sPath)
    (m_ring : MethF K C "ring" "Graph.ring" sRing)
    (m_following : MethF K C "_following" "Graph._following" sFollow)
    (iF : InitF K C)
    (eCA : CAF P K CA) (lCA : CAL K CA)
    (eCO : COF P K CO) (lCO : COL K CO)
    (pgC : PySem.W.plainGet K C Str.empty = true)
    (hdC : PySem.W.hasDictIn K C = true)
    (poC : PySem.W.plainOver K C = true)
    (saC : PySem.W.findIn K (.ref C) "__setattr__" = some (some (.builtin "object.__setattr__")))
    (mkC : PySem.W.makesIn K C = true)
    (kcC : PySem.W.keepIn K (.ref C) = true)
    (cn : PySem.W.specialIn K (.builtin "object.__class__") "__get__" = some (some (.builtin "getset_descriptor.__get__")))
    (ct : PySem.W.takesIn K (.builtin "object.__class__") = some true)
    (no1 : PySem.W.findIn K (.ref C) "size" = some none)
    (no2 : PySem.W.findIn K (.ref C) "arrows" = some none)
    (qCA : PySem.W.excInitIn K CA [.type "ValueError", .type "Exception", .type "BaseException", .type "object"] "ValueError.__new__" = true)
    (kCA : PySem.W.keepIn K (.ref CA) = true)
    (xCA : PySem.W.subIn K (.ref CA) (.type "BaseException") = some true)
    (tCA : PySem.W.typeIn K (.ref CA) = some (.type "type"))
    (vCA : PySem.W.subIn K (.ref CA) (.type "ValueError") = some true)
    (sCA : PySem.W.ks_superIn K CA CA "__init__" = some (some (.builtin "ValueError.__init__")))
    (mCA : PySem.W.mroIn K CA (.ref CA) = some true)
    (saCA : PySem.W.findIn K (.ref CA) "__setattr__" = some (some (.builtin "object.__setattr__")))
    (npCA : PySem.W.findIn K (.ref CA) "arrow" = some none)
    (gCA : PySem.W.findIn K (.ref CA) "__getattribute__" = some (some (.builtin "BaseException.__getattribute__")))
    (hCA : PySem.W.findIn K (.ref CA) "__getattr__" = some none)
    (dCA : PySem.W.hasDictIn K CA = true)
    (cCA : PySem.W.findIn K (.ref CA) "__class__" = some (some (.builtin "object.__class__")))
    (oCA : PySem.W.mroIn K CA (.type "object") = some true)
    (zCA : PySem.W.subIn K (.ref CA) (.ref CA) = some true)
    (qCO : PySem.W.excInitIn K CO [.type "ValueError", .type "Exception", .type "BaseException", .type "object"] "ValueError.__new__" = true)
    (kCO : PySem.W.keepIn K (.ref CO) = true)
    (xCO : PySem.W.subIn K (.ref CO) (.type "BaseException") = some true)
    (tCO : PySem.W.typeIn K (.ref CO) = some (.type "type"))
    (vCO : PySem.W.subIn K (.ref CO) (.type "ValueError") = some true)
    (sCO : PySem.W.ks_superIn K CO CO "__init__" = some (some (.builtin "ValueError.__init__")))
    (mCO : PySem.W.mroIn K CO (.ref CO) = some true)
    (saCO : PySem.W.findIn K (.ref CO) "__setattr__" = some (some (.builtin "object.__setattr__")))
    (npCO : PySem.W.findIn K (.ref CO) "listing" = some none)
    (gCO : PySem.W.findIn K (.ref CO) "__getattribute__" = some (some (.builtin "BaseException.__getattribute__")))
    (hCO : PySem.W.findIn K (.ref CO) "__getattr__" = some none)
    (dCO : PySem.W.hasDictIn K CO = true)
    (cCO : PySem.W.findIn K (.ref CO) "__class__" = some (some (.builtin "object.__class__")))
    (oCO : PySem.W.mroIn K CO (.type "object") = some true)
    (zCO : PySem.W.subIn K (.ref CO) (.ref CO) = some true)
    (tp : PySem.W.nsIn K cStatics "thirdparty.any" = some none)
    (kao : PySem.W.kitOne K (.ref CA) (.ref CO) = some false)
    (koa : PySem.W.kitOne K (.ref CO) (.ref CA) = some false)
    : ∃ fd : FuncData, (∀ (s : Shared) (v : Value), BindsTo s fd ⟨[v], []⟩ [("_law_script", v)]) ∧ ∀ base : Heap, K.In base → base.Ns mainGlobals mg → FnOk P w K mg base CX0 8 fa fd ["_law_script"] (spLaw K) := by
  obtain ⟨f_is_content, d_is_content, M_is_content, F_is_content⟩ := g_is_content.get X G
  have B_is_content := F_is_content.binds (ps := ["value"]) fun _ _ _ _ _ _ us hl => match us, hl with | [_], _ => rfl
  obtain ⟨f_is_numbered, d_is_numbered, M_is_numbered, F_is_numbered⟩ := g_is_numbered.get X G
  have B_is_numbered := F_is_numbered.binds (ps := ["value", "low", "high"]) fun _ _ _ _ _ _ us hl => match us, hl with | [_, _, _], _ => rfl
  obtain ⟨f_check_order, d_check_order, M_check_order, F_check_order⟩ := g_check_order.get X G
  have B_check_order := F_check_order.binds (ps := ["size", "order"]) fun _ _ _ _ _ _ us hl => match us, hl with | [_, _], _ => rfl
  obtain ⟨f_keeps, d_keeps, M_keeps, F_keeps⟩ := g_keeps.get X G
  have B_keeps := F_keeps.binds (ps := ["graph", "order"]) fun _ _ _ _ _ _ us hl => match us, hl with | [_, _], _ => rfl
  obtain ⟨f_next_nodes, d_next_nodes, M_next_nodes, F_next_nodes⟩ := g_next_nodes.get X G
  have B_next_nodes := F_next_nodes.binds (ps := ["graph", "placed"]) fun _ _ _ _ _ _ us hl => match us, hl with | [_, _], _ => rfl
  obtain ⟨f_first_order, d_first_order, M_first_order, F_first_order⟩ := g_first_order.get X G
  have B_first_order := F_first_order.binds (ps := ["graph"]) fun _ _ _ _ _ _ us hl => match us, hl with | [_], _ => rfl
  obtain ⟨f_is_arrow, d_is_arrow, M_is_arrow, F_is_arrow⟩ := g_is_arrow.get X G
  have B_is_arrow := F_is_arrow.binds (ps := ["size", "value"]) fun _ _ _ _ _ _ us hl => match us, hl with | [_, _], _ => rfl
  obtain ⟨f_l_pot, d_l_pot, M_l_pot, F_l_pot⟩ := g_l_pot.get X G
  have B_l_pot := F_l_pot.binds (ps := ["_law_script", "_law_k"]) fun _ _ _ _ _ _ us hl => match us, hl with | [_, _], _ => rfl
  obtain ⟨f_l_draw, d_l_draw, M_l_draw, F_l_draw⟩ := g_l_draw.get X G
  have B_l_draw := F_l_draw.binds (ps := ["_law_pot_here", "_law_many"]) fun _ _ _ _ _ _ us hl => match us, hl with | [_, _], _ => rfl
  obtain ⟨f_l_orders, d_l_orders, M_l_orders, F_l_orders⟩ := g_l_orders.get X G
  have B_l_orders := F_l_orders.binds (ps := ["_law_many"]) fun _ _ _ _ _ _ us hl => match us, hl with | [_], _ => rfl
  obtain ⟨f_l_lined, d_l_lined, M_l_lined, F_l_lined⟩ := g_l_lined.get X G
  have B_l_lined := F_l_lined.binds (ps := ["_law_pot_here", "_law_size"]) fun _ _ _ _ _ _ us hl => match us, hl with | [_, _], _ => rfl
  obtain ⟨f_l_arrows, d_l_arrows, M_l_arrows, F_l_arrows⟩ := g_l_arrows.get X G
  have B_l_arrows := F_l_arrows.binds (ps := ["_law_pot_here", "_law_size"]) fun _ _ _ _ _ _ us hl => match us, hl with | [_, _], _ => rfl
  obtain ⟨f_l_kept, d_l_kept, M_l_kept, F_l_kept⟩ := g_l_kept.get X G
  have B_l_kept := F_l_kept.binds (ps := ["_law_arrows_here", "_law_order"]) fun _ _ _ _ _ _ us hl => match us, hl with | [_, _], _ => rfl
  obtain ⟨f_l_ring, d_l_ring, M_l_ring, F_l_ring⟩ := g_l_ring.get X G
  have B_l_ring := F_l_ring.binds (ps := ["_law_size", "_law_arrows_here"]) fun _ _ _ _ _ _ us hl => match us, hl with | [_, _], _ => rfl
  obtain ⟨f_l_listing, d_l_listing, M_l_listing, F_l_listing⟩ := g_l_listing.get X G
  have B_l_listing := F_l_listing.binds (ps := ["_law_pot_here", "_law_size"]) fun _ _ _ _ _ _ us hl => match us, hl with | [_, _], _ => rfl
  obtain ⟨f_l_judged, d_l_judged, M_l_judged, F_l_judged⟩ := g_l_judged.get X G
  have B_l_judged := F_l_judged.binds (ps := ["_law_graph", "_law_listing_here"]) fun _ _ _ _ _ _ us hl => match us, hl with | [_, _], _ => rfl
  obtain ⟨f_l_with, d_l_with, M_l_with, F_l_with⟩ := g_l_with.get X G
  have B_l_with := F_l_with.binds (ps := ["_law_size", "_law_arrows_here"]) fun _ _ _ _ _ _ us hl => match us, hl with | [_, _], _ => rfl
  obtain ⟨f_l_found, d_l_found, M_l_found, F_l_found⟩ := g_l_found.get X G
  have B_l_found := F_l_found.binds (ps := ["_law_graph", "_law_good", "_law_ring_here"]) fun _ _ _ _ _ _ us hl => match us, hl with | [_, _, _], _ => rfl
  obtain ⟨f_path, d_path, M_path, F_path⟩ := m_path.get
  have B_path := F_path.binds (ps := ["self", "start", "goal"]) fun _ _ _ _ _ _ us hl => match us, hl with | [_, _, _], _ => rfl
  obtain ⟨f_ring, d_ring, M_ring, F_ring⟩ := m_ring.get
  have B_ring := F_ring.binds (ps := ["self"]) fun _ _ _ _ _ _ us hl => match us, hl with | [_], _ => rfl
  obtain ⟨f_following, d_following, M_following, F_following⟩ := m_following.get
  have B_following := F_following.binds (ps := ["self", "node"]) fun _ _ _ _ _ _ us hl => match us, hl with | [_, _], _ => rfl
  obtain ⟨fi, di, q0, iA, iN, FI, e0⟩ := iF.get
  obtain ⟨its, kb⟩ := init_kb FI
  obtain ⟨d1, v1, b1⟩ := init_b1 FI
  have b0 := init_b0 FI
  obtain ⟨fI_CA, cc_CA, cda_CA, oc_CA, od_CA, kV_CA, doc_CA, pm_CA, an_CA, ct_CA, osl_CA, cl_CA, cld_CA, csl_CA, ccl_CA, cdd_CA, vs_CA, ccs_CA, file_CA, tf_CA, CA1, CA2, CA3, CA4, CA5, CA6, CA7, CA8⟩ := eCA
  obtain ⟨fI_CO, cc_CO, cda_CO, oc_CO, od_CO, kV_CO, doc_CO, pm_CO, an_CO, ct_CO, osl_CO, cl_CO, cld_CO, csl_CO, ccl_CO, cdd_CO, vs_CO, ccs_CO, file_CO, tf_CO, CO1, CO2, CO3, CO4, CO5, CO6, CO7, CO8⟩ := eCO
  obtain ⟨fl, oc', od', an', sl', kV', dc', pm', cd', ct'', la, ll, lc, lk⟩ := g_law
  have efa := hfa.symm.trans (PySem.W.mg_of X G la)
  cases efa
  have F_law := fun_mk (st := sLaw) ll lc lk
  have N : ∀ {x : Str}, PySem.W.nsIn K mainGlobals x = some none → mg x = none := fun e => PySem.W.mg_none_of X G e
  have B : Blt mg := ⟨N n_isinstance, N n_int, N n_bool, N n_tuple, N n_list, N n_len, N n_sorted, N n_abs, N n_range, N n_enumerate, N n_set, N n_all⟩
  have S : GrC K mg C := ⟨⟨pgC, hdC, poC, saC⟩, no1, no2, PySem.W.mg_of X G aC⟩
  have MC : Mk K C fi := ⟨mkC, iA, iN, kcC⟩
  have TA : ArrC P K mg CA fI_CA cc_CA cda_CA := ⟨PySem.W.mg_of X G aCA, qCA, dCA, lCA.get, saCA, npCA, CA1, CA2, kCA, xCA, tCA, vCA, sCA, tp, mCA, ⟨_, _, _, _, _, _, _, _, CA3⟩, CA4, ⟨_, _, _, CA5⟩, ⟨_, _, _, _, _, _, CA6, CA7, CA8⟩, top, N n_super⟩
  have TO : OrdC P K mg CO fI_CO cc_CO cda_CO := ⟨PySem.W.mg_of X G aCO, qCO, dCO, lCO.get, saCO, npCO, CO1, CO2, kCO, xCO, tCO, vCO, sCO, tp, mCO, ⟨_, _, _, _, _, _, _, _, CO3⟩, CO4, ⟨_, _, _, CO5⟩, ⟨_, _, _, _, _, _, CO6, CO7, CO8⟩, top, N n_super⟩
  have IA : ErrI K CA CO := ⟨⟨gCA, hCA, xCA, dCA, cCA, cn, ct, oCA⟩, PySem.W.exm_ref xCA dCA tCA zCA, ⟨gCA, hCA, xCA, dCA⟩, kao⟩
  have IO : ErrI K CO CA := ⟨⟨gCO, hCO, xCO, dCO, cCO, cn, ct, oCO⟩, PySem.W.exm_ref xCO dCO tCO zCO, ⟨gCO, hCO, xCO, dCO⟩, koa⟩
  refine ⟨PySem.W.fnOf "law" "law" (defArgs sLaw) (defBody sLaw) (defScope sLaw) .none kV' dc' pm' an' cd' ct'', fun s v => .of_eq rfl, fun base _ _ => ?_⟩
  have hct : FnOk P w K mg base CX0 1 f_is_content d_is_content ["value"] spIsContent := ok_is_content F_is_content B
  have hnu : FnOk P w K mg base CX0 2 f_is_numbered d_is_numbered ["value", "low", "high"] spIsNum := ok_is_num F_is_numbered B hct M_is_content F_is_content.kp B_is_content
  have ND : NumD K mg P w base f_is_numbered d_is_numbered := ⟨hnu, M_is_numbered, F_is_numbered.kp, B_is_numbered⟩
  have har : FnOk P w K mg base CX0 3 f_is_arrow d_is_arrow ["size", "value"] spIsArrow := ok_is_arrow F_is_arrow B ND
  have AD : ArwD K mg P w base f_is_arrow d_is_arrow := ⟨har, M_is_arrow, F_is_arrow.kp, B_is_arrow⟩
  have GI : FnOk P w K mg base CX0 4 fi di ["self", "size", "arrows"] (spGInit K C) := ok_ginit FI B S AD
  have GX : FnOk P w K mg base (L2.CX P w) 4 fi di ["self", "size", "arrows"] (spGInitX K C CA) := ok_ginitX FI B S AD TA
  have hch : FnOk P w K mg base (L2.CX P w) 3 f_check_order d_check_order ["size", "order"] (spCheckX K CO) := ok_checkX F_check_order B ND TO
  have CD : ChkD K mg P w base CO f_check_order d_check_order := ⟨hch, M_check_order, F_check_order.kp, B_check_order⟩
  have hkX : FnOk P w K mg base (L2.CX P w) 4 f_keeps d_keeps ["graph", "order"] (spKeepsX K C CO) := ok_keepsX F_keeps B S CD
  have hk : FnOk P w K mg base CX0 4 f_keeps d_keeps ["graph", "order"] (spKeeps K C) := ok_keeps F_keeps B S CD
  have hne : FnOk P w K mg base CX0 1 f_next_nodes d_next_nodes ["graph", "placed"] (spNext C) := ok_next F_next_nodes B S
  have hfi : FnOk P w K mg base CX0 2 f_first_order d_first_order ["graph"] (spFirst C) := ok_first F_first_order B S hne M_next_nodes F_next_nodes.kp B_next_nodes
  have hfo : FnOk P w K mg base CX0 1 f_following d_following ["self", "node"] (spFollow C) := ok_follow F_following S
  have hpa : FnOk P w K mg base CX0 2 f_path d_path ["self", "start", "goal"] (spPath C) := ok_path F_path B S ⟨hfo, M_following, B_following⟩
  have hri : FnOk P w K mg base CX0 3 f_ring d_ring ["self"] (spRing C) := ok_ring F_ring B S ⟨hpa, M_path, B_path⟩
  have DD : DrwD K mg P w base f_l_draw d_l_draw := ⟨ok_draw F_l_draw B, M_l_draw, F_l_draw.kp, B_l_draw⟩
  have hli : FnOk P w K mg base CX0 2 f_l_lined d_l_lined ["_law_pot_here", "_law_size"] spLined := ok_lined F_l_lined B DD
  have hls : FnOk P w K mg base CX0 3 f_l_listing d_l_listing ["_law_pot_here", "_law_size"] spListing := ok_listing F_l_listing B DD hli M_l_lined F_l_lined.kp B_l_lined
  have has : FnOk P w K mg base CX0 3 f_l_arrows d_l_arrows ["_law_pot_here", "_law_size"] spArrows := ok_arrows F_l_arrows B DD hli M_l_lined F_l_lined.kp B_l_lined
  have hju : FnOk P w K mg base CX0 5 f_l_judged d_l_judged ["_law_graph", "_law_listing_here"] (spJudged K C) := ok_judged F_l_judged B TO (PySem.W.mg_of X G aCA) IO hkX M_keeps F_keeps.kp B_keeps
  have hwi : FnOk P w K mg base CX0 6 f_l_with d_l_with ["_law_size", "_law_arrows_here"] spWith := ok_with F_l_with B S MC TA (PySem.W.mg_of X G aCO) IA GX b0
  have hfd : FnOk P w K mg base CX0 4 f_l_found d_l_found ["_law_graph", "_law_good", "_law_ring_here"] (spFound C) := ok_found F_l_found B S ⟨hfi, M_first_order, F_first_order.kp, B_first_order, hri, M_ring, B_ring⟩
  have OD : OrdD K mg P w base C f_l_orders f_keeps f_l_judged f_l_listing f_l_kept d_l_orders d_keeps d_l_judged d_l_listing d_l_kept := ⟨ok_orders F_l_orders B, M_l_orders, F_l_orders.kp, B_l_orders, hk, M_keeps, F_keeps.kp, B_keeps, hju, M_l_judged, F_l_judged.kp, B_l_judged, hls, M_l_listing, F_l_listing.kp, B_l_listing, ok_lkept F_l_kept B, M_l_kept, F_l_kept.kp, B_l_kept⟩
  have FD : FndD K mg P w base C f_l_ring f_l_found d_l_ring d_l_found := ⟨ok_lring F_l_ring B, M_l_ring, F_l_ring.kp, B_l_ring, hfd, M_l_found, F_l_found.kp, B_l_found⟩
  exact ok_law F_law B S ⟨hwi, M_l_with, F_l_with.kp, B_l_with⟩ DD ⟨ok_pot F_l_pot B, M_l_pot, F_l_pot.kp, B_l_pot⟩ OD FD ⟨GI, MC, b1, v1, b0, kb, e0⟩ ⟨has, M_l_arrows, F_l_arrows.kp, B_l_arrows⟩
theorem walk {l : PySem.W.OpenLaw} {q : Program} {loose : List Str} {XP : (Str → Option Value) → Heap → Prop} {YP : World → Heap → Prop} {d : DefRec} {K : Params → PySem.W.Frag} (hn : l.most = some 63) (hdf : d.params.defaults = [])
    (hY : ∀ (w : World) (h : Heap), YP w h → (K w.params).In h)
    (F : ∀ (w : World) (mg : Str → Option Value) (fa : Addr) (h : Heap), (K w.params).In h → h.Ns mainGlobals mg → mg d.name = some (.ref fa) →
      ∃ fd : FuncData, (∀ (s : Shared) (u : Value), BindsTo s fd ⟨[u], []⟩ [("_law_script", u)]) ∧ ∀ base : Heap, (K w.params).In base → base.Ns mainGlobals mg → FnOk l.prog w (K w.params) mg base CX0 8 fa fd ["_law_script"] (spLaw (K w.params))) :
    PySem.W.WalkO q loose XP YP l.row.toRowW d [] (fun f vs => PySem.call f vs) :=
  L2.walk_of (n := 63) (k := 8) (x := "_law_script") (CX := fun _ => CX0) (sp := fun w => spLaw (K w.params)) hn (by decide) hdf ⟨rfl, by decide, by decide⟩ hY F (fun _ _ a ns hl _ hS => ⟨a, ns, rfl, hS, fun _ => rfl⟩) fun _ _ _ _ _ z => z
end KP
set_option maxRecDepth 100000
open PySem PySem.W PyProof.Rows
set_option maxRecDepth 100000 in
set_option maxHeartbeats 0 in
theorem PySem.Challenge.cw_keptbase_k62_rings_or_first_order_holds : PySem.Challenge.rw_keptbase_k62_rings_or_first_order.Holds := by
  w_on; o_law; k_head; (case hw => w_witness2)
  k_fill
  refine KP.walk (l := PySem.Challenge.rw_keptbase_k62_rings_or_first_order) rfl rfl (fun w h Y => PySem.W.kIn_of Y) ?F
  case F =>
    intro w mg fa h KX G hmg
    refine' KP.all_mk KX G hmg ?top ?aC ?aCA ?aCO ?n_isinstance ?n_int ?n_bool ?n_tuple ?n_list ?n_len ?n_sorted ?n_abs ?n_range ?n_enumerate ?n_set ?n_all ?n_super ?g_is_content ?g_is_numbered ?g_check_order ?g_keeps ?g_next_nodes ?g_first_order ?g_is_arrow ?g_l_pot ?g_l_draw ?g_l_orders ?g_l_lined ?g_l_arrows ?g_l_kept ?g_l_ring ?g_l_listing ?g_l_judged ?g_l_with ?g_l_found ?g_law ?m_path ?m_ring ?m_following ?iF ?eCA ?lCA ?eCO ?lCO ?pgC ?hdC ?poC ?saC ?mkC ?kcC ?cn ?ct ?no1 ?no2 ?qCA ?kCA ?xCA ?tCA ?vCA ?sCA ?mCA ?saCA ?npCA ?gCA ?hCA ?dCA ?cCA ?oCA ?zCA ?qCO ?kCO ?xCO ?tCO ?vCO ?sCO ?mCO ?saCO ?npCO ?gCO ?hCO ?dCO ?cCO ?oCO ?zCO ?tp ?kao ?koa
    (case top => decide +kernel)
    (case aC => k_is)
    (case aCA => k_is)
    (case aCO => k_is)
    (case n_isinstance => k_is)
    (case n_int => k_is)
    (case n_bool => k_is)
    (case n_tuple => k_is)
    (case n_list => k_is)
    (case n_len => k_is)
    (case n_sorted => k_is)
    (case n_abs => k_is)
    (case n_range => k_is)
    (case n_enumerate => k_is)
    (case n_set => k_is)
    (case n_all => k_is)
    (case n_super => k_is)
    (case g_is_content => refine' KP.GlobF.of ?pa_g_is_content ?pl_g_is_content ?pc_g_is_content ?pk_g_is_content; (case pa_g_is_content => k_is); (case pl_g_is_content => k_is); (case pc_g_is_content => k_is); (case pk_g_is_content => k_is))
    (case g_is_numbered => refine' KP.GlobF.of ?pa_g_is_numbered ?pl_g_is_numbered ?pc_g_is_numbered ?pk_g_is_numbered; (case pa_g_is_numbered => k_is); (case pl_g_is_numbered => k_is); (case pc_g_is_numbered => k_is); (case pk_g_is_numbered => k_is))
    (case g_check_order => refine' KP.GlobF.of ?pa_g_check_order ?pl_g_check_order ?pc_g_check_order ?pk_g_check_order; (case pa_g_check_order => k_is); (case pl_g_check_order => k_is); (case pc_g_check_order => k_is); (case pk_g_check_order => k_is))
    (case g_keeps => refine' KP.GlobF.of ?pa_g_keeps ?pl_g_keeps ?pc_g_keeps ?pk_g_keeps; (case pa_g_keeps => k_is); (case pl_g_keeps => k_is); (case pc_g_keeps => k_is); (case pk_g_keeps => k_is))
    (case g_next_nodes => refine' KP.GlobF.of ?pa_g_next_nodes ?pl_g_next_nodes ?pc_g_next_nodes ?pk_g_next_nodes; (case pa_g_next_nodes => k_is); (case pl_g_next_nodes => k_is); (case pc_g_next_nodes => k_is); (case pk_g_next_nodes => k_is))
    (case g_first_order => refine' KP.GlobF.of ?pa_g_first_order ?pl_g_first_order ?pc_g_first_order ?pk_g_first_order; (case pa_g_first_order => k_is); (case pl_g_first_order => k_is); (case pc_g_first_order => k_is); (case pk_g_first_order => k_is))
    (case g_is_arrow => refine' KP.GlobF.of ?pa_g_is_arrow ?pl_g_is_arrow ?pc_g_is_arrow ?pk_g_is_arrow; (case pa_g_is_arrow => k_is); (case pl_g_is_arrow => k_is); (case pc_g_is_arrow => k_is); (case pk_g_is_arrow => k_is))
    (case g_l_pot => refine' KP.GlobF.of ?pa_g_l_pot ?pl_g_l_pot ?pc_g_l_pot ?pk_g_l_pot; (case pa_g_l_pot => k_is); (case pl_g_l_pot => k_is); (case pc_g_l_pot => k_is); (case pk_g_l_pot => k_is))
    (case g_l_draw => refine' KP.GlobF.of ?pa_g_l_draw ?pl_g_l_draw ?pc_g_l_draw ?pk_g_l_draw; (case pa_g_l_draw => k_is); (case pl_g_l_draw => k_is); (case pc_g_l_draw => k_is); (case pk_g_l_draw => k_is))
    (case g_l_orders => refine' KP.GlobF.of ?pa_g_l_orders ?pl_g_l_orders ?pc_g_l_orders ?pk_g_l_orders; (case pa_g_l_orders => k_is); (case pl_g_l_orders => k_is); (case pc_g_l_orders => k_is); (case pk_g_l_orders => k_is))
    (case g_l_lined => refine' KP.GlobF.of ?pa_g_l_lined ?pl_g_l_lined ?pc_g_l_lined ?pk_g_l_lined; (case pa_g_l_lined => k_is); (case pl_g_l_lined => k_is); (case pc_g_l_lined => k_is); (case pk_g_l_lined => k_is))
    (case g_l_arrows => refine' KP.GlobF.of ?pa_g_l_arrows ?pl_g_l_arrows ?pc_g_l_arrows ?pk_g_l_arrows; (case pa_g_l_arrows => k_is); (case pl_g_l_arrows => k_is); (case pc_g_l_arrows => k_is); (case pk_g_l_arrows => k_is))
    (case g_l_kept => refine' KP.GlobF.of ?pa_g_l_kept ?pl_g_l_kept ?pc_g_l_kept ?pk_g_l_kept; (case pa_g_l_kept => k_is); (case pl_g_l_kept => k_is); (case pc_g_l_kept => k_is); (case pk_g_l_kept => k_is))
    (case g_l_ring => refine' KP.GlobF.of ?pa_g_l_ring ?pl_g_l_ring ?pc_g_l_ring ?pk_g_l_ring; (case pa_g_l_ring => k_is); (case pl_g_l_ring => k_is); (case pc_g_l_ring => k_is); (case pk_g_l_ring => k_is))
    (case g_l_listing => refine' KP.GlobF.of ?pa_g_l_listing ?pl_g_l_listing ?pc_g_l_listing ?pk_g_l_listing; (case pa_g_l_listing => k_is); (case pl_g_l_listing => k_is); (case pc_g_l_listing => k_is); (case pk_g_l_listing => k_is))
    (case g_l_judged => refine' KP.GlobF.of ?pa_g_l_judged ?pl_g_l_judged ?pc_g_l_judged ?pk_g_l_judged; (case pa_g_l_judged => k_is); (case pl_g_l_judged => k_is); (case pc_g_l_judged => k_is); (case pk_g_l_judged => k_is))
    (case g_l_with => refine' KP.GlobF.of ?pa_g_l_with ?pl_g_l_with ?pc_g_l_with ?pk_g_l_with; (case pa_g_l_with => k_is); (case pl_g_l_with => k_is); (case pc_g_l_with => k_is); (case pk_g_l_with => k_is))
    (case g_l_found => refine' KP.GlobF.of ?pa_g_l_found ?pl_g_l_found ?pc_g_l_found ?pk_g_l_found; (case pa_g_l_found => k_is); (case pl_g_l_found => k_is); (case pc_g_l_found => k_is); (case pk_g_l_found => k_is))
    (case g_law => refine' KP.GlobF.of ?pa_g_law ?pl_g_law ?pc_g_law ?pk_g_law; (case pa_g_law => k_is); (case pl_g_law => k_is); (case pc_g_law => k_is); (case pk_g_law => k_is))
    (case m_path => refine' KP.MethF.of ?pa_m_path ?pi_m_path ?pl_m_path ?pc_m_path ?pk_m_path; (case pa_m_path => k_is); (case pi_m_path => k_is); (case pl_m_path => k_is); (case pc_m_path => k_is); (case pk_m_path => k_is))
    (case m_ring => refine' KP.MethF.of ?pa_m_ring ?pi_m_ring ?pl_m_ring ?pc_m_ring ?pk_m_ring; (case pa_m_ring => k_is); (case pi_m_ring => k_is); (case pl_m_ring => k_is); (case pc_m_ring => k_is); (case pk_m_ring => k_is))
    (case m_following => refine' KP.MethF.of ?pa_m_following ?pi_m_following ?pl_m_following ?pc_m_following ?pk_m_following; (case pa_m_following => k_is); (case pi_m_following => k_is); (case pl_m_following => k_is); (case pc_m_following => k_is); (case pk_m_following => k_is))
    (case iF => refine' KP.InitF.of ?pa_iF ?pi_iF ?pl_iF ?pc_iF ?pk_iF ?pt_iF ?pz_iF; (case pa_iF => k_is); (case pi_iF => k_is); (case pl_iF => k_is); (case pc_iF => k_is); (case pk_iF => k_is); (case pt_iF => k_is); (case pz_iF => k_is))
    (case eCA => refine' KP.CAF.of ?pa_eCA ?pi_eCA ?pl_eCA ?pc_eCA ?pk_eCA ?pt_eCA ?pn_eCA ?pf_eCA; (case pa_eCA => k_is); (case pi_eCA => k_is); (case pl_eCA => k_is); (case pc_eCA => k_is); (case pk_eCA => k_is); (case pt_eCA => k_is); (case pn_eCA => rfl); (case pf_eCA => decide +kernel))
    (case lCA => refine' KP.CAL.of ?pl_lCA ?pr_lCA; (case pl_lCA => k_is); (case pr_lCA => decide +kernel))
    (case eCO => refine' KP.COF.of ?pa_eCO ?pi_eCO ?pl_eCO ?pc_eCO ?pk_eCO ?pt_eCO ?pn_eCO ?pf_eCO; (case pa_eCO => k_is); (case pi_eCO => k_is); (case pl_eCO => k_is); (case pc_eCO => k_is); (case pk_eCO => k_is); (case pt_eCO => k_is); (case pn_eCO => rfl); (case pf_eCO => decide +kernel))
    (case lCO => refine' KP.COL.of ?pl_lCO ?pr_lCO; (case pl_lCO => k_is); (case pr_lCO => decide +kernel))
    (case pgC => k_is)
    (case hdC => k_is)
    (case poC => k_is)
    (case saC => k_is)
    (case mkC => k_is)
    (case kcC => k_is)
    (case cn => k_is)
    (case ct => k_is)
    (case no1 => k_is)
    (case no2 => k_is)
    (case qCA => kx_is)
    (case kCA => k_is)
    (case xCA => k_is)
    (case tCA => k_is)
    (case vCA => k_is)
    (case sCA => ks_is)
    (case mCA => first | rfl | k_is)
    (case saCA => k_is)
    (case npCA => k_is)
    (case gCA => k_is)
    (case hCA => k_is)
    (case dCA => k_is)
    (case cCA => k_is)
    (case oCA => k_is)
    (case zCA => first | rfl | k_is)
    (case qCO => kx_is)
    (case kCO => k_is)
    (case xCO => k_is)
    (case tCO => k_is)
    (case vCO => k_is)
    (case sCO => ks_is)
    (case mCO => first | rfl | k_is)
    (case saCO => k_is)
    (case npCO => k_is)
    (case gCO => k_is)
    (case hCO => k_is)
    (case dCO => k_is)
    (case cCO => k_is)
    (case oCO => k_is)
    (case zCO => first | rfl | k_is)
    (case tp => k_is)
    (case kao => kit_is)
    (case koa => kit_is)
