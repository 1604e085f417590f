import PyProof.Rows.All
import Wide.All
import OpenK.AllK
import Wide.FinOn
import PyProof.EqAt
import PyProof.EqKinds
import PyProof.TupleCall
import PyProof.TypeEq
import PyProof.TypeOfCall
import HandS.Base
import HandS.Call
import HandS.List
import HandS.Comp
import HandS.Ends
import HandS.Text
import HandS.Iter
import HandS.RevTup
import HandS.Zip
import HandS.Words
import HandS.WordsList
import HandS.Evl
import HandS.ForExc
import HandS.ForMost
import HandS.ForSpec
import HandS.IsInst
import HandS.ExcIs
import HandS.Style
import HandS.Flow
import HandS.Codes
import HandS.SortOrd
import HandS.SortRule
import HandS.SetKeys
import HandS.Conv
import PyProof.DictMoreH
import HandS.SetFor
import KE.GoesRaise
import HandS.DictComp
import HandS.SetBool
import HandS.SetTxt0
import HandS.Sort
import HandS.Strs
import HandS.SetIn
import KE.DataCmp
import HandS.TupLen
import HandS.TupSets
import HandS.Deep
import HandS.StrMore
import HandS.WordsDict
import PySem.Challenge.RW_gluewords_k10_whole_sides
set_option Elab.async false
set_option linter.all false
set_option maxRecDepth 100000
set_option maxHeartbeats 4000000
/-! ## M1 -/
/-! words: letters by their codes, what falls away, the short word -/
namespace Gw
def isL (c : Nat) : Bool := (decide (97 ≤ c) && decide (c ≤ 122)) || (decide (65 ≤ c) && decide (c ≤ 90))
def bk (c : Nat) : Nat := if 97 ≤ c then c - 32 else c + 32
def isW (l : List Nat) : Bool := l.all isL
def inv (l : List Nat) : List Nat := l.reverse.map bk
theorem isL_iff {c : Nat} : isL c = true ↔ (97 ≤ c ∧ c ≤ 122) ∨ (65 ≤ c ∧ c ≤ 90) := by
  unfold isL; simp
theorem isL_bk {c : Nat} (h : isL c = true) : isL (bk c) = true := by
  rw [isL_iff] at *; unfold bk; split <;> omega
theorem bk_bk {c : Nat} (h : isL c = true) : bk (bk c) = c := by
  rw [isL_iff] at h; unfold bk; split <;> split <;> omega
theorem bk_ne {c : Nat} (h : isL c = true) : bk c ≠ c := by
  rw [isL_iff] at h; unfold bk; split <;> omega
theorem bk_inj {a b : Nat} (ha : isL a = true) (hb : isL b = true) (h : bk a = bk b) : a = b := by
  rw [← bk_bk ha, ← bk_bk hb, h]
theorem isW_app {a b : List Nat} : isW (a ++ b) = true ↔ isW a = true ∧ isW b = true := by
  unfold isW; rw [List.all_append, Bool.and_eq_true]
theorem isW_cons {a : Nat} {b : List Nat} : isW (a :: b) = true ↔ isL a = true ∧ isW b = true := by
  unfold isW; rw [List.all_cons, Bool.and_eq_true]
theorem isW_inv {l : List Nat} (h : isW l = true) : isW (inv l) = true := by
  unfold isW inv at *
  rw [List.all_map, List.all_reverse]
  rw [List.all_eq_true] at *
  intro x hx
  exact isL_bk (h x hx)
theorem inv_app (a b : List Nat) : inv (a ++ b) = inv b ++ inv a := by
  unfold inv; rw [List.reverse_append, List.map_append]
theorem inv_cons (a : Nat) (b : List Nat) : inv (a :: b) = inv b ++ [bk a] := by
  unfold inv; rw [List.reverse_cons, List.map_append]; rfl
theorem inv_len (a : List Nat) : (inv a).length = a.length := by unfold inv; simp
theorem inv_inv : ∀ {l : List Nat}, isW l = true → inv (inv l) = l
  | [], _ => rfl
  | a :: l, h => by
    obtain ⟨h1, h2⟩ := isW_cons.mp h
    rw [inv_cons, inv_app, inv_inv h2]
    show [bk (bk a)] ++ l = _
    rw [bk_bk h1]; rfl

/-- no letter right beside its back -/
def Shrt : List Nat → Prop
  | a :: b :: r => b ≠ bk a ∧ Shrt (b :: r)
  | _ => True
instance : ∀ l, Decidable (Shrt l)
  | [] => isTrue trivial
  | [_] => isTrue trivial
  | a :: b :: r => @instDecidableAnd _ _ _ (instDecidableShrt (b :: r))
/-- one pair taken out -/
inductive Out : List Nat → List Nat → Prop
  | mk (u v : List Nat) (a : Nat) (h : isL a = true) : Out (u ++ a :: bk a :: v) (u ++ v)
inductive Red : List Nat → List Nat → Prop
  | refl (u) : Red u u
  | step {u v w} (h : Out u v) (t : Red v w) : Red u w
theorem Red.trans {u v w : List Nat} (a : Red u v) (b : Red v w) : Red u w := by
  induction a with
  | refl u => exact b
  | step h _ ih => exact .step h (ih b)
theorem Out.one {u v : List Nat} (h : Out u v) : Red u v := .step h (.refl _)
theorem Out.app {u v : List Nat} (h : Out u v) (p q : List Nat) : Out (p ++ u ++ q) (p ++ v ++ q) := by
  cases h with
  | mk u v a ha =>
    have := Out.mk (p ++ u) (v ++ q) a ha
    simpa using this
theorem Red.app {u v : List Nat} (h : Red u v) (p q : List Nat) : Red (p ++ u ++ q) (p ++ v ++ q) := by
  induction h with
  | refl u => exact .refl _
  | step h _ ih => exact .step (h.app p q) ih
theorem Red.appL {u v : List Nat} (h : Red u v) (p : List Nat) : Red (p ++ u) (p ++ v) := by
  have := h.app p []; simpa using this
theorem Red.appR {u v : List Nat} (h : Red u v) (p : List Nat) : Red (u ++ p) (v ++ p) := by
  have := h.app [] p; simpa using this
theorem Out.inv {u v : List Nat} (h : Out u v) : Out (inv u) (inv v) := by
  cases h with
  | mk u v a ha =>
    rw [inv_app, inv_app, inv_cons, inv_cons]
    rw [bk_bk ha]
    have := Out.mk (Gw.inv v) (Gw.inv u) a ha
    simpa using this
theorem Red.inv {u v : List Nat} (h : Red u v) : Red (inv u) (inv v) := by
  induction h with
  | refl u => exact .refl _
  | step h _ ih => exact .step h.inv ih
theorem Out.len {u v : List Nat} (h : Out u v) : v.length + 2 = u.length := by
  cases h with
  | mk u v a ha => simp; omega
theorem Out.isW {u v : List Nat} (h : Out u v) (w : isW u = true) : isW v = true := by
  cases h with
  | mk u v a ha =>
    rw [isW_app, isW_cons, isW_cons] at w
    exact isW_app.mpr ⟨w.1, w.2.2.2⟩
theorem Red.isW {u v : List Nat} (h : Red u v) (w : isW u = true) : isW v = true := by
  induction h with
  | refl u => exact w
  | step h _ ih => exact ih (h.isW w)
theorem Red.len {u v : List Nat} (h : Red u v) : v.length ≤ u.length := by
  induction h with
  | refl u => exact Nat.le_refl _
  | step h _ ih => have := h.len; omega

/-- the stack, its top first -/
def push (s : List Nat) (c : Nat) : List Nat :=
  match s with
  | t :: r => if t = bk c then r else c :: t :: r
  | [] => [c]
def stk (s : List Nat) (l : List Nat) : List Nat := l.foldl push s
def short (l : List Nat) : List Nat := (stk [] l).reverse
theorem stk_app (s a b : List Nat) : stk s (a ++ b) = stk (stk s a) b := List.foldl_append
/-- a stack, seen from its top -/
def RS : List Nat → Prop
  | a :: b :: r => a ≠ bk b ∧ RS (b :: r)
  | _ => True
theorem RS.tail {a : Nat} {s : List Nat} (h : RS (a :: s)) : RS s := by
  cases s with
  | nil => trivial
  | cons b r => exact h.2
theorem RS.push {s : List Nat} (h : RS s) (w : isW s = true) {c : Nat} (hc : isL c = true) : RS (push s c) ∧ isW (push s c) = true := by
  cases s with
  | nil => exact ⟨trivial, isW_cons.mpr ⟨hc, rfl⟩⟩
  | cons t r =>
    by_cases e : t = bk c
    · have e1 : Gw.push (t :: r) c = r := if_pos e
      rw [e1]; exact ⟨h.tail, (isW_cons.mp w).2⟩
    · have e1 : Gw.push (t :: r) c = c :: t :: r := if_neg e
      rw [e1]
      refine ⟨⟨fun z => e ?_, h⟩, isW_cons.mpr ⟨hc, w⟩⟩
      rw [z, bk_bk (isW_cons.mp w).1]
theorem RS.stk : ∀ {l s : List Nat}, RS s → isW s = true → isW l = true → RS (stk s l) ∧ isW (stk s l) = true
  | [], s, h, w, _ => ⟨h, w⟩
  | c :: l, s, h, w, hl => by
    obtain ⟨h1, h2⟩ := isW_cons.mp hl
    obtain ⟨a, b⟩ := h.push w h1
    exact RS.stk (l := l) a b h2
theorem push_pair {s : List Nat} (h : RS s) {c : Nat} (hc : isL c = true) : push (push s c) (bk c) = s := by
  cases s with
  | nil => unfold push; simp [bk_bk hc]
  | cons t r =>
    by_cases e : t = bk c
    · have e1 : push (t :: r) c = r := if_pos e
      rw [e1]
      cases r with
      | nil => unfold push; rw [e]
      | cons b r =>
        have : b ≠ bk (bk c) := fun z => h.1 (by rw [e, z, bk_bk hc])
        have e2 : push (b :: r) (bk c) = bk c :: b :: r := if_neg this
        rw [e2, e]
    · have e1 : push (t :: r) c = c :: t :: r := if_neg e
      rw [e1]
      exact if_pos (bk_bk hc).symm
theorem stk_out {u v s : List Nat} (h : Out u v) (hs : RS s) (ws : isW s = true) (w : isW u = true) : stk s u = stk s v := by
  cases h with
  | mk u v a ha =>
    have hu : Gw.isW u = true := (isW_app.mp w).1
    rw [stk_app, stk_app]
    have r := (RS.stk hs ws hu).1
    show stk (push (push (stk s u) a) (bk a)) v = _
    rw [push_pair r ha]
theorem stk_red {u v s : List Nat} (h : Red u v) (hs : RS s) (ws : isW s = true) (w : isW u = true) : stk s u = stk s v := by
  induction h with
  | refl u => rfl
  | step h _ ih => rw [stk_out h hs ws w, ih (h.isW w)]
theorem short_red {u v : List Nat} (h : Red u v) (w : isW u = true) : short u = short v := by
  have e : stk [] u = stk [] v := stk_red (s := []) h True.intro rfl w
  unfold short; rw [e]
/-- a word leads to what the stack holds -/
theorem red_stk : ∀ {l s : List Nat}, isW s = true → isW l = true → Red (s.reverse ++ l) (stk s l).reverse
  | [], s, _, _ => by rw [List.append_nil]; exact .refl _
  | c :: l, s, ws, hl => by
    obtain ⟨h1, h2⟩ := isW_cons.mp hl
    have ih : isW (push s c) = true → Red ((push s c).reverse ++ l) (stk (push s c) l).reverse := fun z => red_stk z h2
    show Red (s.reverse ++ c :: l) (stk (push s c) l).reverse
    cases s with
    | nil => exact ih (isW_cons.mpr ⟨h1, rfl⟩)
    | cons t r =>
      obtain ⟨w1, w2⟩ := isW_cons.mp ws
      by_cases e : t = bk c
      · have e1 : push (t :: r) c = r := if_pos e
        rw [e1] at ih ⊢
        refine .step ?_ (ih w2)
        have := Out.mk r.reverse l t w1
        rw [e, bk_bk h1] at this
        rw [e]; simpa using this
      · have e1 : push (t :: r) c = c :: t :: r := if_neg e
        rw [e1] at ih ⊢
        have := ih (isW_cons.mpr ⟨h1, ws⟩)
        simpa using this
theorem red_short {l : List Nat} (w : isW l = true) : Red l (short l) := red_stk (s := []) rfl w
theorem shrt_app {a b : Nat} : ∀ {l r : List Nat}, Shrt (l ++ a :: b :: r) → b ≠ bk a
  | [], r, h => h.1
  | [c], r, h => h.2.1
  | c :: d :: l, r, h => shrt_app (l := d :: l) h.2
/-- the reverse of a stack is short -/
theorem shrt_snoc : ∀ {l : List Nat} {a b : Nat}, Shrt (l ++ [a]) → b ≠ bk a → Shrt (l ++ [a, b])
  | [], a, b, _, h => ⟨h, trivial⟩
  | [c], a, b, h, h2 => ⟨h.1, h2, trivial⟩
  | c :: d :: l, a, b, h, h2 => ⟨h.1, shrt_snoc (l := d :: l) h.2 h2⟩
theorem RS.shrt : ∀ {s : List Nat}, RS s → isW s = true → Shrt s.reverse
  | [], _, _ => trivial
  | [a], _, _ => trivial
  | a :: b :: r, h, w => by
    have ih := RS.shrt (s := b :: r) h.2 (isW_cons.mp w).2
    rw [List.reverse_cons] at ih ⊢
    rw [List.reverse_cons, List.append_assoc]
    exact shrt_snoc ih h.1
theorem short_shrt {l : List Nat} (w : isW l = true) : Shrt (short l) :=
  (RS.stk (s := []) trivial rfl w).1.shrt (RS.stk (s := []) trivial rfl w).2
theorem short_isW {l : List Nat} (w : isW l = true) : isW (short l) = true := (red_short w).isW w
theorem short_len {l : List Nat} (w : isW l = true) : (short l).length ≤ l.length := (red_short w).len
theorem stk_shrt : ∀ {l s : List Nat}, isW l = true → isW s = true → Shrt (s.reverse ++ l) → stk s l = l.reverse ++ s
  | [], s, _, _, _ => rfl
  | c :: l, s, h, ws, hs => by
    obtain ⟨h1, h2⟩ := isW_cons.mp h
    have e : push s c = c :: s := by
      cases s with
      | nil => rfl
      | cons t r =>
        refine if_neg fun z => ?_
        have : Shrt (r.reverse ++ t :: c :: l) := by simpa using hs
        have := shrt_app this
        exact this (by rw [z, bk_bk h1])
    show stk (push s c) l = _
    rw [e, stk_shrt h2 (isW_cons.mpr ⟨h1, ws⟩) (by simpa using hs)]
    simp
theorem short_of_shrt {l : List Nat} (w : isW l = true) (h : Shrt l) : short l = l := by
  unfold short
  rw [stk_shrt w rfl (by simpa using h)]
  simp
theorem short_short {l : List Nat} (w : isW l = true) : short (short l) = short l := short_of_shrt (short_isW w) (short_shrt w)
/-- whoever leads to a short word leads to the short word -/
theorem short_unique {u v : List Nat} (h : Red u v) (w : isW u = true) (s : Shrt v) : v = short u := by
  rw [short_red h w, short_of_shrt (h.isW w) s]
theorem shrt_inv : ∀ {l : List Nat}, isW l = true → Shrt l → Shrt (inv l)
  | [], _, _ => trivial
  | [a], _, _ => trivial
  | a :: b :: r, w, h => by
    obtain ⟨w1, w2⟩ := isW_cons.mp w
    have ih := shrt_inv w2 h.2
    rw [inv_cons] at ih ⊢
    rw [inv_cons, List.append_assoc]
    refine shrt_snoc ih fun z => h.1 ?_
    rw [z, bk_bk (isW_cons.mp w2).1]
theorem short_inv {l : List Nat} (w : isW l = true) : short (inv l) = inv (short l) :=
  (short_unique (red_short w).inv (isW_inv w) (shrt_inv (short_isW w) (short_shrt w))).symm
theorem short_times {a b : List Nat} (wa : isW a = true) (wb : isW b = true) : short (short a ++ short b) = short (a ++ b) :=
  (short_red (((red_short wa).appR b).trans ((red_short wb).appL (short a))) (isW_app.mpr ⟨wa, wb⟩)).symm
theorem red_inv : ∀ {l : List Nat}, isW l = true → Red (l ++ inv l) []
  | [], _ => .refl _
  | a :: l, w => by
    obtain ⟨w1, w2⟩ := isW_cons.mp w
    rw [inv_cons]
    have := (red_inv w2).app [a] [bk a]
    have t : Red ([a] ++ [] ++ [bk a]) [] := (Out.mk [] [] a w1).one
    have r := this.trans t
    simpa using r
theorem short_nil : short [] = [] := rfl
theorem times_inv {l : List Nat} (w : isW l = true) : short (l ++ inv l) = [] := by
  rw [short_red (red_inv w) (isW_app.mpr ⟨w, isW_inv w⟩), short_nil]
theorem inv_times {l : List Nat} (w : isW l = true) : short (short (inv l) ++ l) = [] := by
  have h := times_inv (isW_inv w)
  rw [inv_inv w] at h
  have r : Red (inv l ++ l) (short (inv l) ++ l) := (red_short (isW_inv w)).appR l
  rw [← short_red r (isW_app.mpr ⟨isW_inv w, w⟩)]
  exact h
theorem shrt_of_none : ∀ {l : List Nat}, (∀ (i : Nat) a b, l[i]? = some a → l[i + 1]? = some b → b ≠ bk a) → Shrt l
  | [], _ => trivial
  | [a], _ => trivial
  | a :: b :: r, h => ⟨h 0 a b rfl rfl, shrt_of_none fun i x y hx hy => h (i + 1) x y (by simpa using hx) (by simpa using hy)⟩
theorem out_at {l : List Nat} {i a : Nat} (h1 : l[i]? = some a) (h2 : l[i + 1]? = some (bk a)) (ha : isL a = true) : Out l (l.take i ++ l.drop (i + 2)) := by
  have hi : i < l.length := (List.getElem?_eq_some_iff.mp h1).1
  have hj : i + 1 < l.length := (List.getElem?_eq_some_iff.mp h2).1
  have e : l = l.take i ++ a :: bk a :: l.drop (i + 2) := by
    have e1 : l[i] = a := (List.getElem?_eq_some_iff.mp h1).2
    have e2 : l[i + 1] = bk a := (List.getElem?_eq_some_iff.mp h2).2
    conv => lhs; rw [← List.take_append_drop i l]
    rw [List.drop_eq_getElem_cons hi, List.drop_eq_getElem_cons hj, e1, e2]
  have := Out.mk (l.take i) (l.drop (i + 2)) a ha
  rw [← e] at this
  exact this
end Gw

/-! ## R1 -/
/-! rules of our own -/
namespace Gw
open PySem PySem.Spec PyProof.Rows L2 RZ

/-! ### type(x) == T -/
inductive Ty6 (H : Hp) : V → String → Prop
  | non : Ty6 H .non "NoneType"
  | bl (b : Bool) : Ty6 H (.bl b) "bool"
  | base {x : V} {T : String} (h : Ty4 H x T) : Ty6 H x T
def rTy6 : List V → Hp → VK → Prop := fun xs H Q => ∃ (x : V) (T : String), xs = [x] ∧ Ty6 H x T ∧ Q (.ty T) H
section
variable {X : Cx}
theorem call_type6 : CallR X (.type "type") rTy6 := by
  intro pz s σ H xs us Q I r h
  obtain ⟨x, T, rfl, t, q⟩ := h
  obtain ⟨u, rfl, rX⟩ := vals1 r
  cases t with
  | non =>
    cases (show u = Value.none from rX)
    exact call_type_of (Tx := "NoneType") rfl (by decide +kernel) ⟨.ty _, H, I, rfl, q⟩
  | bl b =>
    cases (show u = Value.bool b from rX)
    exact call_type_of (Tx := "bool") rfl (by decide +kernel) ⟨.ty _, H, I, rfl, q⟩
  | base t =>
    obtain ⟨h1, h2⟩ := t.is I rX
    exact call_type_of h1 h2 ⟨V.ty T, H, I, rfl, q⟩
def rEqTy : R2 := fun x y H Q => ∃ a b, x = .ty a ∧ y = .ty b ∧ (∀ s' : Shared, s'.TypeIs (.type a) "type") ∧ (∀ s' : Shared, s'.TypeIs (.type b) "type") ∧ Q (.bl (decide (a = b))) H
theorem op_eqTy : OpR X (compareOp .Eq) rEqTy := by
  intro pz s σ H x y v u Q I rX rY h
  obtain ⟨a, b, rfl, rfl, ha, hb, q⟩ := h
  cases (show v = Value.type a from rX)
  cases (show u = Value.type b from rY)
  by_cases e : a = b
  · subst e
    exact PySem.TypeEq.eq_type_same ha ⟨.bl true, H, I, rfl, by simpa using q⟩
  · refine PySem.TypeEq.eq_type_other ha hb ?_ ⟨.bl false, H, I, rfl, by simpa [e] using q⟩
    rw [Bool.eq_false_iff]
    intro z
    exact e (Value.type.inj (beq_iff_eq.mp z))
/-! ### swapcase -/
theorem mt_swapcase : MtR X "str.swapcase" (fun x xs H Q => ∃ a, x = .str a ∧ xs = [] ∧ a.length ≤ 5592405 ∧ Q (.str (Txt.swapcase a)) H) :=
  mt0 (C := fun a => a.length ≤ 5592405) (g := fun a => .str (Txt.swapcase a)) fun a _ s _ hc h =>
    PySem.SC.swapcase (PyProof.Rows.short24 (by have h1 : a.length ≤ 5592405 := hc; have := PyProof.Rows.len_swapcase a; omega)) (h _ (s.toks + 1) ⟨_, rfl⟩)
/-! ### z[::-1] of a text -/
def revS (z : Str) : Str := ⟨z.cps.toList.reverse.toArray⟩
def tRevS (te : TE) : TE := fun σ H Q => te σ H fun x HE => ∃ z, x = .str z ∧ z.length ≤ sizeLine ∧ Q (.str (revS z)) HE
theorem sidx_rev (n : Nat) : Builtin.Str.strSliceIndices none none (-1) n = (List.range n).reverse := by
  show sliceRange ((n : Int) - 1) (-1) (-1) = _
  rw [PySem.W.krv_sliceRange, PySem.W.krv_range]
theorem arr_all {α : Type} (xs : Array α) : (List.range xs.size).filterMap (xs[·]?) = xs.toList := by
  have pk := pick_run xs 0 xs.size
  have e : (List.range xs.size).map (fun k => 0 + k) = List.range xs.size := by
    simp
  rw [e, List.drop_zero, List.take_of_length_le (by rw [Array.length_toList]; exact Nat.le_refl _)] at pk
  exact pk
theorem pe_revS {e : Expr} {te : TE} {k : Nat} {p1 p2 p3 pos : Pos} (he : PE X e te) : PE X (.Subscript e (.Slice none none (some (.UnaryOp .USub (.Constant (.int 1) k p1) p2)) p3) pos) (tRevS te) := by
  refine ⟨fun pz s σ H Q I h => ?_⟩
  refine Subscript_ (thn (he.run pz s σ H _ I h) fun v sE ⟨x, HE, IE, rE, qE⟩ => ?_)
  obtain ⟨z, ex, hz, q⟩ := qE
  subst ex
  obtain ⟨tz, rfl⟩ := rE
  have hStep : PO X (some (.UnaryOp .USub (.Constant (.int 1) k p1) p2)) (tPart (tUn (rU fun i => .int (-i)) (tC (.int 1)))) := po_some (pe_un un_neg pe_int)
  refine wpAny_Slice (thn (po_none.run pz sE σ HE (fun o Hl => o = none ∧ Hl = HE) IE ⟨rfl, rfl⟩) fun vl sl ⟨l, Hl, Il, pl, el, e2⟩ => ?_)
  subst el e2
  refine thn (po_none.run pz sl σ Hl (fun o Hu => o = none ∧ Hu = Hl) Il ⟨rfl, rfl⟩) fun vu su ⟨u, Hu, Iu, pu, eu, e3⟩ => ?_
  subst eu e3
  refine thn (hStep.run pz su σ Hu (fun o Hv => o = some (-1) ∧ Hv = Hu) Iu ⟨1, rfl, -1, rfl, rfl, rfl⟩) fun vs sv ⟨o, Hv, Iv, ps, eo, e4⟩ => ?_
  subst eo e4
  have Jv : Inv X pz σ Hv { sv with heap := sv.heap.push { cls := .type "slice", data := .fields #[vl, vu, vs] } } := Iv.kept (t' := sv.toks) fun b ob q => Heap.get?_push_of_some _ q
  obtain ⟨l, rfl, el⟩ := IsPart.raw pl
  obtain ⟨u, rfl, eu⟩ := IsPart.raw pu
  obtain ⟨p, rfl, ep⟩ := IsPart.raw ps
  show wpAny (model X.prog X.w) X.A (subscriptTail e (.Slice none none (some (.UnaryOp .USub (.Constant (.int 1) k p1) p2)) p3) (.str z tz) (.ref sv.heap.objs.size)) (EP X pz σ Q) X.xe _
  refine tail_any (ops := [.ref sv.heap.objs.size, .str z tz]) (typeIs_str _ _ _) F.slot_str_getitem.lookup ?_ (by with_unfolding_all rfl)
  refine wpAny_getItem_str_slice (l := l) (u := u) (st := p) ⟨_, Heap.get?_push_size _ rfl, rfl, rfl⟩ (by rw [ep]; rfl) ?_
  have e5 : slicePicked z l u p = (List.range z.length).reverse := by
    unfold slicePicked
    rw [el, eu, ep]
    exact sidx_rev z.length
  have e6 : ((slicePicked z l u p).filterMap (z.cps[·]?)).toArray = z.cps.toList.reverse.toArray := by
    rw [e5, List.filterMap_reverse]
    have := arr_all z.cps
    rw [show z.length = z.cps.size from rfl, this]
  unfold sliceMade
  rw [e6, ep]
  show Made.post (Made.str (revS z)) (EP X pz σ Q) _
  exact ⟨by show (z.cps.toList.reverse.toArray).size ≤ sizeLine; rw [List.size_toArray, List.length_reverse, Array.length_toList]; exact hz, .str _, Hv, Jv.tok _, ⟨_, rfl⟩, q⟩
end

/-! ### reversed(text) -/
theorem norev_str : typeLookup (.type "str") "__reversed__" = pure none := by rw [typeLookup_type, builtinLookup_eq_fast]; kernel_rfl
theorem get_str : typeLookup (.type "str") "__getitem__" = pure (some (.builtin "str.__getitem__")) := by rw [typeLookup_type, builtinLookup_eq_fast]; kernel_rfl
theorem no_dict_str : isSubtype (.type "str") (.type "dict") = pure false := by rw [isSubtype_type]; kernel_rfl
def rsObj (z : Str) (t : Tok) (i : Int) : Obj := { cls := .type "reversed", data := .fields #[.str z t, rawInt i] }
def IsRs (h : Heap) (a : Addr) (z : Str) (t : Tok) (i : Int) : Prop := ∃ o, h.get? a = some o ∧ o.cls = .type "reversed" ∧ o.data = .fields #[.str z t, rawInt i]
theorem IsRs.at {h h' : Heap} {a : Addr} {z : Str} {t : Tok} {i : Int} (x : IsRs h a z t i) (e : ∀ o, h.get? a = some o → h'.get? a = some o) : IsRs h' a z t i := let ⟨o, hO, r⟩ := x; ⟨o, e _ hO, r⟩
section
variable {prog : Program} {w : World} {s : Shared} {A : Around} {E : Value → Shared → Prop}
theorem IsRs.typeIs {a : Addr} {z : Str} {t : Tok} {i : Int} (x : IsRs s.heap a z t i) : s.TypeIs (.ref a) "reversed" := let ⟨o, hO, hc, _⟩ := x; ⟨o, hO, hc⟩
theorem code_reversed_str {z : Str} {t : Tok} {Q₁ : Value → Shared → Prop}
    (hlen : ∀ (A : Around) (E : Value → Shared → Prop) (Q : Value → Shared → Prop), Q (.int z.length (s.toks + 1)) { s with toks := s.toks + 1 + 1 } → wpAny (model prog w) A (call (.builtin "len") [.str z t]) Q E s)
    (h : Q₁ (.ref s.heap.objs.size) { s with heap := s.heap.push (rsObj z t ((z.length : Int) - 1)), toks := s.toks + 1 + 1 }) :
    codeAny (model prog w) A (.call (.builtin "reversed.__new__") ⟨[.type "reversed", .str z t], []⟩) (wants Q₁ E) s := by
  have tyS : s.TypeIs (.str z t) "str" := typeIs_str _ _ _
  refine codeAny_of_tree ?_
  show wpAny _ A.in1 (do checkBuiltinCall "reversed.__new__" ⟨[.type "reversed", .str z t], []⟩; again (.builtin "reversed.__new__" ⟨[.type "reversed", .str z t], []⟩)) _ _ s
  refine wpAny_bind (wpAny_of_eq (F.newCall_reversed_1 _) (wpAny_pure ⟨plainId_quiet F.plain_reversed_new _, codeAny_builtin F.entry_reversed_new ?_⟩)); rw [Around.under_plainId F.plain_reversed_new _]
  unfold Builtin.«reversed.__new__»; refine wpAny_bind (wpAny_of_eq (newClass_reversed _) ?_)
  try dsimp only
  refine wpAny_bind (wpAny_of_eq (a := ()) (by first | rfl | kernel_rfl) ?_); try dsimp only
  refine wpAny_bind (wpAny_of_eq (a := ()) (by first | rfl | kernel_rfl) ?_); try dsimp only
  refine wpAny_bind (wpAny_specialOf tyS norev_str ?_)
  try dsimp only
  refine wpAny_bind ?_
  wp_delta
  refine wpAny_bind (wpAny_isInstance (T := "str") (U := "dict") (b := false) tyS no_dict_str ?_)
  try dsimp only
  try rw [if_neg Bool.false_ne_true]; try dsimp only
  refine wpAny_bind (wpAny_specialOf tyS get_str ?_)
  try dsimp only
  try rw [if_pos (by decide +kernel)]; refine wpAny_pure ?_
  try dsimp only
  try rw [if_neg (by decide)]
  try dsimp only
  refine wpAny_bind (hlen _ _ _ ?_); refine wpAny_bind (wpAny_of_eq (a := some ((z.length : Nat) : Int)) rfl ?_)
  try dsimp only
  refine wpAny_bind ?_
  show wpAny _ _ (newObj (.type "reversed") (.fields #[.str z t, rawInt ((z.length : Int) - 1)])) _ _ _
  refine wpAny_newObj_type ?_
  exact wpAny_pure h

theorem call_reversed_str {z : Str} {t : Tok} {Q : Value → Shared → Prop}
    (hlen : ∀ (A : Around) (E : Value → Shared → Prop) (Q : Value → Shared → Prop), Q (.int z.length (s.toks + 1)) { s with toks := s.toks + 1 + 1 } → wpAny (model prog w) A (call (.builtin "len") [.str z t]) Q E s)
    (h : Q (.ref s.heap.objs.size) { s with heap := s.heap.push (rsObj z t ((z.length : Int) - 1)), toks := s.toks + 1 + 1 }) : wpAny (model prog w) A (call (.type "reversed") [.str z t]) Q E s := by
  refine callType_codes (Q₁ := fun obj s₁ => s₁.TypeIs obj "reversed" ∧ Q obj s₁) RT.called_rt (F.typeCall_reversed_1 _) F.entry_object_init
    (code_reversed_str (A := A.in1) hlen ⟨⟨_, Heap.get?_push_size _ rfl, rfl⟩, h⟩) fun obj s₁ h₁ => ?_
  exact ⟨h₁.1, F.args_object_init_2 obj _, object_init_meets RT.called_rt.init.lookup RT.called_rt.made (by decide) prog w A.in1 _ s₁ ⟨h₁.1, rfl, h₁.2⟩⟩

theorem next_rs_item {it : Addr} {z : Str} {t : Tok} {i : Nat} {c : Nat} {Q : Option Value → Shared → Prop} (hI : IsRs s.heap it z t (i : Int)) (hx : z.cps[i]? = some c) (hsz : z.length ≤ sizeLine)
    (kQ : ∀ h' t' tk, IsRs h' it z t ((i : Int) - 1) → Heap.SameBut it s.heap h' → Q (some (.str ⟨#[c]⟩ t')) { s with heap := h', toks := tk }) : wpAny (model prog w) A (pyNext (.ref it)) Q E s := by
  obtain ⟨o, hO, hc, hD⟩ := id hI
  have hi : i < z.cps.size := (Array.getElem?_eq_some_iff.mp hx).1
  have hi' : i < z.length := hi
  have tyS : s.TypeIs (.str z t) "str" := typeIs_str _ _ _
  rw [sizeLine_eq] at hsz
  unfold pyNext
  refine wpAny_bind (wpAny_attempt (wpAny_callSpecial?_slot (name := Str.ofString "__next__") hI.typeIs RT.slot_rt_next
    (wpAny_call_entry RT.slot_rt_next hI.typeIs RT.entry_rt_next ?_ (RT.args_rt_next _))))
  unfold Builtin.«reversed.__next__»; refine wpAny_bind (wpAny_of_eq (a := (Value.ref it, [])) rfl ?_)
  try dsimp only
  refine wpAny_bind (wpAny_field hO hD (x := .str z t) rfl ?_)
  try dsimp only
  refine wpAny_bind (wpAny_field hO hD (x := rawInt (i : Int)) rfl ?_)
  show wpAny _ _ (if (i : Int) < 0 then _ else _) _ _ s; rw [if_neg (by omega)]
  try dsimp only
  refine wpAny_bind (wpAny_specialOf tyS get_str ?_)
  try dsimp only
  try rw [if_neg (by decide)]
  try dsimp only
  refine wpAny_bind (wpAny_mkInt ?_); refine wpAny_bind (wpAny_attempt ?_)
  have fin : seqIndex? (i : Int) z.length = some i := seqIndex_of (by omega) (by omega)
  refine getItem_str (c := c) (s := { s with toks := s.toks + 1 }) (by
    have e1 : decide ((i : Int) < -(2 ^ 63 : Int)) = false := decide_eq_false (by omega)
    have e2 : decide ((i : Int) ≥ 2 ^ 63) = false := decide_eq_false (by omega)
    rw [e1, e2, Bool.or_false]) (by rw [fin]; exact hx) ?_
  try dsimp only
  refine wpAny_bind (wpAny_field hO hD (x := rawInt (i : Int)) rfl ?_)
  try dsimp only
  refine wpAny_bind (wpAny_setField hO hD (by simp) ?_)
  first
  | refine wpAny_pure ⟨_, rfl, wpAny_pure (kQ _ _ _ ?_ (Heap.SameBut.update ..))⟩
  | refine wpAny_bind (wpAny_pure (wpAny_pure ⟨_, rfl, wpAny_pure (kQ _ _ _ ?_ (Heap.SameBut.update ..))⟩))
  exact ⟨_, Heap.get?_update_self _ hO (Obj.isFreed_of_fields (Obj.data_mapFields hD _)), (Obj.cls_mapFields ..).trans hc, by
    rw [Obj.data_mapFields hD]; simp⟩
theorem next_rs_end {it : Addr} {z : Str} {t : Tok} {Q : Option Value → Shared → Prop} (hh : A.handled = none) (hI : IsRs s.heap it z t (-1))
    (kQ : ∀ h', Heap.ExtBut it s.heap h' → Q none { s with heap := h' }) : wpAny (model prog w) A (pyNext (.ref it)) Q E s := by
  obtain ⟨o, hO, hc, hD⟩ := id hI
  unfold pyNext
  refine wpAny_bind (wpAny_attempt (wpAny_callSpecial?_slot (name := Str.ofString "__next__") hI.typeIs RT.slot_rt_next
    (wpAny_call_entry RT.slot_rt_next hI.typeIs RT.entry_rt_next ?_ (RT.args_rt_next _))))
  unfold Builtin.«reversed.__next__»; refine wpAny_bind (wpAny_of_eq (a := (Value.ref it, [])) rfl ?_)
  try dsimp only
  refine wpAny_bind (wpAny_field hO hD (x := .str z t) rfl ?_)
  try dsimp only
  refine wpAny_bind (wpAny_field hO hD (x := rawInt (-1)) rfl ?_)
  show wpAny _ _ (if (-1 : Int) < 0 then _ else _) _ _ s; rw [if_pos (by decide)]
  try dsimp only
  refine wpAny_bind (wpAny_rule ?_); refine wpAny_bind ?_
  wp_delta
  refine wpAny_bind (wpAny_setField hO hD (by simp) ?_)
  have hOb := Heap.get?_update_self (Obj.mapFields (·.setIfInBounds 1 (rawInt (-1)))) hO (Obj.isFreed_of_fields (Obj.data_mapFields hD _))
  refine wpAny_setField (s := { s with heap := s.heap.update it (Obj.mapFields (·.setIfInBounds 1 (rawInt (-1)))) }) hOb (Obj.data_mapFields hD _) (by simp) ?_
  try dsimp only
  first
  | (show wpAny _ _ (newExc (.type "StopIteration") [] >>= _) _ _ _)
  | (refine wpAny_bind (?_); show wpAny _ _ (newExc (.type "StopIteration") [] >>= _) _ _ _)
  | (refine wpAny_bind (?_); wp_delta; show wpAny _ _ (newExc (.type "StopIteration") [] >>= _) _ _ _)
  refine wpAny_bind ?_
  simp only [newExc, newTuple]
  refine wpAny_bind (wpAny_newObj_type ?_ (by size_fits)); refine wpAny_bind (m := firstArgMember _ _) (wpAny_of_eq (a := Value.none) (by first | rfl | (simp only [firstArgMember]; rfl)) ?_)
  refine wpAny_newObj_type ?_ (by size_fits); simp only [raiseNew]
  refine wpAny_bind (wpAny_handled ?_); (first | rw [show A.in1.handled = none from hh] | rw [hh])
  refine wpAny_bind (wpAny_pure (wpAny_throw ?_)); refine wpAny_bind (wpAny_isInstance (T := "StopIteration") (b := true) ⟨_, Heap.get?_push_size _ rfl, rfl⟩ isSubtype_stop ?_)
  refine wpAny_pure (kQ _ ?_)
  refine ((?_ : Heap.ExtBut it s.heap _).push _).push _; exact fun b ob hb e => (Heap.get?_update_other _ _ (Ne.symm hb)).trans ((Heap.get?_update_other _ _ (Ne.symm hb)).trans e)
theorem iter_rs {it : Addr} {z : Str} {t : Tok} {i : Int} {Q : Value → Shared → Prop} (hI : IsRs s.heap it z t i) (h : Q (.ref it) s) : wpAny (model prog w) A (pyIter (.ref it)) Q E s := by
  refine wpAny_pyIter_slot hI.typeIs RT.slot_rt_iter (wpAny_call_entry RT.slot_rt_iter hI.typeIs RT.entry_rt_iter ?_ (RT.args_rt_iter _))
  show wpAny _ _ (ret (.ref it)) _ _ s; exact wpAny_pure ⟨_, rfl, "reversed", _, hI.typeIs, RT.slot_rt_next.lookup, h⟩
end
/-- the signs of z, from the last one on -/
def ItvS (z : Str) : It := ⟨fun i _ => i < z.length, fun i H x H' => H' = H ∧ ∃ c, z.cps[z.length - 1 - i]? = some c ∧ x = .str ⟨#[c]⟩, fun i _ => z.length ≤ i⟩
theorem turn_rs {P : Program} {w : World} {K : PySem.W.Frag} {tg : Expr} (z : Str) (t : Tok) (it : Addr) (hsz : z.length ≤ sizeLine) : Turn P w K tg (ItvS z) [it] it (fun i h => i ≤ z.length ∧ IsRs h it z t ((z.length : Int) - 1 - (i : Nat))) where
  mem := by simp
  obj := fun i h sT b hb => by
    have e : b = it := (by simpa using hb)
    subst e
    obtain ⟨_, o, e, c, d⟩ := sT
    exact ⟨o, e, fun v q => by rw [d] at q; cases q⟩
  keep := fun i h h' sT k => ⟨sT.1, sT.2.at fun o e => k it (by simp) o e⟩
  item := by
    intro X eP ew eK hc i pz s σ H E I hF sT hGo
    subst eP ew eK
    have hin : i < z.length := hGo
    have hlt : z.length - 1 - i < z.cps.size := by show _ < z.length; omega
    have hx : z.cps[z.length - 1 - i]? = some z.cps[z.length - 1 - i] := Array.getElem?_eq_getElem hlt
    obtain ⟨g0, g1, g2, g3, g4, g5⟩ := hF it (by simp)
    obtain ⟨_, hI⟩ := sT
    have e1 : (z.length : Int) - 1 - ((i : Nat) : Int) = ((z.length - 1 - i : Nat) : Int) := by omega
    rw [e1] at hI
    refine next_rs_item hI hx hsz fun h' t' tk st' sb => ?_
    have e2 : ((z.length - 1 - i : Nat) : Int) - 1 = (z.length : Int) - 1 - ((i + 1 : Nat) : Int) := by omega
    rw [e2] at st'
    have IE : Inv X pz σ H { s with heap := h', toks := tk } := I.turned (t' := tk) (fun b o hb e => (sb.2 b hb).trans e) g0 g1 g3 g4 g5
    obtain ⟨o, e, c, d⟩ := id st'
    exact ⟨_, rfl, go_of (s := { s with heap := h', toks := tk }) e c d (by decide) ⟨.str _, H, IE, ⟨_, rfl⟩, ⟨rfl, _, hx, rfl⟩, ⟨hin, st'⟩, fun b hb => (hF b hb).1⟩⟩
  done := by
    intro X eP ew eK hc i pz s σ H E I hF sT hGo
    subst eP ew eK
    obtain ⟨g0, g1, g2, g3, g4, g5⟩ := hF it (by simp)
    obtain ⟨hin, hI⟩ := sT
    have hge : z.length ≤ i := hGo
    have e1 : (z.length : Int) - 1 - ((i : Nat) : Int) = -1 := by omega
    rw [e1] at hI
    exact next_rs_end (I.ok.hd hc) hI fun h' eb => ⟨rfl, I.turned (t' := s.toks) (fun b o hb e => eb b o hb e) g0 g1 g3 g4 g5⟩
  self := fun A i s Q E sT h => iter_rs sT.2 h
def iRevS (te : TE) : TI := fun σ H R => te σ H fun v HE => ∃ z, v = .str z ∧ z.length ≤ sizeLine ∧ R (ItvS z) HE
section
variable {X : Cx} {tg : Expr}
theorem pi_revS {e : Expr} {te : TE} {p pos : Pos} (hGo : Gl X "reversed") (hm : X.mg "reversed" = none) (he : PE X e te) (hs : starEach [e] X.env = (false, eval e X.env) :: starEach [] X.env := by rfl) : PI X tg (.Call (.Name "reversed" p) [e] [] pos) (iRevS te) := by
  refine ⟨fun pz s σ H R I h => ?_⟩
  refine Call_ (ld_blt I hGo hm PyProof.Rows.boot_reversed (PyProof.Rows.callWith_type1 (args_cons (thn (he.run pz s σ H _ I h) fun u sE ⟨v, HE, IE, rE, qE⟩ => args_nil ?_) hs) hs rfl))
  obtain ⟨z, ev, hz, q⟩ := qE
  subst ev
  obtain ⟨t, rfl⟩ := rE
  have hn := line63
  refine call_reversed_str (fun A E Q k => len_str (by omega) k) (iter_rs (z := z) (t := t) (i := (z.length : Int) - 1) ⟨_, Heap.get?_push_size _ rfl, rfl, rfl⟩ ?_)
  refine pi_one (tk := sE.toks + 1 + 1) IE _ (turn_rs z t _ hz) ⟨Nat.zero_le _, ?_⟩ q
  exact ⟨_, Heap.get?_push_size _ rfl, rfl, by simp [rsObj]⟩
end
end Gw

/-! ## R2 -/
namespace Gw
open PySem PySem.Spec PyProof.Rows L2 Evl

/-! ### defs of the text, and what they keep -/
structure Def (K : PySem.W.Frag) (mg : Str → Option Value) (x : Str) (st : Stmt) (ps : List Str) : Prop where
  ex : ∃ f fd, Fun K x x st f fd ∧ mg x = some (.ref f) ∧ Binds K fd ps []
structure Cal (P : Program) (w : World) (K : PySem.W.Frag) (mg : Str → Option Value) (base : Heap) (CX : CXT) (x : Str) (k : Nat) (ps : List Str) (sp : Sp) : Prop where
  ex : ∃ f fd, FnOk P w K mg base CX k f fd ps sp ∧ mg x = some (.ref f) ∧ PySem.W.keepIn K (.ref f) = true ∧ Binds K fd ps [] ∧ ∃ oc od osl, K.lookup f = some ⟨oc, od, .func fd, osl⟩
section
variable {X : Cx} {CX : CXT} {k : Nat} {ps : List Str} {sp : Sp} {E : XK} {x : Str} {p pos : Pos} {e : Expr} {es : List Expr} {t : TA}
theorem pe_callC (c : Cal X.prog X.w X.K X.mg X.base CX x k ps sp) (hr : Room k X.A) (hg : Gl X x) (hx : Passes CX X E) (ha : PA X (e :: es) t) (hdb : (x == ("__debug__" : Str)) = false := by decide)
    (he : starEach (e :: es) X.env = (false, eval e X.env) :: starEach es X.env := by rfl) (hpl : (backTo pos (starEach es X.env)).any (·.1) = false := by rfl) :
    PE X (.Call (.Name x p) (e :: es) [] pos) (tCall sp [] E t) := by
  obtain ⟨f, fd, F, hm, hk, hb, _⟩ := c.ex
  exact pe_call F hr hg hm hk hb .nil hx ha hdb he hpl
theorem pe_callCS {E : L2.St → XK} (c : Cal X.prog X.w X.K X.mg X.base CX x k ps sp) (hr : Room k X.A) (hg : Gl X x) (hx : ∀ σ, PassesAt CX X σ (E σ)) (ha : PA X (e :: es) t) (hdb : (x == ("__debug__" : Str)) = false := by decide)
    (he : starEach (e :: es) X.env = (false, eval e X.env) :: starEach es X.env := by rfl) (hpl : (backTo pos (starEach es X.env)).any (·.1) = false := by rfl) :
    PE X (.Call (.Name x p) (e :: es) [] pos) (tCallS sp E t) := by
  obtain ⟨f, fd, F, hm, hk, hb, _⟩ := c.ex
  exact pe_callS F hr hg hm hk hb hx ha hdb he hpl
end
section
variable {P : Program} {w : World} {K : PySem.W.Frag} {mg : Str → Option Value} {base : Heap}
theorem Fun.look {x qual : Str} {st : Stmt} {f : Addr} {fd : FuncData} (F : L2.Fun K x qual st f fd) : ∃ oc od osl, K.lookup f = some ⟨oc, od, .func fd, osl⟩ := by
  obtain ⟨oc, od, _, _, _, _, _, _, osl, _, lk, _⟩ := F.ex
  exact ⟨oc, od, osl, lk⟩
theorem Def.cal {x : Str} {st : Stmt} {N ps : List Str} {k : Nat} {sp : Sp} (D : Def K mg x st ps) (S : FnScope N ps (defScope st)) (len : ∀ vs H Q E, sp vs H Q E → vs.length = ps.length)
    (hbody : ∀ (f : Addr) (cdv : Value) (A : Around) (outer : List Env) (s : Shared) (H : Hp) (vs : List V) (Q : VK) (E : XK), Room k (A.deeper (envOfC x (defScope st) s.heap.objs.size f cdv)) → sp vs H Q E →
      ∃ t, PSs (cxOf CX0 P w K mg base N x (defScope st) f cdv A outer s H E).nox (defBody st) t ∧ t { nx := fun _ H' => Q .non H', rt := Q } (start N vs) H) : Cal P w K mg base CX0 x (k + 1) ps sp := by
  obtain ⟨f, fd, F, hm, hb⟩ := D.ex
  exact ⟨f, fd, F.ok S len (fun cdv A outer s H vs Q E hr h => hbody f cdv A outer s H vs Q E hr h), hm, F.kp, hb, Fun.look F⟩
theorem Def.calX {x : Str} {st : Stmt} {N ps : List Str} {k : Nat} {sp : Sp} (D : Def K mg x st ps) (S : FnScope N ps (defScope st)) (len : ∀ vs H Q E, sp vs H Q E → vs.length = ps.length)
    (hbody : ∀ (f : Addr) (cdv : Value) (A : Around) (outer : List Env) (s : Shared) (H : Hp) (vs : List V) (Q : VK) (E : XK), Room k (A.deeper (envOfC x (defScope st) s.heap.objs.size f cdv)) → sp vs H Q E →
      ∃ t, PSs (cxOf (L2.CX P w) P w K mg base N x (defScope st) f cdv A outer s H E) (defBody st) t ∧ t { nx := fun _ H' => Q .non H', rt := Q } (start N vs) H) : Cal P w K mg base (L2.CX P w) x (k + 1) ps sp := by
  obtain ⟨f, fd, F, hm, hb⟩ := D.ex
  exact ⟨f, fd, F.okX S len (fun cdv A outer s H vs Q E hr h => hbody f cdv A outer s H vs Q E hr h), hm, F.kp, hb, Fun.look F⟩
end

section
variable {X : Cx}
theorem pss_guard {φ : Prop} {st : List Stmt} {t : TS} (h : φ → PSs X st t) : PSs X st (fun D σ H => φ ∧ t D σ H) := ⟨fun pins s σ H D I q => (h q.1).run pins s σ H D I q.2⟩
theorem hz_of {C : Addr} {cls : Value} {d : Option Addr} {oe : Obj} (h : cls = .ref C ∧ d = none) (hz : Zc cls d oe) : Zc (.ref C) none oe := by
  rw [← h.1, ← h.2]; exact hz
end
/-- names that the top leaves to the interpreter -/
structure Blt (mg : Str → Option Value) : Prop where
  z_type : mg "type" = none
  z_str : mg "str" = none
  z_all : mg "all" = none
  z_len : mg "len" = none
  z_range : mg "range" = none
  z_reversed : mg "reversed" = none
  z_isinstance : mg "isinstance" = none
  z_ValueError : mg "ValueError" = none
  z_sorted : mg "sorted" = none
  z_sum : mg "sum" = none
  z_list : mg "list" = none
  z_int : mg "int" = none
  z_bool : mg "bool" = none
  z_tuple : mg "tuple" = none
  z_min : mg "min" = none
  z_max : mg "max" = none
  z_set : mg "set" = none
  z_zip : mg "zip" = none
  z_enumerate : mg "enumerate" = none
  z_abs : mg "abs" = none
  z_any : mg "any" = none
  z_dict : mg "dict" = none
/-- what the top says of the program's errors -/
structure Exn (K : PySem.W.Frag) (mg : Str → Option Value) (C_GlueError C_BadWord C_BadWeb : Addr) : Prop where
  g_GlueError : mg "GlueError" = some (.ref C_GlueError)
  g_BadWord : mg "BadWord" = some (.ref C_BadWord)
  g_BadWeb : mg "BadWeb" = some (.ref C_BadWeb)
  x_BadWord : PySem.W.excIn K C_BadWord [.type "ValueError", .type "Exception", .type "BaseException", .type "object"] "ValueError.__new__" = true
  k_BadWord : PySem.W.keepIn K (.ref C_BadWord) = true
  b_BadWord : PySem.W.subIn K (.ref C_BadWord) (.type "BaseException") = some true
  t_BadWord : PySem.W.typeIn K (.ref C_BadWord) = some (.type "type")
  e_BadWord : PySem.W.exmOne K (.ref C_BadWord) (.ref C_GlueError) = some true
  c_BadWord : ExcC K C_BadWord
  i1 : PySem.W.kitOne K (.ref C_BadWord) (.ref C_BadWord) = some true
  i2 : PySem.W.kitOne K (.ref C_BadWord) (.type "ValueError") = some true
  i3 : PySem.W.kitOne K (.ref C_BadWord) (.ref C_BadWeb) = some false
  x_BadWeb : PySem.W.excIn K C_BadWeb [.type "ValueError", .type "Exception", .type "BaseException", .type "object"] "ValueError.__new__" = true
  k_BadWeb : PySem.W.keepIn K (.ref C_BadWeb) = true
  b_BadWeb : PySem.W.subIn K (.ref C_BadWeb) (.type "BaseException") = some true
  t_BadWeb : PySem.W.typeIn K (.ref C_BadWeb) = some (.type "type")
  e_BadWeb : PySem.W.exmOne K (.ref C_BadWeb) (.ref C_GlueError) = some true
  c_BadWeb : ExcC K C_BadWeb
  w1 : PySem.W.kitOne K (.ref C_BadWeb) (.ref C_BadWeb) = some true
  w2 : PySem.W.kitOne K (.ref C_BadWeb) (.type "ValueError") = some true
  w3 : PySem.W.kitOne K (.ref C_BadWeb) (.ref C_BadWord) = some false
theorem def_mk {K : PySem.W.Frag} {h : Heap} {mg : Str → Option Value} {x : Str} {st : Stmt} {ps : List Str} {f : Addr} {oc : Value} {od an : Option Addr} {osl : Array (Option Value)} {kV doc pm cdv ct : Value} (X : K.In h) (G : h.Ns mainGlobals mg)
    (a : PySem.W.nsIn K mainGlobals x = some (some (.ref f))) (l : K.lookup f = some ⟨oc, od, .func (PySem.W.fnOf x x (defArgs st) (defBody st) (defScope st) .none kV doc pm an cdv ct), osl⟩) (c : PySem.W.codeIn K cdv x = true) (k : PySem.W.keepIn K (.ref f) = true)
    (hb : ∀ (kV doc pm : Value) (an : Option Addr) (cdv ct : Value) (us : List Value), us.length = ps.length → bindArgs (PySem.W.fnOf x x (defArgs st) (defBody st) (defScope st) .none kV doc pm an cdv ct) ⟨us, []⟩ = pure (ps.zip us)) : Def K mg x st ps :=
  ⟨f, _, fun_mk l c k, PySem.W.mg_of X G a, (fun_mk (st := st) l c k).binds hb⟩
theorem Cal.at {P : Program} {w : World} {K : PySem.W.Frag} {mg : Str → Option Value} {base : Heap} {CX : CXT} {x : Str} {k : Nat} {ps : List Str} {sp : Sp} {st : Stmt} {f : Addr} {fd : FuncData} (c : Cal P w K mg base CX x k ps sp) (hm : mg x = some (.ref f)) (F : L2.Fun K x x st f fd) : FnOk P w K mg base CX k f fd ps sp := by
  obtain ⟨f', fd', G, hm', _, _, oc, od, osl, lk⟩ := c.ex
  have e : f' = f := by rw [hm] at hm'; exact (Value.ref.inj (Option.some.inj hm')).symm
  subst e
  obtain ⟨oc2, od2, osl2, lk2⟩ := Fun.look F
  rw [lk] at lk2
  have e2 := Option.some.inj lk2
  injection e2 with _ _ e3 _
  injection e3 with e4
  subst e4
  exact G
theorem kit_self {K : PySem.W.Frag} {C : Addr} : PySem.W.kitOne K (.ref C) (.ref C) = some true := if_pos (beq_self_eq_true _)
theorem kit_type {K : PySem.W.Frag} {C : Addr} {T : String} {b : Bool} (m : PySem.W.kitMeta T = true) (e : PySem.W.subIn K (.ref C) (.type T) = some b) : PySem.W.kitOne K (.ref C) (.type T) = some b := by
  unfold PySem.W.kitOne
  rw [if_neg (by intro z; cases beq_iff_eq.mp z)]
  exact (if_pos m).trans e
theorem kit_other {K : PySem.W.Frag} {C D : Addr} (h1 : PySem.W.subIn K (.ref C) (.ref C) = some true) (h2 : PySem.W.subIn K (.ref C) (.ref D) = some false) (hd : PySem.W.hasDictIn K D = true) (ht : PySem.W.typeIn K (.ref D) = some (.type "type")) : PySem.W.kitOne K (.ref C) (.ref D) = some false := by
  have n : ¬ ((Value.ref C == Value.ref D) = true) := fun z => by
    have e : C = D := Value.ref.inj (beq_iff_eq.mp z)
    subst e
    rw [h1] at h2; cases h2
  unfold PySem.W.kitOne
  rw [if_neg n]
  obtain ⟨cd, hc, _⟩ := PySem.W.any_some hd
  have q : ((PySem.W.clsIn K D).isSome && PySem.W.typeIn K (.ref D) == some (.type "type")) = true := by rw [hc, ht]; rfl
  exact (if_pos q).trans h2
end Gw

/-! ## R3 -/
namespace Gw
open PySem PySem.Spec PyProof.Rows L2 Evl

/-! ### texts by their codes -/
def S (l : List Nat) : Str := ⟨l.toArray⟩
theorem S_len (l : List Nat) : (S l).length = l.length := by show l.toArray.size = _; simp
theorem S_cps (l : List Nat) : (S l).cps.toList = l := by show l.toArray.toList = _; simp
theorem S_app (a b : List Nat) : S a ++ S b = S (a ++ b) := by
  show (⟨a.toArray ++ b.toArray⟩ : Str) = ⟨(a ++ b).toArray⟩
  simp
theorem S_inj {a b : List Nat} (h : S a = S b) : a = b := by
  have := congrArg (fun z : Str => z.cps.toList) h
  simpa [S_cps] using this
theorem S_of (z : Str) : S z.cps.toList = z := by cases z; simp [S]
theorem dec_S {a b : List Nat} : decide (S a = S b) = decide (a = b) := by
  by_cases h : a = b
  · subst h; simp
  · rw [decide_eq_false h, decide_eq_false fun z => h (S_inj z)]
theorem S_sz {l : List Nat} (h : l.length ≤ 100000) : (S l).length ≤ sizeLine := by rw [S_len]; exact sz_of h

/-! ### evaluations, further ones -/
/-- a method of a text -/
def Kp (St : Hp → Prop) : Prop := ∀ H H', Ex H H' → St H → St H'
section
variable {K : PySem.W.Frag} {σ : L2.St} {H H' : Hp} {ta tb tc te tx to : TE} {t u : TT} {x y z v w : V} {r r' : R2}
theorem ev_mS {C : Str → Prop} {g : Str → V} {a : Str} (h : Ev te σ H (.str a)) (hc : C a) : Ev (tM0 (fun x xs H Q => ∃ a, x = .str a ∧ xs = [] ∧ C a ∧ Q (g a) H) te) σ H (g a) := fun H1 e Q q =>
  h H1 e _ fun H2 e2 => ⟨⟨a, rfl⟩, a, rfl, rfl, hc, q H2 e2⟩
theorem ev_joinN {a : Str} {ys : List Str} {xs : List V} (h : Ev to σ H (.str a)) (hl : EvL te σ H xs) (hx : xs = ys.map V.str) (hz : (ys.map (·.length)).sum + ys.length * a.length ≤ 16777216) :
    Ev (tM1 (fun x xs H Q => ∃ a p, ∃ ys : List Str, x = .str a ∧ xs = [.ref p] ∧ (SqL K H p (ys.map V.str) ∨ SqT K H p (ys.map V.str)) ∧ (ys.map (·.length)).sum + ys.length * a.length ≤ 16777216 ∧ Q (.str (Txt.join a ys)) H) to te) σ H (.str (Txt.join a ys)) := fun H1 e Q q =>
  h H1 e _ fun H2 e2 => ⟨⟨a, rfl⟩, hl H2 (e.trans e2) _ fun p H3 _ e3 hp => ⟨a, p, ys, rfl, rfl, Or.inl (sq_of (hp.trans (by rw [hx]))), hz, q H3 (e2.trans e3)⟩⟩
theorem ev_join {a : Str} {ys : List Str} {p : Addr} (h : Ev to σ H (.str a)) (hl : Ev te σ H (.ref p)) (hx : SqL K H p (ys.map V.str)) (hz : (ys.map (·.length)).sum + ys.length * a.length ≤ 16777216) :
    Ev (tM1 (fun x xs H Q => ∃ a p, ∃ ys : List Str, x = .str a ∧ xs = [.ref p] ∧ (SqL K H p (ys.map V.str) ∨ SqT K H p (ys.map V.str)) ∧ (ys.map (·.length)).sum + ys.length * a.length ≤ 16777216 ∧ Q (.str (Txt.join a ys)) H) to te) σ H (.str (Txt.join a ys)) := fun H1 e Q q =>
  h H1 e _ fun H2 e2 => ⟨⟨a, rfl⟩, hl H2 (e.trans e2) _ fun H3 e3 => ⟨a, p, ys, rfl, rfl, Or.inl (ex_l ((e.trans e2).trans e3) hx), hz, q H3 (e2.trans e3)⟩⟩
theorem ev_chain {b1 b2 : Bool} (ha : Ev ta σ H x) (hb : Ev tb σ H y) (hr : RV r x y H (.bl b1)) (hc : Ev tc σ H w) (hr' : RV r' y w H (.bl b2)) : Ev (tChain r r' ta tb tc) σ H (.bl (b1 && b2)) := fun H1 e Q q =>
  ha H1 e _ fun H2 e2 => hb H2 (e.trans e2) _ fun H3 e3 => hr H3 ((e.trans e2).trans e3) _ fun H4 e4 => ⟨b1, rfl, by
    cases b1 with
    | true =>
      show tc σ H4 _
      exact hc H4 (((e.trans e2).trans e3).trans e4) _ fun H5 e5 => hr' H5 ((((e.trans e2).trans e3).trans e4).trans e5) Q fun H6 e6 => q H6 ((((e2.trans e3).trans e4).trans e5).trans e6)
    | false =>
      show Q (.bl false) H4
      exact q H4 ((e2.trans e3).trans e4)⟩
theorem rv_leS {i j : Str} : RV (fun x y H Q => ∃ i j, x = .str i ∧ y = .str j ∧ Q (.bl (!decide (j.cps.toList < i.cps.toList))) H) (.str i) (.str j) H (.bl (!decide (j.cps.toList < i.cps.toList))) := fun H1 _ _ q => ⟨i, j, rfl, rfl, q H1 (Ex.refl H1)⟩
theorem rv_addS {i j : Str} (h : i.length + j.length ≤ sizeLine) : RV (fun x y H Q => ∃ i j, x = .str i ∧ y = .str j ∧ i.length + j.length ≤ sizeLine ∧ Q (.str (i ++ j)) H) (.str i) (.str j) H (.str (i ++ j)) := fun H1 _ _ q => ⟨i, j, rfl, rfl, h, q H1 (Ex.refl H1)⟩
theorem rv_eqTy {a b : String} (ha : ∀ s' : Shared, s'.TypeIs (.type a) "type") (hb : ∀ s' : Shared, s'.TypeIs (.type b) "type") : RV rEqTy (.ty a) (.ty b) H (.bl (decide (a = b))) := fun H1 _ _ q => ⟨a, b, rfl, rfl, ha, hb, q H1 (Ex.refl H1)⟩
theorem rv_isB {a b : Bool} : RV rIsB (.bl a) (.bl b) H (.bl (decide (a = b))) := fun H1 _ _ q => ⟨a, b, rfl, rfl, q H1 (Ex.refl H1)⟩
theorem rv_notB {a b : Bool} : RV rNotB (.bl a) (.bl b) H (.bl (!decide (a = b))) := fun H1 _ _ q => ⟨a, b, rfl, rfl, q H1 (Ex.refl H1)⟩
theorem Ty4.mono {x : V} {T : String} (e : Ex H H') (h : RZ.Ty4 H x T) : RZ.Ty4 H' x T := by
  cases h with
  | int i => exact .int i
  | str x => exact .str x
  | lst h => exact .lst (e _ _ h)
  | tup h => exact .tup (e _ _ h)
theorem Ty6.mono {x : V} {T : String} (e : Ex H H') (h : Ty6 H x T) : Ty6 H' x T := by
  cases h with
  | non => exact .non
  | bl b => exact .bl b
  | base h => exact .base (Ty4.mono e h)
theorem rc_type {x : V} {T : String} (h : Ty6 H x T) : RC rTy6 [x] H (.ty T) := fun H1 e _ q => ⟨x, T, rfl, h.mono e, q H1 (Ex.refl H1)⟩
theorem rc_lenS {z : Str} (h : z.length ≤ sizeLine) : RC (fun xs H Q => ∃ z, xs = [V.str z] ∧ z.length ≤ sizeLine ∧ Q (.int z.length) H) [.str z] H (.int z.length) := fun H1 e _ q => ⟨z, rfl, h, q H1 (Ex.refl H1)⟩
theorem rc_len {p : Addr} {xs : List V} (h : SqL K H p xs) : RC (fun xs H Q => ∃ p ys, xs = [V.ref p] ∧ (SqL K H p ys ∨ SqT K H p ys) ∧ Q (.int ys.length) H) [.ref p] H (.int xs.length) := fun H1 e _ q => ⟨p, xs, rfl, Or.inl (ex_l e h), q H1 (Ex.refl H1)⟩
theorem rc_isiS {z : Str} {n : String} {b : Bool} (h : PySem.W.kitOne K (.type "str") (.type n) = some b) : RC (rIsi K) [.str z, .ty n] H (.bl b) := fun H1 _ _ q => ⟨.str z, .ty n, _, _, b, rfl, .ty n, .base (.str z), h, q H1 (Ex.refl H1)⟩
theorem ev_allN {bs : List Bool} {xs : List V} (h : EvL te σ H xs) (hx : xs = bs.map V.bl) : Ev (tCB (rAll K) (tCons te tNil)) σ H (.bl (bs.all id)) := fun H1 e _ q =>
  h H1 e _ fun p H2 _ e2 hp => ⟨p, bs, rfl, sq_of (hp.trans (by rw [hx])), q H2 e2⟩
theorem ev_slS {tl th : TO} {z : Str} {lo hi : Option Int} (h : Ev te σ H (.str z)) (h1 : EvO tl σ H lo) (h2 : EvO th σ H hi) (hz : z.length ≤ sizeLine) : Ev (tSl rSlS te tl th) σ H (.str (cutS z lo hi)) := fun H1 e _ q =>
  h H1 e _ fun H2 e2 => h1 H2 (e.trans e2) _ fun H3 e3 => h2 H3 ((e.trans e2).trans e3) _ fun H4 e4 => ⟨z, rfl, hz, q H4 ((e2.trans e3).trans e4)⟩
theorem ev_revS {z : Str} (h : Ev te σ H (.str z)) (hz : z.length ≤ sizeLine) : Ev (tRevS te) σ H (.str (revS z)) := fun H1 e _ q => h H1 e _ fun H2 e2 => ⟨z, rfl, hz, q H2 e2⟩
theorem ev_ixN {xs : List V} {i : Int} (ha : EvL ta σ H xs) (hb : Ev tb σ H (.int i)) (hv : atI xs i = some v) : Ev (tOp (rIxL K) ta tb) σ H v :=
  ev_opL1 ha (fun H1 e => hb.mono e) fun p H1 hp e => rv_ixL (sq_of hp) hv

/-! ### what is walked -/
structure Wk (J : It) (items : List V) (St : Hp → Prop) : Prop where
  go : ∀ i H, St H → i < items.length → J.go i H
  yld : ∀ i H x H', St H → i < items.length → J.yld i H x H' → H' = H ∧ items[i]? = some x
  stop : ∀ i H, St H → items.length ≤ i → J.stop i H
def EvW (wi : TI) (σ : L2.St) (H : Hp) (items : List V) (St : Hp → Prop) : Prop := ∀ H0, Ex H H0 → ∀ R : It → Hp → Prop, (∀ J H1, Ex H0 H1 → Wk J items St → R J H1) → wi σ H0 R
theorem ew_list {a : Addr} {xs : List V} (h : Ev te σ H (.ref a)) (hx : SqL K H a xs) : EvW (iList K te) σ H xs (fun H' => SqL K H' a xs) := fun H0 e R q =>
  h H0 e _ fun H1 e1 => ⟨a, rfl, ⟨xs, ex_l (e.trans e1) hx⟩, q _ H1 e1 ⟨fun i H' hs hi => ⟨xs, xs[i], hs, List.getElem?_eq_getElem hi⟩, fun i H' x H'' hs hi hy => ⟨hy.1, by
    have := hy.2 xs hs
    exact this⟩, fun i H' hs hi => ⟨xs, hs, hi⟩⟩⟩
theorem ew_rng1 {n : Int} {ta : TA} (h : EvA ta σ H [.int n]) (hn : -1000000 ≤ n ∧ n ≤ 1000000) : EvW (iRng1 ta) σ H ((List.range n.toNat).map fun i => V.int (i : Nat)) (fun _ => True) := fun H0 e R q =>
  h H0 e _ fun H1 e1 => ⟨n, rfl, by omega, by omega, q _ H1 e1 ⟨fun i H' _ hi => by
    have : i < n.toNat := by simpa only [List.length_map, List.length_range] using hi
    exact this, fun i H' x H'' _ hi hy => ⟨hy.1, by
    have hi' : i < n.toNat := by simpa only [List.length_map, List.length_range] using hi
    rw [hy.2, List.getElem?_map, List.getElem?_range hi']
    show some (V.int ((i : Nat) : Int)) = some (V.int (0 + (i : Int)))
    rw [Int.zero_add]⟩, fun i H' _ hi => by
    have : n.toNat ≤ i := by simpa only [List.length_map, List.length_range] using hi
    exact this⟩⟩
def sgn (c : Nat) : V := .str ⟨#[c]⟩
theorem ew_str {z : Str} (h : Ev te σ H (.str z)) : EvW (iStr te) σ H (z.cps.toList.map sgn) (fun _ => True) := fun H0 e R q =>
  h H0 e _ fun H1 e1 => ⟨z, rfl, q _ H1 e1 ⟨fun i H' _ hi => by
    have : i < z.cps.size := by simpa using hi
    exact this, fun i H' x H'' _ hi hy => ⟨hy.1, by
    obtain ⟨_, c, hc, rfl⟩ := hy
    rw [List.getElem?_map, Array.getElem?_toList, hc]; rfl⟩, fun i H' _ hi => by
    have : z.cps.size ≤ i := by simpa using hi
    exact this⟩⟩
theorem ew_revS {z : Str} (h : Ev te σ H (.str z)) (hz : z.length ≤ sizeLine) : EvW (iRevS te) σ H (z.cps.toList.reverse.map sgn) (fun _ => True) := fun H0 e R q =>
  h H0 e _ fun H1 e1 => ⟨z, rfl, hz, q _ H1 e1 ⟨fun i H' _ hi => by
    have : i < z.cps.size := by simpa using hi
    exact this, fun i H' x H'' _ hi hy => ⟨hy.1, by
    obtain ⟨_, c, hc, rfl⟩ := hy
    have hi' : i < z.cps.toList.length := by simpa using hi
    rw [List.getElem?_map, List.getElem?_reverse hi', Array.getElem?_toList]
    have e : z.cps.toList.length - 1 - i = z.length - 1 - i := by simp [Str.length]
    rw [e, hc]; rfl⟩, fun i H' _ hi => by
    have : z.cps.size ≤ i := by simpa using hi
    exact this⟩⟩
/-- a comprehension over it -/
theorem el_lc {wi : TI} {items : List V} {St : Hp → Prop} {j : Nat} {vs : List Nat} (p : V → Bool) (f : V → V) (h : EvW wi σ H items St) (hst : St H) (hk : Kp St) (hz : items.length ≤ 40000) (hw : ∀ x, wipe ((wipe σ vs).set j (some x)) vs = wipe σ vs)
    (ht : ∀ x ∈ items, ∀ H1, Ex H H1 → EvT t ((wipe σ vs).set j (some x)) H1 (p x)) (he : ∀ x ∈ items, p x = true → ∀ H1, Ex H H1 → Ev te ((wipe σ vs).set j (some x)) H1 (f x)) :
    EvL (tLc wi (gName j) t te vs) σ H ((items.filter p).map f) := fun H0 e Q q => h H0 e _ fun J H1 e1 wk Dl hD => by
  have fl : ∀ n : Nat, (((items.take n).filter p).map f).length ≤ items.length := fun n => by
    rw [List.length_map]
    exact Nat.le_trans (List.length_filter_le _ _) (by rw [List.length_take]; exact Nat.min_le_right _ _)
  refine ⟨fun i m H' => m = items.length - i ∧ i ≤ items.length ∧ Ex H1 H' ∧ H' Dl = some (.lst (((items.take i).filter p).map f)), ⟨items.length, rfl, Nat.zero_le _, Ex.new hD, upd_same⟩, ?_⟩
  rintro i m H' ⟨rfl, hi, ex, hl⟩
  have hs : St H' := hk _ _ ((e.trans e1).trans ex) hst
  by_cases hlt : i < items.length
  · refine .inr ⟨wk.go i H' hs hlt, fun H'' => Ex H1 H'' ∧ H'' Dl = some (.lst (((items.take (i + 1)).filter p).map f)), fun H'' ⟨a, b⟩ => ⟨items.length - (i + 1), by omega, rfl, hlt, a, b⟩, ?_⟩
    intro x H'' hy
    obtain ⟨rfl, hx⟩ := wk.yld i H' x H'' hs hlt hy
    have hm : x ∈ items := List.mem_of_getElem? hx
    have tk : items.take (i + 1) = items.take i ++ [x] := by rw [List.take_add_one, hx]; rfl
    refine ⟨hw x, ?_⟩
    refine ht x hm _ ((e.trans e1).trans ex) H'' (Ex.refl _) _ fun H3 e3 => ?_
    cases hp : p x with
    | true =>
      show te _ H3 _
      refine he x hm hp _ (((e.trans e1).trans ex).trans e3) H3 (Ex.refl _) _ fun H4 e4 => ⟨_, e4 _ _ (e3 _ _ hl), sz_lt (by have := fl i; omega), Ex.mut ((ex.trans e3).trans e4) hD, ?_⟩
      rw [upd_same, tk, List.filter_append, List.map_append, List.filter_cons, if_pos hp]; rfl
    | false =>
      show Ex H1 H3 ∧ H3 Dl = _
      refine ⟨ex.trans e3, ?_⟩
      rw [e3 _ _ hl, tk, List.filter_append, List.map_append, List.filter_cons, if_neg (by rw [hp]; decide)]
      simp
  · refine .inl ⟨wk.stop i H' hs (by omega), q Dl H' (fresh_back e1 hD) (e1.trans ex) ?_⟩
    rw [hl, List.take_of_length_le (by omega)]
theorem et_yes : EvT tYes σ H true := fun H1 _ _ q => q H1 (Ex.refl H1)
/-- .. without a test -/
theorem el_lcA {wi : TI} {items : List V} {St : Hp → Prop} {j : Nat} {vs : List Nat} (f : V → V) (h : EvW wi σ H items St) (hst : St H) (hk : Kp St) (hz : items.length ≤ 40000) (hw : ∀ x, wipe ((wipe σ vs).set j (some x)) vs = wipe σ vs)
    (he : ∀ x ∈ items, ∀ H1, Ex H H1 → Ev te ((wipe σ vs).set j (some x)) H1 (f x)) : EvL (tLc wi (gName j) tYes te vs) σ H (items.map f) := by
  have := el_lc (t := tYes) (fun _ => true) f h hst hk hz hw (fun _ _ _ _ => et_yes) (fun x hx _ => he x hx)
  rw [List.filter_eq_self.mpr fun _ _ => rfl] at this
  exact this
theorem kp_true : Kp fun _ => True := fun _ _ _ _ => trivial
theorem kp_list {a : Addr} {xs : List V} : Kp fun H => SqL K H a xs := fun _ _ e h => ex_l e h
variable {D : Ends} {tu tz : TS} {g : TG}
/-- a loop over it -/
theorem s_for {wi : TI} {items : List V} {St : Hp → Prop} (h : EvW wi σ H items St) (Pv : Nat → L2.St → Hp → Prop) (h0 : ∀ H1, Ex H H1 → Pv 0 σ H1) (hl : ∀ i σ' H', i ≤ items.length → Pv i σ' H' → St H')
    (hs : ∀ i x σ' H', items[i]? = some x → Pv i σ' H' → g x σ' H' fun σ2 H2 => tu { D with nx := Pv (i + 1), ct := Pv (i + 1), bk := D.nx } σ2 H2) (hd : ∀ σ' H', Pv items.length σ' H' → D.nx σ' H') : tFor wi g tu D σ H :=
  h H (Ex.refl H) _ fun J H1 e1 wk => by
    refine ⟨fun i m σ' H' => m = items.length - i ∧ i ≤ items.length ∧ Pv i σ' H', ⟨items.length, rfl, Nat.zero_le _, h0 H1 e1⟩, ?_⟩
    rintro i m σ' H' ⟨rfl, hi, p⟩
    have hst := hl i σ' H' hi p
    by_cases hlt : i < items.length
    · refine .inr ⟨wk.go i H' hst hlt, Pv (i + 1), fun σ2 H2 a => ⟨items.length - (i + 1), by omega, rfl, hlt, a⟩, ?_⟩
      intro x H'' hy
      obtain ⟨rfl, hx⟩ := wk.yld i H' x H'' hst hlt hy
      exact hs i x σ' H'' hx p
    · refine .inl ⟨wk.stop i H' hst (by omega), ?_⟩
      have e : i = items.length := by omega
      subst e
      exact hd σ' H' p
theorem q_for {wi : TI} {items : List V} {St : Hp → Prop} (h : EvW wi σ H items St) (Pv : Nat → L2.St → Hp → Prop) (h0 : ∀ H1, Ex H H1 → Pv 0 σ H1) (hl : ∀ i σ' H', i ≤ items.length → Pv i σ' H' → St H')
    (hs : ∀ i x σ' H', items[i]? = some x → Pv i σ' H' → g x σ' H' fun σ2 H2 => tu { D with nx := Pv (i + 1), ct := Pv (i + 1), bk := tz D } σ2 H2) (hd : ∀ σ' H', Pv items.length σ' H' → tz D σ' H') : tSeq (tFor wi g tu) tz D σ H :=
  s_for (D := { D with nx := tz D }) h Pv h0 hl hs hd
end

section
variable {K : PySem.W.Frag} {σ : L2.St} {H H' : Hp} {ta tb tc te tx to : TE} {t u : TT} {x y z v w : V} {D : Ends} {tz : TS}
/-- a list's truth -/
theorem et_truL {p : Addr} {xs : List V} (h : Ev ta σ H (.ref p)) (hx : SqL K H p xs) : EvT (fun σ H Q => ta σ H fun x H' => ∃ k, TruV K x H' k ∧ Q k H') σ H (!xs.isEmpty) := fun H1 e Q q =>
  h H1 e _ fun H2 e2 => ⟨_, Or.inl ⟨xs, ex_l (e.trans e2) hx, rfl⟩, q H2 e2⟩
theorem s_pop {l : Addr} {xs : List V} (hl : H l = some (.lst xs)) (ha : Ev ta σ H (.ref l)) (hy : xs[xs.length - 1]? = some y) (k : ∀ H1, Ex H H1 → D.nx σ (upd H1 l (.lst xs.dropLast))) : tDrop (tBM0 K "list" rPop ta) D σ H :=
  ha H (Ex.refl H) _ fun H1 e1 => ⟨Or.inl ⟨rfl, xs, sq_of (e1 l _ hl)⟩, l, xs, y, rfl, rfl, e1 l _ hl, hy, k H1 e1⟩
theorem q_pop {l : Addr} {xs : List V} (hl : H l = some (.lst xs)) (ha : Ev ta σ H (.ref l)) (hy : xs[xs.length - 1]? = some y) (k : ∀ H1, Ex H H1 → tz D σ (upd H1 l (.lst xs.dropLast))) : tSeq (tDrop (tBM0 K "list" rPop ta)) tz D σ H :=
  s_pop (D := { D with nx := tz D }) hl ha hy k
end
/-! ### joined signs -/
theorem join_ones : ∀ l : List Nat, Txt.join (S []) (l.map fun c => S [c]) = S l := by
  intro l
  have e := SX.join_S [] (l.map fun c => [c])
  have e2 : (l.map fun c => [c]).map SX.S = l.map fun c => S [c] := by rw [List.map_map]; rfl
  rw [e2] at e
  have j : ∀ l : List Nat, TL.joinL [] (l.map fun c => [c]) = l := by
    intro l
    induction l with
    | nil => rfl
    | cons a r ih =>
      cases r with
      | nil => rfl
      | cons b r =>
        show [a] ++ ([] ++ TL.joinL [] ((b :: r).map fun c => [c])) = _
        rw [ih]; rfl
  rw [j] at e
  exact e
theorem ones_size (l : List Nat) : ((l.map fun c => S [c]).map (·.length)).sum + (l.map fun c => S [c]).length * (S []).length = l.length := by
  rw [S_len, List.length_nil, Nat.mul_zero, Nat.add_zero]
  induction l with
  | nil => rfl
  | cons a r ih => rw [List.map_cons, List.map_cons, List.sum_cons, ih, S_len, List.length_cons]; simp; omega
theorem sgn_map (l : List Nat) : l.map sgn = (l.map fun c => S [c]).map V.str := by rw [List.map_map]; rfl
/-! ### signs turned about -/
theorem swap_tab : ∀ c, c < 123 → isL c = true → Txt.swapcase (S [c]) = S [bk c] := by decide +kernel
theorem swap_one {c : Nat} (h : isL c = true) : Txt.swapcase (S [c]) = S [bk c] := swap_tab c (by rw [isL_iff] at h; omega) h
theorem lower_tab : ∀ c, c < 123 → isL c = true → Txt.lower (S [c]) = S [if 97 ≤ c then c else c + 32] := by decide +kernel
theorem lower_one {c : Nat} (h : isL c = true) : Txt.lower (S [c]) = S [if 97 ≤ c then c else c + 32] := lower_tab c (by rw [isL_iff] at h; omega) h
theorem upper_tab : ∀ c, c < 123 → isL c = true → Txt.upper (S [c]) = S [if 97 ≤ c then c - 32 else c] := by decide +kernel
theorem upper_one {c : Nat} (h : isL c = true) : Txt.upper (S [c]) = S [if 97 ≤ c then c - 32 else c] := upper_tab c (by rw [isL_iff] at h; omega) h

/-! ### flat data compared -/
def flat1 : V → Bool
  | .non | .bl _ | .int _ => true
  | .str x => PyData.canLay0 (.str x)
  | _ => false
def fd : V → PyData
  | .bl b => .bool b
  | .int i => .int i
  | .str x => .str x
  | _ => .none
theorem dp_flat {K : PySem.W.Frag} {H : Hp} : ∀ {x : V}, flat1 x = true → Dp K H x (fd x)
  | .non, _ => .non
  | .bl b, _ => .bl b
  | .int i, _ => .int i
  | .str x, _ => .str x
theorem dpAll_flat {K : PySem.W.Frag} {H : Hp} : ∀ {xs : List V}, xs.all flat1 = true → DpAll K H xs (xs.map fd)
  | [], _ => .nil
  | x :: xs, h => by
    rw [List.all_cons, Bool.and_eq_true] at h
    exact .cons (dp_flat h.1) (dpAll_flat h.2)
theorem lay_flat : ∀ {x : V}, flat1 x = true → (fd x).canLay0 = true
  | .non, _ => rfl
  | .bl b, _ => rfl
  | .int i, _ => rfl
  | .str x, h => h
theorem depth_flat : ∀ {x : V}, flat1 x = true → (fd x).depth = 0
  | .non, _ => rfl
  | .bl b, _ => rfl
  | .int i, _ => rfl
  | .str x, h => rfl
theorem layAll_flat : ∀ {xs : List V}, xs.all flat1 = true → PyData.canLayAll0 (xs.map fd) = true ∧ PyData.depthAll (xs.map fd) = 0
  | [], _ => ⟨rfl, rfl⟩
  | x :: xs, h => by
    rw [List.all_cons, Bool.and_eq_true] at h
    obtain ⟨a, b⟩ := layAll_flat h.2
    refine ⟨?_, ?_⟩
    · show ((fd x).canLay0 && PyData.canLayAll0 (xs.map fd)) = true
      rw [lay_flat h.1, a]; rfl
    · show max (fd x).depth (PyData.depthAll (xs.map fd)) = 0
      rw [depth_flat h.1, b]; rfl
theorem shaped_flat {xs : List V} (h : xs.all flat1 = true) : SeqAt.shaped (.list (xs.map fd)) = true := by
  obtain ⟨a, b⟩ := layAll_flat h
  show (PyData.canLayAll0 (xs.map fd) && decide (PyData.depthAll (xs.map fd) + 1 ≤ 64)) = true
  rw [a, b]; rfl
theorem rv_neNil {K : PySem.W.Frag} {H : Hp} {p q : Addr} {xs : List V} (hp : SqL K H p xs) (hq : SqL K H q []) (h : xs.all flat1 = true) : RV (rNeD K) (.ref p) (.ref q) H (.bl (!xs.isEmpty)) := fun H1 e Q k =>
  ⟨.list (xs.map fd), .list [], .lst (ex_l e hp) (dpAll_flat h), .lst (ex_l e hq) .nil, shaped_flat h, rfl, by
    have : PyData.eqv (.list (xs.map fd)) (.list []) = xs.isEmpty := by cases xs <;> rfl
    rw [this]; exact k H1 (Ex.refl _)⟩
theorem cut_to {u : List Nat} {k : Nat} : cutS (S u) none (some (k : Int)) = S (u.take k) := by
  unfold cutS
  rw [S_cps, S_len, HT.sIx_none, HT.sIx_nat]
  show S ((u.drop 0).take (min k u.length - 0)) = _
  rw [List.drop_zero, Nat.sub_zero]
  by_cases h : k ≤ u.length
  · rw [Nat.min_eq_left h]
  · rw [Nat.min_eq_right (by omega), List.take_of_length_le (Nat.le_refl _), List.take_of_length_le (by omega)]
theorem cut_from {u : List Nat} {k : Nat} : cutS (S u) (some (k : Int)) none = S (u.drop k) := by
  unfold cutS
  rw [S_cps, S_len, HT.sIx_none, HT.sIx_nat]
  show S ((u.drop (min k u.length)).take (u.length - min k u.length)) = _
  by_cases h : k ≤ u.length
  · rw [Nat.min_eq_left h, List.take_of_length_le (by rw [List.length_drop]; exact Nat.le_refl _)]
  · rw [Nat.min_eq_right (by omega), List.drop_eq_nil_of_le (Nat.le_refl _), List.drop_eq_nil_of_le (by omega), List.take_nil]

/-! ### displays that hold new objects -/
def EvP (ta : TA) (σ : L2.St) (H : Hp) (P : List V → Hp → Prop) : Prop := ∀ H1, Ex H H1 → ∀ Q : List V → Hp → Prop, (∀ vs H2, Ex H1 H2 → P vs H2 → Q vs H2) → ta σ H1 Q
def KpP (P : List V → Hp → Prop) : Prop := ∀ vs H H', Ex H H' → P vs H → P vs H'
section
variable {K : PySem.W.Frag} {σ : L2.St} {H H' : Hp} {ta tb tc te tx to : TE} {tr : TA} {x y z v w : V} {D : Ends} {tz : TS} {P : List V → Hp → Prop}
theorem ep_nil : EvP tNil σ H (fun vs _ => vs = []) := fun H1 _ Q q => q _ H1 (Ex.refl _) rfl
theorem ep_cons (h : Ev te σ H x) (hr : EvP tr σ H P) : EvP (tCons te tr) σ H (fun vs H => ∃ r, vs = x :: r ∧ P r H) := fun H1 e Q q =>
  h H1 e _ fun H2 e2 => hr H2 (e.trans e2) _ fun r H3 e3 hp => q _ H3 (e2.trans e3) ⟨r, rfl, hp⟩
theorem ep_consL {xs : List V} (h : EvL te σ H xs) (hr : EvP tr σ H P) : EvP (tCons te tr) σ H (fun vs H => ∃ p r, vs = .ref p :: r ∧ H p = some (.lst xs) ∧ P r H) := fun H1 e Q q =>
  h H1 e _ fun p H2 _ e2 h2 => hr H2 (e.trans e2) _ fun r H3 e3 hp => q _ H3 (e2.trans e3) ⟨p, r, rfl, e3 _ _ h2, hp⟩
theorem ep_consU {xs : List V} (h : EvU te σ H xs) (hr : EvP tr σ H P) : EvP (tCons te tr) σ H (fun vs H => ∃ p r, vs = .ref p :: r ∧ H p = some (.tup xs) ∧ P r H) := fun H1 e Q q =>
  h H1 e _ fun p H2 _ e2 h2 => hr H2 (e.trans e2) _ fun r H3 e3 hp => q _ H3 (e2.trans e3) ⟨p, r, rfl, e3 _ _ h2, hp⟩
theorem kp_nil : KpP (fun vs _ => vs = []) := fun _ _ _ _ h => h
theorem kp_cons (h : KpP P) : KpP (fun vs H => ∃ r, vs = x :: r ∧ P r H) := fun _ _ _ e ⟨r, a, b⟩ => ⟨r, a, h _ _ _ e b⟩
theorem kp_consL {xs : List V} (h : KpP P) : KpP (fun vs H => ∃ p r, vs = .ref p :: r ∧ H p = some (.lst xs) ∧ P r H) := fun _ _ _ e ⟨p, r, a, b, c⟩ => ⟨p, r, a, e _ _ b, h _ _ _ e c⟩
theorem kp_consU {xs : List V} (h : KpP P) : KpP (fun vs H => ∃ p r, vs = .ref p :: r ∧ H p = some (.tup xs) ∧ P r H) := fun _ _ _ e ⟨p, r, a, b, c⟩ => ⟨p, r, a, e _ _ b, h _ _ _ e c⟩
theorem s_asgP {i : Nat} (h : EvP tr σ H P) (kp : KpP P) (hz : ∀ vs H1, P vs H1 → vs.length ≤ 100000) (k : ∀ p vs H1, H p = none → Ex H H1 → H1 p = some (.lst vs) → P vs H1 → D.nx (σ.set i (some (.ref p))) H1) : tAsg (tLst tr) (gName i) D σ H :=
  h H (Ex.refl _) _ fun vs H1 e hp => ⟨sz_of (hz _ _ hp), fun p hn => k p vs _ (fresh_back e hn) (e.trans (Ex.new hn)) upd_same (kp _ _ _ (Ex.new hn) hp)⟩
theorem q_asgP {i : Nat} (h : EvP tr σ H P) (kp : KpP P) (hz : ∀ vs H1, P vs H1 → vs.length ≤ 100000) (k : ∀ p vs H1, H p = none → Ex H H1 → H1 p = some (.lst vs) → P vs H1 → tz D (σ.set i (some (.ref p))) H1) : tSeq (tAsg (tLst tr) (gName i)) tz D σ H :=
  s_asgP (D := { D with nx := tz D }) h kp hz k
theorem rc_isE {D a : Addr} {c : V} {cv : Value} {b : Bool} (h1 : ∀ u, RelV c u → u = cv) (h2 : PySem.W.kitOne K (.ref D) cv = some b) : RC (rIsE K D a) [.ref a, c] H (.bl b) := fun H1 _ Q q => ⟨c, cv, b, rfl, h1, h2, q H1 (Ex.refl _)⟩
end
end Gw

/-! ## R4 -/
namespace Gw
open PySem PySem.Spec PyProof.Rows L2 Evl

/-! ### sorted, of ties: (int, sign, int) -/
abbrev K3 := Int × Nat × Int
def lt3 (p q : K3) : Bool := if p.1 = q.1 then (if p.2.1 = q.2.1 then decide (p.2.2 < q.2.2) else decide (p.2.1 < q.2.1)) else decide (p.1 < q.1)
theorem lt3_iff {p q : K3} : lt3 p q = true ↔ p.1 < q.1 ∨ (p.1 = q.1 ∧ (p.2.1 < q.2.1 ∨ (p.2.1 = q.2.1 ∧ p.2.2 < q.2.2))) := by
  unfold lt3
  split
  · split
    · rw [decide_eq_true_eq]; omega
    · rw [decide_eq_true_eq]; omega
  · rw [decide_eq_true_eq]; omega
theorem lt3_no {p q : K3} : lt3 p q = false ↔ ¬ (p.1 < q.1 ∨ (p.1 = q.1 ∧ (p.2.1 < q.2.1 ∨ (p.2.1 = q.2.1 ∧ p.2.2 < q.2.2)))) := by
  rw [← lt3_iff]; cases lt3 p q <;> simp
theorem swo3 {α : Type} (k : α → K3) : SrtO.Swo fun v u => lt3 (k v) (k u) := by
  refine ⟨fun x y h => ?_, fun x y z h1 h2 => ?_⟩
  · have a := lt3_iff.mp h
    refine lt3_no.mpr ?_
    omega
  · have a := lt3_no.mp h1
    have b := lt3_no.mp h2
    refine lt3_no.mpr ?_
    omega
def IsTie (h : Heap) (v : Value) (p : K3) : Prop := ∃ a o t u w n, v = .ref a ∧ h.get? a = some o ∧ o.cls = .type "tuple" ∧ o.data = .seq #[.int p.1 t, .str ⟨#[p.2.1]⟩ u, .int p.2.2 w] n
theorem IsTie.keeps {h h' : Heap} {v : Value} {p : K3} (q : IsTie h v p) (k : ∀ b o, h.get? b = some o → o.cls = .type "tuple" → h'.get? b = some o) : IsTie h' v p := by
  obtain ⟨a, o, t, u, w, n, e, ho, hc, hd⟩ := q
  exact ⟨a, o, t, u, w, n, e, k _ _ ho hc, hc, hd⟩
section
variable {prog : Program} {w : World} {A : Around} {E : Value → Shared → Prop} {s : Shared}
theorem tie_cmp {vs : List Value} {k : Value → K3} (hp : ∀ v ∈ vs, IsTie s.heap v (k v)) : SrtO.Cmp prog w A s (tuples' true) (fun p => p.1 ∈ vs) (SrtO.lt2 fun v u => lt3 (k v) (k u)) := by
  intro p q hm hm'
  have h1 := hp _ hm
  have h2 := hp _ hm'
  show wpAny (model prog w) A (keyLt' (tuples' true) p.1 q.1) (fun r s' => s' = s ∧ r = lt3 (k p.1) (k q.1)) (fun _ _ => False) s
  generalize k p.1 = x at h1 ⊢
  generalize k q.1 = y at h2 ⊢
  obtain ⟨x1, x2, x3⟩ := x
  obtain ⟨y1, y2, y3⟩ := y
  obtain ⟨a, o, t, u, v, n, e, ho, hc, hd⟩ := h1
  obtain ⟨a', o', t', u', v', n', e', ho', hc', hd'⟩ := h2
  rw [e, e']
  refine PySem.W.kat_lt ho hd ho' hd' ?_
  show PySem.W.KatLex prog w A true (decide (3 < 3)) _ [(.int x1 t, .int y1 t'), (.str ⟨#[x2]⟩ u, .str ⟨#[y2]⟩ u'), (.int x3 v, .int y3 v')] 0 s
  refine PySem.W.kat_cons (SeqAt.EqAt.int_int x1 t y1 t' prog w _ _ ?_)
  refine PySem.W.kat_go (fun e1 => ?_) (fun e1 => ?_)
  · have ex : x1 = y1 := by simpa using e1
    refine PySem.W.kat_yes (PySem.W.kat_cons (SeqAt.EqAt.str_str ⟨#[x2]⟩ u ⟨#[y2]⟩ u' prog w _ _ ?_))
    refine PySem.W.kat_go (fun e2 => ?_) (fun e2 => ?_)
    · have ey : x2 = y2 := by
        have : (⟨#[x2]⟩ : Str) = ⟨#[y2]⟩ := by simpa using e2
        simpa using this
      refine PySem.W.kat_yes (PySem.W.kat_cons (SeqAt.EqAt.int_int x3 v y3 v' prog w _ _ ?_))
      refine PySem.W.kat_go (fun e3 => ?_) (fun e3 => ?_)
      · have ez : x3 = y3 := by simpa using e3
        refine PySem.W.kat_yes (PySem.W.kat_nil ⟨rfl, ?_⟩)
        subst ex ey ez
        unfold lt3; simp
      · refine PySem.W.kat_no (PySem.W.kat_one _ _ (PyProof.Rows.lt_int ?_))
        refine (show s = s ∧ decide (x3 < y3) = lt3 (x1, x2, x3) (y1, y2, y3) from ⟨rfl, ?_⟩)
        unfold lt3; rw [if_pos ex, if_pos ey]
    · have ey : ¬ x2 = y2 := fun z => by
        subst z
        simp at e2
      refine PySem.W.kat_no (PySem.W.kat_one _ _ (PyProof.Rows.lt_str ?_))
      refine (show s = s ∧ decide ((⟨#[x2]⟩ : Str).cps.toList < (⟨#[y2]⟩ : Str).cps.toList) = lt3 (x1, x2, x3) (y1, y2, y3) from ⟨rfl, ?_⟩)
      unfold lt3; rw [if_pos ex, if_neg ey]
      show decide ([x2] < [y2]) = decide (x2 < y2)
      by_cases hc : x2 < y2
      · rw [decide_eq_true hc, decide_eq_true (List.cons_lt_cons_iff.mpr (Or.inl hc))]
      · rw [decide_eq_false hc, decide_eq_false fun z => by
          rcases List.cons_lt_cons_iff.mp z with z | ⟨_, z⟩
          · exact hc z
          · exact absurd z (by simp)]
  · have ex : ¬ x1 = y1 := by simpa using e1
    refine PySem.W.kat_no (oneLt_int ⟨rfl, ?_⟩)
    unfold lt3; rw [if_neg ex]
theorem ties_firsts {h : Heap} : ∀ {vs : List Value}, (∀ v ∈ vs, ∃ p, IsTie h v p) → ∃ fs : List Value, PySem.W.KatTups h vs fs ∧ fs.length = vs.length ∧ ∀ f ∈ fs, ∃ x t, f = Value.int x t
  | [], _ => ⟨[], PySem.W.KatTups.nil, rfl, fun _ hm => by cases hm⟩
  | v :: vs, hp => by
    obtain ⟨fs, h1, h2, h3⟩ := ties_firsts (vs := vs) fun v' hm => hp v' (List.mem_cons_of_mem _ hm)
    obtain ⟨p, a, o, t, u, w, n, e, ho, hc, hd⟩ := hp v List.mem_cons_self
    subst e
    refine ⟨.int p.1 t :: fs, PySem.W.KatTups.cons ho hc hd rfl h1, by simp [h2], fun f hm => ?_⟩
    rcases List.mem_cons.mp hm with e | hm
    · exact ⟨p.1, t, e⟩
    · exact h3 f hm
theorem ties_sortable {a : Addr} {vs : List Value} {k : Value → K3} (h0 : 0 < vs.length) (hp : ∀ v ∈ vs, IsTie s.heap v (k v)) (ha : ∀ o, s.heap.get? a = some o → o.cls ≠ .type "tuple") : SrtO.SortableO prog w A s a vs fun v u => lt3 (k v) (k u) := by
  intro h' keep
  have hp' : ∀ v ∈ vs, IsTie h' v (k v) := fun v hm => (hp v hm).keeps fun b o e c => keep b o (fun z => by subst z; exact ha o e c) e
  obtain ⟨fs, h1, h2, h3⟩ := ties_firsts fun v hm => ⟨_, hp' v hm⟩
  refine ⟨tuples' true, fun Q E hq => ?_, tie_cmp (s := { s with heap := h' }) hp'⟩
  refine PySem.W.kat_kind (T := .type "int") h1 (by omega) (fun f hm => ?_) rfl ?_
  · obtain ⟨x, t, rfl⟩ := h3 f hm
    exact PySem.W.Looks.now
  · have e : (Value.type "int" != Value.type "tuple") = true := by decide +kernel
    rw [e]; exact hq
end
/-- sorted(xs), xs ties: a new list, risen -/
def rSort3 (K : PySem.W.Frag) : List V → Hp → VK → Prop := fun vs H Q => ∃ (a : Addr) (xs : List V) (k : V → K3), vs = [V.ref a] ∧ SqL K H a xs ∧ (∀ x ∈ xs, ∃ t, x = V.ref t ∧ H t = some (.tup [.int (k x).1, sgn (k x).2.1, .int (k x).2.2])) ∧
  ∀ ys p, SrtO.Srtd (fun x y => lt3 (k x) (k y)) ys → SrtO.Stb (fun x y => lt3 (k x) (k y)) ys xs → H p = none → Q (.ref p) (upd H p (.lst ys))
theorem cr_sorted3 {X : Cx} : CallR X (.builtin "sorted") (rSort3 X.K) := by
  intro pins s σ H vs us Q I r h
  obtain ⟨a, xs, k, rfl, hs, hx, q⟩ := h
  obtain ⟨its, rv, hl, hz⟩ := I.list hs
  obtain ⟨u, rfl, ru⟩ := vals1 r
  obtain rfl : u = Value.ref a := ru
  obtain ⟨e1, e2⟩ := refs_back rv fun x m => (hx x m).elim fun t z => ⟨t, z.1⟩
  have ties : ∀ v ∈ its, IsTie s.heap v (k (backV v)) := fun v hv => by
    obtain ⟨t, rfl⟩ := e2 v hv
    have hm : V.ref t ∈ xs := by rw [e1]; exact List.mem_map.mpr ⟨_, hv, rfl⟩
    obtain ⟨t', e, ht⟩ := hx _ hm
    cases e
    obtain ⟨_, its2, r2, o, ho, hc, n, hd⟩ := I.hok _ _ ht
    cases r2 with
    | cons ra r2 =>
      cases r2 with
      | cons rb r2 =>
        cases r2 with
        | cons rc r2 =>
          cases r2
          obtain ⟨t1, rfl⟩ := ra
          obtain ⟨t2, rfl⟩ := rb
          obtain ⟨t3, rfl⟩ := rc
          exact ⟨t, o, t1, t2, t3, n, rfl, ho, hc, hd⟩
  refine SrtO.sorted_ord (ltv := fun v u => lt3 (k (backV v)) (k (backV u))) (swo3 _) hl.isList (by rw [← rv.length]; exact hz) (fun h2 h₁ a' ha kk => ?_) fun out hso hsb => ?_
  · refine ties_sortable (s := { s with heap := h₁ }) (by omega) (fun v hm => (ties v hm).keeps fun b o e _ => (kk b o e).2) fun o e => ?_
    have e' : some o = some (seqObj "list" its.toArray 0) := e.symm.trans ha
    cases e'
    intro c
    exact absurd (Value.type.inj c) (by decide)
  · have h3 : ∀ u ∈ out, ∃ a, u = Value.ref a := fun u hu => e2 u (hsb.perm.mem_iff.mp hu)
    have hb : SrtO.Stb (fun x y => lt3 (k x) (k y)) (out.map backV) xs := by
      rw [e1]; exact SrtO.Stb.map (swo3 k) backV hsb
    obtain ⟨n, hn⟩ := sortedAll_at s.heap its out.toArray
    refine ⟨.ref (s.heap.objs.size + 1), upd H _ (.lst (out.map backV)), I.laid (t' := s.toks) (fun b o e => sortedAll_old e) (Nat.le_succ _) ⟨?_, out, n, vals_back h3, hn⟩, rfl, q _ _ (SrtO.srtd_map hso) hb (I.hok.fresh (Nat.le_succ _))⟩
    rw [hb.len]; exact hz
end Gw

/-! ## W1 -/
/-! webs: ties, leads, walks; what is made; folded webs -/
namespace Gw
abbrev Tie := Nat × Nat × Nat
/-- letter c leads from r to s -/
def Ld (T : List Tie) (r c s : Nat) : Prop := (97 ≤ c ∧ c ≤ 122 ∧ (r, c, s) ∈ T) ∨ (65 ≤ c ∧ c ≤ 90 ∧ (s, c + 32, r) ∈ T)
theorem Ld.isL {T : List Tie} {r c s : Nat} (h : Ld T r c s) : isL c = true := by
  rw [isL_iff]
  rcases h with ⟨a, b, _⟩ | ⟨a, b, _⟩
  · exact Or.inl ⟨a, b⟩
  · exact Or.inr ⟨a, b⟩
theorem Ld.back {T : List Tie} {r c s : Nat} (h : Ld T r c s) : Ld T s (bk c) r := by
  rcases h with ⟨a, b, m⟩ | ⟨a, b, m⟩
  · refine Or.inr ?_
    unfold bk; rw [if_pos a]
    refine ⟨by omega, by omega, ?_⟩
    rw [show c - 32 + 32 = c by omega]; exact m
  · refine Or.inl ?_
    unfold bk; rw [if_neg (by omega)]
    exact ⟨by omega, by omega, m⟩
def Folded (T : List Tie) : Prop := ∀ r c s s', Ld T r c s → Ld T r c s' → s = s'
def Wlk (T : List Tie) : Nat → List Nat → Nat → Prop
  | r, [], s => r = s
  | r, c :: w, s => ∃ m, Ld T r c m ∧ Wlk T m w s
theorem Wlk.isW {T : List Tie} : ∀ {w : List Nat} {r s : Nat}, Wlk T r w s → isW w = true
  | [], _, _, _ => rfl
  | c :: w, r, s, ⟨m, h, t⟩ => isW_cons.mpr ⟨h.isL, t.isW⟩
theorem Wlk.app {T : List Tie} : ∀ {u v : List Nat} {r m s : Nat}, Wlk T r u m → Wlk T m v s → Wlk T r (u ++ v) s
  | [], v, r, m, s, h, k => by
    have h' : r = m := h
    subst h'; exact k
  | c :: u, v, r, m, s, ⟨x, h, t⟩, k => ⟨x, h, Wlk.app t k⟩
theorem Wlk.split {T : List Tie} : ∀ {u v : List Nat} {r s : Nat}, Wlk T r (u ++ v) s → ∃ m, Wlk T r u m ∧ Wlk T m v s
  | [], v, r, s, h => ⟨r, rfl, h⟩
  | c :: u, v, r, s, ⟨x, h, t⟩ => by
    obtain ⟨m, a, b⟩ := Wlk.split (u := u) t
    exact ⟨m, ⟨x, h, a⟩, b⟩
theorem Wlk.one {T : List Tie} {r c s : Nat} (h : Ld T r c s) : Wlk T r [c] s := ⟨s, h, rfl⟩
theorem Wlk.back {T : List Tie} : ∀ {w : List Nat} {r s : Nat}, Wlk T r w s → Wlk T s (inv w) r
  | [], r, s, h => by
    have h' : r = s := h
    subst h'; rfl
  | c :: w, r, s, ⟨m, h, t⟩ => by
    rw [inv_cons]
    exact t.back.app (Wlk.one h.back)
theorem Wlk.out {T : List Tie} (F : Folded T) {u v : List Nat} {r s : Nat} (h : Wlk T r u s) (o : Out u v) : Wlk T r v s := by
  cases o with
  | mk u v a ha =>
    obtain ⟨m, h1, x, l1, y, l2, h2⟩ := h.split
    have : y = m := by
      have := l1.back
      exact F _ _ _ _ l2 this
    subst this
    exact h1.app h2
theorem Wlk.red {T : List Tie} (F : Folded T) {u v : List Nat} {r s : Nat} (h : Wlk T r u s) (o : Red u v) : Wlk T r v s := by
  induction o with
  | refl u => exact h
  | step a _ ih => exact ih (h.out F a)
theorem Wlk.det {T : List Tie} (F : Folded T) : ∀ {w : List Nat} {r s s' : Nat}, Wlk T r w s → Wlk T r w s' → s = s'
  | [], r, s, s', h, k => (show r = s from h).symm.trans k
  | c :: w, r, s, s', ⟨m, h, t⟩, ⟨m', h', t'⟩ => by
    have := F _ _ _ _ h h'
    subst this
    exact t.det F t'
/-- a word is read -/
def Rds (T : List Tie) (w : List Nat) : Prop := Wlk T 0 (short w) 0
theorem rds_of {T : List Tie} (F : Folded T) {w : List Nat} (h : Wlk T 0 w 0) : Rds T w := h.red F (red_short h.isW)

/-! ### what a row makes -/
inductive Gn (ws : List (List Nat)) : List Nat → Prop
  | nil : Gn ws []
  | word {w v} (h : w ∈ ws) (t : Gn ws v) : Gn ws (w ++ v)
  | back {w v} (h : w ∈ ws) (t : Gn ws v) : Gn ws (inv w ++ v)
theorem Gn.app {ws : List (List Nat)} {u v : List Nat} (a : Gn ws u) (b : Gn ws v) : Gn ws (u ++ v) := by
  induction a with
  | nil => exact b
  | word h _ ih => rw [List.append_assoc]; exact .word h ih
  | back h _ ih => rw [List.append_assoc]; exact .back h ih
theorem Gn.one {ws : List (List Nat)} {w : List Nat} (h : w ∈ ws) : Gn ws w := by
  have := Gn.word h Gn.nil
  rwa [List.append_nil] at this
theorem Gn.oneBack {ws : List (List Nat)} {w : List Nat} (h : w ∈ ws) : Gn ws (inv w) := by
  have := Gn.back h Gn.nil
  rwa [List.append_nil] at this
def AllW (ws : List (List Nat)) : Prop := ∀ w ∈ ws, isW w = true
theorem Gn.isW {ws : List (List Nat)} (a : AllW ws) {u : List Nat} (h : Gn ws u) : Gw.isW u = true := by
  induction h with
  | nil => rfl
  | word h _ ih => exact isW_app.mpr ⟨a _ h, ih⟩
  | back h _ ih => exact isW_app.mpr ⟨isW_inv (a _ h), ih⟩
theorem Gn.inv {ws : List (List Nat)} (a : AllW ws) {u : List Nat} (h : Gn ws u) : Gn ws (inv u) := by
  induction h with
  | nil => exact .nil
  | word h _ ih => rw [inv_app]; exact ih.app (.oneBack h)
  | back h _ ih => rw [inv_app, inv_inv (a _ h)]; exact ih.app (.one h)
/-- a word is made: some product falls together to its short word -/
def Made (ws : List (List Nat)) (w : List Nat) : Prop := ∃ u, Gn ws u ∧ short u = short w
theorem Made.nil {ws : List (List Nat)} : Made ws [] := ⟨[], .nil, rfl⟩
theorem Made.one {ws : List (List Nat)} {w : List Nat} (h : w ∈ ws) : Made ws w := ⟨w, .one h, rfl⟩
theorem short_app {a b : List Nat} (wa : isW a = true) (wb : isW b = true) : short (a ++ b) = short (short a ++ short b) := (short_times wa wb).symm
theorem Made.app {ws : List (List Nat)} (A : AllW ws) {u v : List Nat} (wu : isW u = true) (wv : isW v = true) (a : Made ws u) (b : Made ws v) : Made ws (u ++ v) := by
  obtain ⟨x, gx, ex⟩ := a
  obtain ⟨y, gy, ey⟩ := b
  exact ⟨x ++ y, gx.app gy, by rw [short_app (gx.isW A) (gy.isW A), ex, ey, ← short_app wu wv]⟩
theorem Made.inv {ws : List (List Nat)} (A : AllW ws) {u : List Nat} (wu : isW u = true) (a : Made ws u) : Made ws (inv u) := by
  obtain ⟨x, gx, ex⟩ := a
  exact ⟨_, gx.inv A, by rw [short_inv (gx.isW A), ex, short_inv wu]⟩
theorem Made.red {ws : List (List Nat)} {u v : List Nat} (wu : isW u = true) (r : Red u v) : Made ws u ↔ Made ws v := by
  unfold Made; rw [short_red r wu]
/-- a row made by another one -/
theorem Made.trans {ws vs : List (List Nat)} (A : AllW ws) (B : AllW vs) (h : ∀ w ∈ ws, Made vs w) {u : List Nat} (m : Made ws u) : Made vs u := by
  obtain ⟨x, gx, ex⟩ := m
  have : Made vs x := by
    clear ex
    induction gx with
    | nil => exact .nil
    | word hw t ih => exact Made.app B (A _ hw) (t.isW A) (h _ hw) ih
    | back hw t ih => exact Made.app B (isW_inv (A _ hw)) (t.isW A) ((h _ hw).inv B (A _ hw)) ih
  obtain ⟨y, gy, ey⟩ := this
  exact ⟨y, gy, ey.trans ex⟩

/-! ### folding: rooms made one -/
/-- a word leads from a to b that falls away wholly -/
def Eqv (R : List Tie) (a b : Nat) : Prop := ∃ z, Wlk R a z b ∧ Red z []
theorem Eqv.refl {R : List Tie} (a : Nat) : Eqv R a a := ⟨[], rfl, .refl _⟩
theorem Eqv.symm {R : List Tie} {a b : Nat} (h : Eqv R a b) : Eqv R b a := by
  obtain ⟨z, w, r⟩ := h
  exact ⟨inv z, w.back, r.inv⟩
theorem Eqv.trans {R : List Tie} {a b c : Nat} (h : Eqv R a b) (k : Eqv R b c) : Eqv R a c := by
  obtain ⟨z, w, r⟩ := h
  obtain ⟨y, v, q⟩ := k
  exact ⟨z ++ y, w.app v, (r.appR y).trans q⟩
theorem Eqv.step {R : List Tie} {a b x y c : Nat} (h : Eqv R a b) (l : Ld R a c x) (k : Ld R b c y) : Eqv R x y := by
  obtain ⟨z, w, r⟩ := h
  refine ⟨bk c :: (z ++ [c]), ⟨a, l.back, w.app (Wlk.one k)⟩, ?_⟩
  have r1 : Red (bk c :: (z ++ [c])) [bk c, c] := by
    have := r.app [bk c] [c]
    simpa using this
  refine r1.trans ?_
  have o := Out.mk [] [] (bk c) (isL_bk l.isL)
  rw [bk_bk l.isL] at o
  exact o.one
structure Quot (R T : List Tie) (rep : Nat → Nat) : Prop where
  zero : rep 0 = 0
  eqv : ∀ t ∈ R, Eqv R t.1 (rep t.1) ∧ Eqv R t.2.2 (rep t.2.2)
  to : ∀ t ∈ R, (rep t.1, t.2.1, rep t.2.2) ∈ T
  of : ∀ t ∈ T, ∃ t0 ∈ R, t = (rep t0.1, t0.2.1, rep t0.2.2)
  fold : Folded T
theorem Quot.ld {R T : List Tie} {rep : Nat → Nat} (Q : Quot R T rep) {r c s : Nat} (h : Ld R r c s) : Ld T (rep r) c (rep s) := by
  rcases h with ⟨a, b, m⟩ | ⟨a, b, m⟩
  · exact Or.inl ⟨a, b, Q.to _ m⟩
  · exact Or.inr ⟨a, b, Q.to _ m⟩
theorem Quot.wlk {R T : List Tie} {rep : Nat → Nat} (Q : Quot R T rep) : ∀ {w : List Nat} {r s : Nat}, Wlk R r w s → Wlk T (rep r) w (rep s)
  | [], r, s, h => congrArg rep (show r = s from h)
  | c :: w, r, s, ⟨m, h, t⟩ => ⟨rep m, Q.ld h, Q.wlk t⟩
theorem Quot.lift1 {R T : List Tie} {rep : Nat → Nat} (Q : Quot R T rep) {r c s : Nat} (h : Ld T r c s) : ∃ z, Wlk R r z s ∧ Red z [c] := by
  have key : ∀ {a x b : Nat}, (a, x, b) ∈ T → ∃ a0 b0, (a0, x, b0) ∈ R ∧ Eqv R a a0 ∧ Eqv R b0 b := fun {a x b} m => by
    obtain ⟨t0, h0, e⟩ := Q.of _ m
    obtain ⟨e1, e2⟩ := Prod.mk.inj e
    obtain ⟨e2, e3⟩ := Prod.mk.inj e2
    refine ⟨t0.1, t0.2.2, by rw [e2]; exact h0, ?_, ?_⟩
    · rw [e1]; exact (Q.eqv _ h0).1.symm
    · rw [e3]; exact (Q.eqv _ h0).2
  rcases h with ⟨a, b, m⟩ | ⟨a, b, m⟩
  · obtain ⟨a0, b0, h0, ⟨z, w1, r1⟩, ⟨y, w2, r2⟩⟩ := key m
    refine ⟨z ++ c :: y, w1.app ⟨b0, Or.inl ⟨a, b, h0⟩, w2⟩, ?_⟩
    have q1 := r1.appR (c :: y)
    have q2 := r2.appL [c]
    exact Red.trans (by simpa using q1) (by simpa using q2)
  · obtain ⟨a0, b0, h0, ⟨z, w1, r1⟩, ⟨y, w2, r2⟩⟩ := key m
    refine ⟨inv y ++ c :: inv z, w2.back.app ⟨a0, Or.inr ⟨a, b, h0⟩, w1.back⟩, ?_⟩
    have q1 := (r2.inv).appR (c :: inv z)
    have q2 := (r1.inv).appL [c]
    exact Red.trans (by simpa using q1) (by simpa [inv] using q2)
theorem Quot.lift {R T : List Tie} {rep : Nat → Nat} (Q : Quot R T rep) : ∀ {w : List Nat} {r s : Nat}, Wlk T r w s → ∃ z, Wlk R r z s ∧ Red z w
  | [], r, s, h => ⟨[], h, .refl _⟩
  | c :: w, r, s, ⟨m, h, t⟩ => by
    obtain ⟨z, w1, r1⟩ := Q.lift1 h
    obtain ⟨y, w2, r2⟩ := Q.lift t
    refine ⟨z ++ y, w1.app w2, ?_⟩
    have q1 := r1.appR y
    have q2 := r2.appL [c]
    exact q1.trans (by simpa using q2)
/-- what rings of words must show -/
structure Ringed (ws : List (List Nat)) (R : List Tie) : Prop where
  all : AllW ws
  word : ∀ w ∈ ws, Wlk R 0 w 0
  made : ∀ z, Wlk R 0 z 0 → Made ws z
theorem Ringed.gn {ws : List (List Nat)} {R : List Tie} (h : Ringed ws R) {u : List Nat} (g : Gn ws u) : Wlk R 0 u 0 := by
  induction g with
  | nil => rfl
  | word hw _ ih => exact (h.word _ hw).app ih
  | back hw _ ih => exact (h.word _ hw).back.app ih
theorem Quot.reads {R T : List Tie} {rep : Nat → Nat} {ws : List (List Nat)} (Q : Quot R T rep) (g : Ringed ws R) {w : List Nat} (hw : isW w = true) : Rds T w ↔ Made ws w := by
  constructor
  · intro h
    obtain ⟨z, w1, r⟩ := Q.lift h
    have m := g.made _ w1
    have m2 : Made ws (short w) := (Made.red w1.isW r).mp m
    exact (Made.red hw (red_short hw)).mpr m2
  · rintro ⟨u, gu, e⟩
    have k := Q.wlk (g.gn gu)
    rw [Q.zero] at k
    have := k.red Q.fold (red_short k.isW)
    rw [e] at this
    exact this
end Gw

/-! ## W2 -/
/-! finding: room by room, letter by letter -/
namespace Gw
/-- the letters in the order of finding -/
def lets : List Nat := (List.range 26).flatMap fun k => [97 + k, 65 + k]
theorem mem_lets {c : Nat} : c ∈ lets ↔ isL c = true := by
  unfold lets
  rw [List.mem_flatMap, isL_iff]
  constructor
  · rintro ⟨k, hk, h⟩
    have := List.mem_range.mp hk
    rcases List.mem_cons.mp h with rfl | h
    · omega
    · rcases List.mem_cons.mp h with rfl | h
      · omega
      · cases h
  · rintro (h | h)
    · exact ⟨c - 97, List.mem_range.mpr (by omega), List.mem_cons.mpr (Or.inl (by omega))⟩
    · exact ⟨c - 65, List.mem_range.mpr (by omega), List.mem_cons.mpr (Or.inr (List.mem_cons.mpr (Or.inl (by omega))))⟩
/-- where letter c leads from r, tie by tie -/
def gl (T : List Tie) (r c : Nat) : List Nat := T.filterMap fun t => if 97 ≤ c then (if t.1 = r ∧ t.2.1 = c then some t.2.2 else none) else (if t.2.2 = r ∧ t.2.1 = c + 32 then some t.1 else none)
theorem mem_gl {T : List Tie} {r c s : Nat} (hc : isL c = true) : s ∈ gl T r c ↔ Ld T r c s := by
  rw [isL_iff] at hc
  unfold gl
  rw [List.mem_filterMap]
  constructor
  · rintro ⟨⟨a, x, b⟩, ht, h⟩
    by_cases h97 : 97 ≤ c
    · rw [if_pos h97] at h
      by_cases q : a = r ∧ x = c
      · rw [if_pos q] at h
        obtain ⟨rfl, rfl⟩ := q
        cases h
        exact Or.inl ⟨h97, by omega, ht⟩
      · rw [if_neg q] at h; cases h
    · rw [if_neg h97] at h
      by_cases q : b = r ∧ x = c + 32
      · rw [if_pos q] at h
        obtain ⟨rfl, rfl⟩ := q
        cases h
        exact Or.inr ⟨by omega, by omega, ht⟩
      · rw [if_neg q] at h; cases h
  · rintro (⟨a, b, m⟩ | ⟨a, b, m⟩)
    · exact ⟨_, m, by rw [if_pos a, if_pos ⟨rfl, rfl⟩]⟩
    · exact ⟨_, m, by rw [if_neg (by omega), if_pos ⟨rfl, rfl⟩]⟩
def nb (T : List Tie) (r : Nat) : List Nat := lets.flatMap (gl T r)
theorem mem_nb {T : List Tie} {r s : Nat} : s ∈ nb T r ↔ ∃ c, Ld T r c s := by
  unfold nb
  rw [List.mem_flatMap]
  constructor
  · rintro ⟨c, hc, h⟩
    exact ⟨c, (mem_gl (mem_lets.mp hc)).mp h⟩
  · rintro ⟨c, h⟩
    exact ⟨c, mem_lets.mpr h.isL, (mem_gl h.isL).mpr h⟩
def add1 (f : List Nat) (x : Nat) : List Nat := if x ∈ f then f else f ++ [x]
def addAll (f l : List Nat) : List Nat := l.foldl add1 f
theorem addAll_cons (f : List Nat) (x : Nat) (l : List Nat) : addAll f (x :: l) = addAll (add1 f x) l := rfl
theorem addAll_app (f a b : List Nat) : addAll f (a ++ b) = addAll (addAll f a) b := List.foldl_append
theorem mem_add1 {f : List Nat} {x y : Nat} : y ∈ add1 f x ↔ y ∈ f ∨ y = x := by
  unfold add1
  split
  · rename_i h
    constructor
    · exact Or.inl
    · rintro (h' | rfl)
      · exact h'
      · exact h
  · simp
theorem mem_addAll {l : List Nat} : ∀ {f : List Nat} {y : Nat}, y ∈ addAll f l ↔ y ∈ f ∨ y ∈ l := by
  induction l with
  | nil => intro f y; simp [addAll]
  | cons x l ih =>
    intro f y
    rw [addAll_cons, ih, mem_add1, List.mem_cons, or_assoc]
theorem add1_pre (f : List Nat) (x : Nat) : f <+: add1 f x := by
  unfold add1
  split
  · exact List.prefix_refl _
  · exact List.prefix_append _ _
theorem addAll_pre (l : List Nat) : ∀ f : List Nat, f <+: addAll f l := by
  induction l with
  | nil => intro f; exact List.prefix_refl _
  | cons x l ih => intro f; exact (add1_pre f x).trans (ih _)
theorem add1_nodup {f : List Nat} {x : Nat} (h : f.Nodup) : (add1 f x).Nodup := by
  unfold add1
  split
  · exact h
  · rename_i hx
    rw [List.nodup_append]
    refine ⟨h, by simp, ?_⟩
    intro a ha b hb
    rw [List.mem_singleton] at hb
    subst hb
    intro e
    subst e
    exact hx ha
theorem addAll_nodup (l : List Nat) : ∀ {f : List Nat}, f.Nodup → (addAll f l).Nodup := by
  induction l with
  | nil => intro f h; exact h
  | cons x l ih => intro f h; exact ih (add1_nodup h)
/-- what is found behind i rooms -/
def fnd (T : List Tie) : Nat → List Nat
  | 0 => [0]
  | i + 1 => match (fnd T i)[i]? with
    | some r => addAll (fnd T i) (nb T r)
    | none => fnd T i
theorem fnd_succ {T : List Tie} {i r : Nat} (h : (fnd T i)[i]? = some r) : fnd T (i + 1) = addAll (fnd T i) (nb T r) := by
  show (match (fnd T i)[i]? with | some r => addAll (fnd T i) (nb T r) | none => fnd T i) = _
  rw [h]
theorem fnd_end {T : List Tie} {i : Nat} (h : (fnd T i)[i]? = none) : fnd T (i + 1) = fnd T i := by
  show (match (fnd T i)[i]? with | some r => addAll (fnd T i) (nb T r) | none => fnd T i) = _
  rw [h]
theorem fnd_pre1 (T : List Tie) (i : Nat) : fnd T i <+: fnd T (i + 1) := by
  cases h : (fnd T i)[i]? with
  | none => rw [fnd_end h]; exact List.prefix_refl _
  | some r => rw [fnd_succ h]; exact addAll_pre _ _
theorem fnd_pre (T : List Tie) {i j : Nat} (h : i ≤ j) : fnd T i <+: fnd T j := by
  induction h with
  | refl => exact List.prefix_refl _
  | step _ ih => exact ih.trans (fnd_pre1 T _)
theorem fnd_nodup (T : List Tie) : ∀ i, (fnd T i).Nodup
  | 0 => by simp [fnd]
  | i + 1 => by
    cases h : (fnd T i)[i]? with
    | none => rw [fnd_end h]; exact fnd_nodup T i
    | some r => rw [fnd_succ h]; exact addAll_nodup _ (fnd_nodup T i)
theorem fnd_zero (T : List Tie) (i : Nat) : (fnd T i)[0]? = some 0 := by
  obtain ⟨r, h⟩ := fnd_pre T (Nat.zero_le i)
  rw [← h]; rfl
/-- the rooms of the ties, and 0 -/
def rms (T : List Tie) : List Nat := 0 :: T.flatMap fun t => [t.1, t.2.2]
theorem mem_rms {T : List Tie} {r : Nat} : r ∈ rms T ↔ r = 0 ∨ ∃ t ∈ T, r = t.1 ∨ r = t.2.2 := by
  unfold rms
  rw [List.mem_cons, List.mem_flatMap]
  constructor
  · rintro (h | ⟨t, h, k⟩)
    · exact Or.inl h
    · exact Or.inr ⟨t, h, by simpa using k⟩
  · rintro (h | ⟨t, h, k⟩)
    · exact Or.inl h
    · exact Or.inr ⟨t, h, by simpa using k⟩
theorem Ld.rms {T : List Tie} {r c s : Nat} (h : Ld T r c s) : r ∈ rms T ∧ s ∈ rms T := by
  rcases h with ⟨_, _, m⟩ | ⟨_, _, m⟩
  · exact ⟨mem_rms.mpr (Or.inr ⟨_, m, Or.inl rfl⟩), mem_rms.mpr (Or.inr ⟨_, m, Or.inr rfl⟩)⟩
  · exact ⟨mem_rms.mpr (Or.inr ⟨_, m, Or.inr rfl⟩), mem_rms.mpr (Or.inr ⟨_, m, Or.inl rfl⟩)⟩
theorem rms_len (T : List Tie) : (rms T).length = 2 * T.length + 1 := by
  unfold rms
  induction T with
  | nil => rfl
  | cons t T ih =>
    rw [List.flatMap_cons, List.length_cons, List.length_append, List.length_cons]
    rw [List.length_cons] at ih
    simp at ih ⊢; omega
theorem fnd_rms {T : List Tie} : ∀ {i r : Nat}, r ∈ fnd T i → r ∈ rms T ∧ ∃ w, Wlk T 0 w r
  | 0, r, h => by
    have : r = 0 := by simpa [fnd] using h
    subst this
    exact ⟨mem_rms.mpr (Or.inl rfl), [], rfl⟩
  | i + 1, r, h => by
    cases e : (fnd T i)[i]? with
    | none => rw [fnd_end e] at h; exact fnd_rms h
    | some m =>
      rw [fnd_succ e, mem_addAll] at h
      rcases h with h | h
      · exact fnd_rms h
      · obtain ⟨c, l⟩ := mem_nb.mp h
        obtain ⟨_, w, hw⟩ := fnd_rms (List.mem_of_getElem? e)
        exact ⟨l.rms.2, w ++ [c], hw.app (Wlk.one l)⟩
theorem nodup_le {l : List Nat} : ∀ {m : List Nat}, l.Nodup → (∀ x ∈ l, x ∈ m) → l.length ≤ m.length := by
  induction l with
  | nil => intro m _ _; exact Nat.zero_le _
  | cons a l ih =>
    intro m hn h
    rw [List.nodup_cons] at hn
    have ha := h a List.mem_cons_self
    have := ih (m := m.erase a) hn.2 fun x hx => by
      have hne : x ≠ a := fun e => hn.1 (e ▸ hx)
      exact (List.mem_erase_of_ne hne).mpr (h x (List.mem_cons_of_mem _ hx))
    rw [List.length_erase_of_mem ha] at this
    have : 0 < m.length := List.length_pos_of_mem ha
    rw [List.length_cons]; omega
theorem fnd_len (T : List Tie) (i : Nat) : (fnd T i).length ≤ 2 * T.length + 1 := by
  rw [← rms_len]
  exact nodup_le (fnd_nodup T i) fun x hx => (fnd_rms hx).1
/-- the order of finding -/
def ord (T : List Tie) : List Nat := fnd T (2 * T.length + 1)
theorem fnd_stop {T : List Tie} {i : Nat} (h : (fnd T i).length ≤ i) : ∀ {j : Nat}, i ≤ j → fnd T j = fnd T i := by
  intro j hj
  induction hj with
  | refl => rfl
  | @step j hj ih =>
    have e : (fnd T j)[j]? = none := by
      rw [ih]; exact List.getElem?_eq_none (Nat.le_trans h hj)
    rw [fnd_end e, ih]
theorem ord_of {T : List Tie} {i : Nat} (h : (fnd T i).length ≤ i) : fnd T i = ord T := by
  unfold ord
  by_cases hi : i ≤ 2 * T.length + 1
  · exact (fnd_stop h hi).symm
  · exact fnd_stop (fnd_len T _) (by omega)
theorem ord_nodup (T : List Tie) : (ord T).Nodup := fnd_nodup T _
theorem ord_zero (T : List Tie) : (ord T)[0]? = some 0 := fnd_zero T _
theorem mem_ord_zero (T : List Tie) : 0 ∈ ord T := List.mem_of_getElem? (ord_zero T)
theorem ord_closed {T : List Tie} {r c s : Nat} (h : r ∈ ord T) (l : Ld T r c s) : s ∈ ord T := by
  obtain ⟨i, hi, e⟩ := List.getElem_of_mem h
  have hl : (ord T).length ≤ 2 * T.length + 1 := fnd_len T _
  -- the i-th room was walked through
  have key : ∀ j, i < j → j ≤ 2 * T.length + 1 → s ∈ fnd T j := by
    intro j hij hj
    have e2 : (fnd T i)[i]? = some r ∨ (fnd T i).length ≤ i := by
      by_cases hl : i < (fnd T i).length
      · left
        obtain ⟨q, hq⟩ := fnd_pre T (i := i) (j := 2 * T.length + 1) (by omega)
        have : (ord T)[i]? = some r := by rw [List.getElem?_eq_getElem hi, e]
        unfold ord at this
        rw [← hq, List.getElem?_append_left hl] at this
        exact this
      · right; omega
    rcases e2 with e2 | e2
    · have m : s ∈ fnd T (i + 1) := by
        rw [fnd_succ e2, mem_addAll]
        exact Or.inr (mem_nb.mpr ⟨c, l⟩)
      obtain ⟨q, hq⟩ := fnd_pre T (i := i + 1) (j := j) hij
      rw [← hq]
      exact List.mem_append.mpr (Or.inl m)
    · exfalso
      have := ord_of e2
      rw [this] at e2
      omega
  exact key _ (by omega) (Nat.le_refl _)
theorem ord_walk {T : List Tie} : ∀ {w : List Nat} {r s : Nat}, r ∈ ord T → Wlk T r w s → s ∈ ord T
  | [], r, s, h, k => (show r = s from k) ▸ h
  | c :: w, r, s, h, ⟨m, l, t⟩ => ord_walk (ord_closed h l) t
theorem mem_ord {T : List Tie} {r : Nat} : r ∈ ord T ↔ ∃ w, Wlk T 0 w r :=
  ⟨fun h => (fnd_rms h).2, fun ⟨w, h⟩ => ord_walk (mem_ord_zero T) h⟩
/-! ### rooms told by other numbers -/
def tmap (f : Nat → Nat) (T : List Tie) : List Tie := T.map fun t => (f t.1, t.2.1, f t.2.2)
theorem gl_tmap {f : Nat → Nat} {T : List Tie} (hf : ∀ a ∈ rms T, ∀ b ∈ rms T, f a = f b → a = b) {r c : Nat} (hr : r ∈ rms T) : gl (tmap f T) (f r) c = (gl T r c).map f := by
  have sub : ∀ (U : List Tie), (∀ t ∈ U, t ∈ T) → gl (tmap f U) (f r) c = (gl U r c).map f := by
    intro U
    induction U with
    | nil => intro _; rfl
    | cons t U ih =>
      intro h
      have ih := ih fun x hx => h x (List.mem_cons_of_mem _ hx)
      have ht := h t List.mem_cons_self
      have h1 : t.1 ∈ rms T := mem_rms.mpr (Or.inr ⟨t, ht, Or.inl rfl⟩)
      have h2 : t.2.2 ∈ rms T := mem_rms.mpr (Or.inr ⟨t, ht, Or.inr rfl⟩)
      unfold gl tmap at ih ⊢
      rw [List.map_cons, List.filterMap_cons, List.filterMap_cons]
      by_cases h97 : 97 ≤ c
      · simp only [if_pos h97] at ih ⊢
        by_cases q : t.1 = r ∧ t.2.1 = c
        · have q' : f t.1 = f r ∧ t.2.1 = c := ⟨by rw [q.1], q.2⟩
          rw [if_pos q, if_pos q']
          simp only [List.map_cons]
          rw [ih]
        · have q' : ¬ (f t.1 = f r ∧ t.2.1 = c) := fun z => q ⟨hf _ h1 _ hr z.1, z.2⟩
          rw [if_neg q, if_neg q']
          exact ih
      · simp only [if_neg h97] at ih ⊢
        by_cases q : t.2.2 = r ∧ t.2.1 = c + 32
        · have q' : f t.2.2 = f r ∧ t.2.1 = c + 32 := ⟨by rw [q.1], q.2⟩
          rw [if_pos q, if_pos q']
          simp only [List.map_cons]
          rw [ih]
        · have q' : ¬ (f t.2.2 = f r ∧ t.2.1 = c + 32) := fun z => q ⟨hf _ h2 _ hr z.1, z.2⟩
          rw [if_neg q, if_neg q']
          exact ih
  exact sub T fun _ h => h
theorem nb_tmap {f : Nat → Nat} {T : List Tie} (hf : ∀ a ∈ rms T, ∀ b ∈ rms T, f a = f b → a = b) {r : Nat} (hr : r ∈ rms T) : nb (tmap f T) (f r) = (nb T r).map f := by
  unfold nb
  rw [List.map_flatMap]
  congr 1
  funext c
  exact gl_tmap hf hr
theorem add1_map {f : Nat → Nat} {l : List Nat} {x : Nat} {D : List Nat} (hf : ∀ a ∈ D, ∀ b ∈ D, f a = f b → a = b) (hl : ∀ a ∈ l, a ∈ D) (hx : x ∈ D) : add1 (l.map f) (f x) = (add1 l x).map f := by
  unfold add1
  by_cases h : x ∈ l
  · rw [if_pos h, if_pos (List.mem_map.mpr ⟨x, h, rfl⟩)]
  · have : f x ∉ l.map f := fun z => by
      obtain ⟨y, hy, e⟩ := List.mem_map.mp z
      exact h (hf _ (hl y hy) _ hx e ▸ hy)
    rw [if_neg h, if_neg this, List.map_append]; rfl
theorem addAll_map {f : Nat → Nat} {D : List Nat} (hf : ∀ a ∈ D, ∀ b ∈ D, f a = f b → a = b) : ∀ {m l : List Nat}, (∀ a ∈ l, a ∈ D) → (∀ a ∈ m, a ∈ D) → addAll (l.map f) (m.map f) = (addAll l m).map f := by
  intro m
  induction m with
  | nil => intro l _ _; rfl
  | cons x m ih =>
    intro l hl hm
    have hx := hm x List.mem_cons_self
    rw [List.map_cons, addAll_cons, addAll_cons, add1_map hf hl hx]
    refine ih (fun a ha => ?_) fun a ha => hm a (List.mem_cons_of_mem _ ha)
    rcases mem_add1.mp ha with h | rfl
    · exact hl a h
    · exact hx
theorem fnd_tmap {f : Nat → Nat} {T : List Tie} (hf : ∀ a ∈ rms T, ∀ b ∈ rms T, f a = f b → a = b) (h0 : f 0 = 0) : ∀ i, fnd (tmap f T) i = (fnd T i).map f
  | 0 => by show [0] = [f 0]; rw [h0]
  | i + 1 => by
    have ih := fnd_tmap hf h0 i
    cases e : (fnd T i)[i]? with
    | none =>
      rw [fnd_end e, fnd_end (by rw [ih, List.getElem?_map, e]; rfl), ih]
    | some r =>
      have hr : r ∈ rms T := (fnd_rms (List.mem_of_getElem? e)).1
      rw [fnd_succ e, fnd_succ (r := f r) (by rw [ih, List.getElem?_map, e]; rfl), ih, nb_tmap hf hr]
      exact addAll_map hf (fun a ha => (fnd_rms ha).1) fun a ha => by
        obtain ⟨c, l⟩ := mem_nb.mp ha
        exact l.rms.2
theorem ord_tmap {f : Nat → Nat} {T : List Tie} (hf : ∀ a ∈ rms T, ∀ b ∈ rms T, f a = f b → a = b) (h0 : f 0 = 0) : ord (tmap f T) = (ord T).map f := by
  unfold ord
  rw [show (tmap f T).length = T.length by unfold tmap; simp]
  exact fnd_tmap hf h0 _
end Gw

/-! ## W3 -/
/-! webs that are numbered as they are found; there is one for each set of words read -/
namespace Gw
theorem shrt_glue : ∀ {u v : List Nat} {a b : Nat}, Shrt (u ++ [a]) → Shrt (b :: v) → b ≠ bk a → Shrt (u ++ a :: b :: v)
  | [], v, a, b, _, h2, h => ⟨h, h2⟩
  | [c], v, a, b, h1, h2, h => ⟨h1.1, h, h2⟩
  | c :: d :: u, v, a, b, h1, h2, h => ⟨h1.1, shrt_glue (u := d :: u) h1.2 h2 h⟩
theorem shrt_left : ∀ {u v : List Nat}, Shrt (u ++ v) → Shrt u
  | [], v, _ => trivial
  | [c], v, _ => trivial
  | c :: d :: u, v, h => ⟨h.1, shrt_left (u := d :: u) h.2⟩
theorem shrt_right : ∀ {u v : List Nat}, Shrt (u ++ v) → Shrt v
  | [], v, h => h
  | [c], [], _ => trivial
  | [c], d :: v, h => h.2
  | c :: d :: u, v, h => shrt_right (u := d :: u) h.2
theorem exists_max {D : List Nat} {p : Nat → Prop} (f : Nat → Nat) (h : ∃ x ∈ D, p x) : ∃ x ∈ D, p x ∧ ∀ y ∈ D, p y → f y ≤ f x := by
  induction D with
  | nil => obtain ⟨x, hx, _⟩ := h; cases hx
  | cons a D ih =>
    by_cases hD : ∃ x ∈ D, p x
    · obtain ⟨x, hx, px, mx⟩ := ih hD
      by_cases pa : p a ∧ f x ≤ f a
      · refine ⟨a, List.mem_cons_self, pa.1, fun y hy py => ?_⟩
        rcases List.mem_cons.mp hy with rfl | hy
        · exact Nat.le_refl _
        · exact Nat.le_trans (mx y hy py) pa.2
      · refine ⟨x, List.mem_cons_of_mem _ hx, px, fun y hy py => ?_⟩
        rcases List.mem_cons.mp hy with rfl | hy
        · have : ¬ f x ≤ f y := fun z => pa ⟨py, z⟩
          omega
        · exact mx y hy py
    · obtain ⟨x, hx, px⟩ := h
      rcases List.mem_cons.mp hx with rfl | hx
      · refine ⟨x, List.mem_cons_self, px, fun y hy py => ?_⟩
        rcases List.mem_cons.mp hy with rfl | hy
        · exact Nat.le_refl _
        · exact absurd ⟨y, hy, py⟩ hD
      · exact absurd ⟨x, hx, px⟩ hD
/-- ways to the rooms of D: each hangs on another one's -/
structure Ways (T : List Tie) (D : List Nat) (way : Nat → List Nat) : Prop where
  zero : way 0 = []
  mem : 0 ∈ D
  up : ∀ r ∈ D, r ≠ 0 → ∃ m c, m ∈ D ∧ way r = way m ++ [c] ∧ Ld T m c r
theorem Ways.add {T : List Tie} {D : List Nat} {way : Nat → List Nat} (W : Ways T D way) {r c x : Nat} (hr : r ∈ D) (l : Ld T r c x) : ∃ way', Ways T (add1 D x) way' := by
  by_cases hx : x ∈ D
  · refine ⟨way, ?_⟩
    unfold add1; rw [if_pos hx]; exact W
  · have h0 : x ≠ 0 := fun e => hx (e ▸ W.mem)
    refine ⟨fun y => if y = x then way r ++ [c] else way y, ⟨?_, mem_add1.mpr (Or.inl W.mem), fun y hy hy0 => ?_⟩⟩
    · rw [if_neg (fun e => h0 e.symm)]; exact W.zero
    · rcases mem_add1.mp hy with hy | rfl
      · obtain ⟨m, d, hm, e, l2⟩ := W.up y hy hy0
        have n1 : y ≠ x := fun e => hx (e ▸ hy)
        have n2 : m ≠ x := fun e => hx (e ▸ hm)
        exact ⟨m, d, mem_add1.mpr (Or.inl hm), by simp only [if_neg n1, if_neg n2]; exact e, l2⟩
      · have n2 : r ≠ y := fun e => hx (e ▸ hr)
        exact ⟨r, c, mem_add1.mpr (Or.inl hr), by simp only [if_pos, if_neg n2], l⟩
theorem Ways.addAll {T : List Tie} {r : Nat} : ∀ {l D : List Nat} {way : Nat → List Nat}, Ways T D way → r ∈ D → (∀ x ∈ l, ∃ c, Ld T r c x) → ∃ way', Ways T (Gw.addAll D l) way'
  | [], D, way, W, _, _ => ⟨way, W⟩
  | x :: l, D, way, W, hr, h => by
    obtain ⟨c, hc⟩ := h x List.mem_cons_self
    obtain ⟨w', W'⟩ := W.add hr hc
    exact Ways.addAll (l := l) (D := add1 D x) W' (mem_add1.mpr (Or.inl hr)) fun y hy => h y (List.mem_cons_of_mem _ hy)
theorem ways_fnd (T : List Tie) : ∀ i, ∃ way, Ways T (fnd T i) way
  | 0 => ⟨fun _ => [], rfl, by simp [fnd], fun r hr h0 => absurd (by simpa [fnd] using hr) h0⟩
  | i + 1 => by
    obtain ⟨way, W⟩ := ways_fnd T i
    cases e : (fnd T i)[i]? with
    | none => exact ⟨way, by rw [fnd_end e]; exact W⟩
    | some r =>
      rw [fnd_succ e]
      exact W.addAll (List.mem_of_getElem? e) fun x hx => mem_nb.mp hx
theorem ways_ord (T : List Tie) : ∃ way, Ways T (ord T) way := ways_fnd T _
section
variable {T : List Tie} {D : List Nat} {way : Nat → List Nat}
theorem Ways.walk (W : Ways T D way) : ∀ {n r : Nat}, (way r).length = n → r ∈ D → Wlk T 0 (way r) r := by
  intro n
  induction n with
  | zero =>
    intro r h hr
    by_cases h0 : r = 0
    · rw [h0, W.zero]; rfl
    · obtain ⟨m, c, _, e, _⟩ := W.up r hr h0
      rw [e] at h; simp at h
  | succ n ih =>
    intro r h hr
    by_cases h0 : r = 0
    · rw [h0, W.zero] at h; simp at h
    · obtain ⟨m, c, hm, e, l⟩ := W.up r hr h0
      rw [e] at h ⊢
      rw [List.length_append] at h
      exact (ih (by simpa using h) hm).app (Wlk.one l)
theorem Ways.wlk (W : Ways T D way) {r : Nat} (hr : r ∈ D) : Wlk T 0 (way r) r := W.walk rfl hr
theorem Ways.shrt (W : Ways T D way) (F : Folded T) : ∀ {n r : Nat}, (way r).length = n → r ∈ D → Shrt (way r) := by
  intro n
  induction n with
  | zero => intro r h _; rw [List.eq_nil_of_length_eq_zero h]; trivial
  | succ n ih =>
    intro r h hr
    by_cases h0 : r = 0
    · rw [h0, W.zero] at h; simp at h
    · obtain ⟨m, c, hm, e, l⟩ := W.up r hr h0
      rw [e] at h
      rw [List.length_append] at h
      have sm := ih (r := m) (by simpa using h) hm
      by_cases m0 : m = 0
      · rw [e, m0, W.zero]; trivial
      · obtain ⟨k, d, hk, e2, l2⟩ := W.up m hm m0
        rw [e, e2, List.append_assoc]
        rw [e2] at sm
        refine shrt_snoc sm fun z => ?_
        have hk2 : Ld T m (bk d) k := l2.back
        rw [← z] at hk2
        have : r = k := F _ _ _ _ l hk2
        subst this
        rw [e2] at e
        have := congrArg List.length e
        simp at this
theorem Ways.sh (W : Ways T D way) (F : Folded T) {r : Nat} (hr : r ∈ D) : Shrt (way r) := W.shrt F rfl hr
/-- the loop of a tie: way, letter, way back; short, unless one way goes on in the other -/
theorem Ways.loop (W : Ways T D way) (F : Folded T) {r c s : Nat} (hr : r ∈ D) (hs : s ∈ D) (l : Ld T r c s) (h1 : way s ≠ way r ++ [c]) (h2 : way r ≠ way s ++ [bk c]) : Shrt (way r ++ c :: inv (way s)) := by
  have a1 : Shrt (way r ++ [c]) := by
    by_cases r0 : r = 0
    · rw [r0, W.zero]; trivial
    · obtain ⟨m, d, hm, e, k⟩ := W.up r hr r0
      rw [e, List.append_assoc]
      have := W.sh F hr
      rw [e] at this
      refine shrt_snoc this fun z => h2 ?_
      have kb := k.back
      rw [← z] at kb
      have : s = m := F _ _ _ _ l kb
      subst this
      rw [e, z, bk_bk k.isL]
  by_cases s0 : s = 0
  · rw [s0, W.zero]; exact a1
  · obtain ⟨m, d, hm, e, k⟩ := W.up s hs s0
    have ws : isW (way s) = true := (W.wlk hs).isW
    have a2 := shrt_inv ws (W.sh F hs)
    rw [e, inv_app] at a2 ⊢
    refine shrt_glue a1 a2 fun z => h1 ?_
    have : d = c := bk_inj k.isL l.isL z
    subst this
    have e3 : m = r := F _ _ _ _ k.back l.back
    rw [e, e3]
end
/-- a web, but for its numbering -/
structure Core (T : List Tie) : Prop where
  nd : T.Nodup
  small : ∀ t ∈ T, 97 ≤ t.2.1 ∧ t.2.1 ≤ 122
  fold : Folded T
  conn : ∀ r ∈ rms T, r ∈ ord T
  two : ∀ r ∈ rms T, r ≠ 0 → ∃ c s d u, c ≠ d ∧ Ld T r c s ∧ Ld T r d u
def Num (T : List Tie) : Prop := ord T = List.range (ord T).length
theorem Core.ords {T : List Tie} (C : Core T) {r : Nat} : r ∈ ord T ↔ r ∈ rms T := ⟨fun h => (fnd_rms h).1, C.conn r⟩
/-- each way goes on to a short word that is read -/
theorem Core.ext {T : List Tie} (C : Core T) {way : Nat → List Nat} (W : Ways T (ord T) way) {r : Nat} (hr : r ∈ ord T) : ∃ q, Wlk T r q 0 ∧ Shrt (way r ++ q) := by
  obtain ⟨e, he, ⟨q0, hq⟩, mx⟩ := exists_max (fun x => (way x).length) (D := ord T) (p := fun x => way r <+: way x) ⟨r, hr, List.prefix_refl _⟩
  have we := W.wlk he
  rw [← hq] at we
  obtain ⟨m0, w1, w2⟩ := we.split
  have : m0 = r := w1.det C.fold (W.wlk hr)
  subst this
  by_cases e0 : e = 0
  · subst e0
    exact ⟨q0, w2, by rw [hq]; exact W.sh C.fold he⟩
  · obtain ⟨m, c0, hm, ep, l0⟩ := W.up e he e0
    obtain ⟨c, s, hc, ls⟩ : ∃ c s, c ≠ bk c0 ∧ Ld T e c s := by
      obtain ⟨c, s, d, u, hne, l1, l2⟩ := C.two e (C.ords.mp he) e0
      by_cases z : c = bk c0
      · exact ⟨d, u, fun y => hne (z.trans y.symm), l2⟩
      · exact ⟨c, s, z, l1⟩
    have hs : s ∈ ord T := ord_closed he ls
    have n1 : way s ≠ way e ++ [c] := fun z => by
      have := mx s hs ⟨q0 ++ [c], by rw [z, ← hq, List.append_assoc]⟩
      simp only [z, List.length_append, List.length_cons, List.length_nil] at this
      omega
    have n2 : way e ≠ way s ++ [bk c] := fun z => hc (by
      have : way m ++ [c0] = way s ++ [bk c] := ep ▸ z
      have := (List.append_inj' this rfl).2
      have e5 : c0 = bk c := by simpa using this
      rw [e5, bk_bk ls.isL])
    have sh := W.loop C.fold he hs ls n1 n2
    refine ⟨q0 ++ c :: inv (way s), w2.app ⟨s, ls, (W.wlk hs).back⟩, ?_⟩
    rw [← List.append_assoc, hq]; exact sh
/-- two webs that read the same -/
def SameR (T U : List Tie) : Prop := ∀ w, isW w = true → (Rds T w ↔ Rds U w)
theorem rds_short {T : List Tie} {w : List Nat} (hw : isW w = true) (h : Shrt w) : Rds T w ↔ Wlk T 0 w 0 := by
  unfold Rds; rw [short_of_shrt hw h]
section
variable {T U : List Tie} {way : Nat → List Nat}
theorem Core.goes (C : Core T) (W : Ways T (ord T) way) (E : SameR T U) {r : Nat} (hr : r ∈ ord T) : ∃ s, Wlk U 0 (way r) s := by
  obtain ⟨q, w1, sh⟩ := C.ext W hr
  have w := (W.wlk hr).app w1
  have := (E _ w.isW).mp ((rds_short w.isW sh).mpr w)
  obtain ⟨s, a, _⟩ := ((rds_short w.isW sh).mp this).split
  exact ⟨s, a⟩
theorem Core.image (C : Core T) (FU : Folded U) (W : Ways T (ord T) way) (E : SameR T U) : ∃ f : Nat → Nat, f 0 = 0 ∧ (∀ r ∈ ord T, Wlk U 0 (way r) (f r)) ∧ (∀ r c s, Ld T r c s → r ∈ ord T → Ld U (f r) c (f s)) ∧ ∀ r ∈ ord T, ∀ s ∈ ord T, f r = f s → r = s := by
  have ch : ∀ r, ∃ s, r ∈ ord T → Wlk U 0 (way r) s := fun r => by
    by_cases hr : r ∈ ord T
    · obtain ⟨s, h⟩ := C.goes W E hr
      exact ⟨s, fun _ => h⟩
    · exact ⟨0, fun z => absurd z hr⟩
  obtain ⟨f, hf⟩ := Classical.axiomOfChoice ch
  have f0 : f 0 = 0 := by
    have := hf 0 (mem_ord_zero T)
    rw [W.zero] at this
    exact (show 0 = f 0 from this).symm
  refine ⟨f, f0, hf, fun r c s l hr => ?_, fun r hr s hs e => ?_⟩
  · have hs : s ∈ ord T := ord_closed hr l
    by_cases h1 : way s = way r ++ [c]
    · have k := hf s hs
      rw [h1] at k
      obtain ⟨m, a, n, b, e⟩ := k.split
      have e' : n = f s := e
      have : m = f r := a.det FU (hf r hr)
      rw [← this, ← e']; exact b
    · by_cases h2 : way r = way s ++ [bk c]
      · have k := hf r hr
        rw [h2] at k
        obtain ⟨m, a, n, b, e⟩ := k.split
        have e' : n = f r := e
        have : m = f s := a.det FU (hf s hs)
        have := b.back
        rw [bk_bk l.isL] at this
        rw [← e', ← ‹m = f s›]; exact this
      · have sh := W.loop C.fold hr hs l h1 h2
        have w : Wlk T 0 (way r ++ c :: inv (way s)) 0 := (W.wlk hr).app ⟨s, l, (W.wlk hs).back⟩
        have := (rds_short w.isW sh).mp ((E _ w.isW).mp ((rds_short w.isW sh).mpr w))
        obtain ⟨m, a, n, b, t⟩ := this.split
        have e1 : m = f r := a.det FU (hf r hr)
        have t2 := t.back
        rw [inv_inv (W.wlk hs).isW] at t2
        have e2 : n = f s := t2.det FU (hf s hs)
        rw [← e1, ← e2]; exact b
  · have wr := W.wlk hr
    have ws := W.wlk hs
    have k : Wlk U 0 (way r ++ inv (way s)) 0 := (hf r hr).app (by rw [e]; exact (hf s hs).back)
    have k1 := (E _ k.isW).mpr (rds_of FU k)
    have k2 : Wlk T 0 (short (way r ++ inv (way s)) ++ way s) s := Wlk.app k1 ws
    have rd : Red (short (way r ++ inv (way s)) ++ way s) (short (way r)) := by
      have a1 : Red (way r ++ inv (way s) ++ way s) (short (way r ++ inv (way s)) ++ way s) := (red_short k.isW).appR _
      have a2 : Red (way r ++ inv (way s) ++ way s) (way r) := by
        have i := red_inv (isW_inv ws.isW)
        rw [inv_inv ws.isW] at i
        have := i.appL (way r)
        simpa using this
      have wt : isW (way r ++ inv (way s) ++ way s) = true := isW_app.mpr ⟨k.isW, ws.isW⟩
      have e1 := short_red a1 wt
      have e2 := short_red a2 wt
      have := red_short (a1.isW wt)
      rw [← e1, e2] at this
      exact this
    have k3 := k2.red C.fold rd
    rw [short_of_shrt wr.isW (W.sh C.fold hr)] at k3
    exact wr.det C.fold k3
end
theorem nodup_map {α β : Type} {f : α → β} : ∀ {l : List α}, (∀ a ∈ l, ∀ b ∈ l, f a = f b → a = b) → l.Nodup → (l.map f).Nodup
  | [], _, _ => List.nodup_nil
  | a :: l, h, n => by
    rw [List.nodup_cons] at n
    rw [List.map_cons, List.nodup_cons]
    refine ⟨fun z => ?_, nodup_map (fun x hx y hy => h x (List.mem_cons_of_mem _ hx) y (List.mem_cons_of_mem _ hy)) n.2⟩
    obtain ⟨b, hb, e⟩ := List.mem_map.mp z
    exact n.1 (h b (List.mem_cons_of_mem _ hb) a List.mem_cons_self e ▸ hb)
theorem nodup_le' {α : Type} [DecidableEq α] {l : List α} : ∀ {m : List α}, l.Nodup → (∀ x ∈ l, x ∈ m) → l.length ≤ m.length := by
  induction l with
  | nil => intro m _ _; exact Nat.zero_le _
  | cons a l ih =>
    intro m hn h
    rw [List.nodup_cons] at hn
    have ha := h a List.mem_cons_self
    have := ih (m := m.erase a) hn.2 fun x hx => by
      have hne : x ≠ a := fun e => hn.1 (e ▸ hx)
      exact (List.mem_erase_of_ne hne).mpr (h x (List.mem_cons_of_mem _ hx))
    rw [List.length_erase_of_mem ha] at this
    have : 0 < m.length := List.length_pos_of_mem ha
    rw [List.length_cons]; omega
theorem mem_of_full {α : Type} [DecidableEq α] {l m : List α} (hl : l.Nodup) (h : ∀ x ∈ l, x ∈ m) (hle : m.length ≤ l.length) : ∀ x ∈ m, x ∈ l := by
  intro x hx
  by_cases hxl : x ∈ l
  · exact hxl
  · exfalso
    have : (x :: l).length ≤ m.length := nodup_le' (List.nodup_cons.mpr ⟨hxl, hl⟩) fun y hy => by
      rcases List.mem_cons.mp hy with rfl | hy
      · exact hx
      · exact h y hy
    rw [List.length_cons] at this; omega
theorem tmap_mem {f : Nat → Nat} {T : List Tie} {t : Tie} : t ∈ tmap f T ↔ ∃ u ∈ T, (f u.1, u.2.1, f u.2.2) = t := List.mem_map
theorem Core.sub {T U : List Tie} (C : Core T) (D : Core U) (E : SameR T U) : ∃ f : Nat → Nat, f 0 = 0 ∧ (∀ a ∈ rms T, ∀ b ∈ rms T, f a = f b → a = b) ∧ (tmap f T).Nodup ∧ ∀ t ∈ tmap f T, t ∈ U := by
  obtain ⟨way, W⟩ := ways_ord T
  obtain ⟨f, f0, hf, hl, hi⟩ := C.image D.fold W E
  have hi' : ∀ a ∈ rms T, ∀ b ∈ rms T, f a = f b → a = b := fun a ha b hb => hi a (C.conn a ha) b (C.conn b hb)
  refine ⟨f, f0, hi', ?_, fun t ht => ?_⟩
  · refine nodup_map (fun a ha b hb e => ?_) C.nd
    obtain ⟨a1, a2, a3⟩ := a
    obtain ⟨b1, b2, b3⟩ := b
    simp only [Prod.mk.injEq] at e
    have ma : a1 ∈ rms T ∧ a3 ∈ rms T := ⟨mem_rms.mpr (Or.inr ⟨_, ha, Or.inl rfl⟩), mem_rms.mpr (Or.inr ⟨_, ha, Or.inr rfl⟩)⟩
    have mb : b1 ∈ rms T ∧ b3 ∈ rms T := ⟨mem_rms.mpr (Or.inr ⟨_, hb, Or.inl rfl⟩), mem_rms.mpr (Or.inr ⟨_, hb, Or.inr rfl⟩)⟩
    rw [hi' _ ma.1 _ mb.1 e.1, e.2.1, hi' _ ma.2 _ mb.2 e.2.2]
  · obtain ⟨u, hu, rfl⟩ := tmap_mem.mp ht
    have sm := C.small u hu
    have l : Ld T u.1 u.2.1 u.2.2 := Or.inl ⟨sm.1, sm.2, hu⟩
    rcases hl _ _ _ l (C.conn _ l.rms.1) with ⟨_, _, m⟩ | ⟨h, h', _⟩
    · exact m
    · omega
/-- for a folded web the order of its ties is of no weight -/
theorem gl_one {T : List Tie} (C : Folded T) (nd : T.Nodup) {r c : Nat} (hc : isL c = true) : (∀ s, Ld T r c s → gl T r c = [s]) ∧ ((∀ s, ¬ Ld T r c s) → gl T r c = []) := by
  have hnd : (gl T r c).Nodup := by
    unfold gl
    clear C
    induction T with
    | nil => exact List.nodup_nil
    | cons t T ih =>
      rw [List.nodup_cons] at nd
      have ih := ih nd.2
      rw [List.filterMap_cons]
      split
      · exact ih
      · rename_i b hb
        rw [List.nodup_cons]
        refine ⟨fun z => nd.1 ?_, ih⟩
        obtain ⟨u, hu, e⟩ := List.mem_filterMap.mp z
        obtain ⟨t1, t2, t3⟩ := t
        obtain ⟨u1, u2, u3⟩ := u
        by_cases h97 : 97 ≤ c
        · simp only [if_pos h97] at hb e
          split at hb
          · rename_i q
            split at e
            · rename_i p
              cases hb; cases e
              obtain ⟨rfl, rfl⟩ := q
              obtain ⟨rfl, rfl⟩ := p
              exact hu
            · cases e
          · cases hb
        · simp only [if_neg h97] at hb e
          split at hb
          · rename_i q
            split at e
            · rename_i p
              cases hb; cases e
              obtain ⟨q1, q2⟩ := q
              obtain ⟨p1, p2⟩ := p
              have e1 : t3 = u3 := q1.trans p1.symm
              have e2 : t2 = u2 := q2.trans p2.symm
              subst e1 e2
              exact hu
            · cases e
          · cases hb
  constructor
  · intro s hs
    have ms := (mem_gl hc).mpr hs
    cases h : gl T r c with
    | nil => rw [h] at ms; cases ms
    | cons a l =>
      have ha : a = s := C _ _ _ _ ((mem_gl hc).mp (by rw [h]; exact List.mem_cons_self)) hs
      cases l with
      | nil => rw [ha]
      | cons b l =>
        have hb : b = s := C _ _ _ _ ((mem_gl hc).mp (by rw [h]; exact List.mem_cons_of_mem _ List.mem_cons_self)) hs
        rw [h, ha, hb] at hnd
        simp at hnd
  · intro hs
    cases h : gl T r c with
    | nil => rfl
    | cons a l => exact absurd ((mem_gl hc).mp (by rw [h]; exact List.mem_cons_self)) (hs a)
theorem ld_congr {T U : List Tie} (h : ∀ t, t ∈ T ↔ t ∈ U) {r c s : Nat} : Ld T r c s ↔ Ld U r c s := by
  unfold Ld; rw [h, h]
theorem gl_congr {T U : List Tie} (h : ∀ t, t ∈ T ↔ t ∈ U) (F : Folded T) (nT : T.Nodup) (nU : U.Nodup) {r c : Nat} (hc : isL c = true) : gl T r c = gl U r c := by
  have FU : Folded U := fun r c s s' a b => F r c s s' ((ld_congr h).mpr a) ((ld_congr h).mpr b)
  by_cases e : ∃ s, Ld T r c s
  · obtain ⟨s, l⟩ := e
    rw [(gl_one F nT hc).1 s l, (gl_one FU nU hc).1 s ((ld_congr h).mp l)]
  · have e' : ∀ s, ¬ Ld T r c s := fun s l => e ⟨s, l⟩
    rw [(gl_one F nT hc).2 e', (gl_one FU nU hc).2 fun s l => e' s ((ld_congr h).mpr l)]
theorem flatMap_ext {f g : Nat → List Nat} : ∀ {l : List Nat}, (∀ x ∈ l, f x = g x) → l.flatMap f = l.flatMap g
  | [], _ => rfl
  | a :: l, h => by rw [List.flatMap_cons, List.flatMap_cons, h a List.mem_cons_self, flatMap_ext fun x hx => h x (List.mem_cons_of_mem _ hx)]
theorem ord_congr {T U : List Tie} (h : ∀ t, t ∈ T ↔ t ∈ U) (F : Folded T) (nT : T.Nodup) (nU : U.Nodup) : ord T = ord U := by
  have hn : ∀ r, nb T r = nb U r := fun r => flatMap_ext fun c hc => gl_congr h F nT nU (mem_lets.mp hc)
  have hf : ∀ i, fnd T i = fnd U i := by
    intro i
    induction i with
    | zero => rfl
    | succ i ih =>
      cases e : (fnd T i)[i]? with
      | none => rw [fnd_end e, fnd_end (by rw [← ih]; exact e), ih]
      | some r => rw [fnd_succ e, fnd_succ (r := r) (by rw [← ih]; exact e), ih, hn]
  have hl : T.length = U.length := Nat.le_antisymm (nodup_le' nT fun t ht => (h t).mp ht) (nodup_le' nU fun t ht => (h t).mpr ht)
  unfold ord
  rw [hl, hf]
/-- there is one web for what is read -/
theorem Core.unique {T U : List Tie} (C : Core T) (D : Core U) (nT : Num T) (nU : Num U) (E : SameR T U) : ∀ t, t ∈ T ↔ t ∈ U := by
  obtain ⟨f, f0, fi, fn, fm⟩ := C.sub D E
  obtain ⟨g, g0, gi, gn, gm⟩ := D.sub C fun w hw => (E w hw).symm
  have l1 : T.length ≤ U.length := by
    have := nodup_le' fn fm
    unfold tmap at this; simpa using this
  have l2 : U.length ≤ T.length := by
    have := nodup_le' gn gm
    unfold tmap at this; simpa using this
  have full : ∀ t, t ∈ tmap f T ↔ t ∈ U := fun t => ⟨fm t, mem_of_full fn fm (by unfold tmap; rw [List.length_map]; exact l2) t⟩
  have F : Folded (tmap f T) := fun r c s s' a b => D.fold r c s s' ((ld_congr full).mp a) ((ld_congr full).mp b)
  have o : ord U = (ord T).map f := by rw [← ord_tmap fi f0, ord_congr full F fn D.nd]
  have len : (ord U).length = (ord T).length := by rw [o, List.length_map]
  have fx : ∀ r ∈ ord T, f r = r := by
    intro r hr
    have e1 : List.range (ord T).length = (ord T).map f := by rw [← len, ← nU]; exact o
    have e2 : (List.range (ord T).length).map f = List.range (ord T).length := by
      have := e1
      rw [nT, List.length_range] at this
      exact this.symm
    have hr' : r < (ord T).length := by
      rw [nT] at hr; exact List.mem_range.mp hr
    have := congrArg (·[r]?) e2
    simp only [List.getElem?_map, List.getElem?_range hr', Option.map_some] at this
    exact Option.some.inj this
  have same : tmap f T = T := by
    unfold tmap
    conv => rhs; rw [← List.map_id T]
    refine List.map_congr_left fun t ht => ?_
    have m1 : t.1 ∈ ord T := C.conn _ (mem_rms.mpr (Or.inr ⟨t, ht, Or.inl rfl⟩))
    have m2 : t.2.2 ∈ ord T := C.conn _ (mem_rms.mpr (Or.inr ⟨t, ht, Or.inr rfl⟩))
    rw [fx _ m1, fx _ m2]; rfl
  intro t
  rw [← full, same]
end Gw

/-! ## R5 -/
namespace Gw
open PySem PySem.Spec PyProof.Rows L2 Evl

/-! ### d.setdefault(t, x), the keys tuples -/
section
variable {X : Cx} {pins : List (Addr × Obj)} {σ : L2.St} {H : Hp} {s : Shared} {a b : Addr} {r : Value} {d : V} {k : List Key} {A : Around} {E : Value → Shared → Prop}
theorem d_setdT {kvs : List (List Key × V)} {Q : Value → Shared → Prop} (hu : A.units + 1 < cLine) (I : Inv X pins σ H s) (e : H a = some (.dT kvs)) (eb : H b = some (.tup (k.map kV))) (rd : RelV d r) (hl : kvs.length < sizeLine)
    (h1 : ∀ v, valV kvs k = some v → ∀ (w' : Value) (s' : Shared), Inv X pins σ H s' → RelV v w' → Q w' s') (h2 : valV kvs k = none → ∀ (w' : Value) (s' : Shared), Inv X pins σ (upd H a (.dT (putK kvs k d))) s' → RelV d w' → Q w' s') :
    wpAny (model X.prog X.w) A (call (.builtin "dict.setdefault") [.ref a, .ref b, r]) Q E s := by
  obtain ⟨z, hd, xs, rel, dd⟩ := dt_of I.hok e
  have hz : xs.length ≤ sizeLine := by rw [← Paired.length rel]; exact z
  refine call_setdefault_heap (hsz := hz) (tupleKind_room_in1 hu) (key_of I.hok eb) hd dd (fun p hp => ?_) fun hn h' dd' hs => ?_
  · have q := rel.val k
    rw [hp] at q
    cases q0 : valV kvs k with
    | none => rw [q0] at q; exact (show False from q).elim
    | some v0 =>
      rw [q0] at q
      exact h1 v0 q0 _ _ (I.tok _) q
  · have q := rel.val k
    rw [hn] at q
    cases q0 : valV kvs k with
    | some v0 => rw [q0] at q; exact (show False from q).elim
    | none =>
      have hl2 : (putK kvs k d).length ≤ sizeLine := by have := length_putK kvs k d; omega
      obtain ⟨o, es, ep, ho, i1, i2, i3, _, i4⟩ := dd'
      refine h2 q0 _ _ (d_write I (by rw [e]; exact True.intro) hs ⟨o, ho⟩ ⟨hl2, hd, _, (rel.put k eb rd).keeps fun c ys ec => ?_, o, es, ep, ho, i1, i2, i3, i4⟩) rd
      rw [upd_ne (ne_of ec e (fun z => nomatch z))]
      exact ec
end
def tDSetT (td ty tx : TE) : TE := fun σ H Q => td σ H fun x H1 => ∃ a, x = .ref a ∧ IsD H1 a ∧ ty σ H1 fun y H2 => tx σ H2 fun z H3 => ∃ (kvs : List (List Key × V)) (k : List Key) (b : Addr), H3 a = some (.dT kvs) ∧ y = .ref b ∧ H3 b = some (.tup (k.map kV)) ∧ kvs.length < sizeLine ∧
  (∀ v, valV kvs k = some v → Q v H3) ∧ (valV kvs k = none → Q z (upd H3 a (.dT (putK kvs k z))))
section
variable {X : Cx} {o e f : Expr} {td ty tx : TE} {apos cpos : Pos}
theorem pe_dsetT (hu : X.A.units + 1 < cLine) (ho : PE X o td) (he : PE X e ty) (hf : PE X f tx) (m : M2 X o "setdefault" apos e f cpos) : PE X (.Call (.Attribute o "setdefault" apos) [e, f] [] cpos) (tDSetT td ty tx) := by
  refine ⟨fun pz s σ H Q I h => ?_⟩
  refine wpAny_Call_method m.base m.few m.line PySem.F.plainAttrs_dict PySem.F.slot_dict_setdefault PySem.F.type_dict_setdefault (thn (ho.run pz s σ H _ I h) fun u sE ⟨x, HE, IE, rE, a, ex, d, qE⟩ => ?_)
  subst ex
  obtain rfl : u = Value.ref a := rE
  obtain ⟨t1, t2, _⟩ := isD_at IE d
  refine ⟨t1, t2, ?_⟩
  rw [m.trees]
  refine Calls.callWith_builtin rfl (Calls.evalArgs_plain (Calls.spliced_cons (thn (he.run pz sE σ HE _ IE qE) fun iv s2 ⟨y, H2, I2, ry, q2⟩ =>
    Calls.spliced_cons (thn (hf.run pz s2 σ H2 _ I2 q2) fun fv s3 ⟨z, H3, I3, rz, kvs, k, b, ea, ey, eb, hl, q3, q4⟩ => Calls.spliced_nil ?_))))
  subst ey
  obtain rfl : iv = Value.ref b := ry
  exact d_setdT hu I3 ea eb rz hl (fun v hv w' s4 I4 rw' => ⟨v, _, I4, rw', q3 v hv⟩) fun hn w' s4 I4 rw' => ⟨z, _, I4, rw', q4 hn⟩
end

/-! ### targets of three names -/
theorem g3 {K : PySem.W.Frag} {i j k : Nat} {x a b c : V} {p : Addr} {σ : L2.St} {H : Hp} {Q : L2.St → Hp → Prop} (hx : x = .ref p) (h : SqT K H p [a, b, c]) (q : Q (((σ.set i (some a)).set j (some b)).set k (some c)) H) :
    gTup K 3 (gCons (gName i) (gCons (gName j) (gCons (gName k) gNil))) x σ H Q :=
  ⟨p, [a, b, c], hx, h, rfl, a, _, rfl, b, _, rfl, c, _, rfl, rfl, q⟩

/-! ### a comprehension by what it has made so far -/
structure AccOk (Acc : Nat → List V → Hp → Prop) : Prop where
  mono : ∀ i l H1 H2, Ex H1 H2 → Acc i l H1 → Acc i l H2
  upd : ∀ i l H1 D xs ys, H1 D = some (.lst xs) → Acc i l H1 → Acc i l (L2.upd H1 D (.lst ys))
  len : ∀ i l H1, Acc i l H1 → l.length < 100000
theorem lc_inv {wi : TI} {items : List V} {St : Hp → Prop} {g : TG} {tt : TT} {te : TE} {vs : List Nat} {σ : L2.St} {H : Hp} (h : EvW wi σ H items St) (hst : St H) (hk : Kp St) (Acc : Nat → List V → Hp → Prop) (ok : AccOk Acc) (a0 : ∀ H1, Ex H H1 → Acc 0 [] H1)
    (hs : ∀ i x H1 l, items[i]? = some x → Ex H H1 → Acc i l H1 → g x (wipe σ vs) H1 fun σ2 H2 => wipe σ2 vs = wipe σ vs ∧ tt σ2 H2 fun b H3 => if b = true then te σ2 H3 fun y H4 => Ex H1 H4 ∧ Acc (i + 1) (l ++ [y]) H4 else Ex H1 H3 ∧ Acc (i + 1) l H3)
    (mg : ∀ x σ2 H1 (Q Q' : L2.St → Hp → Prop), (∀ σ3 H3, Q σ3 H3 → Q' σ3 H3) → g x σ2 H1 Q → g x σ2 H1 Q') (mt : ∀ σ2 H1 (Q Q' : Bool → Hp → Prop), (∀ b H3, Q b H3 → Q' b H3) → tt σ2 H1 Q → tt σ2 H1 Q')
    (me : ∀ σ2 H1 (Q Q' : VK), (∀ b H3, Q b H3 → Q' b H3) → te σ2 H1 Q → te σ2 H1 Q') :
    ∀ H0, Ex H H0 → ∀ Q : VK, (∀ p H2 l, H0 p = none → Ex H0 H2 → H2 p = some (.lst l) → Acc items.length l H2 → Q (.ref p) H2) → tLc wi g tt te vs σ H0 Q := fun H0 e Q q => h H0 e _ fun J H1 e1 wk Dl hD => by
  refine ⟨fun i m H' => m = items.length - i ∧ i ≤ items.length ∧ Ex H1 H' ∧ ∃ l, H' Dl = some (.lst l) ∧ Acc i l H', ⟨items.length, rfl, Nat.zero_le _, Ex.new hD, [], upd_same, a0 _ ((e.trans e1).trans (Ex.new hD))⟩, ?_⟩
  rintro i m H' ⟨rfl, hi, ex, l, hl, ac⟩
  have hst' : St H' := hk _ _ ((e.trans e1).trans ex) hst
  by_cases hlt : i < items.length
  · refine .inr ⟨wk.go i H' hst' hlt, fun H'' => Ex H1 H'' ∧ ∃ l, H'' Dl = some (.lst l) ∧ Acc (i + 1) l H'', fun H'' ⟨a, b⟩ => ⟨items.length - (i + 1), by omega, rfl, hlt, a, b⟩, ?_⟩
    intro x H'' hy
    obtain ⟨rfl, hx⟩ := wk.yld i H' x H'' hst' hlt hy
    refine mg _ _ _ _ _ (fun σ3 H3 w => ⟨w.1, mt _ _ _ _ (fun b H4 w2 => ?_) w.2⟩) (hs i x H'' l hx ((e.trans e1).trans ex) ac)
    cases b with
    | true =>
      show te σ3 H4 _
      refine me _ _ _ _ (fun y H5 w3 => ?_) w2
      obtain ⟨e5, a5⟩ := w3
      have hl5 := e5 _ _ hl
      exact ⟨l, hl5, sz_lt (ok.len _ _ _ ac), Ex.mut (ex.trans e5) hD, _, upd_same, ok.upd _ _ _ _ _ _ hl5 a5⟩
    | false =>
      obtain ⟨e5, a5⟩ : Ex H'' H4 ∧ Acc (i + 1) l H4 := w2
      exact ⟨ex.trans e5, l, e5 _ _ hl, a5⟩
  · refine .inl ⟨wk.stop i H' hst' (by omega), ?_⟩
    have ei : i = items.length := by omega
    subst ei
    exact q Dl H' l (fresh_back e1 hD) (e1.trans ex) hl ac

/-! ### ties and webs in the heap -/
def tieV (t : Tie) : List V := [.int (t.1 : Nat), sgn t.2.1, .int (t.2.2 : Nat)]
def Ties (H : Hp) (xs : List V) (T : List Tie) : Prop := Paired (fun x t => ∃ a, x = V.ref a ∧ H a = some (.tup (tieV t))) xs T
def WebAt (K : PySem.W.Frag) (H : Hp) (p : Addr) (T : List Tie) : Prop := ∃ xs, SqL K H p xs ∧ Ties H xs T
theorem Ties.mono {H H' : Hp} {xs : List V} {T : List Tie} (e : Ex H H') (h : Ties H xs T) : Ties H' xs T := Paired.mapP h fun x t ⟨a, h1, h2⟩ => ⟨a, h1, e _ _ h2⟩
theorem WebAt.mono {K : PySem.W.Frag} {H H' : Hp} {p : Addr} {T : List Tie} (e : Ex H H') (h : WebAt K H p T) : WebAt K H' p T := by
  obtain ⟨xs, a, b⟩ := h
  exact ⟨xs, ex_l e a, b.mono e⟩
theorem Ties.length {H : Hp} {xs : List V} {T : List Tie} (h : Ties H xs T) : xs.length = T.length := Paired.length h
theorem Ties.at {H : Hp} : ∀ {xs : List V} {T : List Tie} {i : Nat} {x : V}, Ties H xs T → xs[i]? = some x → ∃ t a, T[i]? = some t ∧ x = .ref a ∧ H a = some (.tup (tieV t))
  | _, _, i, x, .nil, h => by simp at h
  | _, _, 0, x, .cons (b := t) ⟨a, h1, h2⟩ _, h => by
    cases h
    exact ⟨t, a, rfl, h1, h2⟩
  | _, _, i + 1, x, .cons _ r, h => Ties.at (i := i) r (by simpa using h)
theorem Ties.app {H : Hp} {xs ys : List V} {T U : List Tie} (h : Ties H xs T) (k : Ties H ys U) : Ties H (xs ++ ys) (T ++ U) := by
  induction h with
  | nil => exact k
  | cons a _ ih => exact .cons a ih
theorem Ties.upd {H : Hp} {xs : List V} {T : List Tie} {D : Addr} {zs ys : List V} (h : Ties H xs T) (hD : H D = some (.lst zs)) : Ties (L2.upd H D (.lst ys)) xs T := Paired.mapP h fun x t ⟨a, h1, h2⟩ => ⟨a, h1, by
  rw [upd_ne (ne_of h2 hD fun z => by cases z)]; exact h2⟩
end Gw

/-! ## W4 -/
/-! rings of words; a folded quotient of them is a web but for its numbering; webs numbered as they are found -/
namespace Gw
theorem ld_app {A B : List Tie} {r c s : Nat} : Ld (A ++ B) r c s ↔ Ld A r c s ∨ Ld B r c s := by
  unfold Ld
  simp only [List.mem_append]
  constructor
  · rintro (⟨a, b, m | m⟩ | ⟨a, b, m | m⟩)
    · exact Or.inl (Or.inl ⟨a, b, m⟩)
    · exact Or.inr (Or.inl ⟨a, b, m⟩)
    · exact Or.inl (Or.inr ⟨a, b, m⟩)
    · exact Or.inr (Or.inr ⟨a, b, m⟩)
  · rintro ((⟨a, b, m⟩ | ⟨a, b, m⟩) | (⟨a, b, m⟩ | ⟨a, b, m⟩))
    · exact Or.inl ⟨a, b, Or.inl m⟩
    · exact Or.inr ⟨a, b, Or.inl m⟩
    · exact Or.inl ⟨a, b, Or.inr m⟩
    · exact Or.inr ⟨a, b, Or.inr m⟩
theorem Ld.mono {A B : List Tie} (h : ∀ t ∈ A, t ∈ B) {r c s : Nat} (l : Ld A r c s) : Ld B r c s := by
  rcases l with ⟨a, b, m⟩ | ⟨a, b, m⟩
  · exact Or.inl ⟨a, b, h _ m⟩
  · exact Or.inr ⟨a, b, h _ m⟩
theorem Wlk.mono {A B : List Tie} (h : ∀ t ∈ A, t ∈ B) : ∀ {w : List Nat} {r s : Nat}, Wlk A r w s → Wlk B r w s
  | [], _, _, k => k
  | c :: w, r, s, ⟨m, l, t⟩ => ⟨m, l.mono h, t.mono h⟩
/-- the tie that a letter from h to t is -/
def mkTie (h c t : Nat) : Tie := if 97 ≤ c then (h, c, t) else (t, c + 32, h)
theorem ld_mk {T : List Tie} {h c t : Nat} (hc : isL c = true) (m : mkTie h c t ∈ T) : Ld T h c t := by
  rw [isL_iff] at hc
  unfold mkTie at m
  by_cases q : 97 ≤ c
  · rw [if_pos q] at m; exact Or.inl ⟨q, by omega, m⟩
  · rw [if_neg q] at m; exact Or.inr ⟨by omega, by omega, m⟩
theorem of_mk {h d t r c s : Nat} (hd : isL d = true) : ((97 ≤ c ∧ c ≤ 122 ∧ (r, c, s) = mkTie h d t) ∨ (65 ≤ c ∧ c ≤ 90 ∧ (s, c + 32, r) = mkTie h d t)) → (r = h ∧ c = d ∧ s = t) ∨ (r = t ∧ c = bk d ∧ s = h) := by
  rw [isL_iff] at hd
  unfold mkTie bk
  by_cases q : 97 ≤ d
  · simp only [if_pos q, Prod.mk.injEq]
    rintro (⟨a, b, e1, e2, e3⟩ | ⟨a, b, e1, e2, e3⟩)
    · exact Or.inl ⟨e1, e2, e3⟩
    · exact Or.inr ⟨e3, by omega, e1⟩
  · simp only [if_neg q, Prod.mk.injEq]
    rintro (⟨a, b, e1, e2, e3⟩ | ⟨a, b, e1, e2, e3⟩)
    · exact Or.inr ⟨e1, e2, e3⟩
    · exact Or.inl ⟨e3, by omega, e1⟩
/-- the room of a ring behind j letters, rooms from n on -/
def rmw (n : Nat) (w : List Nat) (j : Nat) : Nat := if j = 0 ∨ j = w.length then 0 else n + j - 1
def ringTie (n : Nat) (w : List Nat) (j : Nat) : Tie := mkTie (rmw n w j) (w.getD j 0) (rmw n w (j + 1))
def ringOf (n : Nat) (w : List Nat) : List Tie := (List.range w.length).map (ringTie n w)
inductive Rg : List (List Nat) → List Tie → Nat → Prop
  | nil : Rg [] [] 1
  | snoc {ws R n w} (h : Rg ws R n) : Rg (ws ++ [w]) (R ++ ringOf n w) (n + (w.length - 1))
theorem rmw_0 (n : Nat) (w : List Nat) : rmw n w 0 = 0 := if_pos (Or.inl rfl)
theorem rmw_end (n : Nat) (w : List Nat) : rmw n w w.length = 0 := if_pos (Or.inr rfl)
theorem rmw_lt {n : Nat} {w : List Nat} {j : Nat} (hn : 1 ≤ n) (h : j ≤ w.length) : rmw n w j < n + (w.length - 1) := by
  unfold rmw; split <;> omega
theorem getD_L {w : List Nat} (hw : isW w = true) {j : Nat} (h : j < w.length) : isL (w.getD j 0) = true := by
  have : w.getD j 0 = w[j] := by rw [List.getD_eq_getElem?_getD, List.getElem?_eq_getElem h]; rfl
  rw [this]; exact List.all_eq_true.mp hw _ (List.getElem_mem h)
theorem take_succ' {w : List Nat} {j : Nat} (h : j < w.length) : w.take (j + 1) = w.take j ++ [w.getD j 0] := by
  rw [List.take_add_one, List.getD_eq_getElem?_getD, List.getElem?_eq_getElem h]; rfl
theorem ld_ringTie {T : List Tie} {n : Nat} {w : List Nat} (hw : isW w = true) (hT : ∀ t ∈ ringOf n w, t ∈ T) {j : Nat} (h : j < w.length) : Ld T (rmw n w j) (w.getD j 0) (rmw n w (j + 1)) :=
  ld_mk (getD_L hw h) (hT _ (List.mem_map.mpr ⟨j, List.mem_range.mpr h, rfl⟩))
theorem ld_ring {n : Nat} {w : List Nat} (hw : isW w = true) {r c s : Nat} (l : Ld (ringOf n w) r c s) : ∃ j, j < w.length ∧ ((r = rmw n w j ∧ c = w.getD j 0 ∧ s = rmw n w (j + 1)) ∨ (r = rmw n w (j + 1) ∧ c = bk (w.getD j 0) ∧ s = rmw n w j)) := by
  have key : ∀ {t : Tie}, t ∈ ringOf n w → ∃ j, j < w.length ∧ t = ringTie n w j := fun {t} m => by
    obtain ⟨j, hj, e⟩ := List.mem_map.mp m
    exact ⟨j, List.mem_range.mp hj, e.symm⟩
  rcases l with ⟨a, b, m⟩ | ⟨a, b, m⟩
  · obtain ⟨j, hj, e⟩ := key m
    exact ⟨j, hj, of_mk (getD_L hw hj) (Or.inl ⟨a, b, e⟩)⟩
  · obtain ⟨j, hj, e⟩ := key m
    exact ⟨j, hj, of_mk (getD_L hw hj) (Or.inr ⟨a, b, e⟩)⟩
theorem ring_walk {T : List Tie} {n : Nat} {w : List Nat} (hw : isW w = true) (hT : ∀ t ∈ ringOf n w, t ∈ T) : ∀ j, j ≤ w.length → Wlk T 0 (w.take j) (rmw n w j)
  | 0, _ => by rw [rmw_0]; rfl
  | j + 1, h => by
    rw [take_succ' h]
    exact (ring_walk hw hT j (by omega)).app (Wlk.one (ld_ringTie hw hT h))
def lowOf (c : Nat) : Nat := if 97 ≤ c then c else c + 32
theorem Gn.mono {ws vs : List (List Nat)} (h : ∀ w ∈ ws, w ∈ vs) {u : List Nat} (g : Gn ws u) : Gn vs u := by
  induction g with
  | nil => exact .nil
  | word hw _ ih => exact .word (h _ hw) ih
  | back hw _ ih => exact .back (h _ hw) ih
theorem Made.mono {ws vs : List (List Nat)} (h : ∀ w ∈ ws, w ∈ vs) {u : List Nat} (m : Made ws u) : Made vs u := by
  obtain ⟨x, g, e⟩ := m
  exact ⟨x, g.mono h, e⟩
theorem made_nil_of {ws : List (List Nat)} {u : List Nat} (r : Red u []) (hu : isW u = true) : Made ws u := (Made.red hu r).mpr Made.nil
/-- what rings keep -/
structure Ring (ws : List (List Nat)) (R : List Tie) (n : Nat) : Prop where
  pos : 1 ≤ n
  all : AllW ws
  bd : ∀ r c s, Ld R r c s → r < n ∧ s < n
  pot : ∃ V : Nat → List Nat, V 0 = [] ∧ (∀ r, isW (V r) = true) ∧ ∀ r c s, Ld R r c s → Made ws (V r ++ c :: inv (V s))
  word : ∀ w ∈ ws, Wlk R 0 w 0
  reach : ∀ r c s, Ld R r c s → ∃ z, Wlk R 0 z r
  two : ∀ r c s, Ld R r c s → r ≠ 0 → ∃ c s d u, c ≠ d ∧ Ld R r c s ∧ Ld R r d u
  small : ∀ t ∈ R, 97 ≤ t.2.1 ∧ t.2.1 ≤ 122
  lets : ∀ t ∈ R, ∃ w ∈ ws, ∃ c ∈ w, lowOf c = t.2.1
  len : R.length = (ws.map List.length).sum
  rms : n ≤ 1 + (ws.map List.length).sum
theorem ld_nil {r c s : Nat} (l : Ld [] r c s) : False := by
  rcases l with ⟨_, _, m⟩ | ⟨_, _, m⟩
  · cases m
  · cases m
theorem ring_nil : Ring [] [] 1 := ⟨Nat.le_refl _, fun w h => (by cases h), fun r c s l => (ld_nil l).elim, ⟨fun _ => [], rfl, fun _ => rfl, fun r c s l => (ld_nil l).elim⟩, fun w h => (by cases h),
  fun r c s l => (ld_nil l).elim, fun r c s l => (ld_nil l).elim, fun t h => (by cases h), fun t h => (by cases h), rfl, Nat.le_refl _⟩
theorem Ring.snoc {ws : List (List Nat)} {R : List Tie} {n : Nat} (G : Ring ws R n) {w : List Nat} (hw : isW w = true) (sh : Shrt w) : Ring (ws ++ [w]) (R ++ ringOf n w) (n + (w.length - 1)) := by
  have A : AllW (ws ++ [w]) := fun u hu => by
    rcases List.mem_append.mp hu with h | h
    · exact G.all u h
    · rw [List.mem_singleton] at h; subst h; exact hw
  have hR : ∀ t ∈ R, t ∈ R ++ ringOf n w := fun t h => List.mem_append.mpr (Or.inl h)
  have hN : ∀ t ∈ ringOf n w, t ∈ R ++ ringOf n w := fun t h => List.mem_append.mpr (Or.inr h)
  have sub : ∀ u ∈ ws, u ∈ ws ++ [w] := fun u h => List.mem_append.mpr (Or.inl h)
  refine ⟨Nat.le_trans G.pos (Nat.le_add_right _ _), A, ?_, ?_, ?_, ?_, ?_, ?_, ?_, ?_, ?_⟩
  · intro r c s l
    rcases ld_app.mp l with l | l
    · have := G.bd r c s l; omega
    · obtain ⟨j, hj, ⟨rfl, _, rfl⟩ | ⟨rfl, _, rfl⟩⟩ := ld_ring hw l
      · exact ⟨rmw_lt G.pos (by omega), rmw_lt G.pos (by omega)⟩
      · exact ⟨rmw_lt G.pos (by omega), rmw_lt G.pos (by omega)⟩
  · obtain ⟨V, V0, Vw, Vl⟩ := G.pot
    have V'w : ∀ j, isW (w.take j) = true := fun j => List.all_eq_true.mpr fun x hx => List.all_eq_true.mp hw x (List.mem_of_mem_take hx)
    refine ⟨fun r => if r < n then V r else w.take (r - n + 1), ?_, ?_, ?_⟩
    · have : 0 < n := G.pos
      simp only [if_pos this]; exact V0
    · intro r
      show isW (if r < n then V r else w.take (r - n + 1)) = true
      split
      · exact Vw r
      · exact V'w _
    · intro r c s l
      show Made _ ((if r < n then V r else w.take (r - n + 1)) ++ c :: inv (if s < n then V s else w.take (s - n + 1)))
      rcases ld_app.mp l with l | l
      · have b := G.bd r c s l
        rw [if_pos b.1, if_pos b.2]
        exact (Vl r c s l).mono sub
      · have val : ∀ j, j ≤ w.length → j ≠ w.length ∨ j = 0 → (if rmw n w j < n then V (rmw n w j) else w.take (rmw n w j - n + 1)) = w.take j := fun j h1 h2 => by
          by_cases j0 : j = 0
          · subst j0
            rw [rmw_0, if_pos (show 0 < n from G.pos), V0]; rfl
          · have e : rmw n w j = n + j - 1 := if_neg (by omega)
            rw [e, if_neg (by omega), show n + j - 1 - n + 1 = j by omega]
        have valE : (if rmw n w w.length < n then V (rmw n w w.length) else w.take (rmw n w w.length - n + 1)) = [] := by
          rw [rmw_end, if_pos (show 0 < n from G.pos), V0]
        have fwd : ∀ j, j < w.length → Made (ws ++ [w]) ((if rmw n w j < n then V (rmw n w j) else w.take (rmw n w j - n + 1)) ++ w.getD j 0 :: inv (if rmw n w (j + 1) < n then V (rmw n w (j + 1)) else w.take (rmw n w (j + 1) - n + 1))) := fun j hj => by
          rw [val j (by omega) (Or.inl (by omega))]
          by_cases e : j + 1 = w.length
          · rw [e, valE]
            have : w.take j ++ w.getD j 0 :: inv [] = w := by
              show w.take j ++ [w.getD j 0] = w
              rw [← take_succ' hj, e, List.take_length]
            rw [this]
            exact Made.one (List.mem_append.mpr (Or.inr (List.mem_singleton.mpr rfl)))
          · rw [val (j + 1) (by omega) (Or.inl e)]
            have q : w.take j ++ w.getD j 0 :: inv (w.take (j + 1)) = w.take (j + 1) ++ inv (w.take (j + 1)) := by
              conv => rhs; rw [take_succ' hj]
              rw [List.append_assoc, ← take_succ' hj]; rfl
            rw [q]
            exact made_nil_of (red_inv (V'w _)) (isW_app.mpr ⟨V'w _, isW_inv (V'w _)⟩)
        have W : ∀ r, isW (if r < n then V r else w.take (r - n + 1)) = true := fun r => by
          split
          · exact Vw r
          · exact V'w _
        obtain ⟨j, hj, ⟨rfl, rfl, rfl⟩ | ⟨rfl, rfl, rfl⟩⟩ := ld_ring hw l
        · exact fwd j hj
        · have f := fwd j hj
          have W1 := W (rmw n w j)
          have W2 := W (rmw n w (j + 1))
          generalize (if rmw n w j < n then V (rmw n w j) else w.take (rmw n w j - n + 1)) = X at *
          generalize (if rmw n w (j + 1) < n then V (rmw n w (j + 1)) else w.take (rmw n w (j + 1) - n + 1)) = Y at *
          have hL := getD_L hw hj
          have fi := f.inv A (isW_app.mpr ⟨W1, isW_cons.mpr ⟨hL, isW_inv W2⟩⟩)
          rw [inv_app, inv_cons, inv_inv W2, List.append_assoc] at fi
          exact fi
  · intro u hu
    rcases List.mem_append.mp hu with h | h
    · exact (G.word u h).mono hR
    · rw [List.mem_singleton] at h
      subst h
      have := ring_walk (T := R ++ ringOf n u) hw hN u.length (Nat.le_refl _)
      rw [rmw_end, List.take_length] at this; exact this
  · intro r c s l
    rcases ld_app.mp l with l | l
    · obtain ⟨z, k⟩ := G.reach r c s l
      exact ⟨z, k.mono hR⟩
    · obtain ⟨j, hj, ⟨rfl, _, _⟩ | ⟨rfl, _, _⟩⟩ := ld_ring hw l
      · exact ⟨_, ring_walk hw hN j (by omega)⟩
      · exact ⟨_, ring_walk hw hN (j + 1) (by omega)⟩
  · intro r c s l r0
    rcases ld_app.mp l with l | l
    · obtain ⟨c, s, d, u, ne, l1, l2⟩ := G.two r c s l r0
      exact ⟨c, s, d, u, ne, l1.mono hR, l2.mono hR⟩
    · obtain ⟨j, hj, hr⟩ : ∃ j, 0 < j ∧ j < w.length ∧ r = rmw n w j := by
        obtain ⟨j, hj, ⟨e, _, _⟩ | ⟨e, _, _⟩⟩ := ld_ring hw l
        · by_cases j0 : j = 0
          · subst j0; rw [rmw_0] at e; exact absurd e r0
          · exact ⟨j, by omega, hj, e⟩
        · by_cases je : j + 1 = w.length
          · rw [je, rmw_end] at e; exact absurd e r0
          · exact ⟨j + 1, by omega, by omega, e⟩
      obtain ⟨hj2, hr⟩ := hr
      subst hr
      have l1 := ld_ringTie hw hN hj2
      have l2 := (ld_ringTie hw hN (j := j - 1) (by omega)).back
      rw [show j - 1 + 1 = j by omega] at l2
      refine ⟨_, _, _, _, ?_, l1, l2⟩
      have e : w = w.take (j - 1) ++ w.getD (j - 1) 0 :: w.getD j 0 :: w.drop (j + 1) := by
        have e1 : w.take (j + 1) = w.take (j - 1) ++ [w.getD (j - 1) 0, w.getD j 0] := by
          have := take_succ' (w := w) (j := j - 1) (by omega)
          rw [show j - 1 + 1 = j by omega] at this
          rw [take_succ' hj2, this, List.append_assoc]; rfl
        conv => lhs; rw [← List.take_append_drop (j + 1) w, e1]
        rw [List.append_assoc]; rfl
      rw [e] at sh
      exact shrt_app sh
  · intro t ht
    rcases List.mem_append.mp ht with h | h
    · exact G.small t h
    · obtain ⟨j, hj, rfl⟩ := List.mem_map.mp h
      have := getD_L hw (List.mem_range.mp hj)
      rw [isL_iff] at this
      unfold ringTie mkTie
      split <;> simp only <;> omega
  · intro t ht
    rcases List.mem_append.mp ht with h | h
    · obtain ⟨u, hu, r⟩ := G.lets t h
      exact ⟨u, sub u hu, r⟩
    · obtain ⟨j, hj, rfl⟩ := List.mem_map.mp h
      have hj := List.mem_range.mp hj
      refine ⟨w, List.mem_append.mpr (Or.inr (List.mem_singleton.mpr rfl)), w.getD j 0, ?_, ?_⟩
      · rw [List.getD_eq_getElem?_getD, List.getElem?_eq_getElem hj]; exact List.getElem_mem hj
      · unfold ringTie mkTie lowOf
        split <;> rfl
  · rw [List.length_append, G.len, List.map_append, List.sum_append]
    unfold ringOf
    simp
  · have := G.rms
    rw [List.map_append, List.sum_append]
    simp; omega
theorem Rg.ring {ws : List (List Nat)} {R : List Tie} {n : Nat} (h : Rg ws R n) (A : AllW ws) (S : ∀ w ∈ ws, Shrt w) : Ring ws R n := by
  induction h with
  | nil => exact ring_nil
  | snoc h ih => exact (ih (fun w hw => A w (List.mem_append.mpr (Or.inl hw))) fun w hw => S w (List.mem_append.mpr (Or.inl hw))).snoc (A _ (List.mem_append.mpr (Or.inr (List.mem_singleton.mpr rfl)))) (S _ (List.mem_append.mpr (Or.inr (List.mem_singleton.mpr rfl))))
theorem Ring.ringed {ws : List (List Nat)} {R : List Tie} {n : Nat} (G : Ring ws R n) : Ringed ws R := by
  refine ⟨G.all, G.word, fun z k => ?_⟩
  obtain ⟨V, V0, Vw, Vl⟩ := G.pot
  have key : ∀ (z : List Nat) (r s : Nat), Wlk R r z s → Made ws (V r ++ (z ++ inv (V s))) := by
    intro z
    induction z with
    | nil =>
      intro r s h
      have h' : r = s := h
      subst h'
      exact made_nil_of (red_inv (Vw r)) (isW_app.mpr ⟨Vw r, isW_inv (Vw r)⟩)
    | cons c z ih =>
      rintro r s ⟨m, l, t⟩
      have a := Vl r c m l
      have b := ih m s t
      have wz := t.isW
      have wa : isW (V r ++ c :: inv (V m)) = true := isW_app.mpr ⟨Vw r, isW_cons.mpr ⟨l.isL, isW_inv (Vw m)⟩⟩
      have wb : isW (V m ++ (z ++ inv (V s))) = true := isW_app.mpr ⟨Vw m, isW_app.mpr ⟨wz, isW_inv (Vw s)⟩⟩
      have ab := Made.app G.all wa wb a b
      refine (Made.red (isW_app.mpr ⟨wa, wb⟩) ?_).mp ab
      have i := red_inv (isW_inv (Vw m))
      rw [inv_inv (Vw m)] at i
      have := i.app (V r ++ [c]) (z ++ inv (V s))
      simpa using this
  have := key z 0 0 k
  rw [V0] at this
  simpa [inv] using this
theorem ld_fst {R : List Tie} (sm : ∀ t ∈ R, 97 ≤ t.2.1 ∧ t.2.1 ≤ 122) {t : Tie} (h : t ∈ R) : Ld R t.1 t.2.1 t.2.2 := Or.inl ⟨(sm t h).1, (sm t h).2, h⟩
/-- a folded quotient of rings -/
theorem Quot.core {ws : List (List Nat)} {R T : List Tie} {rep : Nat → Nat} {n : Nat} (Q : Quot R T rep) (G : Ring ws R n) (nd : T.Nodup) : Core T where
  nd := nd
  small := fun t ht => by
    obtain ⟨t0, h0, rfl⟩ := Q.of t ht
    exact G.small t0 h0
  fold := Q.fold
  conn := fun r hr => by
    refine mem_ord.mpr ?_
    rcases mem_rms.mp hr with rfl | ⟨t, ht, e⟩
    · exact ⟨[], rfl⟩
    · obtain ⟨t0, h0, rfl⟩ := Q.of t ht
      have l := ld_fst G.small h0
      have key : ∀ x, (∃ z, Wlk R 0 z x) → ∃ w, Wlk T 0 w (rep x) := fun x ⟨z, k⟩ => ⟨z, by
        have := Q.wlk k
        rw [Q.zero] at this; exact this⟩
      rcases e with rfl | rfl
      · exact key _ (G.reach _ _ _ l)
      · exact key _ (G.reach _ _ _ l.back)
  two := fun r hr r0 => by
    rcases mem_rms.mp hr with rfl | ⟨t, ht, e⟩
    · exact absurd rfl r0
    · obtain ⟨t0, h0, rfl⟩ := Q.of t ht
      have l := ld_fst G.small h0
      have key : ∀ x c s, Ld R x c s → rep x ≠ 0 → ∃ c s d u, c ≠ d ∧ Ld T (rep x) c s ∧ Ld T (rep x) d u := fun x c s k n0 => by
        obtain ⟨c, s, d, u, ne, l1, l2⟩ := G.two x c s k fun z => n0 (by rw [z, Q.zero])
        exact ⟨c, rep s, d, rep u, ne, Q.ld l1, Q.ld l2⟩
      rcases e with rfl | rfl
      · exact key _ _ _ l r0
      · exact key _ _ _ l.back r0
theorem Quot.len {R T : List Tie} {rep : Nat → Nat} (Q : Quot R T rep) (nd : T.Nodup) : T.length ≤ R.length := by
  have := nodup_le' (m := R.map fun t => (rep t.1, t.2.1, rep t.2.2)) nd fun t ht => by
    obtain ⟨t0, h0, e⟩ := Q.of t ht
    exact List.mem_map.mpr ⟨t0, h0, e.symm⟩
  rwa [List.length_map] at this
/-! ### a web by other numbers -/
section
variable {f : Nat → Nat} {T : List Tie}
theorem ld_tmap {r c s : Nat} (l : Ld T r c s) : Ld (tmap f T) (f r) c (f s) := by
  rcases l with ⟨a, b, m⟩ | ⟨a, b, m⟩
  · exact Or.inl ⟨a, b, tmap_mem.mpr ⟨_, m, rfl⟩⟩
  · exact Or.inr ⟨a, b, tmap_mem.mpr ⟨_, m, rfl⟩⟩
theorem of_tmap {r c s : Nat} (l : Ld (tmap f T) r c s) : ∃ x y, Ld T x c y ∧ r = f x ∧ s = f y := by
  rcases l with ⟨a, b, m⟩ | ⟨a, b, m⟩
  · obtain ⟨t, ht, e⟩ := tmap_mem.mp m
    simp only [Prod.mk.injEq] at e
    exact ⟨t.1, t.2.2, Or.inl ⟨a, b, by rw [← e.2.1]; exact ht⟩, e.1.symm, e.2.2.symm⟩
  · obtain ⟨t, ht, e⟩ := tmap_mem.mp m
    simp only [Prod.mk.injEq] at e
    exact ⟨t.2.2, t.1, Or.inr ⟨a, b, by rw [← e.2.1]; exact ht⟩, e.2.2.symm, e.1.symm⟩
theorem wlk_tmap : ∀ {w : List Nat} {r s : Nat}, Wlk T r w s → Wlk (tmap f T) (f r) w (f s)
  | [], _, _, h => congrArg f h
  | _ :: _, _, _, ⟨m, l, t⟩ => ⟨f m, ld_tmap l, wlk_tmap t⟩
theorem wlk_of_tmap (hf : ∀ a ∈ rms T, ∀ b ∈ rms T, f a = f b → a = b) : ∀ {w : List Nat} {r s : Nat}, r ∈ rms T → Wlk (tmap f T) (f r) w s → ∃ x, x ∈ rms T ∧ s = f x ∧ Wlk T r w x
  | [], r, s, hr, h => ⟨r, hr, (show f r = s from h).symm, rfl⟩
  | c :: w, r, s, hr, ⟨m, l, t⟩ => by
    obtain ⟨x, y, l', e1, rfl⟩ := of_tmap l
    have : r = x := hf _ hr _ l'.rms.1 e1
    subst this
    obtain ⟨z, hz, e, k⟩ := wlk_of_tmap hf l'.rms.2 t
    exact ⟨z, hz, e, y, l', k⟩
theorem rms_tmap (f0 : f 0 = 0) {r : Nat} (h : r ∈ rms (tmap f T)) : ∃ x ∈ rms T, r = f x := by
  rcases mem_rms.mp h with rfl | ⟨t, ht, e⟩
  · exact ⟨0, mem_rms.mpr (Or.inl rfl), f0.symm⟩
  · obtain ⟨u, hu, rfl⟩ := tmap_mem.mp ht
    rcases e with rfl | rfl
    · exact ⟨u.1, mem_rms.mpr (Or.inr ⟨u, hu, Or.inl rfl⟩), rfl⟩
    · exact ⟨u.2.2, mem_rms.mpr (Or.inr ⟨u, hu, Or.inr rfl⟩), rfl⟩
theorem tmap_nodup (hf : ∀ a ∈ rms T, ∀ b ∈ rms T, f a = f b → a = b) (nd : T.Nodup) : (tmap f T).Nodup :=
  nodup_map (fun a ha b hb e => by
    obtain ⟨a1, a2, a3⟩ := a
    obtain ⟨b1, b2, b3⟩ := b
    simp only [Prod.mk.injEq] at e
    have ma : a1 ∈ rms T ∧ a3 ∈ rms T := ⟨mem_rms.mpr (Or.inr ⟨_, ha, Or.inl rfl⟩), mem_rms.mpr (Or.inr ⟨_, ha, Or.inr rfl⟩)⟩
    have mb : b1 ∈ rms T ∧ b3 ∈ rms T := ⟨mem_rms.mpr (Or.inr ⟨_, hb, Or.inl rfl⟩), mem_rms.mpr (Or.inr ⟨_, hb, Or.inr rfl⟩)⟩
    rw [hf _ ma.1 _ mb.1 e.1, e.2.1, hf _ ma.2 _ mb.2 e.2.2]) nd
theorem Core.tmap (C : Core T) (hf : ∀ a ∈ rms T, ∀ b ∈ rms T, f a = f b → a = b) (f0 : f 0 = 0) : Core (Gw.tmap f T) where
  nd := tmap_nodup hf C.nd
  small := fun t ht => by
    obtain ⟨u, hu, rfl⟩ := tmap_mem.mp ht
    exact C.small u hu
  fold := fun r c s s' l l' => by
    obtain ⟨x, y, k, rfl, rfl⟩ := of_tmap l
    obtain ⟨x', y', k', e, rfl⟩ := of_tmap l'
    have : x = x' := hf _ k.rms.1 _ k'.rms.1 e
    subst this
    rw [C.fold _ _ _ _ k k']
  conn := fun r hr => by
    obtain ⟨x, hx, rfl⟩ := rms_tmap f0 hr
    rw [ord_tmap hf f0]
    exact List.mem_map.mpr ⟨x, C.conn x hx, rfl⟩
  two := fun r hr r0 => by
    obtain ⟨x, hx, rfl⟩ := rms_tmap f0 hr
    obtain ⟨c, s, d, u, ne, l1, l2⟩ := C.two x hx fun z => r0 (by rw [z, f0])
    exact ⟨c, f s, d, f u, ne, ld_tmap l1, ld_tmap l2⟩
theorem rds_tmap (hf : ∀ a ∈ rms T, ∀ b ∈ rms T, f a = f b → a = b) (f0 : f 0 = 0) {w : List Nat} : Rds (Gw.tmap f T) w ↔ Rds T w := by
  unfold Rds
  constructor
  · intro h
    have h' : Wlk (Gw.tmap f T) (f 0) (short w) 0 := by rw [f0]; exact h
    obtain ⟨x, hx, e, k⟩ := wlk_of_tmap hf (mem_rms.mpr (Or.inl rfl)) h'
    have : x = 0 := hf _ hx _ (mem_rms.mpr (Or.inl rfl)) (by rw [← e, f0])
    rw [this] at k; exact k
  · intro h
    have := wlk_tmap (f := f) h
    rw [f0] at this; exact this
/-- the numbers of finding -/
def pos (T : List Tie) (r : Nat) : Nat := (ord T).idxOf r
theorem pos_lt {r : Nat} (h : r ∈ ord T) : pos T r < (ord T).length := List.idxOf_lt_length_of_mem h
theorem pos_at {r : Nat} (h : r ∈ ord T) : (ord T)[pos T r]? = some r := by
  rw [List.getElem?_eq_getElem (pos_lt h)]
  exact congrArg some (List.getElem_idxOf (pos_lt h))
theorem pos_inj {a b : Nat} (ha : a ∈ ord T) (hb : b ∈ ord T) (e : pos T a = pos T b) : a = b := by
  have h1 := pos_at ha
  have h2 := pos_at hb
  rw [e, h2] at h1
  exact (Option.some.inj h1).symm
theorem pos_of {i r : Nat} (h : (ord T)[i]? = some r) : pos T r = i := by
  have m : r ∈ ord T := List.mem_of_getElem? h
  have h2 := pos_at m
  have l1 := pos_lt m
  have l2 := (List.getElem?_eq_some_iff.mp h).1
  rw [List.getElem?_eq_getElem l1] at h2
  rw [List.getElem?_eq_getElem l2] at h
  exact (List.getElem_inj (ord_nodup T)).mp (by rw [Option.some.inj h2, Option.some.inj h])
theorem pos_zero : pos T 0 = 0 := pos_of (ord_zero T)
theorem Core.numbered (C : Core T) : Core (Gw.tmap (pos T) T) ∧ Num (Gw.tmap (pos T) T) ∧ ∀ w, Rds (Gw.tmap (pos T) T) w ↔ Rds T w := by
  have hf : ∀ a ∈ rms T, ∀ b ∈ rms T, pos T a = pos T b → a = b := fun a ha b hb e => pos_inj (C.conn a ha) (C.conn b hb) e
  refine ⟨C.tmap hf pos_zero, ?_, fun w => rds_tmap hf pos_zero⟩
  unfold Num
  rw [ord_tmap hf pos_zero, List.length_map]
  refine List.ext_getElem? fun i => ?_
  rw [List.getElem?_map]
  by_cases h : i < (ord T).length
  · rw [List.getElem?_range h, List.getElem?_eq_getElem h]
    show some (pos T (ord T)[i]) = some i
    rw [pos_of (List.getElem?_eq_getElem h)]
  · rw [List.getElem?_eq_none (by omega), List.getElem?_eq_none (by rw [List.length_range]; omega)]; rfl
end
end Gw

/-! ## W5 -/
/-! folding: what stands for a room, what leads from it, what waits -/
namespace Gw
abbrev Jn := Nat → Option Nat
abbrev Xt := Nat → Nat → Option Nat
def repF (j : Jn) : Nat → Nat → Nat
  | 0, r => r
  | k + 1, r => match j r with
    | none => r
    | some l => repF j k l
def rep (j : Jn) (r : Nat) : Nat := repF j r r
def Dec (j : Jn) : Prop := ∀ h l, j h = some l → l < h
section
variable {j : Jn}
theorem repF_none {r : Nat} (h : j r = none) : ∀ k, repF j k r = r
  | 0 => rfl
  | k + 1 => by
    show (match j r with | none => r | some l => repF j k l) = r
    rw [h]
theorem repF_some {r l k : Nat} (h : j r = some l) : repF j (k + 1) r = repF j k l := by
  show (match j r with | none => r | some l => repF j k l) = _
  rw [h]
theorem repF_more (D : Dec j) : ∀ (r k : Nat), r ≤ k → repF j k r = repF j r r := by
  intro r
  induction r using Nat.strongRecOn with
  | _ r ih =>
    intro k hk
    cases h : j r with
    | none => rw [repF_none h, repF_none h]
    | some l =>
      have hl := D r l h
      obtain ⟨k', rfl⟩ : ∃ k', k = k' + 1 := ⟨k - 1, by omega⟩
      obtain ⟨r', rfl⟩ : ∃ r', r = r' + 1 := ⟨r - 1, by omega⟩
      rw [repF_some h, repF_some h, ih l hl k' (by omega), ih l hl r' (by omega)]
theorem rep_none {r : Nat} (h : j r = none) : rep j r = r := repF_none h r
theorem rep_some (D : Dec j) {r l : Nat} (h : j r = some l) : rep j r = rep j l := by
  have hl := D r l h
  obtain ⟨r', rfl⟩ : ∃ r', r = r' + 1 := ⟨r - 1, by omega⟩
  unfold rep
  rw [repF_some h, repF_more D l r' (by omega)]
theorem rep_root (D : Dec j) : ∀ r, j (rep j r) = none := by
  intro r
  induction r using Nat.strongRecOn with
  | _ r ih =>
    cases h : j r with
    | none => rw [rep_none h]; exact h
    | some l => rw [rep_some D h]; exact ih l (D r l h)
theorem rep_rep (D : Dec j) (r : Nat) : rep j (rep j r) = rep j r := rep_none (rep_root D r)
theorem rep_le (D : Dec j) : ∀ r, rep j r ≤ r := by
  intro r
  induction r using Nat.strongRecOn with
  | _ r ih =>
    cases h : j r with
    | none => rw [rep_none h]; exact Nat.le_refl _
    | some l =>
      rw [rep_some D h]
      have := ih l (D r l h)
      have := D r l h
      omega
theorem rep_zero (D : Dec j) : rep j 0 = 0 := by
  have := rep_le D 0
  omega
/-- high made one with low -/
def jset (j : Jn) (high low : Nat) : Jn := fun r => if r = high then some low else j r
theorem jset_dec (D : Dec j) {high low : Nat} (h : low < high) : Dec (jset j high low) := fun r l e => by
  unfold jset at e
  split at e
  · cases e; omega
  · exact D r l e
theorem rep_jset (D : Dec j) {high low : Nat} (h : low < high) (h1 : j high = none) (h2 : j low = none) : ∀ r, rep (jset j high low) r = if rep j r = high then low else rep j r := by
  have D' := jset_dec D h
  intro r
  induction r using Nat.strongRecOn with
  | _ r ih =>
    by_cases e : r = high
    · subst e
      have : jset j r low r = some low := if_pos rfl
      rw [rep_some D' this, rep_none h1, if_pos rfl]
      refine rep_none ?_
      show (if low = r then some low else j low) = none
      rw [if_neg (by omega)]; exact h2
    · have q : jset j high low r = j r := if_neg e
      cases k : j r with
      | none =>
        rw [rep_none (q.trans k), rep_none k, if_neg e]
      | some l => rw [rep_some D' (q.trans k), rep_some D k]; exact ih l (D r l k)
end
/-- what folding keeps -/
structure Fd (R : List Tie) (j : Jn) (x : Xt) (Wt : List Tie) : Prop where
  dec : Dec j
  sound : ∀ h l, j h = some l → Eqv R h l
  roots : ∀ r c e, x r c = some e → j r = none
  xs : ∀ r c e, x r c = some e → ∃ a b, Ld R a c b ∧ rep j a = r ∧ rep j b = rep j e
  wt : ∀ s c e, (s, c, e) ∈ Wt → ∃ a b, Ld R a c b ∧ rep j a = rep j s ∧ rep j b = rep j e
  comp : ∀ a c b, Ld R a c b → (∃ s e, (s, c, e) ∈ Wt ∧ rep j s = rep j a ∧ rep j e = rep j b) ∨ (∃ e, x (rep j a) c = some e ∧ rep j e = rep j b)
section
variable {R : List Tie} {j : Jn} {x : Xt} {Wt : List Tie}
theorem Fd.eqv (F : Fd R j x Wt) : ∀ r, Eqv R r (rep j r) := by
  intro r
  induction r using Nat.strongRecOn with
  | _ r ih =>
    cases h : j r with
    | none => rw [rep_none h]; exact Eqv.refl _
    | some l => rw [rep_some F.dec h]; exact (F.sound r l h).trans (ih l (F.dec r l h))
theorem fd_start (hW : ∀ s c e, (s, c, e) ∈ Wt ↔ Ld R s c e) : Fd R (fun _ => none) (fun _ _ => none) Wt where
  dec := fun h l e => by cases e
  sound := fun h l e => by cases e
  roots := fun r c e h => by cases h
  xs := fun r c e h => by cases h
  wt := fun s c e h => ⟨s, e, (hW _ _ _).mp h, rfl, rfl⟩
  comp := fun a c b l => Or.inl ⟨a, b, (hW _ _ _).mpr l, rfl, rfl⟩
def xset (x : Xt) (r c e : Nat) : Xt := fun r' c' => if r' = r ∧ c' = c then some e else x r' c'
/-- nothing led there yet -/
theorem Fd.put {s c e : Nat} (F : Fd R j x (Wt ++ [(s, c, e)])) (h : x (rep j s) c = none) : Fd R j (xset x (rep j s) c (rep j e)) Wt where
  dec := F.dec
  sound := F.sound
  roots := fun r d f h' => by
    unfold xset at h'
    split at h'
    · rename_i q; rw [q.1]; exact rep_root F.dec s
    · exact F.roots r d f h'
  xs := fun r d f h' => by
    unfold xset at h'
    split at h'
    · rename_i q
      cases h'
      obtain ⟨a, b, l, e1, e2⟩ := F.wt s c e (List.mem_append.mpr (Or.inr (List.mem_singleton.mpr rfl)))
      exact ⟨a, b, by rw [q.2]; exact l, by rw [q.1]; exact e1, by rw [rep_rep F.dec]; exact e2⟩
    · exact F.xs r d f h'
  wt := fun s' c' e' m => F.wt s' c' e' (List.mem_append.mpr (Or.inl m))
  comp := fun a d b l => by
    rcases F.comp a d b l with ⟨s', e', m, e1, e2⟩ | ⟨e', m, e2⟩
    · rcases List.mem_append.mp m with m | m
      · exact Or.inl ⟨s', e', m, e1, e2⟩
      · rw [List.mem_singleton] at m
        cases m
        refine Or.inr ⟨rep j e, ?_, by rw [rep_rep F.dec]; exact e2⟩
        unfold xset
        rw [if_pos ⟨e1.symm, rfl⟩]
    · refine Or.inr ⟨e', ?_, e2⟩
      unfold xset
      by_cases q : rep j a = rep j s ∧ d = c
      · rw [q.1, q.2] at m
        rw [h] at m; cases m
      · rw [if_neg q]; exact m
/-- it led there already -/
theorem Fd.same {s c e k : Nat} (F : Fd R j x (Wt ++ [(s, c, e)])) (h : x (rep j s) c = some k) (he : rep j k = rep j e) : Fd R j x Wt where
  dec := F.dec
  sound := F.sound
  roots := F.roots
  xs := F.xs
  wt := fun s' c' e' m => F.wt s' c' e' (List.mem_append.mpr (Or.inl m))
  comp := fun a d b l => by
    rcases F.comp a d b l with ⟨s', e', m, e1, e2⟩ | r
    · rcases List.mem_append.mp m with m | m
      · exact Or.inl ⟨s', e', m, e1, e2⟩
      · rw [List.mem_singleton] at m
        cases m
        exact Or.inr ⟨k, by rw [← e1]; exact h, by rw [he]; exact e2⟩
    · exact Or.inr r
def xdrop (x : Xt) (r : Nat) : Xt := fun r' c' => if r' = r then none else x r' c'
/-- two rooms made one -/
theorem Fd.join {s c e k low high : Nat} {M : List Tie} (F : Fd R j x (Wt ++ [(s, c, e)])) (h : x (rep j s) c = some k) (hlt : low < high) (hk : (low = rep j k ∧ high = rep j e) ∨ (low = rep j e ∧ high = rep j k))
    (hM : ∀ s' c' e', (s', c', e') ∈ M ↔ s' = low ∧ x high c' = some e') : Fd R (jset j high low) (xdrop x high) (Wt ++ M) := by
  have D := F.dec
  have hh : j high = none := by
    rcases hk with ⟨_, h⟩ | ⟨_, h⟩ <;> rw [h] <;> exact rep_root D _
  have hl : j low = none := by
    rcases hk with ⟨h, _⟩ | ⟨h, _⟩ <;> rw [h] <;> exact rep_root D _
  have rj := rep_jset D hlt hh hl
  have D' := jset_dec D hlt
  have cg : ∀ a b, rep j a = rep j b → rep (jset j high low) a = rep (jset j high low) b := fun a b e => by rw [rj, rj, e]
  have rl : rep (jset j high low) low = low := by rw [rj, rep_none hl, if_neg (by omega)]
  have one : rep (jset j high low) k = rep (jset j high low) e := by
    rw [rj, rj]
    rcases hk with ⟨h1, h2⟩ | ⟨h1, h2⟩
    · rw [← h1, ← h2, if_neg (by omega), if_pos rfl]
    · rw [← h1, ← h2, if_pos rfl, if_neg (by omega)]
  refine ⟨D', ?_, ?_, ?_, ?_, ?_⟩
  · have main : Eqv R (rep j k) (rep j e) := by
      obtain ⟨a, b, l, e1, e2⟩ := F.xs _ _ _ h
      obtain ⟨a', b', l', e1', e2'⟩ := F.wt s c e (List.mem_append.mpr (Or.inr (List.mem_singleton.mpr rfl)))
      have q : Eqv R a a' := (F.eqv a).trans (by rw [e1, ← e1']; exact (F.eqv a').symm)
      have q2 := q.step l l'
      have z1 := (F.eqv b).symm
      rw [e2] at z1
      have z2 := F.eqv b'
      rw [e2'] at z2
      exact (z1.trans q2).trans z2
    intro r l' e'
    unfold jset at e'
    split at e'
    · rename_i q
      cases e'
      rw [q]
      rcases hk with ⟨h1, h2⟩ | ⟨h1, h2⟩
      · rw [h1, h2]; exact main.symm
      · rw [h1, h2]; exact main
    · exact F.sound r l' e'
  · intro r d f h'
    unfold xdrop at h'
    split at h'
    · cases h'
    · rename_i q
      show (if r = high then some low else j r) = none
      rw [if_neg q]; exact F.roots r d f h'
  · intro r d f h'
    unfold xdrop at h'
    split at h'
    · cases h'
    · rename_i q
      obtain ⟨a, b, l, e1, e2⟩ := F.xs r d f h'
      exact ⟨a, b, l, by rw [rj, e1, if_neg q], cg _ _ e2⟩
  · intro s' c' e' m
    rcases List.mem_append.mp m with m | m
    · obtain ⟨a, b, l, e1, e2⟩ := F.wt s' c' e' (List.mem_append.mpr (Or.inl m))
      exact ⟨a, b, l, cg _ _ e1, cg _ _ e2⟩
    · obtain ⟨rfl, hx⟩ := (hM s' c' e').mp m
      obtain ⟨a, b, l, e1, e2⟩ := F.xs _ _ _ hx
      exact ⟨a, b, l, by rw [rl, rj, e1, if_pos rfl], cg _ _ e2⟩
  · have viaX : ∀ a d b f, x (rep j a) d = some f → rep (jset j high low) f = rep (jset j high low) b → (∃ s e, (s, d, e) ∈ Wt ++ M ∧ rep (jset j high low) s = rep (jset j high low) a ∧ rep (jset j high low) e = rep (jset j high low) b) ∨ (∃ e, xdrop x high (rep (jset j high low) a) d = some e ∧ rep (jset j high low) e = rep (jset j high low) b) := fun a d b f hx hf => by
      by_cases q : rep j a = high
      · refine Or.inl ⟨low, f, List.mem_append.mpr (Or.inr ((hM _ _ _).mpr ⟨rfl, by rw [← q]; exact hx⟩)), ?_, hf⟩
        rw [rl, rj, q, if_pos rfl]
      · refine Or.inr ⟨f, ?_, hf⟩
        have : rep (jset j high low) a = rep j a := by rw [rj, if_neg q]
        unfold xdrop
        rw [this, if_neg q]; exact hx
    intro a d b l
    rcases F.comp a d b l with ⟨s', e', m, e1, e2⟩ | ⟨e', m, e2⟩
    · rcases List.mem_append.mp m with m | m
      · exact Or.inl ⟨s', e', List.mem_append.mpr (Or.inl m), cg _ _ e1, cg _ _ e2⟩
      · rw [List.mem_singleton] at m
        cases m
        refine viaX a c b k (by rw [← e1]; exact h) ?_
        rw [one]; exact cg _ _ e2
    · exact viaX a d b e' m (cg _ _ e2)
/-- nothing waits: what leads on is a folded quotient -/
theorem Fd.quot (F : Fd R j x []) (sm : ∀ t ∈ R, 97 ≤ t.2.1 ∧ t.2.1 ≤ 122) {T : List Tie} (hT : ∀ r c s, (r, c, s) ∈ T ↔ 97 ≤ c ∧ ∃ e, x r c = some e ∧ s = rep j e) : Quot R T (rep j) where
  zero := rep_zero F.dec
  eqv := fun t _ => ⟨F.eqv _, F.eqv _⟩
  to := fun t ht => by
    have l := ld_fst sm ht
    refine (hT _ _ _).mpr ⟨(sm t ht).1, ?_⟩
    rcases F.comp _ _ _ l with ⟨s, e, m, _⟩ | ⟨e, m, e2⟩
    · cases m
    · exact ⟨e, m, e2.symm⟩
  of := fun t ht => by
    obtain ⟨r, c, s⟩ := t
    obtain ⟨hc, e, hx, rfl⟩ := (hT r c s).mp ht
    obtain ⟨a, b, l, e1, e2⟩ := F.xs r c e hx
    rcases l with ⟨_, _, m⟩ | ⟨_, h2, _⟩
    · exact ⟨_, m, by show _ = (rep j a, c, rep j b); rw [e1, e2]⟩
    · omega
  fold := by
    have low : ∀ r c s, Ld T r c s → ∃ e, x r c = some e ∧ s = rep j e := by
      rintro r c s (⟨a, b, m⟩ | ⟨a, b, m⟩)
      · exact ((hT _ _ _).mp m).2
      · obtain ⟨hc, e, hx, er⟩ := (hT _ _ _).mp m
        obtain ⟨a', b', l, e1, e2⟩ := F.xs _ _ _ hx
        have lb := l.back
        have bc : bk (c + 32) = c := by
          unfold bk; rw [if_pos (by omega)]; omega
        rw [bc] at lb
        rcases F.comp _ _ _ lb with ⟨_, _, m, _⟩ | ⟨f, mf, ef⟩
        · cases m
        · refine ⟨f, ?_, ?_⟩
          · rw [er, ← e2]; exact mf
          · rw [ef, e1]
    intro r c s s' l l'
    obtain ⟨e, h, rfl⟩ := low r c s l
    obtain ⟨e', h', rfl⟩ := low r c s' l'
    rw [h] at h'
    cases h'
    rfl
end
end Gw

/-! ## W6 -/
/-! the order of a web's ties is of no weight; rows and their short words make the same -/
namespace Gw
theorem wlk_congr {T U : List Tie} (h : ∀ t, t ∈ T ↔ t ∈ U) {w : List Nat} {r s : Nat} : Wlk T r w s ↔ Wlk U r w s := ⟨Wlk.mono fun t => (h t).mp, Wlk.mono fun t => (h t).mpr⟩
theorem rds_congr {T U : List Tie} (h : ∀ t, t ∈ T ↔ t ∈ U) {w : List Nat} : Rds T w ↔ Rds U w := wlk_congr h
theorem rms_congr {T U : List Tie} (h : ∀ t, t ∈ T ↔ t ∈ U) {r : Nat} : r ∈ rms T ↔ r ∈ rms U := by
  rw [mem_rms, mem_rms]
  constructor
  · rintro (e | ⟨t, ht, e⟩)
    · exact Or.inl e
    · exact Or.inr ⟨t, (h t).mp ht, e⟩
  · rintro (e | ⟨t, ht, e⟩)
    · exact Or.inl e
    · exact Or.inr ⟨t, (h t).mpr ht, e⟩
theorem Core.congr {T U : List Tie} (C : Core T) (h : ∀ t, t ∈ T ↔ t ∈ U) (nU : U.Nodup) : Core U where
  nd := nU
  small := fun t ht => C.small t ((h t).mpr ht)
  fold := fun r c s s' a b => C.fold r c s s' ((ld_congr h).mpr a) ((ld_congr h).mpr b)
  conn := fun r hr => by
    rw [← ord_congr h C.fold C.nd nU]
    exact C.conn r ((rms_congr h).mpr hr)
  two := fun r hr r0 => by
    obtain ⟨c, s, d, u, ne, l1, l2⟩ := C.two r ((rms_congr h).mpr hr) r0
    exact ⟨c, s, d, u, ne, (ld_congr h).mp l1, (ld_congr h).mp l2⟩
theorem Num.congr {T U : List Tie} (C : Core T) (N : Num T) (h : ∀ t, t ∈ T ↔ t ∈ U) (nU : U.Nodup) : Num U := by
  unfold Num at *
  rw [← ord_congr h C.fold C.nd nU]; exact N
theorem Out.sub {u v : List Nat} (h : Out u v) : ∀ c ∈ v, c ∈ u := by
  cases h with
  | mk u v a ha =>
    intro c hc
    rcases List.mem_append.mp hc with h | h
    · exact List.mem_append.mpr (Or.inl h)
    · exact List.mem_append.mpr (Or.inr (List.mem_cons_of_mem _ (List.mem_cons_of_mem _ h)))
theorem Red.sub {u v : List Nat} (h : Red u v) : ∀ c ∈ v, c ∈ u := by
  induction h with
  | refl _ => exact fun _ h => h
  | step o _ ih => exact fun c hc => o.sub c (ih c hc)
theorem short_sub {w : List Nat} (hw : isW w = true) : ∀ c ∈ short w, c ∈ w := (red_short hw).sub
theorem made_shorts {ws : List (List Nat)} (A : AllW ws) {w : List Nat} : Made (ws.map short) w ↔ Made ws w := by
  have B : AllW (ws.map short) := fun u hu => by
    obtain ⟨x, hx, rfl⟩ := List.mem_map.mp hu
    exact short_isW (A x hx)
  constructor
  · exact Made.trans B A fun u hu => by
      obtain ⟨x, hx, rfl⟩ := List.mem_map.mp hu
      exact (Made.red (A x hx) (red_short (A x hx))).mp (Made.one hx)
  · exact Made.trans A B fun u hu => (Made.red (A u hu) (red_short (A u hu))).mpr (Made.one (List.mem_map.mpr ⟨u, hu, rfl⟩))
end Gw

/-! ## W7 -/
/-! the letters that a web uses, risen -/
namespace Gw
def addC (L : List Nat) (c : Nat) : List Nat := if c ∈ L then L else c :: L
def csetL (L : List Nat) : List Nat := L.foldl addC []
theorem csetL_snoc (L : List Nat) (c : Nat) : csetL (L ++ [c]) = addC (csetL L) c := by unfold csetL; rw [List.foldl_append]; rfl
theorem mem_addC {L : List Nat} {c x : Nat} : x ∈ addC L c ↔ x ∈ L ∨ x = c := by
  unfold addC
  split
  · rename_i h
    constructor
    · exact Or.inl
    · rintro (h' | rfl)
      · exact h'
      · exact h
  · rw [List.mem_cons]
    exact Or.comm
theorem foldl_addC {M : List Nat} : ∀ {L : List Nat}, L.Nodup → (M.foldl addC L).Nodup ∧ ∀ x, x ∈ M.foldl addC L ↔ x ∈ L ∨ x ∈ M := by
  induction M with
  | nil => intro L h; exact ⟨h, fun x => by simp⟩
  | cons c M ih =>
    intro L h
    have hn : (addC L c).Nodup := by
      unfold addC
      split
      · exact h
      · rename_i q; exact List.nodup_cons.mpr ⟨q, h⟩
    obtain ⟨a, b⟩ := ih hn
    refine ⟨a, fun x => ?_⟩
    rw [List.foldl_cons, b, mem_addC, List.mem_cons, or_assoc]
theorem csetL_nodup (L : List Nat) : (csetL L).Nodup := (foldl_addC List.nodup_nil).1
theorem mem_csetL {L : List Nat} {x : Nat} : x ∈ csetL L ↔ x ∈ L := by
  have := (foldl_addC (M := L) List.nodup_nil).2 x
  simpa [csetL] using this
theorem lt_unique : ∀ {T U : List Nat}, T.Pairwise (· < ·) → U.Pairwise (· < ·) → (∀ t, t ∈ T ↔ t ∈ U) → T = U
  | [], [], _, _, _ => rfl
  | [], u :: U, _, _, h => absurd ((h u).mpr List.mem_cons_self) (by simp)
  | t :: T, [], _, _, h => absurd ((h t).mp List.mem_cons_self) (by simp)
  | t :: T, u :: U, a, b, h => by
    have a' := List.pairwise_cons.mp a
    have b' := List.pairwise_cons.mp b
    have e : t = u := by
      rcases List.mem_cons.mp ((h t).mp List.mem_cons_self) with e | m
      · exact e
      · rcases List.mem_cons.mp ((h u).mpr List.mem_cons_self) with e | m'
        · exact e.symm
        · have h1 := b'.1 t m
          have h2 := a'.1 u m'
          omega
    subst e
    rw [lt_unique a'.2 b'.2 fun x => ?_]
    have := h x
    rw [List.mem_cons, List.mem_cons] at this
    constructor
    · intro m
      rcases this.mp (Or.inr m) with e | m'
      · subst e; exact absurd (a'.1 x m) (Nat.lt_irrefl _)
      · exact m'
    · intro m
      rcases this.mpr (Or.inr m) with e | m'
      · subst e; exact absurd (b'.1 x m) (Nat.lt_irrefl _)
      · exact m'
theorem flatMap_filter {α : Type} {p : Nat → Bool} {f : Nat → List α} : ∀ {L : List Nat}, (∀ c ∈ L, p c = false → f c = []) → (L.filter p).flatMap f = L.flatMap f
  | [], _ => rfl
  | c :: L, h => by
    have ih := flatMap_filter (p := p) (f := f) (L := L) fun x hx => h x (List.mem_cons_of_mem _ hx)
    rw [List.filter_cons, List.flatMap_cons]
    cases e : p c with
    | true => rw [if_pos rfl, List.flatMap_cons, ih]
    | false => rw [if_neg (by decide), h c List.mem_cons_self e, ih]; rfl
theorem flatMap_flatMap' {α β γ : Type} {f : α → List β} {g : β → List γ} : ∀ {L : List α}, (L.flatMap f).flatMap g = L.flatMap fun x => (f x).flatMap g
  | [] => rfl
  | a :: L => by rw [List.flatMap_cons, List.flatMap_append, List.flatMap_cons, flatMap_flatMap']
theorem gl_used {T : List Tie} {r c : Nat} (hc : isL c = true) (h : ∀ t ∈ T, t.2.1 ≠ (if 97 ≤ c then c else c + 32)) : gl T r c = [] := by
  cases e : gl T r c with
  | nil => rfl
  | cons s l =>
    have m : s ∈ gl T r c := by rw [e]; exact List.mem_cons_self
    rcases (mem_gl hc).mp m with ⟨a, b, m⟩ | ⟨a, b, m⟩
    · have := h _ m
      rw [if_pos a] at this
      exact absurd rfl this
    · have := h _ m
      rw [if_neg (by omega)] at this
      exact absurd rfl this
/-- letters that no tie has add nothing -/
theorem nb_used {T : List Tie} (sm : ∀ t ∈ T, 97 ≤ t.2.1 ∧ t.2.1 ≤ 122) {U : List Nat} (so : U.Pairwise (· < ·)) (hU : ∀ c, c ∈ U ↔ ∃ t ∈ T, t.2.1 = c) (r : Nat) : nb T r = (U.flatMap fun c => [c, c - 32]).flatMap (gl T r) := by
  have hV : ∀ c, c ∈ (List.range 26).map (97 + ·) ↔ 97 ≤ c ∧ c ≤ 122 := fun c => by
    rw [List.mem_map]
    constructor
    · rintro ⟨k, hk, rfl⟩
      have := List.mem_range.mp hk
      omega
    · intro h
      exact ⟨c - 97, List.mem_range.mpr (by omega), by omega⟩
  have pV : ((List.range 26).map (97 + ·)).Pairwise (· < ·) := by decide
  have eU : U = ((List.range 26).map (97 + ·)).filter fun c => decide (c ∈ U) := by
    refine lt_unique so (pV.filter _) fun c => ?_
    rw [List.mem_filter, decide_eq_true_eq, hV]
    constructor
    · intro h
      obtain ⟨t, ht, e⟩ := (hU c).mp h
      have := sm t ht
      exact ⟨by omega, h⟩
    · exact fun h => h.2
  rw [flatMap_flatMap', eU]
  rw [flatMap_filter (p := fun c => decide (c ∈ U)) fun c hc hp => ?_]
  · unfold nb lets
    rw [flatMap_flatMap', List.flatMap_map]
    refine congrArg (fun f => (List.range 26).flatMap f) (funext fun k => ?_)
    show _ = ([97 + k, 97 + k - 32]).flatMap (gl T r)
    rw [show 97 + k - 32 = 65 + k by omega]
  · have hb := (hV c).mp hc
    have nu : ∀ t ∈ T, t.2.1 ≠ c := fun t ht e => (of_decide_eq_false hp) ((hU c).mpr ⟨t, ht, e⟩)
    show ([c, c - 32]).flatMap (gl T r) = []
    rw [List.flatMap_cons, List.flatMap_cons, gl_used (isL_iff.mpr (Or.inl hb)) (by rw [if_pos hb.1]; exact nu), gl_used (isL_iff.mpr (Or.inr (by omega))) (by rw [if_neg (by omega), show c - 32 + 32 = c by omega]; exact nu)]
    rfl
end Gw

/-! ## W8 -/
/-! how rooms are found, step by step; the ways -/
namespace Gw
/-- a step that found a room: the known room, the letter, the new room -/
abbrev Stp := Nat × Nat × Nat
def news (L : List Stp) : List Nat := 0 :: L.map fun s => s.2.2
def stp1 (r : Nat) (L : List Stp) (x : Nat × Nat) : List Stp := if x.2 ∈ news L then L else L ++ [(r, x.1, x.2)]
def stpAll (r : Nat) (L : List Stp) (l : List (Nat × Nat)) : List Stp := l.foldl (stp1 r) L
def glc (T : List Tie) (r c : Nat) : List (Nat × Nat) := (gl T r c).map fun s => (c, s)
def nbc (T : List Tie) (r : Nat) : List (Nat × Nat) := lets.flatMap (glc T r)
theorem news_snoc (L : List Stp) (a : Stp) : news (L ++ [a]) = news L ++ [a.2.2] := by unfold news; rw [List.map_append]; rfl
theorem news_stp1 (r : Nat) (L : List Stp) (x : Nat × Nat) : news (stp1 r L x) = add1 (news L) x.2 := by
  unfold stp1 add1
  by_cases h : x.2 ∈ news L
  · rw [if_pos h, if_pos h]
  · rw [if_neg h, if_neg h, news_snoc]
theorem news_stpAll (r : Nat) : ∀ (l : List (Nat × Nat)) (L : List Stp), news (stpAll r L l) = addAll (news L) (l.map (·.2))
  | [], L => rfl
  | x :: l, L => by
    show news (stpAll r (stp1 r L x) l) = _
    rw [news_stpAll r l, news_stp1, List.map_cons, addAll_cons]
theorem glc_snd (T : List Tie) (r c : Nat) : (glc T r c).map (·.2) = gl T r c := by
  unfold glc; rw [List.map_map]; exact List.map_id _
theorem nbc_snd (T : List Tie) (r : Nat) : (nbc T r).map (·.2) = nb T r := by
  unfold nbc nb
  rw [List.map_flatMap]
  exact congrArg (fun f => lets.flatMap f) (funext fun c => glc_snd T r c)
/-- the steps behind i rooms -/
def fns (T : List Tie) : Nat → List Stp
  | 0 => []
  | i + 1 => match (news (fns T i))[i]? with
    | some r => stpAll r (fns T i) (nbc T r)
    | none => fns T i
theorem news_fns (T : List Tie) : ∀ i, news (fns T i) = fnd T i
  | 0 => rfl
  | i + 1 => by
    have ih := news_fns T i
    cases h : (fnd T i)[i]? with
    | none =>
      rw [fnd_end h]
      show news (match (news (fns T i))[i]? with | some r => stpAll r (fns T i) (nbc T r) | none => fns T i) = _
      rw [ih, h]; exact ih
    | some r =>
      rw [fnd_succ h]
      show news (match (news (fns T i))[i]? with | some r => stpAll r (fns T i) (nbc T r) | none => fns T i) = _
      rw [ih, h]
      show news (stpAll r (fns T i) (nbc T r)) = _
      rw [news_stpAll, ih, nbc_snd]
theorem fns_succ {T : List Tie} {i r : Nat} (h : (fnd T i)[i]? = some r) : fns T (i + 1) = stpAll r (fns T i) (nbc T r) := by
  show (match (news (fns T i))[i]? with | some r => stpAll r (fns T i) (nbc T r) | none => fns T i) = _
  rw [news_fns, h]
theorem fns_end {T : List Tie} {i : Nat} (h : (fnd T i)[i]? = none) : fns T (i + 1) = fns T i := by
  show (match (news (fns T i))[i]? with | some r => stpAll r (fns T i) (nbc T r) | none => fns T i) = _
  rw [news_fns, h]
/-- all steps -/
def fin (T : List Tie) : List Stp := fns T (2 * T.length + 1)
theorem news_fin (T : List Tie) : news (fin T) = ord T := news_fns T _
theorem fns_stop {T : List Tie} {i : Nat} (h : (fnd T i).length ≤ i) : ∀ {j : Nat}, i ≤ j → fns T j = fns T i := by
  intro j hj
  induction hj with
  | refl => rfl
  | @step j hj ih =>
    have e : (fnd T j)[j]? = none := by
      rw [fnd_stop h hj]; exact List.getElem?_eq_none (Nat.le_trans h hj)
    rw [fns_end e, ih]
theorem fin_of {T : List Tie} {i : Nat} (h : (fnd T i).length ≤ i) : fns T i = fin T := by
  unfold fin
  by_cases hi : i ≤ 2 * T.length + 1
  · exact (fns_stop h hi).symm
  · exact fns_stop (fnd_len T _) (by omega)
/-- what steps are: each from a known room by a letter that leads to a new one -/
structure Steps (T : List Tie) (L : List Stp) : Prop where
  ld : ∀ a ∈ L, Ld T a.1 a.2.1 a.2.2
  nd : (news L).Nodup
  old : ∀ (i : Nat) a, L[i]? = some a → a.1 ∈ news (L.take i)
theorem steps_nil (T : List Tie) : Steps T [] := ⟨fun a h => (by cases h), by simp [news], fun i a h => (by simp at h)⟩
theorem Steps.snoc {T : List Tie} {L : List Stp} (S : Steps T L) {a : Stp} (l : Ld T a.1 a.2.1 a.2.2) (k : a.1 ∈ news L) (n : a.2.2 ∉ news L) : Steps T (L ++ [a]) := by
  refine ⟨fun b hb => ?_, ?_, fun i b hb => ?_⟩
  · rcases List.mem_append.mp hb with h | h
    · exact S.ld b h
    · rw [List.mem_singleton] at h; subst h; exact l
  · rw [news_snoc, List.nodup_append]
    refine ⟨S.nd, by simp, fun x hx y hy z => n ?_⟩
    rw [List.mem_singleton] at hy
    subst hy; subst z; exact hx
  · by_cases h : i < L.length
    · rw [List.getElem?_append_left h] at hb
      rw [List.take_append_of_le_length (Nat.le_of_lt h)]
      exact S.old i b hb
    · rw [List.getElem?_append_right (by omega)] at hb
      have e : i - L.length = 0 := by
        have := (List.getElem?_eq_some_iff.mp hb).1
        simp at this; omega
      rw [e] at hb
      cases hb
      have : i = L.length := by omega
      subst this
      rw [List.take_left]; exact k
theorem Steps.all {T : List Tie} {r : Nat} : ∀ {l : List (Nat × Nat)} {L : List Stp}, Steps T L → r ∈ news L → (∀ x ∈ l, Ld T r x.1 x.2) → Steps T (stpAll r L l)
  | [], L, S, _, _ => S
  | x :: l, L, S, hr, h => by
    show Steps T (stpAll r (stp1 r L x) l)
    have hx := h x List.mem_cons_self
    refine Steps.all (l := l) ?_ ?_ fun y hy => h y (List.mem_cons_of_mem _ hy)
    · unfold stp1
      by_cases k : x.2 ∈ news L
      · rw [if_pos k]; exact S
      · rw [if_neg k]; exact S.snoc hx hr k
    · rw [news_stp1, mem_add1]; exact Or.inl hr
theorem mem_nbc {T : List Tie} {r : Nat} {x : Nat × Nat} (h : x ∈ nbc T r) : Ld T r x.1 x.2 := by
  unfold nbc at h
  obtain ⟨c, hc, h⟩ := List.mem_flatMap.mp h
  unfold glc at h
  obtain ⟨s, hs, rfl⟩ := List.mem_map.mp h
  exact (mem_gl (mem_lets.mp hc)).mp hs
theorem steps_fns (T : List Tie) : ∀ i, Steps T (fns T i)
  | 0 => steps_nil T
  | i + 1 => by
    cases h : (fnd T i)[i]? with
    | none => rw [fns_end h]; exact steps_fns T i
    | some r =>
      rw [fns_succ h]
      refine (steps_fns T i).all ?_ fun x hx => mem_nbc hx
      rw [news_fns]; exact List.mem_of_getElem? h
theorem steps_fin (T : List Tie) : Steps T (fin T) := steps_fns T _
/-! ### ways -/
def wayS (w : Nat → List Nat) (a : Stp) : Nat → List Nat := fun x => if x = a.2.2 then w a.1 ++ [a.2.1] else w x
def wayL (L : List Stp) : Nat → List Nat := L.foldl wayS fun _ => []
theorem wayL_snoc (L : List Stp) (a : Stp) : wayL (L ++ [a]) = wayS (wayL L) a := by unfold wayL; rw [List.foldl_append]; rfl
theorem wayL_new {L : List Stp} {a : Stp} {x : Nat} (h : x ∈ news L) (n : a.2.2 ∉ news L) : wayL (L ++ [a]) x = wayL L x := by
  rw [wayL_snoc]; unfold wayS
  exact if_neg fun (z : x = a.2.2) => n (z ▸ h)
theorem Steps.ways {T : List Tie} : ∀ {n : Nat} {L : List Stp}, L.length = n → Steps T L → Ways T (news L) (wayL L)
  | 0, L, e, S => by
    have := List.eq_nil_of_length_eq_zero e
    subst this
    exact ⟨rfl, by simp [news], fun r hr h0 => absurd (by simpa [news] using hr) h0⟩
  | n + 1, L, e, S => by
    rcases List.eq_nil_or_concat L with rfl | ⟨M, a, rfl⟩
    · cases e
    · rw [List.concat_eq_append] at *
      have SM : Steps T M := by
        refine ⟨fun b hb => S.ld b (List.mem_append.mpr (Or.inl hb)), ?_, fun i b hb => ?_⟩
        · have := S.nd
          rw [news_snoc, List.nodup_append] at this
          exact this.1
        · have hi := (List.getElem?_eq_some_iff.mp hb).1
          have := S.old i b (by rw [List.getElem?_append_left hi]; exact hb)
          rwa [List.take_append_of_le_length (Nat.le_of_lt hi)] at this
      have W := Steps.ways (n := n) (by simpa using e) SM
      have na : a.2.2 ∉ news M := fun z => by
        have := S.nd
        rw [news_snoc, List.nodup_append] at this
        exact this.2.2 _ z _ (List.mem_singleton.mpr rfl) rfl
      have ka : a.1 ∈ news M := by
        have := S.old M.length a (by rw [List.getElem?_append_right (Nat.le_refl _), Nat.sub_self]; rfl)
        rwa [List.take_left] at this
      have la := S.ld a (List.mem_append.mpr (Or.inr (List.mem_singleton.mpr rfl)))
      rw [news_snoc]
      refine ⟨?_, List.mem_append.mpr (Or.inl W.mem), fun r hr h0 => ?_⟩
      · rw [wayL_new W.mem na]; exact W.zero
      · rcases List.mem_append.mp hr with hr | hr
        · obtain ⟨m, c, hm, e1, l⟩ := W.up r hr h0
          exact ⟨m, c, List.mem_append.mpr (Or.inl hm), by rw [wayL_new hr na, wayL_new hm na]; exact e1, l⟩
        · rw [List.mem_singleton] at hr
          subst hr
          refine ⟨a.1, a.2.1, List.mem_append.mpr (Or.inl ka), ?_, la⟩
          rw [wayL_new ka na, wayL_snoc]
          unfold wayS
          rw [if_pos rfl]
def way (T : List Tie) : Nat → List Nat := wayL (fin T)
theorem ways_fin (T : List Tie) : Ways T (ord T) (way T) := by
  have := (steps_fin T).ways rfl
  rwa [news_fin] at this
/-- letters that no tie has add nothing -/
theorem nbc_used {T : List Tie} (sm : ∀ t ∈ T, 97 ≤ t.2.1 ∧ t.2.1 ≤ 122) {U : List Nat} (so : U.Pairwise (· < ·)) (hU : ∀ c, c ∈ U ↔ ∃ t ∈ T, t.2.1 = c) (r : Nat) : nbc T r = (U.flatMap fun c => [c, c - 32]).flatMap (glc T r) := by
  have hV : ∀ c, c ∈ (List.range 26).map (97 + ·) ↔ 97 ≤ c ∧ c ≤ 122 := fun c => by
    rw [List.mem_map]
    constructor
    · rintro ⟨k, hk, rfl⟩
      have := List.mem_range.mp hk
      omega
    · intro h
      exact ⟨c - 97, List.mem_range.mpr (by omega), by omega⟩
  have eU : U = ((List.range 26).map (97 + ·)).filter fun c => decide (c ∈ U) := by
    refine lt_unique so ((show ((List.range 26).map (97 + ·)).Pairwise (· < ·) by decide).filter _) fun c => ?_
    rw [List.mem_filter, decide_eq_true_eq, hV]
    exact ⟨fun h => ⟨by obtain ⟨t, ht, e⟩ := (hU c).mp h; have := sm t ht; omega, h⟩, fun h => h.2⟩
  have g0 : ∀ {r c : Nat}, gl T r c = [] → glc T r c = [] := fun h => by unfold glc; rw [h]; rfl
  rw [flatMap_flatMap', eU, flatMap_filter (p := fun c => decide (c ∈ U)) fun c hc hp => ?_]
  · unfold nbc lets
    rw [flatMap_flatMap', List.flatMap_map]
    refine congrArg (fun f => (List.range 26).flatMap f) (funext fun k => ?_)
    show _ = ([97 + k, 97 + k - 32]).flatMap (glc T r)
    rw [show 97 + k - 32 = 65 + k by omega]
  · have hb := (hV c).mp hc
    have nu : ∀ t ∈ T, t.2.1 ≠ c := fun t ht e => (of_decide_eq_false hp) ((hU c).mpr ⟨t, ht, e⟩)
    show ([c, c - 32]).flatMap (glc T r) = []
    rw [List.flatMap_cons, List.flatMap_cons, g0 (gl_used (isL_iff.mpr (Or.inl hb)) (by rw [if_pos hb.1]; exact nu)), g0 (gl_used (isL_iff.mpr (Or.inr (by omega))) (by rw [if_neg (by omega), show c - 32 + 32 = c by omega]; exact nu))]
    rfl
end Gw

/-! ## W9 -/
/-! the few words of a web: what they make, and that none can be spared -/
namespace Gw
theorem Steps.init {T : List Tie} {M : List Stp} {a : Stp} (S : Steps T (M ++ [a])) : Steps T M := by
  refine ⟨fun b hb => S.ld b (List.mem_append.mpr (Or.inl hb)), ?_, fun i b hb => ?_⟩
  · have := S.nd
    rw [news_snoc, List.nodup_append] at this
    exact this.1
  · have hi := (List.getElem?_eq_some_iff.mp hb).1
    have := S.old i b (by rw [List.getElem?_append_left hi]; exact hb)
    rwa [List.take_append_of_le_length (Nat.le_of_lt hi)] at this
theorem Steps.last {T : List Tie} {M : List Stp} {a : Stp} (S : Steps T (M ++ [a])) : a.2.2 ∉ news M ∧ a.1 ∈ news M := by
  refine ⟨fun z => ?_, ?_⟩
  · have := S.nd
    rw [news_snoc, List.nodup_append] at this
    exact this.2.2 _ z _ (List.mem_singleton.mpr rfl) rfl
  · have := S.old M.length a (by rw [List.getElem?_append_right (Nat.le_refl _), Nat.sub_self]; rfl)
    rwa [List.take_left] at this
theorem Steps.from {T : List Tie} : ∀ {n : Nat} {L : List Stp}, L.length = n → Steps T L → ∀ a ∈ L, a.1 ∈ news L
  | 0, L, e, _, a, h => by rw [List.eq_nil_of_length_eq_zero e] at h; cases h
  | n + 1, L, e, S, a, h => by
    rcases List.eq_nil_or_concat L with rfl | ⟨M, b, rfl⟩
    · cases e
    · rw [List.concat_eq_append] at *
      rw [news_snoc]
      rcases List.mem_append.mp h with h | h
      · exact List.mem_append.mpr (Or.inl (Steps.from (n := n) (by simpa using e) S.init a h))
      · rw [List.mem_singleton] at h
        subst h
        exact List.mem_append.mpr (Or.inl S.last.2)
theorem Steps.way {T : List Tie} : ∀ {n : Nat} {L : List Stp}, L.length = n → Steps T L → ∀ a ∈ L, wayL L a.2.2 = wayL L a.1 ++ [a.2.1]
  | 0, L, e, _, a, h => by rw [List.eq_nil_of_length_eq_zero e] at h; cases h
  | n + 1, L, e, S, a, h => by
    rcases List.eq_nil_or_concat L with rfl | ⟨M, b, rfl⟩
    · cases e
    · rw [List.concat_eq_append] at *
      have nb := S.last.1
      rcases List.mem_append.mp h with h | h
      · have ih := Steps.way (n := n) (by simpa using e) S.init a h
        have k1 : a.1 ∈ news M := Steps.from rfl S.init a h
        have k2 : a.2.2 ∈ news M := List.mem_cons_of_mem _ (List.mem_map.mpr ⟨a, h, rfl⟩)
        rw [wayL_new k1 nb, wayL_new k2 nb]; exact ih
      · rw [List.mem_singleton] at h
        subst h
        rw [wayL_new S.last.2 nb, wayL_snoc]
        exact if_pos rfl
theorem way_step {T : List Tie} {a : Stp} (h : a ∈ fin T) : way T a.2.2 = way T a.1 ++ [a.2.1] := (steps_fin T).way rfl a h
theorem way_zero (T : List Tie) : way T 0 = [] := (ways_fin T).zero
theorem step_of {T : List Tie} {r : Nat} (h : r ∈ ord T) (h0 : r ≠ 0) : ∃ a ∈ fin T, a.2.2 = r := by
  rw [← news_fin] at h
  rcases List.mem_cons.mp h with h | h
  · exact absurd h h0
  · exact List.mem_map.mp h
theorem fin_mem {T : List Tie} {a : Stp} (h : a ∈ fin T) : a.1 ∈ ord T ∧ a.2.2 ∈ ord T ∧ Ld T a.1 a.2.1 a.2.2 := by
  refine ⟨?_, ?_, (steps_fin T).ld a h⟩
  · rw [← news_fin]; exact Steps.from rfl (steps_fin T) a h
  · rw [← news_fin]; exact List.mem_cons_of_mem _ (List.mem_map.mpr ⟨a, h, rfl⟩)
theorem fin_len (T : List Tie) : (fin T).length + 1 = (ord T).length := by
  rw [← news_fin]; unfold news; rw [List.length_cons, List.length_map]
/-! ### ties of steps -/
def tieS (a : Stp) : Tie := mkTie a.1 a.2.1 a.2.2
def used (T : List Tie) : List Tie := (fin T).map tieS
theorem mkTie_bk {r c s : Nat} (h : isL c = true) : mkTie s (bk c) r = mkTie r c s := by
  rw [isL_iff] at h
  unfold mkTie bk
  by_cases k : 97 ≤ c
  · rw [if_pos k, if_neg (by omega), if_pos k]
    rw [show c - 32 + 32 = c by omega]
  · rw [if_neg k, if_pos (by omega), if_neg k]
theorem ld_mem {T : List Tie} {r c s : Nat} (l : Ld T r c s) : mkTie r c s ∈ T := by
  rcases l with ⟨a, b, m⟩ | ⟨a, b, m⟩
  · unfold mkTie; rw [if_pos a]; exact m
  · unfold mkTie; rw [if_neg (by omega)]; exact m
theorem mkTie_inj {r c s r' c' s' : Nat} (h : isL c = true) (h' : isL c' = true) (e : mkTie r c s = mkTie r' c' s') : (r = r' ∧ c = c' ∧ s = s') ∨ (r = s' ∧ c = bk c' ∧ s = r') := by
  rw [isL_iff] at h h'
  unfold mkTie at e
  by_cases k : 97 ≤ c
  · rw [if_pos k] at e
    by_cases k' : 97 ≤ c'
    · rw [if_pos k'] at e
      simp only [Prod.mk.injEq] at e
      exact Or.inl e
    · rw [if_neg k'] at e
      simp only [Prod.mk.injEq] at e
      refine Or.inr ⟨e.1, ?_, e.2.2⟩
      unfold bk; rw [if_neg k']; exact e.2.1
  · rw [if_neg k] at e
    by_cases k' : 97 ≤ c'
    · rw [if_pos k'] at e
      simp only [Prod.mk.injEq] at e
      refine Or.inr ⟨e.2.2, ?_, e.1⟩
      unfold bk; rw [if_pos k']; omega
    · rw [if_neg k'] at e
      simp only [Prod.mk.injEq] at e
      exact Or.inl ⟨e.2.2, by omega, e.1⟩
theorem used_sub {T : List Tie} {t : Tie} (h : t ∈ used T) : t ∈ T := by
  obtain ⟨a, ha, rfl⟩ := List.mem_map.mp h
  exact ld_mem (fin_mem ha).2.2
theorem nodup_of_map {α β : Type} {f : α → β} : ∀ {l : List α}, (l.map f).Nodup → l.Nodup
  | [], _ => List.nodup_nil
  | a :: l, h => by
    rw [List.map_cons, List.nodup_cons] at h
    exact List.nodup_cons.mpr ⟨fun z => h.1 (List.mem_map.mpr ⟨a, z, rfl⟩), nodup_of_map h.2⟩
theorem fin_nodup (T : List Tie) : (fin T).Nodup := by
  have h : (news (fin T)).Nodup := (steps_fin T).nd
  unfold news at h
  exact nodup_of_map (List.nodup_cons.mp h).2
/-- a step in a list is earlier than any that hangs on it: no two steps take one tie -/
theorem used_nodup (T : List Tie) : (used T).Nodup := by
  refine nodup_map (fun a ha b hb e => ?_) (fin_nodup T)
  obtain ⟨_, _, la⟩ := fin_mem ha
  obtain ⟨_, _, lb⟩ := fin_mem hb
  rcases mkTie_inj la.isL lb.isL e with ⟨h1, h2, h3⟩ | ⟨h1, h2, h3⟩
  · exact Prod.ext h1 (Prod.ext h2 h3)
  · exfalso
    have wa := congrArg List.length (way_step ha)
    have wb := congrArg List.length (way_step hb)
    rw [List.length_append, List.length_singleton] at wa wb
    rw [h3, h1] at wa
    omega
/-! ### the few words -/
def idle (T : List Tie) : List Tie := T.filter fun t => decide (t ∉ used T)
def fw (T : List Tie) (t : Tie) : List Nat := way T t.1 ++ t.2.1 :: inv (way T t.2.2)
def few (T : List Tie) : List (List Nat) := (idle T).map (fw T)
theorem mem_idle {T : List Tie} {t : Tie} : t ∈ idle T ↔ t ∈ T ∧ t ∉ used T := by
  unfold idle; rw [List.mem_filter, decide_eq_true_eq]
theorem len_split {α : Type} (p : α → Bool) : ∀ L : List α, (L.filter p).length + (L.filter fun x => !p x).length = L.length
  | [] => rfl
  | x :: L => by
    have ih := len_split p L
    rw [List.filter_cons, List.filter_cons]
    cases h : p x with
    | true => simp; omega
    | false => simp; omega
theorem idle_len {T : List Tie} (nd : T.Nodup) : (idle T).length + (ord T).length = T.length + 1 := by
  have h1 := len_split (fun t => decide (t ∉ used T)) T
  have h2 : (T.filter fun t => !decide (t ∉ used T)).length = (used T).length := by
    refine Nat.le_antisymm ?_ ?_
    · refine nodup_le' (nd.filter _) fun x hx => ?_
      have := (List.mem_filter.mp hx).2
      simpa using this
    · refine nodup_le' (used_nodup T) fun x hx => List.mem_filter.mpr ⟨used_sub hx, ?_⟩
      simpa using hx
  have h3 : (used T).length = (fin T).length := by unfold used; rw [List.length_map]
  have h4 := fin_len T
  unfold idle
  omega
section
variable {T : List Tie}
theorem fw_wlk (C : Core T) {t : Tie} (h : t ∈ T) : Wlk T 0 (fw T t) 0 := by
  have h1 := C.conn t.1 (mem_rms.mpr (Or.inr ⟨t, h, Or.inl rfl⟩))
  have h2 := C.conn t.2.2 (mem_rms.mpr (Or.inr ⟨t, h, Or.inr rfl⟩))
  exact ((ways_fin T).wlk h1).app ⟨t.2.2, ld_fst C.small h, ((ways_fin T).wlk h2).back⟩
theorem few_allW (C : Core T) : AllW (few T) := fun w hw => by
  obtain ⟨t, ht, rfl⟩ := List.mem_map.mp hw
  exact (fw_wlk C (mem_idle.mp ht).1).isW
theorem few_mem_rds (C : Core T) {w : List Nat} (hw : w ∈ few T) : Wlk T 0 w 0 := by
  obtain ⟨t, ht, rfl⟩ := List.mem_map.mp hw
  exact fw_wlk C (mem_idle.mp ht).1
theorem gn_wlk (C : Core T) {ws : List (List Nat)} (h : ∀ w ∈ ws, Wlk T 0 w 0) {u : List Nat} (g : Gn ws u) : Wlk T 0 u 0 := by
  induction g with
  | nil => rfl
  | word hw _ ih => exact (h _ hw).app ih
  | back hw _ ih => exact (h _ hw).back.app ih
/-- the loop of a tie is made -/
theorem few_loop (C : Core T) {r c s : Nat} (l : Ld T r c s) : Made (few T) (way T r ++ c :: inv (way T s)) := by
  have hr := C.conn r l.rms.1
  have hs := C.conn s l.rms.2
  have Wr := ((ways_fin T).wlk hr).isW
  have Ws := ((ways_fin T).wlk hs).isW
  have cL := l.isL
  by_cases u : mkTie r c s ∈ used T
  · obtain ⟨a, ha, e⟩ := List.mem_map.mp u
    obtain ⟨_, _, la⟩ := fin_mem ha
    have st := way_step ha
    rcases mkTie_inj la.isL cL e with ⟨h1, h2, h3⟩ | ⟨h1, h2, h3⟩
    · rw [h1, h2, h3] at st
      rw [st, inv_app]
      have e2 : way T r ++ c :: (inv [c] ++ inv (way T r)) = (way T r ++ [c]) ++ inv (way T r ++ [c]) := by rw [inv_app]; simp
      rw [e2]
      have w2 : isW (way T r ++ [c]) = true := by rw [← st]; exact Ws
      exact made_nil_of (red_inv w2) (isW_app.mpr ⟨w2, isW_inv w2⟩)
    · rw [h1, h2, h3] at st
      rw [st]
      have w1 : isW (bk c :: c :: inv (way T s)) = true := isW_cons.mpr ⟨isL_bk cL, isW_cons.mpr ⟨cL, isW_inv Ws⟩⟩
      have o := Out.mk (way T s) (inv (way T s)) (bk c) (isL_bk cL)
      rw [bk_bk cL] at o
      have e2 : way T s ++ [bk c] ++ c :: inv (way T s) = way T s ++ bk c :: c :: inv (way T s) := by simp
      rw [e2]
      exact made_nil_of (.step o (red_inv Ws)) (isW_app.mpr ⟨Ws, w1⟩)
  · have m : mkTie r c s ∈ idle T := mem_idle.mpr ⟨ld_mem l, u⟩
    have mf : fw T (mkTie r c s) ∈ few T := List.mem_map.mpr ⟨_, m, rfl⟩
    rcases l with ⟨a, b, _⟩ | ⟨a, b, _⟩
    · have e : mkTie r c s = (r, c, s) := if_pos a
      rw [e] at mf
      exact Made.one mf
    · have e : mkTie r c s = (s, c + 32, r) := if_neg (by omega)
      rw [e] at mf
      have mi := Made.inv (few_allW C) (few_allW C _ mf) (Made.one mf)
      have e2 : inv (fw T (s, c + 32, r)) = way T r ++ c :: inv (way T s) := by
        unfold fw
        show inv (way T s ++ (c + 32) :: inv (way T r)) = _
        rw [inv_app, inv_cons, inv_inv Wr]
        have : bk (c + 32) = c := by unfold bk; rw [if_pos (by omega)]; omega
        rw [this]; simp
      rwa [e2] at mi
theorem few_walk (C : Core T) : ∀ {w : List Nat} {r s : Nat}, r ∈ ord T → Wlk T r w s → Made (few T) (way T r ++ w ++ inv (way T s))
  | [], r, s, hr, k => by
    have : r = s := k
    subst this
    have Wr := ((ways_fin T).wlk hr).isW
    rw [List.append_nil]
    exact made_nil_of (red_inv Wr) (isW_app.mpr ⟨Wr, isW_inv Wr⟩)
  | c :: w, r, s, hr, ⟨m, l, k⟩ => by
    have hm := ord_closed hr l
    have hs := ord_walk hm k
    have Wr := ((ways_fin T).wlk hr).isW
    have Wm := ((ways_fin T).wlk hm).isW
    have Ws := ((ways_fin T).wlk hs).isW
    have a := few_loop C l
    have b := few_walk C hm k
    have wa : isW (way T r ++ c :: inv (way T m)) = true := isW_app.mpr ⟨Wr, isW_cons.mpr ⟨l.isL, isW_inv Wm⟩⟩
    have wb : isW (way T m ++ w ++ inv (way T s)) = true := isW_app.mpr ⟨isW_app.mpr ⟨Wm, k.isW⟩, isW_inv Ws⟩
    have ab := Made.app (few_allW C) wa wb a b
    refine (Made.red (isW_app.mpr ⟨wa, wb⟩) ?_).mp ab
    have h := red_inv (isW_inv Wm)
    rw [inv_inv Wm] at h
    have := h.app (way T r ++ [c]) (w ++ inv (way T s))
    simpa using this
/-- the few words make just what the web reads -/
theorem few_reads (C : Core T) {w : List Nat} (hw : isW w = true) : Made (few T) w ↔ Rds T w := by
  constructor
  · rintro ⟨u, g, e⟩
    have k := rds_of C.fold (gn_wlk C (fun w hw => few_mem_rds C hw) g)
    unfold Rds at k ⊢
    rw [← e]; exact k
  · intro h
    have k := few_walk C (mem_ord_zero T) h
    rw [way_zero] at k
    have k2 : Made (few T) (short w) := by simpa [inv] using k
    exact (Made.red hw (red_short hw)).mpr k2
end
/-! ### parities -/
def WP (T : List Tie) (f : Tie → Bool) : Nat → List Nat → Nat → Bool → Prop
  | r, [], s, b => r = s ∧ b = false
  | r, c :: w, s, b => ∃ m b', Ld T r c m ∧ WP T f m w s b' ∧ b = xor (f (mkTie r c m)) b'
section
variable {T : List Tie} {f : Tie → Bool}
theorem WP.wlk : ∀ {w : List Nat} {r s : Nat} {b : Bool}, WP T f r w s b → Wlk T r w s
  | [], r, s, b, h => h.1
  | c :: w, r, s, b, ⟨m, b', l, k, _⟩ => ⟨m, l, k.wlk⟩
theorem WP.of : ∀ {w : List Nat} {r s : Nat}, Wlk T r w s → ∃ b, WP T f r w s b
  | [], r, s, h => ⟨false, h, rfl⟩
  | c :: w, r, s, ⟨m, l, k⟩ => by
    obtain ⟨b, hb⟩ := WP.of k
    exact ⟨_, m, b, l, hb, rfl⟩
theorem WP.app : ∀ {u v : List Nat} {r m s : Nat} {a b : Bool}, WP T f r u m a → WP T f m v s b → WP T f r (u ++ v) s (xor a b)
  | [], v, r, m, s, a, b, h, k => by
    obtain ⟨rfl, rfl⟩ := h
    rw [Bool.false_xor]; exact k
  | c :: u, v, r, m, s, a, b, ⟨x, a', l, h, e⟩, k => ⟨x, xor a' b, l, h.app k, by rw [e, Bool.xor_assoc]⟩
theorem WP.split : ∀ {u v : List Nat} {r s : Nat} {b : Bool}, WP T f r (u ++ v) s b → ∃ m a b', WP T f r u m a ∧ WP T f m v s b' ∧ b = xor a b'
  | [], v, r, s, b, h => ⟨r, false, b, ⟨rfl, rfl⟩, h, by rw [Bool.false_xor]⟩
  | c :: u, v, r, s, b, ⟨x, b1, l, h, e⟩ => by
    obtain ⟨m, a, b', h1, h2, e2⟩ := WP.split (u := u) h
    exact ⟨m, xor (f (mkTie r c x)) a, b', ⟨x, a, l, h1, rfl⟩, h2, by rw [e, e2, Bool.xor_assoc]⟩
theorem WP.back : ∀ {w : List Nat} {r s : Nat} {b : Bool}, WP T f r w s b → WP T f s (inv w) r b
  | [], r, s, b, h => ⟨h.1.symm, h.2⟩
  | c :: w, r, s, b, ⟨m, b', l, h, e⟩ => by
    rw [inv_cons]
    have one : WP T f m [bk c] r (f (mkTie r c m)) := ⟨r, false, l.back, ⟨rfl, rfl⟩, by rw [mkTie_bk l.isL, Bool.xor_false]⟩
    have := h.back.app one
    rw [e, Bool.xor_comm]; exact this
theorem WP.det (F : Folded T) : ∀ {w : List Nat} {r s s' : Nat} {b b' : Bool}, WP T f r w s b → WP T f r w s' b' → s = s' ∧ b = b'
  | [], r, s, s', b, b', h, h' => ⟨h.1.symm.trans h'.1, h.2.trans h'.2.symm⟩
  | c :: w, r, s, s', b, b', ⟨m, a, l, h, e⟩, ⟨m', a', l', h', e'⟩ => by
    have : m = m' := F _ _ _ _ l l'
    subst this
    obtain ⟨e1, e2⟩ := WP.det F h h'
    exact ⟨e1, by rw [e, e', e2]⟩
theorem WP.out (F : Folded T) {u v : List Nat} {r s : Nat} {b : Bool} (h : WP T f r u s b) (o : Out u v) : WP T f r v s b := by
  cases o with
  | mk u v c hc =>
    obtain ⟨m, a, b', h1, ⟨x, b2, l, ⟨y, b3, l2, h3, e3⟩, e2⟩, e⟩ := h.split
    have : y = m := F _ _ _ _ l2 l.back
    subst this
    have := h1.app h3
    rw [mkTie_bk hc] at e3
    have eb : b = xor a b3 := by rw [e, e2, e3]; cases f (mkTie y c x) <;> cases b3 <;> rfl
    rw [eb]; exact this
theorem WP.red (F : Folded T) {u v : List Nat} {r s : Nat} {b : Bool} (h : WP T f r u s b) (o : Red u v) : WP T f r v s b := by
  induction o with
  | refl u => exact h
  | step o _ ih => exact ih (h.out F o)
/-- the parity of what is read -/
def Par (T : List Tie) (f : Tie → Bool) (w : List Nat) (b : Bool) : Prop := WP T f 0 (short w) 0 b
theorem Par.of (F : Folded T) {w : List Nat} {b : Bool} (h : WP T f 0 w 0 b) : Par T f w b := h.red F (red_short h.wlk.isW)
/-- two ways of counting that agree on the row agree on all that it makes -/
theorem gn_par {g : Tie → Bool} {ws : List (List Nat)} (h : ∀ w ∈ ws, ∃ b, WP T f 0 w 0 b ∧ WP T g 0 w 0 b) {u : List Nat} (G : Gn ws u) : ∃ b, WP T f 0 u 0 b ∧ WP T g 0 u 0 b := by
  induction G with
  | nil => exact ⟨false, ⟨rfl, rfl⟩, ⟨rfl, rfl⟩⟩
  | word hw _ ih =>
    obtain ⟨a, a1, a2⟩ := h _ hw
    obtain ⟨b, b1, b2⟩ := ih
    exact ⟨_, a1.app b1, a2.app b2⟩
  | back hw _ ih =>
    obtain ⟨a, a1, a2⟩ := h _ hw
    obtain ⟨b, b1, b2⟩ := ih
    exact ⟨_, a1.back.app b1, a2.back.app b2⟩
theorem made_par (F : Folded T) {g : Tie → Bool} {ws : List (List Nat)} (A : AllW ws) (h : ∀ w ∈ ws, ∃ b, Par T f w b ∧ Par T g w b) {u : List Nat} (hu : isW u = true) (m : Made ws u) : ∃ b, Par T f u b ∧ Par T g u b := by
  have m2 := (made_shorts A).mpr m
  obtain ⟨x, G, e⟩ := m2
  obtain ⟨b, b1, b2⟩ := gn_par (T := T) (f := f) (g := g) (ws := ws.map short) (fun w hw => by
    obtain ⟨y, hy, rfl⟩ := List.mem_map.mp hw
    exact h y hy) G
  have p1 := Par.of F b1
  have p2 := Par.of F b2
  unfold Par at p1 p2 ⊢
  rw [e] at p1 p2
  exact ⟨b, p1, p2⟩
/-- ways pass by no idle tie -/
theorem way_par (z : ∀ t ∈ used T, f t = false) : ∀ {n r : Nat}, (way T r).length = n → r ∈ ord T → WP T f 0 (way T r) r false := by
  intro n
  induction n with
  | zero =>
    intro r h hr
    by_cases h0 : r = 0
    · rw [h0, way_zero]; exact ⟨rfl, rfl⟩
    · obtain ⟨a, ha, rfl⟩ := step_of hr h0
      rw [way_step ha] at h; simp at h
  | succ n ih =>
    intro r h hr
    by_cases h0 : r = 0
    · rw [h0, way_zero] at h; simp at h
    · obtain ⟨a, ha, rfl⟩ := step_of hr h0
      obtain ⟨k1, k2, la⟩ := fin_mem ha
      rw [way_step ha] at h ⊢
      rw [List.length_append] at h
      have := (ih (by simpa using h) k1).app (v := [a.2.1]) (s := a.2.2) (b := false) ⟨a.2.2, false, la, ⟨rfl, rfl⟩, by rw [Bool.xor_false]; exact (z (mkTie a.1 a.2.1 a.2.2) (List.mem_map.mpr ⟨a, ha, rfl⟩)).symm⟩
      exact this
theorem fw_par (C : Core T) (z : ∀ t ∈ used T, f t = false) {t : Tie} (h : t ∈ T) : WP T f 0 (fw T t) 0 (f t) := by
  have h1 := C.conn t.1 (mem_rms.mpr (Or.inr ⟨t, h, Or.inl rfl⟩))
  have h2 := C.conn t.2.2 (mem_rms.mpr (Or.inr ⟨t, h, Or.inr rfl⟩))
  have e : mkTie t.1 t.2.1 t.2.2 = t := if_pos (C.small t h).1
  have k := (way_par z rfl h1).app (v := t.2.1 :: inv (way T t.2.2)) (s := 0) (b := f t) ⟨t.2.2, false, ld_fst C.small h, (way_par z rfl h2).back, by rw [e, Bool.xor_false]⟩
  rw [Bool.false_xor] at k
  exact k
/-- a few word is not made by the others -/
theorem few_spare (C : Core T) {ts : List Tie} {t : Tie} (ht : t ∈ idle T) (hs : ∀ x ∈ ts, x ∈ idle T ∧ x ≠ t) : ¬ Made (ts.map (fw T)) (fw T t) := by
  intro m
  have A : AllW (ts.map (fw T)) := fun w hw => by
    obtain ⟨x, hx, rfl⟩ := List.mem_map.mp hw
    exact (fw_wlk C (mem_idle.mp (hs x hx).1).1).isW
  have z : ∀ x ∈ used T, decide (x = t) = false := fun x hx => decide_eq_false fun e => (mem_idle.mp ht).2 (e ▸ hx)
  have z0 : ∀ x ∈ used T, (fun _ : Tie => false) x = false := fun _ _ => rfl
  have hT := (mem_idle.mp ht).1
  obtain ⟨b, b1, b2⟩ := made_par (f := fun x => decide (x = t)) (g := fun _ => false) C.fold A (fun w hw => by
    obtain ⟨x, hx, rfl⟩ := List.mem_map.mp hw
    obtain ⟨hi, ne⟩ := hs x hx
    have k := fw_par (f := fun x => decide (x = t)) C z (mem_idle.mp hi).1
    rw [decide_eq_false ne] at k
    exact ⟨false, Par.of C.fold k, Par.of C.fold (fw_par (f := fun _ => false) C z0 (mem_idle.mp hi).1)⟩) (fw_wlk C hT).isW m
  have k := Par.of C.fold (fw_par (f := fun x => decide (x = t)) C z hT)
  rw [decide_eq_true rfl] at k
  have e1 := (b1.det C.fold k).2
  have e2 := (b2.det C.fold (Par.of C.fold (fw_par (f := fun _ => false) C z0 hT))).2
  rw [e1] at e2; cases e2
end
/-! ### no fewer words -/
def allB : Nat → List (List Bool)
  | 0 => [[]]
  | n + 1 => (allB n).map (false :: ·) ++ (allB n).map (true :: ·)
theorem allB_len : ∀ n, (allB n).length = 2 ^ n
  | 0 => rfl
  | n + 1 => by
    show ((allB n).map _ ++ (allB n).map _).length = _
    rw [List.length_append, List.length_map, List.length_map, allB_len n, Nat.pow_succ]; omega
theorem allB_mem : ∀ {n : Nat} {l : List Bool}, l ∈ allB n ↔ l.length = n
  | 0, l => by
    show l ∈ [[]] ↔ _
    rw [List.mem_singleton]
    exact ⟨fun h => by rw [h]; rfl, List.eq_nil_of_length_eq_zero⟩
  | n + 1, l => by
    show l ∈ (allB n).map _ ++ (allB n).map _ ↔ _
    rw [List.mem_append, List.mem_map, List.mem_map]
    constructor
    · rintro (⟨x, hx, rfl⟩ | ⟨x, hx, rfl⟩) <;> rw [List.length_cons, allB_mem.mp hx]
    · intro h
      cases l with
      | nil => cases h
      | cons b l =>
        have hl := allB_mem (n := n).mpr (Nat.succ.inj h)
        cases b
        · exact Or.inl ⟨l, hl, rfl⟩
        · exact Or.inr ⟨l, hl, rfl⟩
theorem allB_nodup : ∀ n, (allB n).Nodup
  | 0 => by simp [allB]
  | n + 1 => by
    show ((allB n).map _ ++ (allB n).map _).Nodup
    have ih := allB_nodup n
    rw [List.nodup_append]
    refine ⟨nodup_map (fun a _ b _ e => (List.cons.inj e).2) ih, nodup_map (fun a _ b _ e => (List.cons.inj e).2) ih, fun x hx y hy e => ?_⟩
    obtain ⟨a, _, rfl⟩ := List.mem_map.mp hx
    obtain ⟨b, _, rfl⟩ := List.mem_map.mp hy
    cases (List.cons.inj e).1
open Classical in
/-- a row that makes what the web reads has no fewer words than there are few ones -/
theorem rank {T : List Tie} (C : Core T) {ws : List (List Nat)} (A : AllW ws) (h1 : ∀ w ∈ ws, Rds T w) (h2 : ∀ w ∈ few T, Made ws w) : (few T).length ≤ ws.length := by
  have ln : (few T).length = (idle T).length := by unfold few; rw [List.length_map]
  rw [ln]
  -- a way of counting for each row of bits
  let F : List Bool → Tie → Bool := fun bs t => bs.getD ((idle T).idxOf t) false
  have F0 : ∀ bs, bs.length = (idle T).length → ∀ t ∈ used T, F bs t = false := fun bs hb t ht => by
    have ni : t ∉ idle T := fun z => (mem_idle.mp z).2 ht
    have e : (idle T).idxOf t = (idle T).length := List.idxOf_eq_length ni
    show bs.getD ((idle T).idxOf t) false = false
    rw [e, List.getD_eq_getElem?_getD, List.getElem?_eq_none (by omega)]; rfl
  have ex : ∀ bs w, w ∈ ws → ∃ b, Par T (F bs) w b := fun bs w hw => WP.of (h1 w hw)
  let G : List Bool → List Bool := fun bs => ws.map fun w => if h : ∃ b, Par T (F bs) w b then choose h else false
  have Gp : ∀ bs w (hw : w ∈ ws), Par T (F bs) w (if h : ∃ b, Par T (F bs) w b then choose h else false) := fun bs w hw => by
    rw [dif_pos (ex bs w hw)]; exact choose_spec (ex bs w hw)
  have inj : ∀ a ∈ allB (idle T).length, ∀ b ∈ allB (idle T).length, G a = G b → a = b := fun a ha b hb e => by
    have la := allB_mem.mp ha
    have lb := allB_mem.mp hb
    have pt : ∀ t ∈ idle T, F a t = F b t := fun t ht => by
      have hT := (mem_idle.mp ht).1
      have mf : fw T t ∈ few T := List.mem_map.mpr ⟨t, ht, rfl⟩
      obtain ⟨c, c1, c2⟩ := made_par (f := F a) (g := F b) C.fold A (fun w hw => by
        have := List.map_inj_left.mp e w hw
        have g1 := Gp a w hw
        have g2 := Gp b w hw
        rw [← this] at g2
        exact ⟨_, g1, g2⟩) (fw_wlk C hT).isW (h2 _ mf)
      have k1 := Par.of C.fold (fw_par C (F0 a la) hT)
      have k2 := Par.of C.fold (fw_par C (F0 b lb) hT)
      rw [← (c1.det C.fold k1).2, ← (c2.det C.fold k2).2]
    refine List.ext_getElem? fun i => ?_
    by_cases hi : i < (idle T).length
    · have nd : (idle T).Nodup := C.nd.filter _
      have e3 : (idle T).idxOf (idle T)[i] = i := List.Nodup.idxOf_getElem nd i hi
      have := pt (idle T)[i] (List.getElem_mem hi)
      show a[i]? = b[i]?
      have e4 : a.getD i false = b.getD i false := by
        have e5 : a.getD ((idle T).idxOf (idle T)[i]) false = b.getD ((idle T).idxOf (idle T)[i]) false := this
        rwa [e3] at e5
      rw [List.getD_eq_getElem?_getD, List.getD_eq_getElem?_getD, List.getElem?_eq_getElem (by omega), List.getElem?_eq_getElem (by omega)] at e4
      rw [List.getElem?_eq_getElem (by omega), List.getElem?_eq_getElem (by omega)]
      exact congrArg some e4
    · rw [List.getElem?_eq_none (by omega), List.getElem?_eq_none (by omega)]
  have nd := nodup_map inj (allB_nodup (idle T).length)
  have le := nodup_le' nd (m := allB ws.length) fun x hx => by
    obtain ⟨y, _, rfl⟩ := List.mem_map.mp hx
    exact allB_mem.mpr (by show (ws.map _).length = _; rw [List.length_map])
  rw [List.length_map, allB_len, allB_len] at le
  exact (Nat.pow_le_pow_iff_right (by decide)).mp le
end Gw
namespace Gw
theorem Steps.left {T : List Tie} {A B : List Stp} (S : Steps T (A ++ B)) : Steps T A := by
  refine ⟨fun a ha => S.ld a (List.mem_append.mpr (Or.inl ha)), ?_, fun i a hi => ?_⟩
  · have h := S.nd
    unfold news at h ⊢
    rw [List.map_append, ← List.cons_append, List.nodup_append] at h
    exact h.1
  · have lt := (List.getElem?_eq_some_iff.mp hi).1
    have := S.old i a (by rw [List.getElem?_append_left lt]; exact hi)
    rwa [List.take_append_of_le_length (Nat.le_of_lt lt)] at this
end Gw

/-! ## Lm -/
namespace Gw
open PySem PySem.Spec PyProof.Rows L2 Evl
/-! words that the promises say -/
theorem lt_lit {c k : Nat} {s : Str} (h : s.cps.toList = [k]) : (!decide ((⟨#[c]⟩ : Str).cps.toList < s.cps.toList)) = decide (k ≤ c) := by
  rw [h]
  show (!decide ([c] < [k])) = _
  by_cases hc : c < k
  · have : [c] < [k] := List.cons_lt_cons_iff.mpr (Or.inl hc)
    rw [decide_eq_true this, decide_eq_false (by omega)]; rfl
  · have : ¬ [c] < [k] := fun z => by
      rcases List.cons_lt_cons_iff.mp z with z | ⟨_, z⟩
      · exact hc z
      · exact absurd z (by simp)
    rw [decide_eq_false this, decide_eq_true (by omega)]; rfl
theorem lt_lit2 {c k : Nat} {s : Str} (h : s.cps.toList = [k]) : (!decide (s.cps.toList < (⟨#[c]⟩ : Str).cps.toList)) = decide (c ≤ k) := by
  rw [h]
  show (!decide ([k] < [c])) = _
  by_cases hc : k < c
  · have : [k] < [c] := List.cons_lt_cons_iff.mpr (Or.inl hc)
    rw [decide_eq_true this, decide_eq_false (by omega)]; rfl
  · have : ¬ [k] < [c] := fun z => by
      rcases List.cons_lt_cons_iff.mp z with z | ⟨_, z⟩
      · exact hc z
      · exact absurd z (by simp)
    rw [decide_eq_false this, decide_eq_true (by omega)]; rfl
theorem S_one (c : Nat) : sgn c = .str (S [c]) := rfl
theorem all_map_id {α : Type} (l : List α) (f : α → Bool) : (l.map f).all id = l.all f := by rw [List.all_map]; rfl
/-- no word -/
def NT (H : Hp) (x : V) : Prop := ∃ T, Ty6 H x T ∧ T ≠ "str" ∧ (∀ s' : Shared, s'.TypeIs (.type T) "type")
def NW (H : Hp) (x : V) : Prop := (∃ l, x = .str (S l) ∧ l.length ≤ 1000 ∧ isW l = false) ∨ NT H x
theorem NT.mono {H H' : Hp} {x : V} (e : Ex H H') (h : NT H x) : NT H' x := by
  obtain ⟨T, a, b, c⟩ := h
  exact ⟨T, a.mono e, b, c⟩
theorem NW.mono {H H' : Hp} {x : V} (e : Ex H H') (h : NW H x) : NW H' x := by
  rcases h with h | h
  · exact Or.inl h
  · exact Or.inr (h.mono e)
def sp__is_letter : Sp := fun vs H Q _ => ∃ c, vs = [sgn c] ∧ RetV (.bl (isL c)) H Q
theorem sv_is_letter {c : Nat} {H : Hp} : SpV sp__is_letter [sgn c] H (.bl (isL c)) := fun H1 _ Q q E => ⟨c, rfl, q⟩
def sp_is_word : Sp := fun vs H Q _ => (∃ l, vs = [.str (S l)] ∧ l.length ≤ 1000 ∧ RetV (.bl (isW l)) H Q) ∨ (∃ x, vs = [x] ∧ NT H x ∧ RetV (.bl false) H Q)
theorem sv_is_word {l : List Nat} {H : Hp} (h : l.length ≤ 1000) : SpV sp_is_word [.str (S l)] H (.bl (isW l)) := fun H1 _ Q q E => Or.inl ⟨l, rfl, h, q⟩
theorem sv_is_word0 {x : V} {H : Hp} (h : NW H x) : SpV sp_is_word [x] H (.bl false) := fun H1 e Q q E => by
  rcases h with ⟨l, rfl, h1, h2⟩ | h
  · exact Or.inl ⟨l, rfl, h1, by rw [h2]; exact q⟩
  · exact Or.inr ⟨x, rfl, h.mono e, q⟩
/-- a word goes on, what is none is refused -/
def sp_check (CW : Addr) : Sp := fun vs H Q E => ∃ x, vs = [x] ∧ ((∃ l, x = .str (S l) ∧ l.length ≤ 1000 ∧ isW l = true ∧ RetV .non H Q) ∨ (NW H x ∧ ∀ H', Ex H H' → E (.ref CW) none H'))
def sp_short (CW : Addr) : Sp := fun vs H Q E => ∃ x, vs = [x] ∧ ((∃ l, x = .str (S l) ∧ l.length ≤ 1000 ∧ isW l = true ∧ RetV (.str (S (short l))) H Q) ∨ (NW H x ∧ ∀ H', Ex H H' → E (.ref CW) none H'))
def sp_back (CW : Addr) : Sp := fun vs H Q E => ∃ x, vs = [x] ∧ ((∃ l, x = .str (S l) ∧ l.length ≤ 1000 ∧ isW l = true ∧ RetV (.str (S (short (inv l)))) H Q) ∨ (NW H x ∧ ∀ H', Ex H H' → E (.ref CW) none H'))
def sp_times (CW : Addr) : Sp := fun vs H Q E => ∃ x y, vs = [x, y] ∧ ((∃ l m, x = .str (S l) ∧ y = .str (S m) ∧ l.length + m.length ≤ 1000 ∧ isW l = true ∧ isW m = true ∧ RetV (.str (S (short (l ++ m)))) H Q) ∨
  ((NW H x ∨ ((∃ l, x = .str (S l) ∧ l.length ≤ 1000 ∧ isW l = true) ∧ NW H y)) ∧ ∀ H', Ex H H' → E (.ref CW) none H'))
theorem sv_short {CW : Addr} {l : List Nat} {H : Hp} (h : l.length ≤ 1000) (hw : isW l = true) : SpV (sp_short CW) [.str (S l)] H (.str (S (short l))) := fun H1 e Q q E => ⟨_, rfl, Or.inl ⟨l, rfl, h, hw, q⟩⟩
theorem sv_back {CW : Addr} {l : List Nat} {H : Hp} (h : l.length ≤ 1000) (hw : isW l = true) : SpV (sp_back CW) [.str (S l)] H (.str (S (short (inv l)))) := fun H1 e Q q E => ⟨_, rfl, Or.inl ⟨l, rfl, h, hw, q⟩⟩
theorem sv_times {CW : Addr} {l m : List Nat} {H : Hp} (h : l.length + m.length ≤ 1000) (hl : isW l = true) (hm : isW m = true) : SpV (sp_times CW) [.str (S l), .str (S m)] H (.str (S (short (l ++ m)))) := fun H1 e Q q E => ⟨_, _, rfl, Or.inl ⟨l, m, rfl, rfl, h, hl, hm, q⟩⟩
theorem sv_check {CW : Addr} {l : List Nat} {H : Hp} (h : l.length ≤ 1000) (hw : isW l = true) : SpV (sp_check CW) [.str (S l)] H .non := fun H1 e Q q E => ⟨_, rfl, Or.inl ⟨l, rfl, h, hw, q⟩⟩
theorem rev_take {l : List Nat} {i c : Nat} (h : l[i]? = some c) : stk [] (l.take (i + 1)) = push (stk [] (l.take i)) c := by
  rw [List.take_add_one, h, stk_app]; rfl
theorem q_check {CW : Addr} {E : XK} {te : TE} {tz : TS} {D : Ends} {σ : L2.St} {H : Hp} {l : List Nat} (h : Ev te σ H (.str (S l))) (hz : l.length ≤ 1000) (hw : isW l = true) (k : ∀ H1, Ex H H1 → tz D σ H1) : tSeq (tDrop (tCall (sp_check CW) [] E (tCons te tNil))) tz D σ H :=
  q_drop (ev_call (ea_cons h ea_nil) (sv_check hz hw)) k
/-! ### what the law reckons -/
def cell (ns : List Int) (k : Nat) : Int := ns.getD k 0
def sp_cell (K : PySem.W.Frag) : Sp := fun vs H Q _ => ∃ a ns k, vs = [.ref a, .int (k : Nat)] ∧ SqL K H a (ns.map V.int) ∧ RetV (.int (cell ns k)) H Q
theorem sv_cell {K : PySem.W.Frag} {a : Addr} {ns : List Int} {H : Hp} {k : Int} (h : SqL K H a (ns.map V.int)) (hk : 0 ≤ k) : SpV (sp_cell K) [.ref a, .int k] H (.int (cell ns k.toNat)) := fun H1 e Q q E => by
  obtain ⟨n, rfl⟩ := Int.eq_ofNat_of_zero_le hk
  exact ⟨a, ns, n, rfl, ex_l e h, q⟩
def mixed (c k : Int) : Int := ((c % 2147483647 + 7919 * k * k + 31 * k) * 48271 % 2147483647) * (69621 + 2 * k) % 2147483629
theorem mixed_nn (c k : Int) : 0 ≤ mixed c k := Int.emod_nonneg _ (by decide)
def sp_mixed : Sp := fun vs H Q _ => ∃ c k : Int, vs = [.int c, .int k] ∧ (0 ≤ k ∧ k ≤ 10000) ∧ RetV (.int (mixed c k)) H Q
theorem sv_mixed {c k : Int} {H : Hp} (h : 0 ≤ k ∧ k ≤ 10000) : SpV sp_mixed [.int c, .int k] H (.int (mixed c k)) := fun H1 e Q q E => ⟨c, k, rfl, h, q⟩
def stepOf (c : Int) : Int := [1, 3, 5, 7, 9, 11, 15, 25].getD (c / 26 % 8).toNat 0
def manyOf (c : Int) : Int := [2, 3, 2, 1, 4 + c / 1664 % 5, 3, 2, 8].getD (c / 208 % 8).toNat 0
def lettersOf (c : Int) : List Nat := (List.range (manyOf c).toNat).map fun (k : Nat) => 97 + ((c + (k : Int) * stepOf c) % 26).toNat
theorem manyOf_bd (c : Int) : 1 ≤ manyOf c ∧ manyOf c ≤ 8 := by
  unfold manyOf
  have h1 : 0 ≤ c / 208 % 8 := Int.emod_nonneg _ (by decide)
  have h2 : c / 208 % 8 < 8 := Int.emod_lt_of_pos _ (by decide)
  have h3 : 0 ≤ c / 1664 % 5 := Int.emod_nonneg _ (by decide)
  have h4 : c / 1664 % 5 < 5 := Int.emod_lt_of_pos _ (by decide)
  generalize c / 208 % 8 = m at *
  generalize c / 1664 % 5 = n at *
  have : m.toNat < 8 := by omega
  have : m.toNat = 0 ∨ m.toNat = 1 ∨ m.toNat = 2 ∨ m.toNat = 3 ∨ m.toNat = 4 ∨ m.toNat = 5 ∨ m.toNat = 6 ∨ m.toNat = 7 := by omega
  rcases this with e | e | e | e | e | e | e | e <;> rw [e] <;> simp <;> omega
theorem stepOf_bd (c : Int) : 1 ≤ stepOf c ∧ stepOf c ≤ 25 := by
  unfold stepOf
  have h1 : 0 ≤ c / 26 % 8 := Int.emod_nonneg _ (by decide)
  have h2 : c / 26 % 8 < 8 := Int.emod_lt_of_pos _ (by decide)
  generalize c / 26 % 8 = m at *
  have : m.toNat = 0 ∨ m.toNat = 1 ∨ m.toNat = 2 ∨ m.toNat = 3 ∨ m.toNat = 4 ∨ m.toNat = 5 ∨ m.toNat = 6 ∨ m.toNat = 7 := by omega
  rcases this with e | e | e | e | e | e | e | e <;> rw [e] <;> simp
def Lts (ls : List Nat) : Prop := 1 ≤ ls.length ∧ ls.length ≤ 8 ∧ ∀ c ∈ ls, 97 ≤ c ∧ c ≤ 122
theorem lettersOf_ok (c : Int) : Lts (lettersOf c) := by
  unfold lettersOf
  have := manyOf_bd c
  refine ⟨by rw [List.length_map, List.length_range]; omega, by rw [List.length_map, List.length_range]; omega, fun x hx => ?_⟩
  obtain ⟨k, _, rfl⟩ := List.mem_map.mp hx
  have h1 : 0 ≤ (c + (k : Int) * stepOf c) % 26 := Int.emod_nonneg _ (by decide)
  have h2 : (c + (k : Int) * stepOf c) % 26 < 26 := Int.emod_lt_of_pos _ (by decide)
  omega
def sp_letters : Sp := fun vs H Q _ => ∃ c, vs = [.int c] ∧ RetL ((lettersOf c).map sgn) H Q
theorem sl_letters {c : Int} {H : Hp} : SpL sp_letters [.int c] H ((lettersOf c).map sgn) := fun H1 e Q q E => ⟨c, rfl, q⟩
def sp_bk : Sp := fun vs H Q _ => ∃ c, vs = [sgn c] ∧ isL c = true ∧ RetV (sgn (bk c)) H Q
theorem sv_bk {c : Nat} {H : Hp} (h : isL c = true) : SpV sp_bk [sgn c] H (sgn (bk c)) := fun H1 e Q q E => ⟨c, rfl, h, q⟩
def wordLet (c : Int) (ls : List Nat) (k : Nat) : Nat :=
  let n := mixed c k / 7
  let x := ls.getD (n % ls.length).toNat 0
  if n / 16 % 2 = 0 then x else x - 32
def wordOf (c : Int) (ls : List Nat) (n : Nat) : List Nat := (List.range n).map (wordLet c ls)
theorem wordLet_ok {ls : List Nat} (h : Lts ls) (c : Int) (k : Nat) : isL (wordLet c ls k) = true := by
  have h1 : 0 ≤ mixed c k / 7 % ls.length := Int.emod_nonneg _ (by have := h.1; omega)
  have h2 : mixed c k / 7 % ls.length < ls.length := Int.emod_lt_of_pos _ (by have := h.1; omega)
  have hi : (mixed c k / 7 % ls.length).toNat < ls.length := by omega
  have e : ls.getD (mixed c k / 7 % ls.length).toNat 0 = ls[(mixed c k / 7 % ls.length).toNat] := by rw [List.getD_eq_getElem?_getD, List.getElem?_eq_getElem hi]; rfl
  have b := h.2.2 _ (List.getElem_mem hi)
  unfold wordLet
  simp only [e]
  rw [isL_iff]
  split <;> omega
theorem wordOf_ok {ls : List Nat} (h : Lts ls) (c : Int) (n : Nat) : isW (wordOf c ls n) = true := by
  unfold wordOf isW
  rw [List.all_map, List.all_eq_true]
  intro k _
  exact wordLet_ok h c k
theorem wordOf_len (c : Int) (ls : List Nat) (n : Nat) : (wordOf c ls n).length = n := by unfold wordOf; simp
theorem wordOf_succ (c : Int) (ls : List Nat) (n : Nat) : wordOf c ls (n + 1) = wordOf c ls n ++ [wordLet c ls n] := by unfold wordOf; rw [List.range_succ, List.map_append]; rfl
def sp_word (K : PySem.W.Frag) : Sp := fun vs H Q _ => ∃ c a ls n, vs = [.int c, .ref a, .int n] ∧ SqL K H a (ls.map sgn) ∧ Lts ls ∧ (0 ≤ n ∧ n ≤ 100) ∧ RetV (.str (S (wordOf c ls n.toNat))) H Q
theorem sv_word {K : PySem.W.Frag} {c : Int} {a : Addr} {ls : List Nat} {n : Int} {H : Hp} (h : SqL K H a (ls.map sgn)) (hl : Lts ls) (hn : 0 ≤ n ∧ n ≤ 100) : SpV (sp_word K) [.int c, .ref a, .int n] H (.str (S (wordOf c ls n.toNat))) := fun H1 e Q q E => ⟨c, a, ls, n, rfl, ex_l e h, hl, hn, q⟩
def sp_turned : Sp := fun vs H Q _ => ∃ l, vs = [.str (S l)] ∧ l.length ≤ 1000 ∧ isW l = true ∧ RetV (.str (S (inv l))) H Q
theorem sv_turned {l : List Nat} {H : Hp} (h : l.length ≤ 1000) (hw : isW l = true) : SpV sp_turned [.str (S l)] H (.str (S (inv l))) := fun H1 e Q q E => ⟨l, rfl, h, hw, q⟩
def sp_is : Sp := fun vs H Q _ => ∃ a b, vs = [.str (S a), .str (S b)] ∧ RetV (.bl (decide (a = b))) H Q
theorem sv_is {a b : List Nat} {H : Hp} : SpV sp_is [.str (S a), .str (S b)] H (.bl (decide (a = b))) := fun H1 e Q q E => ⟨a, b, rfl, q⟩
theorem ix_pick {xs : List V} {i : Int} {v : V} (h : 0 ≤ i) (hv : xs[i.toNat]? = some v) : atI xs i = some v := by
  obtain ⟨n, rfl⟩ := Int.eq_ofNat_of_zero_le h
  exact atI_nat hv
theorem rng_item {n i : Nat} {x : V} (h : ((List.range n).map fun i => V.int (i : Nat))[i]? = some x) : i < n ∧ x = .int (i : Nat) := by
  rw [List.getElem?_map] at h
  by_cases hi : i < n
  · rw [List.getElem?_range hi] at h; exact ⟨hi, (Option.some.inj h).symm⟩
  · rw [List.getElem?_eq_none (by rw [List.length_range]; omega)] at h; cases h
theorem q_skip {t : TT} {tu tz : TS} {D : Ends} {σ : L2.St} {H : Hp} (h : EvT t σ H false) (k : ∀ H1, Ex H H1 → tz D σ H1) : tSeq (tIfS t tu tNext) tz D σ H := q_when h (fun z => by cases z) fun _ => k
theorem et_or0 {t u : TT} {σ : L2.St} {H : Hp} (h1 : EvT t σ H false) (h2 : EvT u σ H false) : EvT (tOr t u) σ H false := et_is (et_or h1 fun _ => h2) rfl
theorem isW_no {l m : List Nat} {c : Nat} (h : isL c = false) : isW (l ++ c :: m) = false := by
  unfold isW
  rw [List.all_append, List.all_cons, h, Bool.false_and, Bool.and_false]
theorem nw_txt {H : Hp} {z : Str} {l : List Nat} (e : z = S l) (hl : l.length ≤ 1000) (h : isW l = false) : NW H (.str z) := Or.inl ⟨l, by rw [e], hl, h⟩
end Gw

/-! ## R6 -/
namespace Gw
open PySem PySem.Spec PyProof.Rows L2 Evl

/-! ### webs as data -/
def tieD (t : Tie) : PyData := .tuple [.int (t.1 : Nat), .str (S [t.2.1]), .int (t.2.2 : Nat)]
def webD (T : List Tie) : List PyData := T.map tieD
theorem dp_tie {K : PySem.W.Frag} {H : Hp} {a : Addr} {t : Tie} (h : H a = some (.tup (tieV t))) : Dp K H (.ref a) (tieD t) := .tup (st_of h) (.cons (.int _) (.cons (.str _) (.cons (.int _) .nil)))
theorem dp_ties {K : PySem.W.Frag} {H : Hp} {xs : List V} {T : List Tie} (h : Ties H xs T) : DpAll K H xs (webD T) := by
  induction h with
  | nil => exact .nil
  | cons a _ ih =>
    obtain ⟨p, rfl, hp⟩ := a
    exact .cons (dp_tie hp) ih
theorem dp_web {K : PySem.W.Frag} {H : Hp} {p : Addr} {T : List Tie} (h : WebAt K H p T) : Dp K H (.ref p) (.list (webD T)) := by
  obtain ⟨xs, a, b⟩ := h
  exact .lst a (dp_ties b)
def Low (T : List Tie) : Prop := ∀ t ∈ T, 97 ≤ t.2.1 ∧ t.2.1 ≤ 122
theorem lay_tie {t : Tie} (h : 97 ≤ t.2.1 ∧ t.2.1 ≤ 122) : (tieD t).canLay0 = true := by
  have tab : ∀ c, c < 123 → 97 ≤ c → PyData.strOk (S [c]) = true := by decide +kernel
  have := tab t.2.1 (by omega) h.1
  show (true && (PyData.strOk (S [t.2.1]) && (true && true))) = true
  rw [this]; rfl
theorem depth_tie (t : Tie) : (tieD t).depth = 1 := rfl
theorem lay_web : ∀ {T : List Tie}, Low T → PyData.canLayAll0 (webD T) = true ∧ PyData.depthAll (webD T) ≤ 1
  | [], _ => ⟨rfl, Nat.zero_le _⟩
  | t :: T, h => by
    obtain ⟨a, b⟩ := lay_web (T := T) fun u hu => h u (List.mem_cons_of_mem _ hu)
    refine ⟨?_, ?_⟩
    · show ((tieD t).canLay0 && PyData.canLayAll0 (webD T)) = true
      rw [lay_tie (h t List.mem_cons_self), a]; rfl
    · show max (tieD t).depth (PyData.depthAll (webD T)) ≤ 1
      rw [depth_tie]; omega
theorem shaped_web {T : List Tie} (h : Low T) : SeqAt.shaped (.list (webD T)) = true := by
  obtain ⟨a, b⟩ := lay_web h
  show (PyData.canLayAll0 (webD T) && decide (PyData.depthAll (webD T) + 1 ≤ 64)) = true
  rw [a, decide_eq_true (by omega)]; rfl
theorem eqv_tie (t u : Tie) : PyData.eqv (tieD t) (tieD u) = decide (t = u) := by
  obtain ⟨a, b, c⟩ := t
  obtain ⟨a', b', c'⟩ := u
  show ((((a : Nat) : Int) == ((a' : Nat) : Int)) && ((S [b] == S [b']) && ((((c : Nat) : Int) == ((c' : Nat) : Int)) && true))) = _
  by_cases h1 : a = a'
  · subst h1
    by_cases h2 : b = b'
    · subst h2
      by_cases h3 : c = c'
      · subst h3; simp
      · have : ¬ ((c : Int) = (c' : Int)) := by omega
        simp [h3, this]
    · have : ¬ S [b] = S [b'] := fun z => h2 (by have := S_inj z; simpa using this)
      simp [h2, this]
  · have : ¬ ((a : Int) = (a' : Int)) := by omega
    simp [h1, this]
theorem eqv_web : ∀ (T U : List Tie), PyData.eqv (.list (webD T)) (.list (webD U)) = decide (T = U)
  | [], [] => rfl
  | [], _ :: _ => rfl
  | _ :: _, [] => rfl
  | t :: T, u :: U => by
    have ih := eqv_web T U
    show (PyData.eqv (tieD t) (tieD u) && PyData.eqv (.list (webD T)) (.list (webD U))) = _
    rw [eqv_tie, ih]
    by_cases h1 : t = u
    · subst h1
      by_cases h2 : T = U
      · subst h2; simp
      · simp [h2]
    · simp [h1]
section
variable {K : PySem.W.Frag} {H H' : Hp} {p q : Addr} {T U : List Tie}
theorem rv_eqWeb (hp : WebAt K H p T) (hq : WebAt K H q U) (hT : Low T) (hU : Low U) : RV (rEqD K) (.ref p) (.ref q) H (.bl (decide (T = U))) := fun H1 e Q k =>
  ⟨.list (webD T), .list (webD U), dp_web (hp.mono e), dp_web (hq.mono e), shaped_web hT, shaped_web hU, by rw [eqv_web]; exact k H1 (Ex.refl _)⟩
theorem rv_neWeb (hp : WebAt K H p T) (hq : WebAt K H q U) (hT : Low T) (hU : Low U) : RV (rNeD K) (.ref p) (.ref q) H (.bl (!decide (T = U))) := fun H1 e Q k =>
  ⟨.list (webD T), .list (webD U), dp_web (hp.mono e), dp_web (hq.mono e), shaped_web hT, shaped_web hU, by rw [eqv_web]; exact k H1 (Ex.refl _)⟩
end

/-! ### sorted webs -/
def k3 (t : Tie) : K3 := ((t.1 : Nat), t.2.1, (t.2.2 : Nat))
theorem k3_inj {t u : Tie} (h : k3 t = k3 u) : t = u := by
  obtain ⟨a, b, c⟩ := t
  obtain ⟨a', b', c'⟩ := u
  unfold k3 at h
  simp only [Prod.mk.injEq] at h ⊢
  omega
def Srt (T : List Tie) : Prop := T.Pairwise fun t u => lt3 (k3 t) (k3 u) = true
theorem lt3_tot {p q : K3} (h : lt3 p q = false) (h' : lt3 q p = false) : p = q := by
  have a := lt3_no.mp h
  have b := lt3_no.mp h'
  obtain ⟨p1, p2, p3⟩ := p
  obtain ⟨q1, q2, q3⟩ := q
  simp only [Prod.mk.injEq]
  simp only at a b
  omega
theorem lt3_asym {p q : K3} (h : lt3 p q = true) (h' : lt3 q p = true) : False := by
  have a := lt3_iff.mp h
  have b := lt3_iff.mp h'
  omega
theorem lt3_irr {p : K3} : lt3 p p = false := lt3_no.mpr (by omega)
theorem srt_unique : ∀ {T U : List Tie}, Srt T → Srt U → (∀ t, t ∈ T ↔ t ∈ U) → T = U
  | [], [], _, _, _ => rfl
  | [], u :: U, _, _, h => absurd ((h u).mpr List.mem_cons_self) (by simp)
  | t :: T, [], _, _, h => absurd ((h t).mp List.mem_cons_self) (by simp)
  | t :: T, u :: U, a, b, h => by
    have a' := List.pairwise_cons.mp a
    have b' := List.pairwise_cons.mp b
    have e : t = u := by
      rcases List.mem_cons.mp ((h t).mp List.mem_cons_self) with e | m
      · exact e
      · rcases List.mem_cons.mp ((h u).mpr List.mem_cons_self) with e | m'
        · exact e.symm
        · exact (lt3_asym (b'.1 t m) (a'.1 u m')).elim
    subst e
    have nT : t ∉ T := fun m => by
      have := a'.1 t m
      rw [lt3_irr] at this; cases this
    have nU : t ∉ U := fun m => by
      have := b'.1 t m
      rw [lt3_irr] at this; cases this
    rw [srt_unique a'.2 b'.2 fun x => ?_]
    have := h x
    rw [List.mem_cons, List.mem_cons] at this
    constructor
    · intro m
      rcases this.mp (Or.inr m) with e | m'
      · subst e; exact absurd m nT
      · exact m'
    · intro m
      rcases this.mpr (Or.inr m) with e | m'
      · subst e; exact absurd m nU
      · exact m'
theorem Srt.nodup {T : List Tie} (h : Srt T) : T.Nodup := by
  refine List.Pairwise.imp (fun {a b} hab e => ?_) h
  subst e
  rw [lt3_irr] at hab; cases hab
theorem srt_of {T : List Tie} (n : T.Nodup) (h : T.Pairwise fun t u => lt3 (k3 u) (k3 t) = false) : Srt T := by
  unfold Srt
  have := List.Pairwise.and h n
  refine List.Pairwise.imp (fun {a b} hab => ?_) this
  cases e : lt3 (k3 a) (k3 b) with
  | true => rfl
  | false => exact absurd (k3_inj (lt3_tot e hab.1)) hab.2
/-- the tie that a value is -/
def tieAt (H : Hp) : V → Tie
  | .ref a => match H a with
    | some (.tup [.int x, .str z, .int y]) => (x.toNat, z.cps.toList.headD 0, y.toNat)
    | _ => (0, 0, 0)
  | _ => (0, 0, 0)
theorem tieAt_of {H : Hp} {a : Addr} {t : Tie} (h : H a = some (.tup (tieV t))) : tieAt H (.ref a) = t := by
  unfold tieAt
  simp only [h]
  rfl
theorem Ties.maps {H : Hp} {xs : List V} {T : List Tie} (h : Ties H xs T) : xs.map (tieAt H) = T := by
  induction h with
  | nil => rfl
  | cons a _ ih =>
    obtain ⟨p, rfl, hp⟩ := a
    rw [List.map_cons, ih, tieAt_of hp]
theorem Ties.each {H : Hp} {xs : List V} {T : List Tie} (h : Ties H xs T) : ∀ x ∈ xs, ∃ a, x = .ref a ∧ H a = some (.tup (tieV (tieAt H x))) := by
  induction h with
  | nil => intro x hx; cases hx
  | cons a _ ih =>
    obtain ⟨p, rfl, hp⟩ := a
    intro x hx
    rcases List.mem_cons.mp hx with rfl | hx
    · exact ⟨p, rfl, by rw [tieAt_of hp]; exact hp⟩
    · exact ih x hx
theorem ties_of {H : Hp} : ∀ {xs : List V}, (∀ x ∈ xs, ∃ a, x = .ref a ∧ H a = some (.tup (tieV (tieAt H x)))) → Ties H xs (xs.map (tieAt H))
  | [], _ => .nil
  | x :: xs, h => by
    obtain ⟨a, e, ha⟩ := h x List.mem_cons_self
    exact .cons ⟨a, e, ha⟩ (ties_of fun y hy => h y (List.mem_cons_of_mem _ hy))
section
variable {K : PySem.W.Frag} {σ : L2.St} {H H' : Hp} {p q : Addr} {T U : List Tie} {ta te : TE}
/-- sorted(web): a new list, risen, of the same ties -/
theorem wp_sorted (h : Ev ta σ H (.ref p)) (hw : WebAt K H p T) (nd : T.Nodup) (Q : VK) (q : ∀ r H2 ys U, H r = none → Ex H H2 → H2 r = some (.lst ys) → Ties H2 ys U → Srt U → (∀ t, t ∈ U ↔ t ∈ T) → U.length = T.length → Q (.ref r) H2) : tCB (rSort3 K) (tCons ta tNil) σ H Q := by
  refine h H (Ex.refl _) _ fun H1 e1 => ?_
  obtain ⟨xs, hs, ht⟩ := hw.mono e1
  refine ⟨p, xs, fun x => k3 (tieAt H1 x), rfl, hs, fun x hx => ?_, fun ys r so sb hr => ?_⟩
  · obtain ⟨a, e, ha⟩ := ht.each x hx
    exact ⟨a, e, ha⟩
  · have ey : ∀ y ∈ ys, ∃ a, y = .ref a ∧ H1 a = some (.tup (tieV (tieAt H1 y))) := fun y hy => ht.each y (sb.perm.mem_iff.mp hy)
    have e2 : Ex H1 (upd H1 r (.lst ys)) := Ex.new hr
    have pm : (ys.map (tieAt H1)).Perm T := by
      have := sb.perm.map (tieAt H1)
      rw [ht.maps] at this; exact this
    refine q r _ ys (ys.map (tieAt H1)) (fresh_back e1 hr) (e1.trans e2) upd_same ((ties_of ey).mono e2) ?_ (fun t => pm.mem_iff) pm.length_eq
    refine srt_of (pm.nodup_iff.mpr nd) ?_
    rw [List.pairwise_map]
    exact so
end
end Gw

/-! ## R7 -/
namespace Gw
open PySem PySem.Spec PyProof.Rows L2 Evl

theorem ex_upd {H H' : Hp} {d : Addr} {o : HO} (e : Ex H H') : Ex (upd H d o) (upd H' d o) := fun a u h => by
  by_cases k : a = d
  · subst k; rw [upd_same] at h ⊢; exact h
  · rw [upd_ne k] at h ⊢; exact e _ _ h
/-- behind the lock all is as before -/
theorem ex_unlock {H H' : Hp} {d : Addr} {u v : HO} (h : H d = some u) (e : Ex (upd H d v) H') : Ex H (upd H' d u) := fun a o ha => by
  by_cases k : a = d
  · subst k; rw [upd_same]; rw [h] at ha; exact ha
  · rw [upd_ne k]; exact e a o (by rw [upd_ne k]; exact ha)
section
variable {K : PySem.W.Frag} {σ : L2.St} {H H' : Hp} {ta tb tc te tx to td : TE} {t u : TT} {x y z v w : V}
/-- a comprehension over the keys of a locked dict that keeps none -/
theorem el_keysNone {kvs : List (List Key × V)} {d : Addr} {j : Nat} {vs : List Nat} (hd : H d = some (.dT kvs)) (hv : ∀ H1, Ev td σ H1 (.ref d)) (hw : ∀ x, wipe ((wipe σ vs).set j (some x)) vs = wipe σ vs)
    (ht : ∀ kv ∈ kvs, ∀ q H1 o, Ex (upd H d (.frz o (.dT kvs))) H1 → H1 q = some (.tup (kv.1.map kV)) → EvT t ((wipe σ vs).set j (some (.ref q))) H1 false) : EvL (tLockE (tLc (iKeys td) (gName j) t te vs)) σ H [] := by
  intro H0 e Q q
  have hd0 := e _ _ hd
  refine ⟨d, .dT kvs, hd0, True.intro, fun od => ?_⟩
  have eB : Ex (upd H d (.frz od (.dT kvs))) (upd H0 d (.frz od (.dT kvs))) := ex_upd e
  refine hv _ _ (Ex.refl _) _ fun H1 e1 => ⟨d, od, rfl, Or.inr ⟨kvs, e1 _ _ upd_same, ?_⟩⟩
  intro Dl hD
  refine ⟨fun i m H' => m = kvs.length - i ∧ i ≤ kvs.length ∧ Ex H1 H' ∧ H' Dl = some (.lst []), ⟨kvs.length, rfl, Nat.zero_le _, Ex.new hD, upd_same⟩, ?_⟩
  rintro i m H' ⟨rfl, hi, ex, hl⟩
  have hf : H' d = some (.frz od (.dT kvs)) := ex _ _ (e1 _ _ upd_same)
  by_cases hlt : i < kvs.length
  · refine .inr ⟨⟨hf, hlt⟩, fun H'' => Ex H1 H'' ∧ H'' Dl = some (.lst []), fun H'' ⟨a, b⟩ => ⟨kvs.length - (i + 1), by omega, rfl, hlt, a, b⟩, ?_⟩
    rintro x H'' ⟨rfl, k, v, q', hk, rfl, hq⟩
    refine ⟨hw _, ?_⟩
    refine ht _ (List.mem_of_getElem? hk) q' _ od (eB.trans (e1.trans ex)) hq H'' (Ex.refl _) _ fun H3 e3 => ?_
    show Ex H1 H3 ∧ H3 Dl = _
    exact ⟨ex.trans e3, e3 _ _ hl⟩
  · refine .inl ⟨⟨hf, by omega⟩, hf, q Dl _ ?_ (ex_unlock hd0 (e1.trans ex)) ?_⟩
    · have := fresh_back e1 hD
      by_cases k : Dl = d
      · subst k; rw [upd_same] at this; cases this
      · rw [upd_ne k] at this; exact this
    · rw [upd_ne (fun k => by subst k; rw [hl] at hf; cases hf)]; exact hl
theorem el_cat {xs ys : List V} (ha : EvL ta σ H xs) (hb : EvL tb σ H ys) (hz : xs.length + ys.length ≤ 100000) : EvL (tOp rCat ta tb) σ H (xs ++ ys) := fun H1 e Q q =>
  ha H1 e _ fun p H2 hp e2 h2 => hb H2 (e.trans e2) _ fun r H3 hr e3 h3 => ⟨p, r, xs, ys, rfl, rfl, e3 _ _ h2, h3, sz_of hz, fun s hs => q s _ (fresh_back (e2.trans e3) hs) ((e2.trans e3).trans (Ex.new hs)) upd_same⟩
theorem el_rg1 {n : Nat} (h : Ev ta σ H (.int (n : Nat))) (hn : n ≤ 100000) : EvL (tLstRg (tRg1 ta)) σ H ((List.range n).map fun i => V.int (i : Nat)) := fun H1 e Q q =>
  h H1 e _ fun H2 e2 => ⟨(n : Int), rfl, RgOk.of_le (by decide) (by omega) (by decide) (by omega), fun p hp => q p _ (fresh_back e2 hp) (e2.trans (Ex.new hp)) (by
    rw [upd_same]; unfold rgV
    congr 2
    rw [Int.sub_zero]
    have : ((n : Int)).toNat = n := by omega
    rw [this]
    refine List.map_congr_left fun i _ => ?_
    rw [Int.zero_add])⟩
theorem ev_cnt {ns : List Int} {p : Addr} {k : Int} (h : Ev to σ H (.ref p)) (hx : Ev te σ H (.int k)) (hs : SqL K H p (ns.map V.int)) : Ev (tBM K "list" (rCntI K) to (tCons te tNil)) σ H (.int (ns.count k : Nat)) := fun H1 e Q q =>
  h H1 e _ fun H2 e2 => ⟨Or.inl ⟨rfl, _, ex_l (e.trans e2) hs⟩, hx H2 (e.trans e2) _ fun H3 e3 => ⟨p, ns, k, rfl, rfl, ex_l ((e.trans e2).trans e3) hs, q H3 (e2.trans e3)⟩⟩
theorem rc_isi {x : V} {t : Value} {n : String} {b : Bool} (ht : ∀ H', Ex H H' → TyX K H' x t) (h : PySem.W.kitOne K t (.type n) = some b) : RC (rIsi K) [x, .ty n] H (.bl b) := fun H1 e Q q => ⟨x, .ty n, t, _, b, rfl, .ty n, ht H1 e, h, q H1 (Ex.refl H1)⟩
theorem tx_int {i : Int} : ∀ H', Ex H H' → TyX K H' (.int i) (.type "int") := fun _ _ => .base (.int i)
theorem tx_str {z : Str} : ∀ H', Ex H H' → TyX K H' (.str z) (.type "str") := fun _ _ => .base (.str z)
theorem tx_lst {a : Addr} {xs : List V} (h : H a = some (.lst xs)) : ∀ H', Ex H H' → TyX K H' (.ref a) (.type "list") := fun _ e => .base (.lst (e _ _ h))
theorem tx_tup {a : Addr} {xs : List V} (h : H a = some (.tup xs)) : ∀ H', Ex H H' → TyX K H' (.ref a) (.type "tuple") := fun _ e => .base (.tup (e _ _ h))
theorem kit_same (K : PySem.W.Frag) (n : String) : PySem.W.kitOne K (.type n) (.type n) = some true := if_pos (beq_self_eq_true _)
theorem kit_ib (K : PySem.W.Frag) : PySem.W.kitOne K (.type "int") (.type "bool") = some false := by
  unfold PySem.W.kitOne
  rw [if_neg (by decide +kernel)]
  unfold PySem.W.kitCls
  rfl
theorem rc_lenT {p : Addr} {xs : List V} (h : SqT K H p xs) : RC (fun xs H Q => ∃ p ys, xs = [V.ref p] ∧ (SqL K H p ys ∨ SqT K H p ys) ∧ Q (.int ys.length) H) [.ref p] H (.int xs.length) := fun H1 e _ q => ⟨p, xs, rfl, Or.inr (ex_t e h), q H1 (Ex.refl H1)⟩
end
/-- a test that may change what is known, both ways going on in the same -/
theorem q_whenK {D : Ends} {t : TT} {tu tz : TS} {σ : L2.St} {H : Hp} {b : Bool} {N : L2.St → Hp → Prop} (h : EvT t σ H b) (k : ∀ σ' H', N σ' H' → tz D σ' H') (h1 : b = true → ∀ H1, Ex H H1 → ∀ D' : Ends, (∀ σ' H', N σ' H' → D'.nx σ' H') → tu D' σ H1) (h2 : b = false → ∀ H1, Ex H H1 → N σ H1) : tSeq (tIfS t tu tNext) tz D σ H :=
  q_when h (fun e H1 e1 => h1 e H1 e1 _ k) fun e H1 e1 => k _ _ (h2 e H1 e1)
/-! ### rules inside a comprehension's block -/
section
variable {X : Cx} {s : Shared} {H : Hp} {sc : Scope} {en : Env} {fp : List Addr}
theorem call_len_seqB : CallR (X.blk s H sc en fp) (.builtin "len") (rLenS X.K) := call_len_seq
theorem call_isiB : CallR (X.blk s H sc en fp) (.builtin "isinstance") (rIsi X.K) := call_isi
theorem cr_allB (hc : X.calm = true) : CallR (X.blk s H sc en fp) (.builtin "all") (rAll X.K) := cr_all hc
theorem op_in_seqB : OpR (X.blk s H sc en fp) (compareOp .In) (rIn X.K false) := op_in_seq
theorem op_notIn_seqB : OpR (X.blk s H sc en fp) (compareOp .NotIn) (rIn X.K true) := op_notIn_seq
theorem op_eqDB (hu : X.A.units + 64 < cLine) : OpR (X.blk s H sc en fp) (compareOp .Eq) (rEqD X.K) := op_eqD hu
theorem op_neDB (hu : X.A.units + 64 < cLine) : OpR (X.blk s H sc en fp) (compareOp .NotEq) (rNeD X.K) := op_neD hu
theorem ix_tupB : IxR (X.blk s H sc en fp) (rIxT X.K) := ix_tup
theorem ix_listB : IxR (X.blk s H sc en fp) (rIxL X.K) := ix_list
theorem sl_listB : SlR (X.blk s H sc en fp) (rSlL X.K) := sl_list
theorem pi_listB {tg l : Expr} {tl : TE} (hl : PE (X.blk s H sc en fp) l tl) : PI (X.blk s H sc en fp) tg l (iList X.K tl) := pi_list hl
theorem pg_tupB {es : List Expr} {k : Nat} {t : TGs} {n : Nat} {pos : Pos} (hc : X.calm = true) (h : PGs (X.blk s H sc en fp) es t)
    (hn : (assignEach es en).length = n := by rfl) (hst : (assignEach es en).findIdx? (·.1) = none := by rfl) : PG (X.blk s H sc en fp) (.Tuple es k pos) (gTup X.K n t) := pg_tup hc h hn hst
theorem mt_lcountB : MtR (X.blk s H sc en fp) "list.count" (rCntI X.K) := mt_lcount
theorem pe_bmB {T name id : String} {r : V → List V → Hp → VK → Prop} {o e : Expr} {es : List Expr} {to : TE} {t : TA} {apos cpos : Pos} (pa : PlainAttrs T) (slot : Slot T name id) (hty : typeOf (.builtin id) = pure (.type "method_descriptor")) (hm : MtR (X.blk s H sc en fp) id r) (ho : PE (X.blk s H sc en fp) o to) (ha : PA (X.blk s H sc en fp) (e :: es) t)
    (hbase : attributeBase o name en (eval o en) = eval o en := by rfl)
    (hfew : ((backTo cpos (starEach (e :: es) en)).all (fun x => !x.1) && (backToKw cpos (keywordEach [] en)).all (fun x => x.1.isSome)
      && decide ((e :: es).length + ([] : List Keyword).length + (if ([] : List Keyword).isEmpty then 0 else 1) < 30)) = true := by rfl)
    (hline : (apos.endLine == cpos.line) = true := by rfl) (hs : starEach (e :: es) en = (false, eval e en) :: starEach es en := by rfl) (hplain : (backTo cpos (starEach es en)).any (·.1) = false := by rfl) :
    PE (X.blk s H sc en fp) (.Call (.Attribute o name apos) (e :: es) [] cpos) (tBM X.K T r to t) := pe_bm pa slot hty hm ho ha hbase hfew hline hs hplain
end
end Gw

/-! ## R8 -/
namespace Gw
open PySem PySem.Spec PyProof.Rows L2 Evl

/-! ### walks over a locked dict's pairs -/
section
variable {K : PySem.W.Frag} {σ : L2.St} {H : Hp} {td te : TE} {g : TG} {tu tz : TS} {D : Ends}
theorem s_items {kvs : List (Key × V)} {d : Addr} (hd : H d = some (.dK kvs)) (htd : ∀ H1, Ev td σ H1 (.ref d)) (Pv : Obj → Nat → L2.St → Hp → Prop) (h0 : ∀ o H1, Ex (upd H d (.frz o (.dK kvs))) H1 → Pv o 0 σ H1) (hl : ∀ o i σ' H', Pv o i σ' H' → H' d = some (.frz o (.dK kvs)))
    (hs : ∀ o i k v T σ' H' (D' : Ends), kvs[i]? = some (k, v) → Pv o i σ' H' → H' T = none → (∀ σ2 H2, Pv o (i + 1) σ2 H2 → D'.nx σ2 H2) → g (.ref T) σ' (upd H' T (.tup [kV k, v])) fun σ2 H2 => tu D' σ2 H2)
    (he : ∀ o σ' H', Pv o kvs.length σ' H' → D.nx σ' (upd H' d (.dK kvs))) : tLock (tFor (iItems td) g tu) D σ H := by
  refine ⟨d, .dK kvs, hd, True.intro, fun od => ?_⟩
  refine htd _ _ (Ex.refl _) _ fun H1 e1 => ⟨d, od, kvs, rfl, e1 _ _ upd_same, ?_⟩
  refine ⟨fun i m σ' H' => m = kvs.length - i ∧ i ≤ kvs.length ∧ Pv od i σ' H', ⟨kvs.length, rfl, Nat.zero_le _, h0 od H1 e1⟩, ?_⟩
  rintro i m σ' H' ⟨rfl, hi, p⟩
  have hf := hl od i σ' H' p
  by_cases hlt : i < kvs.length
  · refine .inr ⟨⟨hf, hlt⟩, Pv od (i + 1), fun σ2 H2 a => ⟨kvs.length - (i + 1), by omega, rfl, hlt, a⟩, ?_⟩
    rintro x H'' ⟨T, k, v, hk, rfl, hT, rfl⟩
    exact hs od i k v T σ' H' _ hk p hT fun _ _ h => h
  · have e : i = kvs.length := by omega
    subst e
    exact .inl ⟨⟨hf, Nat.le_refl _⟩, hf, he od σ' H' p⟩
theorem q_items {kvs : List (Key × V)} {d : Addr} (hd : H d = some (.dK kvs)) (htd : ∀ H1, Ev td σ H1 (.ref d)) (Pv : Obj → Nat → L2.St → Hp → Prop) (h0 : ∀ o H1, Ex (upd H d (.frz o (.dK kvs))) H1 → Pv o 0 σ H1) (hl : ∀ o i σ' H', Pv o i σ' H' → H' d = some (.frz o (.dK kvs)))
    (hs : ∀ o i k v T σ' H' (D' : Ends), kvs[i]? = some (k, v) → Pv o i σ' H' → H' T = none → (∀ σ2 H2, Pv o (i + 1) σ2 H2 → D'.nx σ2 H2) → g (.ref T) σ' (upd H' T (.tup [kV k, v])) fun σ2 H2 => tu D' σ2 H2)
    (he : ∀ o σ' H', Pv o kvs.length σ' H' → tz D σ' (upd H' d (.dK kvs))) : tSeq (tLock (tFor (iItems td) g tu)) tz D σ H := s_items (D := { D with nx := tz D }) hd htd Pv h0 hl hs he
/-- targets of two names -/
theorem g2 {i j : Nat} {x a b : V} {p : Addr} {Q : L2.St → Hp → Prop} (hx : x = .ref p) (h : SqT K H p [a, b]) (q : Q ((σ.set i (some a)).set j (some b)) H) :
    gTup K 2 (gCons (gName i) (gCons (gName j) gNil)) x σ H Q :=
  ⟨p, [a, b], hx, h, rfl, a, _, rfl, b, _, rfl, rfl, q⟩
/-- ties made of a locked dict's pairs -/
theorem wp_itemsTies {kvs : List (Key × V)} {d : Addr} {i j : Nat} {vs : List Nat} {T : List Tie} (hd : H d = some (.dK kvs)) (htd : ∀ H1, Ev td σ H1 (.ref d)) (hl : kvs.length = T.length) (hz : T.length ≤ 40000) (hw : ∀ x y, wipe (((wipe σ vs).set i (some x)).set j (some y)) vs = wipe σ vs)
    (he : ∀ (n : Nat) (k : Key) (v : V) (t : Tie), kvs[n]? = some (k, v) → T[n]? = some t → ∀ H1, EvU te (((wipe σ vs).set i (some (kV k))).set j (some v)) H1 (tieV t)) (Q : VK) (q : ∀ p H2 zs, H p = none → Ex H H2 → H2 p = some (.lst zs) → Ties H2 zs T → Q (.ref p) H2) :
    tLockE (tLc (iItems td) (gTup K 2 (gCons (gName i) (gCons (gName j) gNil))) tYes te vs) σ H Q := by
  refine ⟨d, .dK kvs, hd, True.intro, fun od => ?_⟩
  refine htd _ _ (Ex.refl _) _ fun H1 e1 => ⟨d, od, kvs, rfl, e1 _ _ upd_same, ?_⟩
  intro Dl hD
  refine ⟨fun n m H' => m = kvs.length - n ∧ n ≤ kvs.length ∧ Ex H1 H' ∧ ∃ zs, H' Dl = some (.lst zs) ∧ Ties H' zs (T.take n), ⟨kvs.length, rfl, Nat.zero_le _, Ex.new hD, [], upd_same, .nil⟩, ?_⟩
  rintro n m H' ⟨rfl, hi, ex, zs, hl1, ht⟩
  have hf : H' d = some (.frz od (.dK kvs)) := ex _ _ (e1 _ _ upd_same)
  by_cases hlt : n < kvs.length
  · refine .inr ⟨⟨hf, hlt⟩, fun H'' => Ex H1 H'' ∧ ∃ zs, H'' Dl = some (.lst zs) ∧ Ties H'' zs (T.take (n + 1)), fun H'' ⟨a, b⟩ => ⟨kvs.length - (n + 1), by omega, rfl, hlt, a, b⟩, ?_⟩
    rintro x H'' ⟨A, k, v, hk, rfl, hA, rfl⟩
    have eA : Ex H' (upd H' A (.tup [kV k, v])) := Ex.new hA
    obtain ⟨t, ht1⟩ : ∃ t, T[n]? = some t := ⟨T[n], List.getElem?_eq_getElem (by omega)⟩
    refine g2 rfl (st_of upd_same) ⟨hw _ _, ?_⟩
    show te _ _ _
    refine he n k v t hk ht1 _ _ (Ex.refl _) _ fun p H3 hp e3 h3 => ?_
    have hl3 := (eA.trans e3) _ _ hl1
    refine ⟨zs, hl3, sz_lt (by rw [ht.length, List.length_take]; omega), Ex.mut ((ex.trans eA).trans e3) hD, zs ++ [.ref p], upd_same, ?_⟩
    have tk : T.take (n + 1) = T.take n ++ [t] := by rw [List.take_add_one, ht1]; rfl
    rw [tk]
    refine Ties.app ((ht.mono (eA.trans e3)).upd hl3) (.cons ⟨p, rfl, ?_⟩ .nil)
    rw [upd_ne (ne_of h3 hl3 fun z => by cases z)]; exact h3
  · have hn : n = kvs.length := by omega
    have nD : Dl ≠ d := fun z => by subst z; rw [hl1] at hf; cases hf
    refine .inl ⟨⟨hf, by omega⟩, hf, q Dl _ zs ?_ (ex_unlock hd (e1.trans ex)) ?_ ?_⟩
    · have := fresh_back e1 hD
      rw [upd_ne nD] at this; exact this
    · rw [upd_ne nD]; exact hl1
    · rw [hn, List.take_of_length_le (by omega)] at ht
      exact Paired.mapP ht fun x t ⟨a, h1, h2⟩ => ⟨a, h1, by rw [upd_ne (fun z => by subst z; rw [h2] at hf; cases hf)]; exact h2⟩
end

/-! ### dicts of numbers, of letters, of dicts -/
def lk {β : Type} (l : List (Nat × β)) (r : Nat) : Option β := (l.find? fun p => decide (p.1 = r)).map (·.2)
theorem lk_nil {β : Type} {r : Nat} : lk ([] : List (Nat × β)) r = none := rfl
theorem lk_cons {β : Type} {a : Nat × β} {l : List (Nat × β)} {r : Nat} : lk (a :: l) r = if a.1 = r then some a.2 else lk l r := by
  unfold lk
  rw [List.find?_cons]
  by_cases h : a.1 = r
  · rw [decide_eq_true h, if_pos h]; rfl
  · rw [decide_eq_false h, if_neg h]
theorem lk_app {β : Type} {l m : List (Nat × β)} {r : Nat} : lk (l ++ m) r = (lk l r).or (lk m r) := by
  induction l with
  | nil => rfl
  | cons a l ih =>
    rw [List.cons_append, lk_cons, lk_cons, ih]
    split <;> rfl
theorem lk_mem {β : Type} {l : List (Nat × β)} {r : Nat} {b : β} (h : lk l r = some b) : (r, b) ∈ l := by
  induction l with
  | nil => cases h
  | cons a l ih =>
    rw [lk_cons] at h
    split at h
    · rename_i e
      cases h
      rw [← e]; exact List.mem_cons_self
    · exact List.mem_cons_of_mem _ (ih h)
theorem lk_none {β : Type} {l : List (Nat × β)} {r : Nat} (h : lk l r = none) : r ∉ l.map (·.1) := by
  induction l with
  | nil => simp
  | cons a l ih =>
    rw [lk_cons] at h
    split at h
    · cases h
    · rename_i e
      rw [List.map_cons, List.mem_cons]
      rintro (z | z)
      · exact e z.symm
      · exact ih h z
theorem lk_of {β : Type} {l : List (Nat × β)} (n : (l.map (·.1)).Nodup) {r : Nat} {b : β} (h : (r, b) ∈ l) : lk l r = some b := by
  induction l with
  | nil => cases h
  | cons a l ih =>
    rw [List.map_cons, List.nodup_cons] at n
    rw [lk_cons]
    rcases List.mem_cons.mp h with e | h
    · subst e; rw [if_pos rfl]
    · have : ¬ a.1 = r := fun z => n.1 (by rw [z]; exact List.mem_map.mpr ⟨_, h, rfl⟩)
      rw [if_neg this]; exact ih n.2 h
theorem lk_filter {β : Type} {l : List (Nat × β)} {q r : Nat} : lk (l.filter fun p => decide (p.1 ≠ q)) r = if r = q then none else lk l r := by
  induction l with
  | nil => split <;> rfl
  | cons a l ih =>
    rw [List.filter_cons]
    by_cases h : a.1 = q
    · rw [if_neg (by simp [h]), ih, lk_cons]
      by_cases e : r = q
      · rw [if_pos e, if_pos e]
      · rw [if_neg e, if_neg e, if_neg (fun z => e (z.symm.trans h))]
    · rw [if_pos (by simp [h]), lk_cons, lk_cons, ih]
      by_cases e : a.1 = r
      · rw [if_pos e, if_pos e, if_neg (fun z => h (e.trans z))]
      · rw [if_neg e, if_neg e]
abbrev Xl := List (Nat × Addr × List (Nat × Nat))
def jkv (J : List (Nat × Nat)) : List (Key × V) := J.map fun p => (.inl (p.1 : Nat), .int (p.2 : Nat))
def wkv (w : List (Nat × Nat)) : List (Key × V) := w.map fun q => (.inr (S [q.1]), .int (q.2 : Nat))
def xkv (X : Xl) : List (Key × V) := X.map fun p => (.inl (p.1 : Nat), .ref p.2.1)
theorem inl_inj {a b : Nat} : ((.inl (a : Nat) : Key) = .inl (b : Nat)) ↔ a = b := by
  constructor
  · intro h; cases h; rfl
  · intro h; rw [h]
theorem inr_inj {a b : Nat} : ((.inr (S [a]) : Key) = .inr (S [b])) ↔ a = b := by
  constructor
  · intro h
    injection h with h
    have := S_inj h
    simpa using this
  · intro h; rw [h]
theorem valV_gen {β : Type} {l : List (Nat × β)} {f : Nat × β → Key × V} {kf : Nat → Key} {r : Nat} (hf : ∀ p ∈ l, (f p).1 = kf p.1) (hk : ∀ a b, kf a = kf b ↔ a = b) : valV (l.map f) (kf r) = (l.find? fun p => decide (p.1 = r)).map fun p => (f p).2 := by
  induction l with
  | nil => rfl
  | cons a l ih =>
    have ih := ih fun p hp => hf p (List.mem_cons_of_mem _ hp)
    have ha := hf a List.mem_cons_self
    rw [List.map_cons, List.find?_cons]
    by_cases h : a.1 = r
    · rw [valV_pos (by rw [ha, h]), decide_eq_true h]; rfl
    · rw [valV_neg (fun z => h ((hk _ _).mp (ha.symm.trans z))), decide_eq_false h]; exact ih
theorem valV_j {J : List (Nat × Nat)} {r : Nat} : valV (jkv J) (.inl (r : Nat)) = (lk J r).map fun l => V.int (l : Nat) := by
  unfold jkv
  rw [valV_gen (kf := fun r : Nat => (.inl (r : Nat) : Key)) (fun _ _ => rfl) (fun _ _ => inl_inj)]
  unfold lk
  rw [Option.map_map]; rfl
theorem valV_w {w : List (Nat × Nat)} {c : Nat} : valV (wkv w) (.inr (S [c])) = (lk w c).map fun l => V.int (l : Nat) := by
  unfold wkv
  rw [valV_gen (kf := fun r : Nat => (.inr (S [r]) : Key)) (fun _ _ => rfl) (fun _ _ => inr_inj)]
  unfold lk
  rw [Option.map_map]; rfl
theorem valV_x {X : Xl} {r : Nat} : valV (xkv X) (.inl (r : Nat)) = (lk X r).map fun p => V.ref p.1 := by
  unfold xkv
  rw [valV_gen (kf := fun r : Nat => (.inl (r : Nat) : Key)) (fun _ _ => rfl) (fun _ _ => inl_inj)]
  unfold lk
  rw [Option.map_map]; rfl
theorem drop_x {X : Xl} {r : Nat} : dropK (xkv X) (.inl (r : Nat)) = xkv (X.filter fun p => decide (p.1 ≠ r)) := by
  unfold dropK xkv
  rw [List.filter_map]
  congr 1
  refine List.filter_congr fun p _ => ?_
  exact decide_eq_decide.mpr (not_congr inl_inj)
def xOf (X : Xl) : Xt := fun r c => (lk X r).bind fun p => lk p.2 c
def cnt (X : Xl) : Nat := (X.map fun p => p.2.2.length).sum
theorem jOf_snoc {J : List (Nat × Nat)} {h l : Nat} (n : lk J h = none) : lk (J ++ [(h, l)]) = jset (lk J) h l := by
  funext r
  rw [lk_app, lk_cons, lk_nil]
  unfold jset
  by_cases e : r = h
  · subst e; rw [n]; simp
  · simp only [if_neg (fun z => e (Eq.symm z) : ¬ h = r), if_neg e]
    cases lk J r <;> rfl
theorem xOf_at {X : Xl} {r c : Nat} : xOf X r c = (lk X r).bind fun p => lk p.2 c := rfl
theorem xOf_new {X : Xl} {r c e : Nat} {d : Addr} (n : lk X r = none) : xOf (X ++ [(r, d, [(c, e)])]) = xset (xOf X) r c e := by
  funext r' c'
  unfold xset
  rw [xOf_at, lk_app, lk_cons, lk_nil]
  by_cases h : r' = r
  · subst h
    have e1 : (none.or (if r' = r' then some (d, [(c, e)]) else none)).bind (fun p : Addr × List (Nat × Nat) => lk p.2 c') = lk [(c, e)] c' := by rw [if_pos rfl]; rfl
    rw [n]
    refine e1.trans ?_
    rw [lk_cons, lk_nil, xOf_at, n]
    by_cases hc : c' = c
    · rw [if_pos (show (c, e).1 = c' from hc.symm), if_pos ⟨rfl, hc⟩]
    · rw [if_neg (fun z => hc z.symm), if_neg (fun z => hc z.2)]; rfl
  · rw [if_neg (fun z : r' = r ∧ c' = c => h z.1), xOf_at]
    have e2 : (if (r, d, [(c, e)]).1 = r' then some ((r, d, [(c, e)]) : Nat × Addr × List (Nat × Nat)).2 else none) = none := if_neg fun z => h z.symm
    rw [e2]
    cases lk X r' <;> rfl
/-- one more letter at r -/
def xadd (X : Xl) (r c e : Nat) : Xl := X.map fun p => if p.1 = r then (p.1, p.2.1, p.2.2 ++ [(c, e)]) else p
theorem lk_xadd {X : Xl} {r c e r' : Nat} : lk (xadd X r c e) r' = (lk X r').map fun p => if r' = r then (p.1, p.2 ++ [(c, e)]) else p := by
  unfold xadd
  induction X with
  | nil => rfl
  | cons a X ih =>
    rw [List.map_cons, lk_cons, lk_cons, ih]
    by_cases h : a.1 = r
    · rw [if_pos h]
      by_cases k : a.1 = r'
      · rw [if_pos k, if_pos k]
        show some _ = some (if r' = r then (a.2.1, a.2.2 ++ [(c, e)]) else a.2)
        rw [if_pos (k.symm.trans h)]
      · rw [if_neg k, if_neg k]
    · rw [if_neg h]
      by_cases k : a.1 = r'
      · rw [if_pos k, if_pos k]
        show some _ = some (if r' = r then (a.2.1, a.2.2 ++ [(c, e)]) else a.2)
        rw [if_neg (fun z => h (k.trans z))]
      · rw [if_neg k, if_neg k]
theorem xOf_add {X : Xl} {r c e : Nat} {p : Addr × List (Nat × Nat)} (h : lk X r = some p) (n : lk p.2 c = none) : xOf (xadd X r c e) = xset (xOf X) r c e := by
  funext r' c'
  unfold xset
  rw [xOf_at, lk_xadd, xOf_at]
  by_cases k : r' = r
  · subst k
    rw [h]
    show lk (if r' = r' then (p.1, p.2 ++ [(c, e)]) else p).2 c' = if r' = r' ∧ c' = c then some e else lk p.2 c'
    rw [if_pos rfl]
    show lk (p.2 ++ [(c, e)]) c' = _
    rw [lk_app, lk_cons, lk_nil]
    by_cases q : c' = c
    · subst q; rw [n]; simp
    · rw [if_neg (show ¬ (c, e).1 = c' from fun z => q z.symm), if_neg (fun z => q z.2)]
      cases lk p.2 c' <;> rfl
  · rw [if_neg (fun z => k z.1)]
    cases lk X r' with
    | none => rfl
    | some x =>
      show lk (if r' = r then _ else x).2 c' = _
      rw [if_neg k]; rfl
theorem xOf_drop {X : Xl} {r : Nat} : xOf (X.filter fun p => decide (p.1 ≠ r)) = xdrop (xOf X) r := by
  funext r' c'
  unfold xdrop
  rw [xOf_at, lk_filter, xOf_at]
  split <;> rfl
end Gw

/-! ## R9 -/
namespace Gw
open PySem PySem.Spec PyProof.Rows L2 Evl

/-! ### what folding holds in the heap -/
structure XAt (H : Hp) (dj dx : Addr) (J : List (Nat × Nat)) (X : Xl) : Prop where
  hj : H dj = some (.dK (jkv J))
  hx : H dx = some (.dK (xkv X))
  hp : ∀ p ∈ X, H p.2.1 = some (.dK (wkv p.2.2)) ∧ p.2.1 ≠ dj ∧ p.2.1 ≠ dx
  ne : dj ≠ dx
  lets : ∀ p ∈ X, ∀ q ∈ p.2.2, isL q.1 = true
theorem XAt.mono {H H' : Hp} {dj dx : Addr} {J : List (Nat × Nat)} {X : Xl} (e : Ex H H') (h : XAt H dj dx J X) : XAt H' dj dx J X := ⟨e _ _ h.hj, e _ _ h.hx, fun p hp => ⟨e _ _ (h.hp p hp).1, (h.hp p hp).2⟩, h.ne, h.lets⟩
theorem nodup_inj {α β : Type} {f : α → β} : ∀ {l : List α}, (l.map f).Nodup → ∀ a ∈ l, ∀ b ∈ l, f a = f b → a = b
  | [], _, a, ha, _, _, _ => by cases ha
  | x :: l, n, a, ha, b, hb, e => by
    rw [List.map_cons, List.nodup_cons] at n
    rcases List.mem_cons.mp ha with rfl | ha
    · rcases List.mem_cons.mp hb with rfl | hb
      · rfl
      · exact absurd (List.mem_map.mpr ⟨b, hb, e.symm⟩) n.1
    · rcases List.mem_cons.mp hb with eb | hb
      · exact absurd (show f x ∈ l.map f from List.mem_map.mpr ⟨a, ha, by rw [e, eb]⟩) n.1
      · exact nodup_inj n.2 a ha b hb e
theorem xadd_none {X : Xl} {r c e : Nat} (h : r ∉ X.map (·.1)) : xadd X r c e = X := by
  unfold xadd
  conv => rhs; rw [← List.map_id X]
  refine List.map_congr_left fun p hp => ?_
  exact if_neg fun z => h (List.mem_map.mpr ⟨p, hp, z⟩)
theorem cnt_cons (p : Nat × Addr × List (Nat × Nat)) (X : Xl) : cnt (p :: X) = p.2.2.length + cnt X := by unfold cnt; rw [List.map_cons, List.sum_cons]
theorem cnt_app (X Y : Xl) : cnt (X ++ Y) = cnt X + cnt Y := by unfold cnt; rw [List.map_append, List.sum_append]
theorem cnt_xadd {r c e : Nat} : ∀ {X : Xl} {p : Addr × List (Nat × Nat)}, (X.map (·.1)).Nodup → lk X r = some p → cnt (xadd X r c e) = cnt X + 1
  | [], p, _, h => by cases h
  | a :: X, p, n, h => by
    rw [List.map_cons, List.nodup_cons] at n
    rw [lk_cons] at h
    have u : xadd (a :: X) r c e = (if a.1 = r then (a.1, a.2.1, a.2.2 ++ [(c, e)]) else a) :: xadd X r c e := rfl
    rw [u, cnt_cons, cnt_cons]
    by_cases k : a.1 = r
    · rw [if_pos k, xadd_none (by rw [← k]; exact n.1)]
      show (a.2.2 ++ [(c, e)]).length + _ = _
      rw [List.length_append]
      simp; omega
    · rw [if_neg k] at h
      rw [if_neg k, cnt_xadd n.2 h]; omega
theorem drop_none {X : Xl} {r : Nat} (h : lk X r = none) : X.filter (fun p => decide (p.1 ≠ r)) = X := by
  refine List.filter_eq_self.mpr fun p hp => decide_eq_true fun z => lk_none h (List.mem_map.mpr ⟨p, hp, z⟩)
theorem cnt_drop {r : Nat} : ∀ {X : Xl} {p : Addr × List (Nat × Nat)}, (X.map (·.1)).Nodup → lk X r = some p → cnt (X.filter fun p => decide (p.1 ≠ r)) + p.2.length = cnt X
  | [], p, _, h => by cases h
  | a :: X, p, n, h => by
    rw [List.map_cons, List.nodup_cons] at n
    rw [lk_cons] at h
    rw [List.filter_cons, cnt_cons]
    by_cases k : a.1 = r
    · rw [if_pos k] at h
      cases h
      have : lk X r = none := by
        cases q : lk X r with
        | none => rfl
        | some b => exact absurd (List.mem_map.mpr ⟨_, lk_mem q, rfl⟩) (by rw [k] at n; exact n.1)
      rw [if_neg (show ¬ decide (a.1 ≠ r) = true from fun z => of_decide_eq_true z k), drop_none this]; omega
    · rw [if_neg k] at h
      rw [if_pos (decide_eq_true k), cnt_cons]
      have := cnt_drop n.2 h
      omega
theorem len_cnt : ∀ {X : Xl}, (∀ p ∈ X, p.2.2 ≠ []) → X.length ≤ cnt X
  | [], _ => Nat.zero_le _
  | a :: X, h => by
    have := len_cnt (X := X) fun p hp => h p (List.mem_cons_of_mem _ hp)
    have h1 := List.length_pos_iff.mpr (h a List.mem_cons_self)
    rw [cnt_cons, List.length_cons]; omega
structure FH (H0 H : Hp) (dj dx dw : Addr) (J : List (Nat × Nat)) (X : Xl) (Wt : List Tie) : Prop where
  base : Ex H0 H
  fj : H0 dj = none
  fx : H0 dx = none
  fw : H0 dw = none
  xat : XAt H dj dx J X
  fp : ∀ p ∈ X, H0 p.2.1 = none
  ad : (X.map (·.2.1)).Nodup
  xk : (X.map (·.1)).Nodup
  wk : ∀ p ∈ X, (p.2.2.map (·.1)).Nodup ∧ p.2.2 ≠ []
  hw : ∃ ys, H dw = some (.lst ys) ∧ Ties H ys Wt
section
variable {H0 H H' : Hp} {dj dx dw : Addr} {J : List (Nat × Nat)} {X : Xl} {Wt : List Tie}
theorem FH.mono (F : FH H0 H dj dx dw J X Wt) (e : Ex H H') : FH H0 H' dj dx dw J X Wt := by
  obtain ⟨ys, a, b⟩ := F.hw
  exact ⟨F.base.trans e, F.fj, F.fx, F.fw, F.xat.mono e, F.fp, F.ad, F.xk, F.wk, ys, e _ _ a, b.mono e⟩
theorem ties_dk {H : Hp} {ys : List V} {T : List Tie} {d : Addr} {o : HO} (h : Ties H ys T) (hd : ∀ l, H d ≠ some (.tup l)) : Ties (L2.upd H d o) ys T := Paired.mapP h fun x t ⟨a, h1, h2⟩ => ⟨a, h1, by
  rw [upd_ne (fun z => by subst z; exact hd _ h2)]; exact h2⟩
/-- the list of what waits told anew -/
theorem FH.wait (F : FH H0 H dj dx dw J X Wt) {ys : List V} {Wt' : List Tie} (h : Ties (upd H dw (.lst ys)) ys Wt') : FH H0 (upd H dw (.lst ys)) dj dx dw J X Wt' := by
  obtain ⟨zs, a, b⟩ := F.hw
  have ne : ∀ {d : Addr} {k : List (Key × V)}, H d = some (.dK k) → (upd H dw (.lst ys)) d = some (.dK k) := fun {d k} hd => by
    rw [upd_ne (fun z => by subst z; rw [a] at hd; cases hd)]; exact hd
  exact ⟨Ex.mut F.base F.fw, F.fj, F.fx, F.fw, ⟨ne F.xat.hj, ne F.xat.hx, fun p hp => ⟨ne (F.xat.hp p hp).1, (F.xat.hp p hp).2⟩, F.xat.ne, F.xat.lets⟩, F.fp, F.ad, F.xk, F.wk, ys, upd_same, h⟩
/-- one joined -/
theorem FH.joined (F : FH H0 H dj dx dw J X Wt) (h l : Nat) : FH H0 (upd H dj (.dK (jkv (J ++ [(h, l)])))) dj dx dw (J ++ [(h, l)]) X Wt := by
  obtain ⟨zs, a, b⟩ := F.hw
  have hj := F.xat.hj
  refine ⟨Ex.mut F.base F.fj, F.fj, F.fx, F.fw, ⟨upd_same, ?_, fun p hp => ⟨?_, (F.xat.hp p hp).2⟩, F.xat.ne, F.xat.lets⟩, F.fp, F.ad, F.xk, F.wk, zs, ?_, ties_dk b (fun l z => by rw [hj] at z; cases z)⟩
  · rw [upd_ne F.xat.ne.symm]; exact F.xat.hx
  · rw [upd_ne (F.xat.hp p hp).2.1]; exact (F.xat.hp p hp).1
  · rw [upd_ne (fun z => by subst z; rw [a] at hj; cases hj)]; exact a
theorem xkv_add (X : Xl) (s c e : Nat) : xkv (xadd X s c e) = xkv X := by
  unfold xkv xadd
  rw [List.map_map]
  refine List.map_congr_left fun p _ => ?_
  show ((.inl ((if p.1 = s then (p.1, p.2.1, p.2.2 ++ [(c, e)]) else p).1 : Nat) : Key), V.ref (if p.1 = s then (p.1, p.2.1, p.2.2 ++ [(c, e)]) else p).2.1) = _
  split <;> rfl
theorem xadd_k (X : Xl) (s c e : Nat) : (xadd X s c e).map (·.1) = X.map (·.1) := by
  unfold xadd
  rw [List.map_map]
  refine List.map_congr_left fun p _ => ?_
  show (if p.1 = s then (p.1, p.2.1, p.2.2 ++ [(c, e)]) else p).1 = _
  split <;> rfl
theorem xadd_a (X : Xl) (s c e : Nat) : (xadd X s c e).map (·.2.1) = X.map (·.2.1) := by
  unfold xadd
  rw [List.map_map]
  refine List.map_congr_left fun p _ => ?_
  show (if p.1 = s then (p.1, p.2.1, p.2.2 ++ [(c, e)]) else p).2.1 = _
  split <;> rfl
theorem wkv_app (w : List (Nat × Nat)) (c e : Nat) : wkv (w ++ [(c, e)]) = wkv w ++ [((.inr (S [c]) : Key), V.int (e : Nat))] := by unfold wkv; rw [List.map_append]; rfl
theorem wk_snoc {w : List (Nat × Nat)} {c e : Nat} (n : (w.map (·.1)).Nodup) (h : lk w c = none) : ((w ++ [(c, e)]).map (·.1)).Nodup := by
  rw [List.map_append, List.nodup_append]
  refine ⟨n, by simp, fun a ha b hb => ?_⟩
  have : b = c := by simpa using hb
  subst this
  intro z
  subst z
  exact lk_none h ha
/-- a letter more in a room that has some -/
theorem FH.add (F : FH H0 H dj dx dw J X Wt) {s c e : Nat} {d : Addr} {w : List (Nat × Nat)} (h : lk X s = some (d, w)) (n : lk w c = none) (hc : isL c = true) : FH H0 (upd H d (.dK (wkv (w ++ [(c, e)])))) dj dx dw J (xadd X s c e) Wt := by
  obtain ⟨zs, a, b⟩ := F.hw
  have mX := lk_mem h
  obtain ⟨hd, nj, nx⟩ := F.xat.hp _ mX
  have each : ∀ p' ∈ xadd X s c e, (p' = (s, d, w ++ [(c, e)])) ∨ (p' ∈ X ∧ p'.2.1 ≠ d) := fun p' hp' => by
    unfold xadd at hp'
    obtain ⟨p, hp, rfl⟩ := List.mem_map.mp hp'
    by_cases k : p.1 = s
    · rw [if_pos k]
      have := lk_of F.xk (r := s) (b := p.2) (by rw [← k]; exact hp)
      rw [h] at this
      have e2 := Option.some.inj this
      rw [← e2, k]
      exact Or.inl rfl
    · rw [if_neg k]
      refine Or.inr ⟨hp, fun z => k ?_⟩
      have := nodup_inj F.ad p hp (s, d, w) mX z
      rw [this]
  refine ⟨Ex.mut F.base (F.fp _ mX), F.fj, F.fx, F.fw, ⟨?_, ?_, fun p' hp' => ?_, F.xat.ne, fun p' hp' => ?_⟩, fun p' hp' => ?_, by rw [xadd_a]; exact F.ad, by rw [xadd_k]; exact F.xk, fun p' hp' => ?_, zs, ?_, ties_dk b (fun l z => by rw [hd] at z; cases z)⟩
  · rw [upd_ne nj.symm]; exact F.xat.hj
  · rw [upd_ne nx.symm, xkv_add]; exact F.xat.hx
  · rcases each p' hp' with rfl | ⟨m, ne⟩
    · exact ⟨upd_same, nj, nx⟩
    · rw [upd_ne ne]; exact F.xat.hp _ m
  · rcases each p' hp' with rfl | ⟨m, ne⟩
    · intro q hq
      rcases List.mem_append.mp hq with hq | hq
      · exact F.xat.lets _ mX q hq
      · rw [List.mem_singleton] at hq; subst hq; exact hc
    · exact F.xat.lets _ m
  · rcases each p' hp' with rfl | ⟨m, ne⟩
    · exact (F.fp _ mX : H0 d = none)
    · exact F.fp _ m
  · rcases each p' hp' with rfl | ⟨m, ne⟩
    · exact ⟨wk_snoc (F.wk _ mX).1 n, by simp⟩
    · exact F.wk _ m
  · rw [upd_ne (fun z => by subst z; rw [a] at hd; cases hd)]; exact a
/-- a room more -/
theorem FH.new (F : FH H0 H dj dx dw J X Wt) {s c e : Nat} {p : Addr} (h : lk X s = none) (hp : H p = none) (hc : isL c = true) : FH H0 (upd (upd (upd H p (.dK [])) dx (.dK (xkv (X ++ [(s, p, [])])))) p (.dK (wkv [(c, e)]))) dj dx dw J (X ++ [(s, p, [(c, e)])]) Wt := by
  obtain ⟨zs, a, b⟩ := F.hw
  have fp := fresh_back F.base hp
  have px : p ≠ dx := fun z => by subst z; rw [F.xat.hx] at hp; cases hp
  have pj : p ≠ dj := fun z => by subst z; rw [F.xat.hj] at hp; cases hp
  have pw : p ≠ dw := fun z => by subst z; rw [a] at hp; cases hp
  have wx : dw ≠ dx := fun z => by have q := F.xat.hx; subst z; rw [a] at q; cases q
  have pp : ∀ q ∈ X, q.2.1 ≠ p := fun q hq z => by
    have := (F.xat.hp q hq).1
    rw [z, hp] at this; cases this
  have e1 : Ex H0 (upd (upd (upd H p (.dK [])) dx (.dK (xkv (X ++ [(s, p, [])])))) p (.dK (wkv [(c, e)]))) := Ex.mut (Ex.mut (F.base.trans (Ex.new hp)) F.fx) fp
  refine ⟨e1, F.fj, F.fx, F.fw, ⟨?_, ?_, fun q hq => ?_, F.xat.ne, fun q hq => ?_⟩, fun q hq => ?_, ?_, ?_, fun q hq => ?_, zs, ?_, ?_⟩
  · rw [upd_ne pj.symm, upd_ne F.xat.ne, upd_ne pj.symm]; exact F.xat.hj
  · rw [upd_ne px.symm, upd_same]; unfold xkv; rw [List.map_append, List.map_append]; rfl
  · rcases List.mem_append.mp hq with hq | hq
    · rw [upd_ne (pp q hq), upd_ne (F.xat.hp q hq).2.2, upd_ne (pp q hq)]; exact F.xat.hp q hq
    · rw [List.mem_singleton] at hq; subst hq; exact ⟨upd_same, pj, px⟩
  · rcases List.mem_append.mp hq with hq | hq
    · exact F.xat.lets q hq
    · rw [List.mem_singleton] at hq; subst hq
      intro y hy
      rw [List.mem_singleton] at hy; subst hy; exact hc
  · rcases List.mem_append.mp hq with hq | hq
    · exact F.fp q hq
    · rw [List.mem_singleton] at hq; subst hq; exact fp
  · rw [List.map_append, List.nodup_append]
    refine ⟨F.ad, by simp, fun x hx y hy z => ?_⟩
    have : y = p := by simpa using hy
    subst this
    subst z
    obtain ⟨q, hq, eq⟩ := List.mem_map.mp hx
    exact pp q hq eq
  · rw [List.map_append, List.nodup_append]
    refine ⟨F.xk, by simp, fun x hx y hy z => ?_⟩
    have : y = s := by simpa using hy
    subst this
    subst z
    exact lk_none h hx
  · rcases List.mem_append.mp hq with hq | hq
    · exact F.wk q hq
    · rw [List.mem_singleton] at hq; subst hq; exact ⟨by simp, by simp⟩
  · rw [upd_ne pw.symm, upd_ne wx, upd_ne pw.symm]; exact a
  · refine ties_dk (ties_dk (ties_dk b (fun l z => by rw [hp] at z; cases z)) (fun l z => by rw [upd_ne px.symm, F.xat.hx] at z; cases z)) (fun l z => by rw [upd_ne px, upd_same] at z; cases z)
/-- a room less -/
theorem FH.gone (F : FH H0 H dj dx dw J X Wt) (r : Nat) : FH H0 (upd H dx (.dK (xkv (X.filter fun p => decide (p.1 ≠ r))))) dj dx dw J (X.filter fun p => decide (p.1 ≠ r)) Wt := by
  obtain ⟨zs, a, b⟩ := F.hw
  have hx := F.xat.hx
  have sub : ∀ q ∈ X.filter (fun p => decide (p.1 ≠ r)), q ∈ X := fun q hq => (List.mem_filter.mp hq).1
  refine ⟨Ex.mut F.base F.fx, F.fj, F.fx, F.fw, ⟨?_, upd_same, fun q hq => ?_, F.xat.ne, fun q hq => F.xat.lets q (sub q hq)⟩, fun q hq => F.fp q (sub q hq), ?_, ?_, fun q hq => F.wk q (sub q hq), zs, ?_, ties_dk b (fun l z => by rw [hx] at z; cases z)⟩
  · rw [upd_ne F.xat.ne]; exact F.xat.hj
  · rw [upd_ne (F.xat.hp q (sub q hq)).2.2]; exact F.xat.hp q (sub q hq)
  · exact List.Nodup.sublist (List.Sublist.map _ List.filter_sublist) F.ad
  · exact List.Nodup.sublist (List.Sublist.map _ List.filter_sublist) F.xk
  · rw [upd_ne (fun z => by subst z; rw [a] at hx; cases hx)]; exact a
end
section
variable {H0 H : Hp} {dj dx dw : Addr} {J : List (Nat × Nat)} {X : Xl} {Wt : List Tie} {σ : L2.St}
theorem wp_setd {i2 i4 i5 i6 s c e : Nat} (F : FH H0 H dj dx dw J X Wt) (h2 : σ[i2]? = some (some (.ref dx))) (h4 : σ[i4]? = some (some (.int (s : Nat)))) (h5 : σ[i5]? = some (some (sgn c))) (h6 : σ[i6]? = some (some (.int (e : Nat)))) (hc : isL c = true) (hz : cnt X ≤ 50000) (Q : VK)
    (q : ∀ (k : Nat) X' H', FH H0 H' dj dx dw J X' Wt → ((xOf X s c = some k ∧ X' = X) ∨ (xOf X s c = none ∧ k = e ∧ xOf X' = xset (xOf X) s c e ∧ cnt X' = cnt X + 1)) → Q (.int (k : Nat)) H') :
    tDSetd (tDSetd (tVar i2) (tVar i4) tDNewK) (tVar i5) (tVar i6) σ H Q := by
  have xl : X.length ≤ cnt X := len_cnt fun p hp => (F.wk p hp).2
  have xkl : (xkv X).length = X.length := by unfold xkv; simp
  refine ⟨.ref dx, h2, dx, rfl, Or.inl ⟨_, Or.inl F.xat.hx⟩, .int (s : Nat), h4, fun p hp => ?_⟩
  have F1 := F.mono (Ex.new (p := p) (o := .dK []) hp)
  refine ⟨xkv X, .inl (s : Nat), F1.xat.hx, rfl, sz_lt (by omega), fun v hv => ?_, fun hv => ?_⟩
  · rw [valV_x] at hv
    cases hk : lk X s with
    | none => rw [hk] at hv; cases hv
    | some dw' =>
      obtain ⟨d, w⟩ := dw'
      rw [hk] at hv
      cases hv
      have mX := lk_mem hk
      obtain ⟨hd, nj, nx⟩ := F1.xat.hp _ mX
      have wl : w.length ≤ cnt X := by
        have := cnt_drop F.xk hk
        show w.length ≤ _
        have : cnt (X.filter fun p => decide (p.1 ≠ s)) + w.length = cnt X := this
        omega
      refine ⟨d, rfl, Or.inl ⟨_, Or.inl hd⟩, sgn c, h5, .int (e : Nat), h6, wkv w, .inr (S [c]), hd, rfl, sz_lt (by unfold wkv; rw [List.length_map]; omega), fun v hv => ?_, fun hv => ?_⟩
      · rw [valV_w] at hv
        cases hq : lk w c with
        | none => rw [hq] at hv; cases hv
        | some k =>
          rw [hq] at hv
          cases hv
          exact q k X _ F1 (Or.inl ⟨by rw [xOf_at, hk]; exact hq, rfl⟩)
      · rw [putK_new _ hv, ← wkv_app]
        rw [valV_w] at hv
        have hn : lk w c = none := by
          cases hq : lk w c with
          | none => rfl
          | some k => rw [hq] at hv; cases hv
        exact q e (xadd X s c e) _ (F1.add hk hn hc) (Or.inr ⟨by rw [xOf_at, hk]; exact hn, rfl, xOf_add hk hn, cnt_xadd F.xk hk⟩)
  · have hn : lk X s = none := by
      rw [valV_x] at hv
      cases hk : lk X s with
      | none => rfl
      | some _ => rw [hk] at hv; cases hv
    rw [putK_new _ hv]
    have ex : xkv X ++ [((.inl (s : Nat) : Key), V.ref p)] = xkv (X ++ [(s, p, [])]) := by unfold xkv; rw [List.map_append]; rfl
    rw [ex]
    have px : p ≠ dx := fun z => by subst z; rw [F.xat.hx] at hp; cases hp
    have hpd : (upd (upd H p (.dK [])) dx (.dK (xkv (X ++ [(s, p, [])])))) p = some (.dK []) := by rw [upd_ne px, upd_same]
    refine ⟨p, rfl, Or.inl ⟨_, Or.inl hpd⟩, sgn c, h5, .int (e : Nat), h6, [], .inr (S [c]), hpd, rfl, sz_lt (by decide), fun v hv => (by cases hv), fun _ => ?_⟩
    exact q e (X ++ [(s, p, [(c, e)])]) _ (F.new hn hp hc) (Or.inr ⟨by rw [xOf_at, hn]; rfl, rfl, xOf_new hn, by rw [cnt_app]; rfl⟩)
theorem wp_popd {i2 i9 r : Nat} (F : FH H0 H dj dx dw J X Wt) (h2 : σ[i2]? = some (some (.ref dx))) (h9 : σ[i9]? = some (some (.int (r : Nat)))) (Q : VK)
    (q : ∀ d w X' H', FH H0 H' dj dx dw J X' Wt → H' d = some (.dK (wkv w)) → (w.map (·.1)).Nodup → (∀ p ∈ w, isL p.1 = true) → xOf X' = xdrop (xOf X) r → (∀ c, xOf X r c = lk w c) → cnt X' + w.length = cnt X → Q (.ref d) H') :
    tDPop2 (tVar i2) (tVar i9) tDNewK σ H Q := by
  refine ⟨.ref dx, h2, dx, rfl, Or.inl ⟨_, Or.inl F.xat.hx⟩, .int (r : Nat), h9, fun p hp => ?_⟩
  have F1 := F.mono (Ex.new (p := p) (o := .dK []) hp)
  refine ⟨xkv X, .inl (r : Nat), F1.xat.hx, rfl, fun v hv => ?_, fun hv => ?_⟩
  · rw [valV_x] at hv
    cases hk : lk X r with
    | none => rw [hk] at hv; cases hv
    | some dw' =>
      obtain ⟨d, w⟩ := dw'
      rw [hk] at hv
      cases hv
      have mX := lk_mem hk
      obtain ⟨hd, nj, nx⟩ := F1.xat.hp _ mX
      rw [drop_x]
      exact q d w _ _ (F1.gone r) (by rw [upd_ne nx]; exact hd) (F.wk _ mX).1 (F.xat.lets _ mX) xOf_drop (fun c => by rw [xOf_at, hk]; rfl) (cnt_drop F.xk hk)
  · have hn : lk X r = none := by
      rw [valV_x] at hv
      cases hk : lk X r with
      | none => rfl
      | some _ => rw [hk] at hv; cases hv
    refine q p [] X _ F1 upd_same (by simp) (fun p hp => by cases hp) ?_ (fun c => by rw [xOf_at, hn]; rfl) rfl
    funext r' c'
    unfold xdrop
    by_cases k : r' = r
    · rw [if_pos k, k, xOf_at, hn]; rfl
    · rw [if_neg k]
end
end Gw

/-! ## R10 -/
namespace Gw
open PySem PySem.Spec PyProof.Rows L2 Evl

/-! ### an exception leaves a comprehension -/
theorem ns_at {h h' : Heap} {C : Addr} {m : Str → Option Value} (hn : h.Ns C m) (k : ∀ o, h.get? C = some o → (∀ vs, o.data ≠ .fields vs) → ∃ sl, h'.get? C = some { o with slots := sl }) : h'.Ns C m := by
  obtain ⟨oL, es, ep, hoL, hdL, r⟩ := hn
  obtain ⟨sl, e⟩ := k oL hoL fun vs q => by rw [hdL] at q; cases q
  exact ⟨_, es, ep, e, hdL, r⟩
section
variable {X : Cx} {W : WX} {E : XK} {pins : List (Addr × Obj)} {σ : L2.St} {H : Hp} {s s' : Shared} {C : Addr} {ce : Env} {m : Str → Option Value} {u : Value}
theorem call_noted (tk : Takes X W) (hs : X.stack = X.env :: X.outer) (hf : X.env.frame = some X.env.locals) (I : Inv X pins σ H s) (fc : FpOk X pins H C) (hn : s.heap.Ns C m) (hC : C ∉ frs X.stack) (hcl : ce.locals = C) (hcf : ce.frame = X.env.frame)
    (hW : ∀ cls d H', E cls d H' → W cls d σ H') (c : L2.CX X.prog X.w X.stack H s E u s') : notedBy (model X.prog X.w) X.A ce (CompFails (model X.prog X.w) X.A X.xe ce) u s' := by
  obtain ⟨a, B, H', cls, d, rfl, fl, hok, ub, na, os, ag, hE⟩ := c
  obtain ⟨f0, f1, f2, f3, f4, f5⟩ := fc
  obtain ⟨oC, eC⟩ : ∃ oC, s.heap.get? C = some oC := let ⟨o, _, _, e, _⟩ := hn; ⟨o, e⟩
  have eB : B.get? C = some oC := ub.keep C oC eC f0 hC
  have HC : H' C = none := ub.free C oC eC f0
  show wpAny _ X.A (noteFrame (.ref a) ce) _ _ s'
  rw [noteFrame_env _ hcf]
  have hfr : X.A.frames = some (X.env :: X.outer) := by rw [I.ok.frames, hs]
  have fl2 := fl
  rw [hs] at fl2
  refine HandSPX.looks_onZ Zc.steady hfr hf fl2 fun h1 hh up1 => ?_
  have n1 : h1.Ns C m := ns_at (h := s'.heap) (ns_at hn fun o e _ => ⟨o.slots, by rw [eC] at e; cases e; exact fl.1 C _ eB⟩) fun o e hd => up1 C o e hd
  refine ⟨m, by rw [hcl]; exact n1, fun h2 m2 hn2 hs2 => ?_⟩
  rw [hcl] at hn2 hs2
  generalize hB' : PySem.W.hideAll B [C] = B'
  have bB : ∀ b o, B'.get? b = some o → B.get? b = some o ∧ b ≠ C := fun b o e => by
    subst hB'
    refine ⟨PySem.W.of_hideAll _ e, fun z => ?_⟩
    subst z
    rw [PySem.W.hideAll_none _ List.mem_cons_self] at e; cases e
  have Bb : ∀ b o, B.get? b = some o → b ≠ C → B'.get? b = some o := fun b o e n => by
    subst hB'
    exact PySem.W.hideAll_get _ e (by simpa using n)
  have held2 : HandSPX.HeldZ B' (X.env :: X.outer) a (Zc cls d) X.env.locals h2 := by
    obtain ⟨k1, k2, k3, k4⟩ := hh
    refine ⟨fun b o e => ?_, ?_, ?_, ?_⟩
    · obtain ⟨e1, n⟩ := bB b o e
      rw [hs2.2 b n]; exact k1 b o e1
    · cases q : B'.get? a with
      | none => rfl
      | some o => rw [(bB a o q).1] at k2; cases k2
    · refine funFrames_none (Heap.FunFrames.sameBut hs2 hn2 k3) fun L hL => ?_
      have := (k3.mem hL).1
      cases q : B'.get? L with
      | none => rfl
      | some o => rw [(bB L o q).1] at this; cases this
    · obtain ⟨oe, vs, T, oT, ts, he, hz, hd, h1', hnT, hTe, hT, hdT, h3⟩ := k4
      refine ⟨oe, vs, T, oT, ts, ?_, hz, hd, h1', ?_, hTe, ?_, hdT, h3⟩
      · rw [hs2.2 a (fun z => by rw [z, eB] at k2; cases k2)]; exact he
      · cases q : B'.get? T with
        | none => rfl
        | some o => rw [(bB T o q).1] at hnT; cases hnT
      · rw [hs2.2 T (fun z => by rw [z, eB] at hnT; cases hnT)]; exact hT
  obtain ⟨oe, vs, T, oT, ts, he, hz, hd, h1', hnT, hTe, hT, hdT, h3⟩ := held2.2.2.2
  unfold PySem.passOn
  refine wpAny_bind (wpAny_field (s := { s' with heap := h2 }) he hd h1' ?_)
  rw [if_neg (show ¬ ((Value.ref T == Value.none) = true) from by simp)]
  rw [hcf, hf]
  refine wpAny_bind (HandSPX.setFlight_onZ (s := { s' with heap := h2 }) held2 fun h4 held4 up4 => wpAny_throw ?_)
  -- the ground with the block's names let go
  obtain ⟨G, g1, g2⟩ := restrict h4 fun b => (B'.get? b).isSome || decide (b ∈ frs X.stack)
  have st4 : B'.StaysIn h4 := held4.1
  have gB : ∀ b o, B'.get? b = some o → G.get? b = some o := fun b o e => by
    rw [g1 b (by simp [e])]
    exact st4 b o e
  have gF : ∀ b, b ∈ frs X.stack → G.get? b = h4.get? b := fun b hb => g1 b (by simp [hb])
  have og : ∀ b o, G.get? b = some o → h4.get? b = some o ∧ ((B'.get? b).isSome = true ∨ b ∈ frs X.stack) := fun b o e => by
    cases q : ((B'.get? b).isSome || decide (b ∈ frs X.stack)) with
    | false => rw [g2 b q] at e; cases e
    | true =>
      rw [g1 b q] at e
      exact ⟨e, by simpa [Bool.or_eq_true] using q⟩
  have fr4 : ∀ b o, s.heap.get? b = some o → b ∈ frs X.stack → ∃ sl, h4.get? b = some { o with slots := sl } := fun b o e hb => by
    obtain ⟨_, o', e', hd'⟩ := I.stack.mem hb
    rw [e] at e'; cases e'
    have nC : b ≠ C := fun z => hC (z ▸ hb)
    obtain ⟨sl1, q1⟩ := ub.slot b o e hb
    obtain ⟨sl2, q2⟩ := up1 b _ q1 hd'
    have q3 : h2.get? b = _ := (hs2.2 b nC).trans q2
    obtain ⟨sl4, q4⟩ := up4 b _ q3 hd'
    exact ⟨sl4, q4⟩
  have hokG : HOk X.prog X.w H' G := fun b o q => (hok b o q).stay (fun c u hc r => gB c u (Bb c u r fun z => by
    rcases hc with hc | hc
    · rw [← hc, z, HC] at q; cases q
    · rw [z, HC] at hc; cases hc)) (fun _ r => r) fun _ _ r => r
  refine tk _ _ ⟨a, B', { s with heap := G, gens := s'.gens, drawn := s'.drawn, toks := s'.toks }, pins, σ, H', cls, d, rfl, ?_, fun b o e hb => ?_, Heap.UpToSlots.of_keeps fun b o e => (og b o e).1, .inr (.inr ?_), na, os, ag, hW _ _ _ hE⟩
  · refine I.call (ch := [C]) ⟨fun b o e n hb hc => gB b o (Bb b o (ub.keep b o e n hb) (by simpa using hc)), fun b o e n hb _ => ?_, fun b o e n _ => ub.free b o e n, fun b o e hc => ?_, ub.tups, ub.frzs, ub.tbls⟩ hokG ag fun b hb => ?_
    · obtain ⟨sl, q⟩ := fr4 b o e hb
      exact ⟨sl, by rw [gF b hb]; exact q⟩
    · by_cases hb : b ∈ frs X.stack
      · obtain ⟨sl, q⟩ := fr4 b o e hb
        exact ⟨_, by rw [gF b hb]; exact q⟩
      · obtain ⟨o', q⟩ := ub.there b o e hb
        exact ⟨o', gB b o' (Bb b o' q (by simpa using hc))⟩
    · have : b = C := by simpa using hb
      subst this
      exact ⟨f3, f1, f4, f5⟩
  · obtain ⟨e', h⟩ := og b o e
    rcases h with h | h
    · obtain ⟨o', q⟩ := Option.isSome_iff_exists.mp h
      have z := st4 b o' q
      rw [e'] at z; cases z
      exact q
    · exact absurd h hb
  · rw [hs]; exact held4
end
/-- [elt for target in iter if ..], whose elt may raise what a call raises -/
theorem pe_lcX {X : Cx} {W : WX} {E : XK} {elt tg iter : Expr} {ifs : List Expr} {scope : Scope} {own : List (Str × Nat)} {pos : Pos} {wi : TI} {g : TG} {tt : TT} {te : TE} (hc : X.calm = true) (hN : X.N.Nodup) (hi : PI X tg iter wi) (ok : BlkOk X.N X.env.scope scope own)
    (hg : ∀ (s : Shared) (H : Hp) (C : Addr) (cl : List (Str × Addr)) (fp : List Addr), PG (X.blk s H scope (compEnvC scope cl C X.env) fp) tg g) (ht : ∀ (s : Shared) (H : Hp) (C : Addr) (cl : List (Str × Addr)) (fp : List Addr), PTs (X.blk s H scope (compEnvC scope cl C X.env) fp) ifs tt)
    (tk : Takes X W) (hW : ∀ cls d σ H, E cls d H → W cls d σ H) (hst : X.stack = X.env :: X.outer) (hfm : X.env.frame = some X.env.locals)
    (he : ∀ (s : Shared) (H : Hp) (C : Addr) (cl : List (Str × Addr)) (fp : List Addr) (xe' : Value → Shared → Prop), Passes (L2.CX X.prog X.w) ((X.blk s H scope (compEnvC scope cl C X.env) fp).wish xe') E → PE ((X.blk s H scope (compEnvC scope cl C X.env) fp).wish xe') elt te) (hs : ∀ x, foldedSetIterable iter X.env x = pure x := by intro _; rfl) :
    PE X (.ListComp elt [⟨tg, iter, ifs, 0⟩] scope pos) (tLc wi g tt te (own.map (·.2))) := by
  refine ⟨fun pins s σ H Q I h => ?_⟩
  rw [eval_ListComp]
  have hfree : ∀ y ∈ scope.names, y.2 = .free → ∃ c, X.env.cells.lookup y.1 = some c := fun y hy e => by
    rcases ok.free y hy e with k | k
    · exact I.ok.has _ (.inl k)
    · exact I.ok.has _ (.inr k)
  refine comprehension_at (use := none) rfl hs (closure_ok hfree) ok.kind (fun y hy e => by rw [ok.uniq y hy, e]) (thn (hi.run pins s σ H _ I h) fun xv s1 hx => thn hx fun itv s2 h2 => ?_)
  obtain ⟨it, fp, tn, J, H2, e, I2, T, st2, f2, q⟩ := h2
  subst e
  refine wpAny_newObj_type (newEnv_comp ?_) (by show 0 ≤ sizeLine; decide)
  obtain ⟨D, hD⟩ : ∃ D, D = s2.heap.objs.size := ⟨_, rfl⟩
  have hDn : H2 D = none := I2.hok.fresh (Nat.le_of_eq hD.symm)
  obtain ⟨V, ⟨m0, w0⟩, turn⟩ := q D hDn
  obtain ⟨s3, hs3⟩ : ∃ s3 : Shared, s3 = { s2 with heap := s2.heap.push { cls := .type "list", data := .seq ([] : List Value).toArray } } := ⟨_, rfl⟩
  have h3 : s3.heap = s2.heap.push { cls := .type "list", data := .seq ([] : List Value).toArray } := by rw [hs3]
  have I3 : Inv X pins σ (upd H2 D (.lst [])) s3 := by
    rw [hs3]
    refine I2.laid (t' := s2.toks) (fun b o e => Heap.get?_push_of_some _ e) (Nat.le_of_eq hD.symm) ⟨Nat.zero_le _, [], 0, .nil, ?_⟩
    rw [hD]
    exact Heap.get?_push_size _ rfl
  have sz : ∀ b ∈ fp, b < s2.heap.objs.size := fun b hb => by
    obtain ⟨o, e, _⟩ := T.obj _ _ st2 b hb
    exact Heap.lt_size e
  have f3 : ∀ b ∈ fp, FpOk X pins (upd H2 D (.lst [])) b ∧ b < s3.heap.objs.size := fun b hb => by
    have hlt := sz b hb
    refine ⟨⟨?_, (f2 b hb).2⟩, by rw [h3, Heap.size_push]; exact Nat.lt_succ_of_lt hlt⟩
    rw [upd_ne (by rw [hD]; exact Nat.ne_of_lt hlt)]
    exact (f2 b hb).1
  have st3 : tn 0 s3.heap := T.keep _ _ _ st2 fun b _ o e => by rw [h3]; exact Heap.get?_push_of_some _ e
  have I4 := block_start I3 ok hN f3
  obtain ⟨cl, hcl⟩ : ∃ cl, cl = cellsFrom (s3.heap.objs.size + 1) scope.names (cloFrom X.env.cells scope.names []) := ⟨_, rfl⟩
  have pg := hg s3 (upd H2 D (.lst [])) s3.heap.objs.size cl fp
  have pt := ht s3 (upd H2 D (.lst [])) s3.heap.objs.size cl fp
  have pe := he s3 (upd H2 D (.lst [])) s3.heap.objs.size cl fp
  have nfp : ∀ b ∈ fp, (upd H2 D (.lst [])) b = none := fun b hb => (f3 b hb).1.1
  rw [← hcl] at I4
  obtain ⟨ce, hce⟩ : ∃ ce, ce = compEnvC scope cl s3.heap.objs.size X.env := ⟨_, rfl⟩
  have cL : ce.locals = s3.heap.objs.size := by rw [hce]; rfl
  have cF : ce.frame = X.env.frame := by rw [hce]; rfl
  rw [← hce] at I4 pg pt pe
  have goal : ∀ s4 : Shared, s4 = { s3 with heap := pushCells (s3.heap.push { cls := .type "dict", data := .dict #[] }) scope.names } → codeAny (model X.prog X.w) X.A (.compStart (.ListComp elt [⟨tg, iter, ifs, 0⟩] scope pos) 0 (.ref it) (.ref D) ce) (compEnds (model X.prog X.w) X.A X.xe none (EP X pins σ Q) (.ref D) ce) s4 := by
    intro s4 hs4
    rw [← hs4] at I4
    obtain ⟨H3, hH3⟩ : ∃ H3, H3 = upd H2 D (.lst []) := ⟨_, rfl⟩
    rw [← hH3] at I3 I4 pg pt pe w0 nfp f3
    have st4 : tn 0 s4.heap := T.keep _ _ _ st3 fun b _ o e => by rw [hs4]; exact pushCells_keeps _ _ _ _ (Heap.get?_push_of_some _ e)
    have stat : ∀ {σ' : L2.St} {H' : Hp} {s' : Shared}, Inv (X.blk s3 H3 scope ce fp) [] σ' H' s' → (∀ b ∈ fp, H' b = none) → ∀ b ∈ fp, FpOk (X.blk s3 H3 scope ce fp) [] H' b := fun {σ' H' s'} I' hn b hb =>
      ⟨hn b hb, (I'.ok.exf b hb).1, I'.ok.exfs b hb, .inl hb, fun x c e => (I'.ok.exf b hb).2 x c e, fun p hp => absurd (show p ∈ ([] : List (Addr × Obj)) ++ [] from hp) (by simp)⟩
    -- back in the def's own context
    have home : ∀ {pn : List (Addr × Obj)} {σ' : L2.St} {H' : Hp} {s' : Shared}, Inv (X.blk s3 H3 scope ce fp) pn σ' H' s' → Inv X pins σ H' s' ∧ FpOk X pins H' s3.heap.objs.size ∧ ∃ m, s'.heap.Ns s3.heap.objs.size m := fun {pn σ' H' s'} I6 => by
      have nC : H' s3.heap.objs.size = none := by
        have z : H' ce.locals = none := I6.free
        rw [cL] at z
        exact z
      obtain ⟨m, hn, _⟩ := I6.loc
      have hn : s'.heap.Ns ce.locals m := hn
      rw [cL] at hn
      exact ⟨I3.call' (ch := fp) I6.os I6.base I6.hok I6.bare fun b hb => ⟨(f3 b hb).1.2.2.2.1, (f3 b hb).1.2.1, (f3 b hb).1.2.2.2.2.1, (f3 b hb).1.2.2.2.2.2⟩, I3.fpOk (Nat.le_refl _) nC, m, hn⟩
    have hC : s3.heap.objs.size ∉ frs X.stack := fun hm => by
      obtain ⟨_, o, e, _⟩ := I3.stack.mem hm
      exact absurd (Heap.lt_size e) (Nat.lt_irrefl _)
    have loop : codeAny (model X.prog X.w) X.A (.compLoop (.ListComp elt [⟨tg, iter, ifs, 0⟩] scope pos) 0 (.ref it) (.ref D) ce) (compEnds (model X.prog X.w) X.A X.xe none (EP X pins σ Q) (.ref D) ce) s4 := by
      refine compLoop_any (fun n s' => ∃ i H', Inv (X.blk s3 H3 scope ce fp) [] (wipe σ (own.map (·.2))) H' s' ∧ tn i s'.heap ∧ (∀ b ∈ fp, H' b = none) ∧ V i n H') ?_ m0 ⟨0, H3, I4, st4, nfp, w0⟩
      rintro n s5 ⟨i, H5, I5, st5, n5, w5⟩
      rcases turn i n H5 w5 with ⟨stop, qq⟩ | ⟨go, Nx, hNx, step⟩
      · refine thnF (T.done (X.blk s3 H3 scope ce fp) rfl rfl rfl hc i [] s5 _ H5 (fun _ _ => False) I5 (stat I5 n5) st5 stop) fun r s6 ⟨hr, I6⟩ => ?_
        subst hr
        obtain ⟨I7, ⟨f0, f1, f2, f3, f4, f5⟩, m, hn⟩ := home I6
        refine ⟨m, by rw [cL]; exact hn, fun h'' sb => ?_⟩
        rw [cL] at sb
        exact ⟨.ref D, H5, I7.turned (t' := s6.toks) (fun b o hb e => (sb.2 b hb).trans e) f0 f1 f3 f4 f5, rfl, qq⟩
      · refine thnF (T.item (X.blk s3 H3 scope ce fp) rfl rfl rfl hc i [] s5 _ H5 (fun _ _ => False) I5 (stat I5 n5) st5 go) fun r s6 ⟨u, hr, h6⟩ => ?_
        subst hr
        refine thnF h6 fun _ s7 ⟨x, H7, I7, r7, y7, st7, n7⟩ => ?_
        have I7' := I7.pinned (stat I7 n7) (T.obj _ _ st7)
        refine thnF (pg.run _ s7 _ H7 x u _ I7' r7 (step x H7 y7)) fun _ s8 ⟨σ8, H8, I8, hw8, q8⟩ => ?_
        refine thnF (pt.run _ s8 σ8 H8 _ I8 q8) fun b s9 ⟨H9, I9, q9⟩ => ?_
        have fin : ∀ {s' : Shared} {H' : Hp}, Inv (X.blk s3 H3 scope ce fp) ([] ++ pinsAt fp s7.heap) σ8 H' s' → Nx H' → ∃ m, m < n ∧ ∃ i H', Inv (X.blk s3 H3 scope ce fp) [] (wipe σ (own.map (·.2))) H' s' ∧ tn i s'.heap ∧ (∀ b ∈ fp, H' b = none) ∧ V i m H' := fun {s' H'} I' nx => by
          obtain ⟨m', hm, w'⟩ := hNx H' nx
          have pin' : ∀ b ∈ fp, ∀ o, s7.heap.get? b = some o → s'.heap.get? b = some o ∧ H' b = none := fun b hb o e =>
            let z := I'.pin (b, o) (List.mem_append_right _ (List.mem_append_right _ (mem_pinsAt hb e)))
            ⟨z.1, z.2.1⟩
          have hl : (wipe σ (own.map (·.2))).length = σ8.length := by rw [← hw8, wipe_length]
          refine ⟨m', hm, i + 1, H', (I'.unpinned (pins := [])).weak hl (fun j v e => ?_), T.keep _ _ _ st7 fun b hb o e => (pin' b hb o e).1, fun b hb => ?_, w'⟩
          · rw [← hw8] at e
            exact (wipe_some e).1
          · obtain ⟨o, e, _⟩ := T.obj _ _ st7 b hb
            exact (pin' b hb o e).2
        cases b with
        | false =>
          simp only [Bool.false_eq_true, if_false] at q9 ⊢
          exact fin I9 q9
        | true =>
          simp only [if_true] at q9 ⊢
          have pe' := pe (notedBy (model X.prog X.w) X.A ce (CompFails (model X.prog X.w) X.A X.xe ce)) fun pn σ' H' s' x s'' I' c => by
            obtain ⟨J7, fc, m, hn⟩ := home (I'.unwish)
            exact call_noted tk hst hfm J7 fc hn hC cL cF (fun cls d H' h => hW cls d σ H' h) c
          refine wpAny_mono (pe'.run _ s9 σ8 H9 _ (I9.wish _) q9) (fun z s10 ⟨yv, H10, I10, r10, acc, hD10, hz10, nx⟩ => ?_) fun _ _ z => z
          exact app_ok (X := X.blk s3 H3 scope ce fp) I10.unwish hD10 hz10 r10 fun s11 I11 => fin I11 nx
    exact codeAny_compStart_list loop (T.self X.A 0 _ _ _ st4 loop)
  have g2 := goal _ rfl
  rw [hce, hcl, hs3, hD] at g2
  exact g2
end Gw

/-! ## R11 -/
namespace Gw
open PySem PySem.Spec PyProof.Rows L2 Evl

/-! ### a dict comprehension with two fors, its keys tuples -/
theorem d_dictSetT {X : Cx} {pins : List (Addr × Obj)} {σ : L2.St} {H : Hp} {s : Shared} {E : Value → Shared → Prop} {D b : Addr} {kvs : List (List Key × V)} {k : List Key} {v : V} {r : Value} {Q : Unit → Shared → Prop} (hu : X.A.units + 1 < cLine) (I : Inv X pins σ H s) (hD : H D = some (.dT kvs)) (hb : H b = some (.tup (k.map kV))) (hz : kvs.length < sizeLine)
    (rv : RelV v r) (h : ∀ s', Inv X pins σ (upd H D (.dT (putK kvs k v))) s' → Q () s') : wpAny (model X.prog X.w) X.A (dictSet D (.ref b) r) Q E s := by
  obtain ⟨z, hd, xs, rel, dd⟩ := dt_of I.hok hD
  have hx : xs.length ≤ sizeLine := by rw [← Paired.length rel]; exact z
  have hl : (putK kvs k v).length ≤ sizeLine := by have := length_putK kvs k v; omega
  refine wpAny_dictSet_heap (hsz := hx) (Nat.lt_of_succ_lt hu) (key_of I.hok hb) dd fun h' dd' hs => h _ ?_
  obtain ⟨q, es, ep, hq, h2, h3, h4, _, h5⟩ := dd'
  refine d_write I (by rw [hD]; exact True.intro) hs ⟨q, hq⟩ ⟨hl, hd, _, (rel.put k hb rv).keeps fun c ys ec => ?_, q, es, ep, hq, h2, h3, h4, h5⟩
  rw [upd_ne (ne_of ec hD (fun z => nomatch z))]
  exact ec
theorem turn_dOut (kx vx t0 i0 t1 i1 : Expr) (ifs0 ifs1 : List Expr) (scope : Scope) (pos : Pos) (it : Value) (D : Addr) (env : Env) :
    compTurn (.DictComp kx vx [⟨t0, i0, ifs0, 0⟩, ⟨t1, i1, ifs1, 0⟩] scope pos) 0 it (.ref D) env = (do
      standAt i0.pos
      match ← pyNext it with
      | none => pure (.done .next)
      | some v =>
        letOwnedTupleGo t0 it v
        assign t0 env v
        let mut ok := true
        for c in ifs0 do
          if ok then ok ← isTrue c env (eval c env)
        if ok then
          let x ← eval i1 env
          standAt i1.pos
          let x ← foldedSetIterable i1 env x
          let _ ← runOwn (.compStart (.DictComp kx vx [⟨t0, i0, ifs0, 0⟩, ⟨t1, i1, ifs1, 0⟩] scope pos) 1 (← holding [x] (pyIter x)) (.ref D) env) env
        again (.compLoop (.DictComp kx vx [⟨t0, i0, ifs0, 0⟩, ⟨t1, i1, ifs1, 0⟩] scope pos) 0 it (.ref D) env)) := by rfl
theorem turn_dIn (kx vx t0 i0 t1 i1 : Expr) (ifs0 ifs1 : List Expr) (scope : Scope) (pos : Pos) (it : Value) (D : Addr) (env : Env) :
    compTurn (.DictComp kx vx [⟨t0, i0, ifs0, 0⟩, ⟨t1, i1, ifs1, 0⟩] scope pos) 1 it (.ref D) env = (do
      standAt i1.pos
      match ← pyNext it with
      | none => pure (.done .next)
      | some v =>
        letOwnedTupleGo t1 it v
        assign t1 env v
        let mut ok := true
        for c in ifs1 do
          if ok then ok ← isTrue c env (eval c env)
        if ok then
          (do let k ← eval kx env; let v ← holding [k] (eval vx env); standAt { kx.pos with endLine := vx.pos.endLine, endCol := vx.pos.endCol }; holding [k, v] (dictSet D k v))
        again (.compLoop (.DictComp kx vx [⟨t0, i0, ifs0, 0⟩, ⟨t1, i1, ifs1, 0⟩] scope pos) 1 it (.ref D) env)) := by rfl
section
variable {prog : Program} {w : World} {A : Around} {R : Result → Shared → Prop} {s : Shared} {kx vx t0 i0 t1 i1 : Expr} {ifs0 ifs1 : List Expr} {scope : Scope} {pos : Pos} {it : Value} {D : Addr} {env : Env}
/-- the first for's loop -/
theorem loop_dOut (hs : ∀ x, foldedSetIterable i1 env x = pure x) (I : Nat → Shared → Prop)
    (turn : ∀ n s, I n s → wpAny (model prog w) A (pyNext it) (fun r s₁ => match r with
      | none => R (.ok .next) s₁
      | some v => wpAny (model prog w) A (letOwnedTupleGo t0 it v) (fun _ s₁' => wpAny (model prog w) A (assign t0 env v) (fun _ s₂ =>
          wpAny (model prog w) A (forIn ifs0 true fun c r => if r = true then do let ok ← isTrue c env (eval c env); pure (ForInStep.yield ok) else pure (ForInStep.yield r)) (fun ok s₃ =>
            if ok = true then wpAny (model prog w) A (eval i1 env) (fun x s₄ => wpAny (model prog w) A (pyIter x) (fun it1 s₅ =>
              codeAny (model prog w) A (.compStart (.DictComp kx vx [⟨t0, i0, ifs0, 0⟩, ⟨t1, i1, ifs1, 0⟩] scope pos) 1 it1 (.ref D) env) (fun r s' => match r with
                | .ok _ => ∃ m, m < n ∧ I m s'
                | .error _ => False) s₅) (notedBy (model prog w) A env fun e s' => R (.error e) s') s₄) (notedBy (model prog w) A env fun e s' => R (.error e) s') s₃
            else ∃ m, m < n ∧ I m s₃) (notedBy (model prog w) A env fun e s' => R (.error e) s') s₂) (notedBy (model prog w) A env fun e s' => R (.error e) s') s₁') (notedBy (model prog w) A env fun e s' => R (.error e) s') s₁) (notedBy (model prog w) A env fun e s' => R (.error e) s') s)
    (n : Nat) (h : I n s) : codeAny (model prog w) A (.compLoop (.DictComp kx vx [⟨t0, i0, ifs0, 0⟩, ⟨t1, i1, ifs1, 0⟩] scope pos) 0 it (.ref D) env) R s := by
  refine codeAny_loop rfl I (fun n s hI => ?_) n h
  show wpAny _ A ((compTurn (.DictComp kx vx [⟨t0, i0, ifs0, 0⟩, ⟨t1, i1, ifs1, 0⟩] scope pos) 0 it (.ref D) env).onRaise (fun x => do noteFrame x env; theTreesLotGoes x)) _ _ s
  refine wpAny_noted ?_
  rw [turn_dOut]
  refine wpAny_bind (wpAny_standAt (wpAny_bind (wpAny_mono (turn n s hI) (fun r s₁ h₁ => ?_) fun _ _ h' => h')))
  cases r with
  | none => exact wpAny_pure h₁
  | some v =>
    refine wpAny_bind (wpAny_mono h₁ (fun _ s₁' h₁' => ?_) fun _ _ h' => h')
    refine wpAny_bind (wpAny_mono h₁' (fun _ s₂ h₂ => wpAny_bind (wpAny_mono h₂ (fun ok s₃ h₃ => ?_) fun _ _ h' => h')) fun _ _ h' => h')
    cases ok with
    | false => exact wpAny_pure ⟨rfl, h₃⟩
    | true =>
      refine wpAny_bind (wpAny_mono h₃ (fun x s₄ h₄ => ?_) fun _ _ h' => h')
      refine wpAny_bind (wpAny_standAt (wpAny_bind (wpAny_of_eq (hs x) (wpAny_bind (wpAny_holding (wpAny_mono h₄ (fun it1 s₅ h₅ => ?_) fun _ _ h' => h'))))))
      refine wpAny_bind (wpAny_runOwn ?_)
      rw [Around.mark_none]
      refine codeAny_mono h₅ fun r s' hr => ?_
      cases r with
      | ok f =>
        first
          | exact wpAny_pure ⟨rfl, hr⟩
          | exact wpAny_bind (wpAny_pure (wpAny_pure ⟨rfl, hr⟩))
      | error e => exact hr.elim
/-- the second for's -/
theorem loop_dIn (I : Nat → Shared → Prop)
    (turn : ∀ n s, I n s → wpAny (model prog w) A (pyNext it) (fun r s₁ => match r with
      | none => R (.ok .next) s₁
      | some v => wpAny (model prog w) A (letOwnedTupleGo t1 it v) (fun _ s₁' => wpAny (model prog w) A (assign t1 env v) (fun _ s₂ =>
          wpAny (model prog w) A (forIn ifs1 true fun c r => if r = true then do let ok ← isTrue c env (eval c env); pure (ForInStep.yield ok) else pure (ForInStep.yield r)) (fun ok s₃ =>
            if ok = true then wpAny (model prog w) A (eval kx env) (fun kv s₄ => wpAny (model prog w) A (eval vx env) (fun vv s₅ =>
              wpAny (model prog w) A (dictSet D kv vv) (fun _ s₆ => ∃ m, m < n ∧ I m s₆) (notedBy (model prog w) A env fun e s' => R (.error e) s') s₅) (notedBy (model prog w) A env fun e s' => R (.error e) s') s₄) (notedBy (model prog w) A env fun e s' => R (.error e) s') s₃
            else ∃ m, m < n ∧ I m s₃) (notedBy (model prog w) A env fun e s' => R (.error e) s') s₂) (notedBy (model prog w) A env fun e s' => R (.error e) s') s₁') (notedBy (model prog w) A env fun e s' => R (.error e) s') s₁) (notedBy (model prog w) A env fun e s' => R (.error e) s') s)
    (n : Nat) (h : I n s) : codeAny (model prog w) A (.compLoop (.DictComp kx vx [⟨t0, i0, ifs0, 0⟩, ⟨t1, i1, ifs1, 0⟩] scope pos) 1 it (.ref D) env) R s := by
  refine codeAny_loop rfl I (fun n s hI => ?_) n h
  show wpAny _ A ((compTurn (.DictComp kx vx [⟨t0, i0, ifs0, 0⟩, ⟨t1, i1, ifs1, 0⟩] scope pos) 1 it (.ref D) env).onRaise (fun x => do noteFrame x env; theTreesLotGoes x)) _ _ s
  refine wpAny_noted ?_
  rw [turn_dIn]
  refine wpAny_bind (wpAny_standAt (wpAny_bind (wpAny_mono (turn n s hI) (fun r s₁ h₁ => ?_) fun _ _ h' => h')))
  cases r with
  | none => exact wpAny_pure h₁
  | some v =>
    refine wpAny_bind (wpAny_mono h₁ (fun _ s₁' h₁' => ?_) fun _ _ h' => h')
    refine wpAny_bind (wpAny_mono h₁' (fun _ s₂ h₂ => wpAny_bind (wpAny_mono h₂ (fun ok s₃ h₃ => ?_) fun _ _ h' => h')) fun _ _ h' => h')
    cases ok with
    | false => exact wpAny_pure ⟨rfl, h₃⟩
    | true =>
      exact wpAny_bind (wpAny_bind (wpAny_mono h₃ (fun kv s₄ h₄ => wpAny_bind (wpAny_holding (wpAny_mono h₄ (fun vv s₅ h₅ => wpAny_bind (wpAny_standAt (wpAny_holding (wpAny_mono h₅ (fun _ s₆ h₆ => wpAny_pure ⟨rfl, h₆⟩) fun _ _ h' => h')))) fun _ _ h' => h'))) fun _ _ h' => h'))
theorem start_dIn (h0 : codeAny (model prog w) A (.compLoop (.DictComp kx vx [⟨t0, i0, ifs0, 0⟩, ⟨t1, i1, ifs1, 0⟩] scope pos) 1 it (.ref D) env) R s)
    (h : wpAny (model prog w) A (pyIter it) (fun it' s' => codeAny (model prog w) A (.compLoop (.DictComp kx vx [⟨t0, i0, ifs0, 0⟩, ⟨t1, i1, ifs1, 0⟩] scope pos) 1 it' (.ref D) env) R s')
      (notedBy (model prog w) A env fun x s' => R (.error x) s') s) :
    codeAny (model prog w) A (.compStart (.DictComp kx vx [⟨t0, i0, ifs0, 0⟩, ⟨t1, i1, ifs1, 0⟩] scope pos) 1 it (.ref D) env) R s := by
  refine codeAny_of_tree ?_
  show wpAny _ _ ((compStart (.DictComp kx vx [⟨t0, i0, ifs0, 0⟩, ⟨t1, i1, ifs1, 0⟩] scope pos) 1 it (.ref D) env).onRaise (fun x => do noteFrame x env; standAt theWindowsPlace)) _ _ s
  refine wpAny_notedAt ?_
  unfold compStart
  show wpAny _ _ (ask >>= _) _ _ s
  refine wpAny_bind (wpAny_askSetting (wpAny_ite ?_))
  split
  · first
      | exact wpAny_bind (wpAny_pure (wpAny_pure (And.intro rfl h0)))
      | exact wpAny_pure (And.intro rfl h0)
  · first
      | exact wpAny_bind (wpAny_rule (wpAny_bind (wpAny_standAt (wpAny_bind (wpAny_mono h (fun it' s' h' => wpAny_pure (And.intro rfl h')) fun _ _ x => x)))))
      | (refine wpAny_bind (wpAny_rule ?_); show wpAny _ _ (standAt i1.pos >>= _) _ _ s; exact wpAny_bind (wpAny_standAt (wpAny_bind (wpAny_mono h (fun it' s' h' => wpAny_pure (And.intro rfl h')) fun _ _ x => x))))
end
/-- {k: v for tg in iter for tg1 in iter1}, k tuples -/
def tDcT (wi : TI) (g : TG) (wi1 : TI) (g1 : TG) (tk tv : TE) (vs vs1 : List Nat) : TE := fun σ H Q => wi σ H fun J H1 => ∀ D, H1 D = none → ∃ W : Nat → Nat → Hp → Prop, (∃ m, W 0 m (upd H1 D (.dT []))) ∧ ∀ i m H, W i m H →
  (J.stop i H ∧ Q (.ref D) H) ∨ (J.go i H ∧ ∃ Nx : Hp → Prop, (∀ H', Nx H' → ∃ m', m' < m ∧ W (i + 1) m' H') ∧ ∀ x H', J.yld i H x H' → g x (wipe σ vs) H' fun σ2 H2 => wipe σ2 vs = wipe σ vs ∧
    wi1 σ2 H2 fun J1 H4 => ∃ W1 : Nat → Nat → Hp → Prop, (∃ m, W1 0 m H4) ∧ ∀ j k H, W1 j k H →
      (J1.stop j H ∧ Nx H) ∨ (J1.go j H ∧ ∃ Nx1 : Hp → Prop, (∀ H', Nx1 H' → ∃ k', k' < k ∧ W1 (j + 1) k' H') ∧ ∀ x H', J1.yld j H x H' → g1 x (wipe σ2 vs1) H' fun σ3 H5 => wipe σ3 vs1 = wipe σ2 vs1 ∧
        tk σ3 H5 fun y H6 => tv σ3 H6 fun z H7 => ∃ kvs kk b, y = .ref b ∧ H7 b = some (.tup (kk.map kV)) ∧ H7 D = some (.dT kvs) ∧ kvs.length < sizeLine ∧ Nx1 (upd H7 D (.dT (putK kvs kk z)))))
theorem pe_dcT {X : Cx} {kx vx tg iter tg1 iter1 : Expr} {scope : Scope} {own : List (Str × Nat)} {vs1 : List Nat} {pos : Pos} {wi wi1 : TI} {g g1 : TG} {tk tv : TE} (hu : X.A.units + 1 < cLine) (hc : X.calm = true) (hN : X.N.Nodup) (hi : PI X tg iter wi) (ok : BlkOk X.N X.env.scope scope own) (hv : ∀ i ∈ vs1, i ∈ own.map (·.2))
    (hg : ∀ (s : Shared) (H : Hp) (C : Addr) (cl : List (Str × Addr)) (fp : List Addr), PG (X.blk s H scope (compEnvC scope cl C X.env) fp) tg g)
    (hi1 : ∀ (s : Shared) (H : Hp) (C : Addr) (cl : List (Str × Addr)) (fp : List Addr), PI (X.blk s H scope (compEnvC scope cl C X.env) fp) tg1 iter1 wi1)
    (hg1 : ∀ (s : Shared) (H : Hp) (C : Addr) (cl : List (Str × Addr)) (fp : List Addr), PG (X.blk s H scope (compEnvC scope cl C X.env) fp) tg1 g1)
    (hk : ∀ (s : Shared) (H : Hp) (C : Addr) (cl : List (Str × Addr)) (fp : List Addr), PE (X.blk s H scope (compEnvC scope cl C X.env) fp) kx tk)
    (he : ∀ (s : Shared) (H : Hp) (C : Addr) (cl : List (Str × Addr)) (fp : List Addr), PE (X.blk s H scope (compEnvC scope cl C X.env) fp) vx tv) (hs : ∀ x, foldedSetIterable iter X.env x = pure x := by intro _; rfl) (hs1 : ∀ env x, foldedSetIterable iter1 env x = pure x := by intro _ _; rfl) :
    PE X (.DictComp kx vx [⟨tg, iter, [], 0⟩, ⟨tg1, iter1, [], 0⟩] scope pos) (tDcT wi g wi1 g1 tk tv (own.map (·.2)) vs1) := by
  refine ⟨fun pins s σ H Q I h => ?_⟩
  rw [arm_eval_DictComp]
  have hfree : ∀ y ∈ scope.names, y.2 = .free → ∃ c, X.env.cells.lookup y.1 = some c := fun y hy e => by
    rcases ok.free y hy e with k | k
    · exact I.ok.has _ (.inl k)
    · exact I.ok.has _ (.inr k)
  refine comprehension_at (use := none) rfl hs (closure_ok hfree) ok.kind (fun y hy e => by rw [ok.uniq y hy, e]) (thn (hi.run pins s σ H _ I h) fun xv s1 hx => thn hx fun itv s2 h2 => ?_)
  obtain ⟨it, fp, tn, J, H2, e, I2, T, st2, f2, q⟩ := h2
  subst e
  refine wpAny_newObj_type (newEnv_comp ?_)
  obtain ⟨D, hD⟩ : ∃ D, D = s2.heap.objs.size := ⟨_, rfl⟩
  have hDn : H2 D = none := I2.hok.fresh (Nat.le_of_eq hD.symm)
  obtain ⟨V, ⟨m0, w0⟩, turn⟩ := q D hDn
  obtain ⟨s3, hs3⟩ : ∃ s3 : Shared, s3 = { s2 with heap := s2.heap.push { cls := .type "dict", data := .dict #[] } } := ⟨_, rfl⟩
  have h3 : s3.heap = s2.heap.push { cls := .type "dict", data := .dict #[] } := by rw [hs3]
  have I3 : Inv X pins σ (upd H2 D (.dT [])) s3 := by
    rw [hs3]
    refine I2.laid (t' := s2.toks) (fun b o e => Heap.get?_push_of_some _ e) (Nat.le_of_eq hD.symm) ?_
    rw [hD]
    exact dt_empty s2.heap I2.big
  have sz : ∀ b ∈ fp, b < s2.heap.objs.size := fun b hb => by
    obtain ⟨o, e, _⟩ := T.obj _ _ st2 b hb
    exact Heap.lt_size e
  have f3 : ∀ b ∈ fp, FpOk X pins (upd H2 D (.dT [])) b ∧ b < s3.heap.objs.size := fun b hb => by
    have hlt := sz b hb
    refine ⟨⟨?_, (f2 b hb).2⟩, by rw [h3, Heap.size_push]; exact Nat.lt_succ_of_lt hlt⟩
    rw [upd_ne (by rw [hD]; exact Nat.ne_of_lt hlt)]
    exact (f2 b hb).1
  have st3 : tn 0 s3.heap := T.keep _ _ _ st2 fun b _ o e => by rw [h3]; exact Heap.get?_push_of_some _ e
  have I4 := block_start I3 ok hN f3
  obtain ⟨cl, hcl⟩ : ∃ cl, cl = cellsFrom (s3.heap.objs.size + 1) scope.names (cloFrom X.env.cells scope.names []) := ⟨_, rfl⟩
  have pg := hg s3 (upd H2 D (.dT [])) s3.heap.objs.size cl fp
  have pi1 := hi1 s3 (upd H2 D (.dT [])) s3.heap.objs.size cl fp
  have pg1 := hg1 s3 (upd H2 D (.dT [])) s3.heap.objs.size cl fp
  have pk := hk s3 (upd H2 D (.dT [])) s3.heap.objs.size cl fp
  have pe := he s3 (upd H2 D (.dT [])) s3.heap.objs.size cl fp
  have nfp : ∀ b ∈ fp, (upd H2 D (.dT [])) b = none := fun b hb => (f3 b hb).1.1
  rw [← hcl] at I4
  obtain ⟨ce, hce⟩ : ∃ ce, ce = compEnvC scope cl s3.heap.objs.size X.env := ⟨_, rfl⟩
  have cL : ce.locals = s3.heap.objs.size := by rw [hce]; rfl
  rw [← hce] at I4 pg pi1 pg1 pk pe
  have goal : ∀ s4 : Shared, s4 = { s3 with heap := pushCells (s3.heap.push { cls := .type "dict", data := .dict #[] }) scope.names } → codeAny (model X.prog X.w) X.A (.compStart (.DictComp kx vx [⟨tg, iter, [], 0⟩, ⟨tg1, iter1, [], 0⟩] scope pos) 0 (.ref it) (.ref D) ce) (compEnds (model X.prog X.w) X.A X.xe none (EP X pins σ Q) (.ref D) ce) s4 := by
    intro s4 hs4
    rw [← hs4] at I4
    obtain ⟨H3, hH3⟩ : ∃ H3, H3 = upd H2 D (.dT []) := ⟨_, rfl⟩
    rw [← hH3] at I3 I4 pg pi1 pg1 pk pe w0 nfp f3
    have st4 : tn 0 s4.heap := T.keep _ _ _ st3 fun b _ o e => by rw [hs4]; exact pushCells_keeps _ _ _ _ (Heap.get?_push_of_some _ e)
    have stat : ∀ {σ' : L2.St} {H' : Hp} {s' : Shared}, Inv (X.blk s3 H3 scope ce fp) [] σ' H' s' → (∀ b ∈ fp, H' b = none) → ∀ b ∈ fp, FpOk (X.blk s3 H3 scope ce fp) [] H' b := fun {σ' H' s'} I' hn b hb =>
      ⟨hn b hb, (I'.ok.exf b hb).1, I'.ok.exfs b hb, .inl hb, fun x c e => (I'.ok.exf b hb).2 x c e, fun p hp => absurd (show p ∈ ([] : List (Addr × Obj)) ++ [] from hp) (by simp)⟩
    have loop : codeAny (model X.prog X.w) X.A (.compLoop (.DictComp kx vx [⟨tg, iter, [], 0⟩, ⟨tg1, iter1, [], 0⟩] scope pos) 0 (.ref it) (.ref D) ce) (compEnds (model X.prog X.w) X.A X.xe none (EP X pins σ Q) (.ref D) ce) s4 := by
      refine loop_dOut (hs1 ce) (fun n s' => ∃ i H', Inv (X.blk s3 H3 scope ce fp) [] (wipe σ (own.map (·.2))) H' s' ∧ tn i s'.heap ∧ (∀ b ∈ fp, H' b = none) ∧ V i n H') ?_ m0 ⟨0, H3, I4, st4, nfp, w0⟩
      rintro n s5 ⟨i, H5, I5, st5, n5, w5⟩
      rcases turn i n H5 w5 with ⟨stop, qq⟩ | ⟨go, Nx, hNx, step⟩
      · refine thnF (T.done (X.blk s3 H3 scope ce fp) rfl rfl rfl hc i [] s5 _ H5 (fun _ _ => False) I5 (stat I5 n5) st5 stop) fun r s6 ⟨hr, I6⟩ => ?_
        subst hr
        have I7 : Inv X pins σ H5 s6 := I3.call' (ch := fp) I6.os I6.base I6.hok I6.bare fun b hb => ⟨(f3 b hb).1.2.2.2.1, (f3 b hb).1.2.1, (f3 b hb).1.2.2.2.2.1, (f3 b hb).1.2.2.2.2.2⟩
        have nC : H5 s3.heap.objs.size = none := by
          have z : H5 ce.locals = none := I6.free
          rw [cL] at z
          exact z
        obtain ⟨m, hn, _⟩ := I6.loc
        obtain ⟨f0, f1, f2, f3, f4, f5⟩ := I3.fpOk (Nat.le_refl _) nC
        refine ⟨m, hn, fun h'' sb => ?_⟩
        rw [cL] at sb
        exact ⟨.ref D, H5, I7.turned (t' := s6.toks) (fun b o hb e => (sb.2 b hb).trans e) f0 f1 f3 f4 f5, rfl, qq⟩
      · refine thnF (T.item (X.blk s3 H3 scope ce fp) rfl rfl rfl hc i [] s5 _ H5 (fun _ _ => False) I5 (stat I5 n5) st5 go) fun r s6 ⟨u, hr, h6⟩ => ?_
        subst hr
        refine thnF h6 fun _ s7 ⟨x, H7, I7, r7, y7, st7, n7⟩ => ?_
        have I7' := I7.pinned (stat I7 n7) (T.obj _ _ st7)
        refine thnF (pg.run _ s7 _ H7 x u _ I7' r7 (step x H7 y7)) fun _ s8 ⟨σ8, H8, I8, hw8, q8⟩ => ?_
        have fin : ∀ {σ9 : L2.St} {s' : Shared} {H' : Hp}, Inv (X.blk s3 H3 scope ce fp) ([] ++ pinsAt fp s7.heap) σ9 H' s' → (wipe σ (own.map (·.2))).length = σ9.length → (∀ (j : Nat) v, (wipe σ (own.map (·.2)))[j]? = some (some v) → σ9[j]? = some (some v)) → Nx H' →
            ∃ m, m < n ∧ ∃ i H', Inv (X.blk s3 H3 scope ce fp) [] (wipe σ (own.map (·.2))) H' s' ∧ tn i s'.heap ∧ (∀ b ∈ fp, H' b = none) ∧ V i m H' := fun {σ9 s' H'} I' hl hk nx => by
          obtain ⟨m', hm, w'⟩ := hNx H' nx
          have pin' : ∀ b ∈ fp, ∀ o, s7.heap.get? b = some o → s'.heap.get? b = some o ∧ H' b = none := fun b hb o e =>
            let z := I'.pin (b, o) (List.mem_append_right _ (List.mem_append_right _ (mem_pinsAt hb e)))
            ⟨z.1, z.2.1⟩
          refine ⟨m', hm, i + 1, H', (I'.unpinned (pins := [])).weak hl hk, T.keep _ _ _ st7 fun b hb o e => (pin' b hb o e).1, fun b hb => ?_, w'⟩
          obtain ⟨o, e, _⟩ := T.obj _ _ st7 b hb
          exact (pin' b hb o e).2
        have hl8 : (wipe σ (own.map (·.2))).length = σ8.length := by rw [← hw8, wipe_length]
        have hk9 : ∀ (j : Nat) v, (wipe σ (own.map (·.2)))[j]? = some (some v) → (wipe σ8 vs1)[j]? = some (some v) := fun j v e => by
          rw [← hw8] at e
          obtain ⟨e1, e2⟩ := wipe_some e
          rw [wipe_out fun z => e2 (hv j z)]
          exact e1
        refine wpAny_tests_nil ?_
        rw [if_pos rfl]
        refine thnF (pi1.run _ s8 σ8 H8 _ I8 q8) fun xv s10 hx => thnF hx fun itv s11 h11 => ?_
        obtain ⟨it1, fp1, tn1, J1, H11, e1, I11, T1, st11, f11, W1, ⟨m1, w1⟩, turn1⟩ := h11
        subst e1
        have stat1 : ∀ {H' : Hp}, (∀ b ∈ fp1, H' b = none) → ∀ b ∈ fp1, FpOk (X.blk s3 H3 scope ce fp) ([] ++ pinsAt fp s7.heap) H' b := fun hn b hb => ⟨hn b hb, (f11 b hb).2⟩
        have loop1 : codeAny (model X.prog X.w) X.A (.compLoop (.DictComp kx vx [⟨tg, iter, [], 0⟩, ⟨tg1, iter1, [], 0⟩] scope pos) 1 (.ref it1) (.ref D) ce)
            (fun r s' => match r with
              | .ok _ => ∃ m, m < n ∧ ∃ i H', Inv (X.blk s3 H3 scope ce fp) [] (wipe σ (own.map (·.2))) H' s' ∧ tn i s'.heap ∧ (∀ b ∈ fp, H' b = none) ∧ V i m H'
              | .error _ => False) s11 := by
          refine loop_dIn (fun k s' => ∃ j H', Inv (X.blk s3 H3 scope ce fp) ([] ++ pinsAt fp s7.heap) (wipe σ8 vs1) H' s' ∧ tn1 j s'.heap ∧ (∀ b ∈ fp1, H' b = none) ∧ W1 j k H') ?_ m1 ⟨0, H11, I11.weak (wipe_length _ _) (fun j v e => (wipe_some e).1), st11, fun b hb => (f11 b hb).1, w1⟩
          rintro k s12 ⟨j, H12, I12, st12, n12, w12⟩
          rcases turn1 j k H12 w12 with ⟨stop1, nx1⟩ | ⟨go1, Nx1, hNx1, step1⟩
          · refine thnF (T1.done (X.blk s3 H3 scope ce fp) rfl rfl rfl hc j _ s12 (wipe σ8 vs1) H12 (fun _ _ => False) I12 (stat1 n12) st12 stop1) fun r s13 ⟨hr, I13⟩ => ?_
            subst hr
            exact fin I13 (hl8.trans (wipe_length σ8 vs1).symm) hk9 nx1
          · refine thnF (T1.item (X.blk s3 H3 scope ce fp) rfl rfl rfl hc j _ s12 (wipe σ8 vs1) H12 (fun _ _ => False) I12 (stat1 n12) st12 go1) fun r s13 ⟨u1, hr, h13⟩ => ?_
            subst hr
            refine thnF h13 fun _ s14 ⟨x1, H14, I14, r14, y14, st14, n14⟩ => ?_
            have I14' := I14.pinned (stat1 n14) (T1.obj _ _ st14)
            refine thnF (pg1.run _ s14 (wipe σ8 vs1) H14 x1 u1 _ I14' r14 (step1 x1 H14 y14)) fun _ s15 ⟨σ15, H15, I15, hw15, q15⟩ => ?_
            have fin1 : ∀ {s' : Shared} {H' : Hp}, Inv (X.blk s3 H3 scope ce fp) (([] ++ pinsAt fp s7.heap) ++ pinsAt fp1 s14.heap) σ15 H' s' → Nx1 H' → ∃ m, m < k ∧ ∃ j H', Inv (X.blk s3 H3 scope ce fp) ([] ++ pinsAt fp s7.heap) (wipe σ8 vs1) H' s' ∧ tn1 j s'.heap ∧ (∀ b ∈ fp1, H' b = none) ∧ W1 j m H' := fun {s' H'} I' nx => by
              obtain ⟨m', hm, w'⟩ := hNx1 H' nx
              have pin' : ∀ b ∈ fp1, ∀ o, s14.heap.get? b = some o → s'.heap.get? b = some o ∧ H' b = none := fun b hb o e =>
                let z := I'.pin (b, o) (List.mem_append_right _ (List.mem_append_right _ (mem_pinsAt hb e)))
                ⟨z.1, z.2.1⟩
              refine ⟨m', hm, j + 1, H', I'.unpinned.weak (by rw [← hw15, wipe_length]) (fun j v e => by rw [← hw15] at e; exact (wipe_some e).1), T1.keep _ _ _ st14 fun b hb o e => (pin' b hb o e).1, fun b hb => ?_, w'⟩
              obtain ⟨o, e, _⟩ := T1.obj _ _ st14 b hb
              exact (pin' b hb o e).2
            refine wpAny_tests_nil ?_
            rw [if_pos rfl]
            refine thnF (pk.run _ s15 σ15 H15 _ I15 q15) fun z s16 ⟨yk, H16, I16, r16, q16⟩ => ?_
            refine thnF (pe.run _ s16 σ15 H16 _ I16 q16) fun z2 s17 ⟨yv, H17, I17, r17, kvs, kk, b, ek, hb17, hD17, hz17, nx⟩ => ?_
            subst ek
            obtain rfl : z = Value.ref b := r16
            exact d_dictSetT (X := X.blk s3 H3 scope ce fp) hu I17 hD17 hb17 hz17 r17 fun s18 I18 => fin1 I18 nx
        exact start_dIn loop1 (T1.self X.A 0 _ _ _ st11 loop1)
    exact codeAny_compStart_dict loop (T.self X.A 0 _ _ _ st4 loop)
  have g2 := goal _ rfl
  rw [hce, hcl, hs3, hD] at g2
  exact g2
end Gw

/-! ## R12 -/
namespace Gw
open PySem PySem.Spec PyProof.Rows L2 Evl PySem.Froz

/-! ### sets of texts that can be walked -/
theorem tail_ris {ep : Nat} {es1 : Array (Int × Value)} {t2 : SetTable} {b : Bool} (r : Ris t2.place.toList) : Ris (tailTx ep es1 t2 b).2.2.place.toList := by
  unfold tailTx
  split
  · exact relayAll_ris _ _ _
  · exact r
theorem tail_led {ep : Nat} {es1 : Array (Int × Value)} {t2 : SetTable} {b : Bool} : (tailTx ep es1 t2 b).2.2.led = t2.led := by
  unfold tailTx
  split
  · exact relayAll_led _ _ _
  · rfl
theorem addTx_ris {h : Int} {v : Value} {D : SD} (r : Ris D.2.2.place.toList) : Ris (addTx h v D).2.2.place.toList := by
  have hr1 := layNew_ris D.2.2 D.1 h v r
  exact tail_ris (by split <;> exact hr1)
theorem addTx_led {h : Int} {v : Value} {D : SD} : (addTx h v D).2.2.led = D.2.2.led := by
  have hl1 := layNew_led D.2.2 D.1 h v
  unfold addTx
  rw [tail_led]
  split <;> exact hl1
def SetS (P : Program) (w : World) (h : Heap) (a : Addr) (l : List Str) : Prop := ∃ D : SD, h.get? a = some (sObj "set" D) ∧ TxOk P w D l ∧ l.Nodup ∧ Ris D.2.2.place.toList ∧ (w.params.followText "set-order" = true ∨ D.2.2.led = true)
theorem SetS.at {P : Program} {w : World} {h h' : Heap} {a : Addr} {l : List Str} (R : SetS P w h a l) (k : ∀ o, h.get? a = some o → h'.get? a = some o) : SetS P w h' a l := by
  obtain ⟨D, ho, r⟩ := R
  exact ⟨D, k _ ho, r⟩
def SetSO (P : Program) (w : World) (a : Addr) (l : List Str) : HO := .ext fun h => SetS P w h a l
theorem setSO_new {P : Program} {w : World} {H : Hp} {h : Heap} {a : Addr} {l : List Str} (R : SetS P w h a l) : ObjOk P w H h a (SetSO P w a l) := by
  have ⟨D, ho, _⟩ := R
  exact ⟨R, ⟨_, ho⟩, fun h1 h2 p k => SetS.at p k⟩
theorem setSO_get {X : Cx} {pins : List (Addr × Obj)} {σ : L2.St} {H : Hp} {s : Shared} {a : Addr} {l : List Str} (I : Inv X pins σ H s) (ha : H a = some (SetSO X.prog X.w a l)) : SetS X.prog X.w s.heap a l := (I.hok a _ ha).1
theorem strs_all : ∀ {vs : List Value}, (∀ v ∈ vs, ∃ k u, v = Value.str k u) → StrsAre vs (vs.map strOf)
  | [], _ => .nil
  | v :: vs, h => by
    obtain ⟨k, u, rfl⟩ := h v List.mem_cons_self
    exact .cons k u (strs_all fun x hx => h x (List.mem_cons_of_mem _ hx))
theorem perm_full {α : Type} : ∀ {l m : List α}, l.Nodup → (∀ x ∈ l, x ∈ m) → m.length ≤ l.length → l.Perm m
  | [], m, _, _, h => by
    have : m = [] := List.eq_nil_of_length_eq_zero (Nat.le_zero.mp h)
    rw [this]
  | a :: l, m, n, s, h => by
    rw [List.nodup_cons] at n
    obtain ⟨u, v, rfl⟩ := List.append_of_mem (s a List.mem_cons_self)
    have ih := perm_full (l := l) (m := u ++ v) n.2 (fun x hx => by
      rcases List.mem_append.mp (s x (List.mem_cons_of_mem _ hx)) with k | k
      · exact List.mem_append.mpr (Or.inl k)
      · rcases List.mem_cons.mp k with e | k
        · exact absurd (e ▸ hx) n.1
        · exact List.mem_append.mpr (Or.inr k)) (by
      rw [List.length_append, List.length_cons, List.length_cons] at h
      rw [List.length_append]; omega)
    exact (ih.cons a).trans (List.perm_middle.symm)
/-- with one text more -/
def addS (l : List Str) (k : Str) : List Str := if k ∈ l then l else k :: l
section
variable {P : Program} {w : World} {A : Around} {E : Value → Shared → Prop} {s : Shared} {a : Addr} {l : List Str}
theorem setS_hashed {k : Str} {u : Tok} {Q : Bool → Shared → Prop} (R : SetS P w s.heap a l) (room : l.length + 1 < scanBound) (hQ : ∀ b h', Heap.SameBut a s.heap h' → SetS P w h' a (addS l k) → Q b { s with heap := h' }) :
    wpAny (model P w) A (setAddHashed a (.str k u) (hashStr w k)) Q E s := by
  obtain ⟨D, ho, F, nd, hr, hl⟩ := R
  by_cases hk : k ∈ l
  · have e : addS l k = l := if_pos hk
    rw [e] at hQ
    have hq := hQ false s.heap (Heap.SameBut.refl a s.heap) ⟨D, ho, F, nd, hr, hl⟩
    obtain ⟨es, ep, t⟩ := D
    have hd : (sObj "set" (es, ep, t)).data = .set es ep t := rfl
    have hel : ElemsOf (strKind P w) es.toList := F.el
    have hsz : es.size = l.length := F.sz
    have hb0 : es.size < scanBound := by omega
    have hkey : (strKind P w).is k (.str k u) = true := is_str k u
    obtain ⟨e0, he0, q0⟩ := (F.mem k).mp hk
    unfold setAddHashed setAddHashedIn
    refine wpAny_holding (wpAny_bind (wpAny_setState_of ho hd F.fit ?_))
    dsimp only
    rw [byScan_of rfl hb0 hel]
    simp only [↓reduceIte]
    unfold setAddByScan
    refine wpAny_bind ?_
    refine wpAny_bind (wpAny_rule ?_)
    refine wpAny_bind (wpAny_setScan_of (knd := strKind P w) (k := k) hkey ho hd F.fit hel ?_)
    cases hfi : List.findIdx? (fun e => (strKind P w).is k e.2) es.toList with
    | some j =>
      dsimp only
      exact wpAny_pure (wpAny_pure hq)
    | none =>
      have c := List.findIdx?_eq_none_iff.mp hfi e0 he0
      rw [q0] at c
      cases c
  · have e : addS l k = k :: l := if_neg hk
    rw [e] at hQ
    refine add_x ho F hk room (hQ true _ (Heap.SameBut.update s.heap a _) ⟨_, get_upd _ ho rfl, add_ok u F, List.nodup_cons.mpr ⟨hk, nd⟩, addTx_ris hr, hl.imp id fun z => by rw [addTx_led]; exact z⟩)
theorem setS_add {k : Str} {u : Tok} {Q : Value → Shared → Prop} (R : SetS P w s.heap a l) (room : l.length + 1 < scanBound) (hQ : ∀ h', Heap.SameBut a s.heap h' → SetS P w h' a (addS l k) → Q .none { s with heap := h', toks := s.toks + 1 }) :
    wpAny (model P w) A (call (.builtin "set.add") [.ref a, .str k u]) Q E s := by
  have hT : s.TypeIs (.ref a) "set" := let ⟨D, ho, _⟩ := R; ⟨_, ho, rfl⟩
  refine wpAny_call_entry F.slot_set_add hT F.entry_set_add ?_ (F.args_set_add_2 _ _)
  unfold Builtin.«set.add» Builtin.Frozenset.oneOther
  simp only [List.isEmpty_nil, bind_assoc]
  unfold Builtin.Frozenset.addrOf setAdd
  refine wpAny_bind (wpAny_pure ?_)
  try dsimp only
  refine wpAny_bind (wpAny_pure ?_)
  try dsimp only
  refine wpAny_bind ?_
  refine wpAny_holding ?_
  refine wpAny_bind ((strKind P w).pyHash (is_str k u) ?_)
  refine setS_hashed (s := { s with toks := s.toks + 1 }) R room fun b h' sb r => ?_
  show wpAny _ _ (ret Value.none) _ _ _
  exact wpAny_pure ⟨_, rfl, hQ h' sb r⟩
theorem sortedS_set {Q : Value → Shared → Prop} (R : SetS P w s.heap a l) (hh : A.handled = none) (h64 : l.length < 64)
    (hQ : ∀ s' p (out : Array Value) (c : Nat) (ys : List Str), (∀ b o, s.heap.get? b = some o → s'.heap.get? b = some o) → s'.gens = s.gens → s'.os = s.os → s.heap.objs.size ≤ p →
      s'.heap.get? p = some (seqObj "list" out c) → StrsAre out.toList ys → sortedS ys = true → ys.Perm l → Q (.ref p) s') :
    wpAny (model P w) A (call (.builtin "sorted") [.ref a]) Q E s := by
  obtain ⟨⟨es, ep, t⟩, ho, F, nd, hr, hl⟩ := R
  have hsz : es.size = l.length := F.sz
  have hb : es.size < scanBound := by rw [hsz]; exact Nat.lt_trans h64 (by decide)
  refine Calls.call_function_entry kind_sorted plain_sorted entry_sorted (args_sorted1 _) ?_
  unfold Builtin.«sorted»
  refine wpAny_bind (m := checkCount "sorted" 1 1 _) (wpAny_pure ?_)
  refine wpAny_bind (collect_set (A := A.in1) hh ⟨_, ho, rfl, rfl⟩ F.fit hb hr hl fun s1 vs k1 hz g1 o1 pm => ?_)
  have hvl : vs.length = l.length := by rw [pm.length_eq, List.length_map, Array.length_toList]; exact hsz
  -- the members as texts
  have el : ∀ v ∈ vs, ∃ k u, v = Value.str k u ∧ k ∈ l := fun v hv => by
    obtain ⟨e, he, rfl⟩ := List.mem_map.mp (pm.mem_iff.mp hv)
    obtain ⟨⟨k, hk, _⟩, _⟩ := F.el e he
    obtain ⟨u, hu⟩ : ∃ u, e.2 = Value.str k u := by
      have hk' : Value.isStrOf k e.2 = true := hk
      generalize e.2 = v at hk'
      cases v <;> first | exact absurd hk' Bool.false_ne_true | (rename_i x u; exact ⟨u, by rw [eq_of_beq hk']⟩)
    exact ⟨k, u, hu, (F.mem k).mpr ⟨e, he, hk⟩⟩
  have hS : StrsAre vs (vs.map strOf) := strs_all fun v hv => let ⟨k, u, e, _⟩ := el v hv; ⟨k, u, e⟩
  have pl : l.Perm (vs.map strOf) := perm_full nd (fun k hk => by
    obtain ⟨e, he, q⟩ := (F.mem k).mp hk
    have hv : e.2 ∈ vs := pm.mem_iff.mpr (List.mem_map.mpr ⟨e, he, rfl⟩)
    obtain ⟨k', u, e', _⟩ := el e.2 hv
    refine List.mem_map.mpr ⟨e.2, hv, ?_⟩
    have q2 : Value.isStrOf k e.2 = true := q
    rw [e'] at q2 ⊢
    exact eq_of_beq q2) (by rw [List.length_map, hvl]; exact Nat.le_refl _)
  refine wpAny_bind (wpAny_newList ?_ (by rw [hvl, sizeLine_eq]; omega))
  have hoL : (s1.heap.push (seqObj "list" vs.toArray 0)).get? s1.heap.objs.size = some (seqObj "list" vs.toArray 0) := Heap.get?_push_size _ rfl
  refine wpAny_bind (wpAny_holding (wpAny_call_entry slot_list_sort ⟨_, hoL, rfl⟩ entry_list_sort (list_sort_treeK strKind_oneLt hoL hS.keysOf (fun v₁ v₂ rest e => keyKind_strs (by rw [← e]; exact hS)) (by rw [hvl]; exact h64) fun st' a1 a2 => ⟨_, rfl, ?_⟩) (args_list_sort _)))
  obtain ⟨ss', b1, b2, b3⟩ := sorted_out_str hS a1 a2
  obtain ⟨c, hc⟩ := sortedHeap_at (vs := vs) (out := (arrOf st').map (·.2)) hoL
  refine wpAny_pure ⟨_, rfl, hQ _ s1.heap.objs.size _ c ss' (fun b u e => ?_) g1 o1 hz hc b1 b3 (b2.trans pl.symm)⟩
  have q := k1 b u e
  have hlt := Heap.lt_size q
  show (sortedHeap (s1.heap.push (seqObj "list" vs.toArray 0)) s1.heap.objs.size vs _).get? b = some u
  rw [sortedHeap_old (Nat.ne_of_lt hlt) (by rw [size_push']; exact Nat.lt_succ_of_lt hlt)]
  exact Heap.get?_push_of_some _ q
end
end Gw

/-! ## R13 -/
namespace Gw
open PySem PySem.Spec PyProof.Rows L2 Evl PySem.Froz

/-- sorted(a set of texts) -/
def rSortSS (P : Program) (w : World) : List V → Hp → VK → Prop := fun vs H Q => ∃ (a : Addr) (l : List Str), vs = [V.ref a] ∧ H a = some (SetSO P w a l) ∧ l.length < 64 ∧ ∀ ys p, sortedS ys = true → ys.Perm l → H p = none → Q (.ref p) (upd H p (.lst (ys.map V.str)))
theorem cr_sortSS {X : Cx} (hc : X.calm = true) : CallR X (.builtin "sorted") (rSortSS X.prog X.w) := by
  intro pins s σ H vs us Q I r h
  obtain ⟨a, l, rfl, ha, h64, q⟩ := h
  have R := setSO_get I ha
  rw [Vals.ref1 r]
  refine sortedS_set R (I.ok.hd hc) h64 fun s' p out c ys k g o hp hg hi hs hm => ?_
  have hlen : (ys.map V.str).length ≤ sizeLine := by rw [List.length_map, hm.length_eq, sizeLine_eq]; omega
  have hn : H p = none := I.hok.fresh hp
  have J : Inv X pins σ (upd H p (.lst (ys.map V.str))) { s with heap := s'.heap, gens := s'.gens, drawn := s'.drawn, toks := s'.toks } :=
    I.call (ch := []) (Un.laid k hp hn) (I.hok.laid k hp ⟨hlen, out.toList, c, vals_of_strs hi, hg⟩) (by rw [g]; exact I.bare) (fun _ z => nomatch z)
  have e : s' = { s with heap := s'.heap, gens := s'.gens, drawn := s'.drawn, toks := s'.toks } := by
    cases s'
    cases s
    cases o
    rfl
  rw [e]
  exact ⟨.ref p, _, J, rfl, q ys p hs hm hn⟩
/-- {elt for tg in iter}, elt a text -/
def tScS (P : Program) (w : World) (wi : TI) (g : TG) (te : TE) (vs : List Nat) : TE := fun σ H Q => wi σ H fun J H1 => ∀ D, H1 D = none → ∃ W : Nat → Nat → Hp → Prop, (∃ m, W 0 m (upd H1 D (SetSO P w D []))) ∧ ∀ i m H, W i m H →
  (J.stop i H ∧ Q (.ref D) H) ∨ (J.go i H ∧ ∃ Nx : Hp → Prop, (∀ H', Nx H' → ∃ m', m' < m ∧ W (i + 1) m' H') ∧ ∀ x H', J.yld i H x H' → g x (wipe σ vs) H' fun σ2 H2 => wipe σ2 vs = wipe σ vs ∧
    te σ2 H2 fun y H4 => ∃ (k : Str) (l : List Str), y = .str k ∧ H4 D = some (SetSO P w D l) ∧ l.length + 1 < scanBound ∧ Nx (upd H4 D (SetSO P w D (addS l k))))
theorem setS_fresh {P : Program} (w : World) {h : Heap} : SetS P w (h.push { cls := .type "set", dict := none, data := .set #[] 0 (.fresh 0 0 (!w.params.followText "set-order")) }) h.objs.size [] :=
  ⟨(#[], 0, .fresh 0 0 (!w.params.followText "set-order")), Heap.get?_push_size _ rfl, TxOk.nil (by rfl), List.nodup_nil, List.Pairwise.nil, by
    show _ ∨ (!w.params.followText "set-order") = true
    cases w.params.followText "set-order" <;> simp⟩
theorem pe_scS {X : Cx} {elt tg iter : Expr} {scope : Scope} {own : List (Str × Nat)} {pos : Pos} {wi : TI} {g : TG} {te : TE} (hc : X.calm = true) (hN : X.N.Nodup) (hi : PI X tg iter wi) (ok : BlkOk X.N X.env.scope scope own)
    (hg : ∀ (s : Shared) (H : Hp) (C : Addr) (cl : List (Str × Addr)) (fp : List Addr), PG (X.blk s H scope (compEnvC scope cl C X.env) fp) tg g)
    (he : ∀ (s : Shared) (H : Hp) (C : Addr) (cl : List (Str × Addr)) (fp : List Addr), PE (X.blk s H scope (compEnvC scope cl C X.env) fp) elt te) (hs : ∀ x, foldedSetIterable iter X.env x = pure x := by intro _; rfl) :
    PE X (.SetComp elt [⟨tg, iter, [], 0⟩] scope pos) (tScS X.prog X.w wi g te (own.map (·.2))) := by
  refine ⟨fun pins s σ H Q I h => ?_⟩
  rw [PpSet.eval_SetComp]
  have hfree : ∀ y ∈ scope.names, y.2 = .free → ∃ c, X.env.cells.lookup y.1 = some c := fun y hy e => by
    rcases ok.free y hy e with k | k
    · exact I.ok.has _ (.inl k)
    · exact I.ok.has _ (.inr k)
  refine comprehension_at (use := none) rfl hs (closure_ok hfree) ok.kind (fun y hy e => by rw [ok.uniq y hy, e]) (thn (hi.run pins s σ H _ I h) fun xv s1 hx => thn hx fun itv s2 h2 => ?_)
  obtain ⟨it, fp, tn, J, H2, e, I2, T, st2, f2, q⟩ := h2
  subst e
  refine PpSet.newSet_ok (newEnv_comp ?_)
  obtain ⟨D, hD⟩ : ∃ D, D = s2.heap.objs.size := ⟨_, rfl⟩
  have hDn : H2 D = none := I2.hok.fresh (Nat.le_of_eq hD.symm)
  obtain ⟨V, ⟨m0, w0⟩, turn⟩ := q D hDn
  obtain ⟨s3, hs3⟩ : ∃ s3 : Shared, s3 = { s2 with heap := s2.heap.push { cls := .type "set", dict := none, data := .set #[] 0 (.fresh 0 0 (!X.w.params.followText "set-order")) } } := ⟨_, rfl⟩
  have h3 : s3.heap = s2.heap.push { cls := .type "set", dict := none, data := .set #[] 0 (.fresh 0 0 (!X.w.params.followText "set-order")) } := by rw [hs3]
  have I3 : Inv X pins σ (upd H2 D (SetSO X.prog X.w D [])) s3 := by
    rw [hs3]
    refine I2.laid (t' := s2.toks) (fun b o e => Heap.get?_push_of_some _ e) (Nat.le_of_eq hD.symm) ?_
    rw [hD]
    exact setSO_new (setS_fresh X.w)
  have sz : ∀ b ∈ fp, b < s2.heap.objs.size := fun b hb => by
    obtain ⟨o, e, _⟩ := T.obj _ _ st2 b hb
    exact Heap.lt_size e
  have f3 : ∀ b ∈ fp, FpOk X pins (upd H2 D (SetSO X.prog X.w D [])) b ∧ b < s3.heap.objs.size := fun b hb => by
    have hlt := sz b hb
    refine ⟨⟨?_, (f2 b hb).2⟩, by rw [h3, Heap.size_push]; exact Nat.lt_succ_of_lt hlt⟩
    rw [upd_ne (by rw [hD]; exact Nat.ne_of_lt hlt)]
    exact (f2 b hb).1
  have st3 : tn 0 s3.heap := T.keep _ _ _ st2 fun b _ o e => by rw [h3]; exact Heap.get?_push_of_some _ e
  have I4 := block_start I3 ok hN f3
  obtain ⟨cl, hcl⟩ : ∃ cl, cl = cellsFrom (s3.heap.objs.size + 1) scope.names (cloFrom X.env.cells scope.names []) := ⟨_, rfl⟩
  have pg := hg s3 (upd H2 D (SetSO X.prog X.w D [])) s3.heap.objs.size cl fp
  have pe := he s3 (upd H2 D (SetSO X.prog X.w D [])) s3.heap.objs.size cl fp
  have nfp : ∀ b ∈ fp, (upd H2 D (SetSO X.prog X.w D [])) b = none := fun b hb => (f3 b hb).1.1
  rw [← hcl] at I4
  obtain ⟨ce, hce⟩ : ∃ ce, ce = compEnvC scope cl s3.heap.objs.size X.env := ⟨_, rfl⟩
  have cL : ce.locals = s3.heap.objs.size := by rw [hce]; rfl
  rw [← hce] at I4 pg pe
  have goal : ∀ s4 : Shared, s4 = { s3 with heap := pushCells (s3.heap.push { cls := .type "dict", data := .dict #[] }) scope.names } → codeAny (model X.prog X.w) X.A (.compStart (.SetComp elt [⟨tg, iter, [], 0⟩] scope pos) 0 (.ref it) (.ref D) ce) (compEnds (model X.prog X.w) X.A X.xe none (EP X pins σ Q) (.ref D) ce) s4 := by
    intro s4 hs4
    rw [← hs4] at I4
    obtain ⟨H3, hH3⟩ : ∃ H3, H3 = upd H2 D (SetSO X.prog X.w D []) := ⟨_, rfl⟩
    rw [← hH3] at I3 I4 pg pe w0 nfp f3
    have st4 : tn 0 s4.heap := T.keep _ _ _ st3 fun b _ o e => by rw [hs4]; exact pushCells_keeps _ _ _ _ (Heap.get?_push_of_some _ e)
    have stat : ∀ {σ' : L2.St} {H' : Hp} {s' : Shared}, Inv (X.blk s3 H3 scope ce fp) [] σ' H' s' → (∀ b ∈ fp, H' b = none) → ∀ b ∈ fp, FpOk (X.blk s3 H3 scope ce fp) [] H' b := fun {σ' H' s'} I' hn b hb =>
      ⟨hn b hb, (I'.ok.exf b hb).1, I'.ok.exfs b hb, .inl hb, fun x c e => (I'.ok.exf b hb).2 x c e, fun p hp => absurd (show p ∈ ([] : List (Addr × Obj)) ++ [] from hp) (by simp)⟩
    have loop : codeAny (model X.prog X.w) X.A (.compLoop (.SetComp elt [⟨tg, iter, [], 0⟩] scope pos) 0 (.ref it) (.ref D) ce) (compEnds (model X.prog X.w) X.A X.xe none (EP X pins σ Q) (.ref D) ce) s4 := by
      refine PpSet.compLoopS_any (fun n s' => ∃ i H', Inv (X.blk s3 H3 scope ce fp) [] (wipe σ (own.map (·.2))) H' s' ∧ tn i s'.heap ∧ (∀ b ∈ fp, H' b = none) ∧ V i n H') ?_ m0 ⟨0, H3, I4, st4, nfp, w0⟩
      rintro n s5 ⟨i, H5, I5, st5, n5, w5⟩
      rcases turn i n H5 w5 with ⟨stop, qq⟩ | ⟨go, Nx, hNx, step⟩
      · refine thnF (T.done (X.blk s3 H3 scope ce fp) rfl rfl rfl hc i [] s5 _ H5 (fun _ _ => False) I5 (stat I5 n5) st5 stop) fun r s6 ⟨hr, I6⟩ => ?_
        subst hr
        have I7 : Inv X pins σ H5 s6 := I3.call' (ch := fp) I6.os I6.base I6.hok I6.bare fun b hb => ⟨(f3 b hb).1.2.2.2.1, (f3 b hb).1.2.1, (f3 b hb).1.2.2.2.2.1, (f3 b hb).1.2.2.2.2.2⟩
        have nC : H5 s3.heap.objs.size = none := by
          have z : H5 ce.locals = none := I6.free
          rw [cL] at z
          exact z
        obtain ⟨m, hn, _⟩ := I6.loc
        obtain ⟨f0, f1, f2, f3, f4, f5⟩ := I3.fpOk (Nat.le_refl _) nC
        refine ⟨m, hn, fun h'' sb => ?_⟩
        rw [cL] at sb
        exact ⟨.ref D, H5, I7.turned (t' := s6.toks) (fun b o hb e => (sb.2 b hb).trans e) f0 f1 f3 f4 f5, rfl, qq⟩
      · refine thnF (T.item (X.blk s3 H3 scope ce fp) rfl rfl rfl hc i [] s5 _ H5 (fun _ _ => False) I5 (stat I5 n5) st5 go) fun r s6 ⟨u, hr, h6⟩ => ?_
        subst hr
        refine thnF h6 fun _ s7 ⟨x, H7, I7, r7, y7, st7, n7⟩ => ?_
        have I7' := I7.pinned (stat I7 n7) (T.obj _ _ st7)
        refine thnF (pg.run _ s7 _ H7 x u _ I7' r7 (step x H7 y7)) fun _ s8 ⟨σ8, H8, I8, hw8, q8⟩ => ?_
        refine wpAny_tests_nil ?_
        rw [if_pos rfl]
        refine thnF (pe.run _ s8 σ8 H8 _ I8 q8) fun z s10 ⟨yv, H10, I10, r10, k, l, ek, hD10, hz10, nx⟩ => ?_
        subst ek
        obtain ⟨tk, rfl⟩ : ∃ tk, z = Value.str k tk := r10
        have R := setSO_get I10 hD10
        refine setS_add R hz10 fun h' sb new => ?_
        have hx : ∃ o, h'.get? D = some o := let ⟨_, ho, _⟩ := new; ⟨_, ho⟩
        have I11 : Inv (X.blk s3 H3 scope ce fp) ([] ++ pinsAt fp s7.heap) σ8 (upd H10 D (SetSO X.prog X.w D (addS l k))) { s10 with heap := h', toks := s10.toks + 1 } :=
          I10.write (e := D) (t' := s10.toks + 1) (by rw [hD10]; trivial) (.inl rfl) (fun b u hb hu => (sb.2 b hb).trans hu) hx (setSO_new new)
        obtain ⟨m', hm, w'⟩ := hNx _ nx
        have pin' : ∀ b ∈ fp, ∀ o, s7.heap.get? b = some o → h'.get? b = some o ∧ (upd H10 D (SetSO X.prog X.w D (addS l k))) b = none := fun b hb o e =>
          let z := I11.pin (b, o) (List.mem_append_right _ (List.mem_append_right _ (mem_pinsAt hb e)))
          ⟨z.1, z.2.1⟩
        have hl : (wipe σ (own.map (·.2))).length = σ8.length := by rw [← hw8, wipe_length]
        refine ⟨m', hm, i + 1, _, (I11.unpinned (pins := [])).weak hl (fun j v e => ?_), T.keep _ _ _ st7 fun b hb o e => (pin' b hb o e).1, fun b hb => ?_, w'⟩
        · rw [← hw8] at e
          exact (wipe_some e).1
        · obtain ⟨o, e, _⟩ := T.obj _ _ st7 b hb
          exact (pin' b hb o e).2
    exact PpSet.codeAny_compStart_set loop (T.self X.A 0 _ _ _ st4 loop)
  have g2 := goal _ rfl
  rw [hce, hcl, hs3, hD] at g2
  exact g2
end Gw

/-! ## R14 -/
namespace Gw
open PySem PySem.Spec PyProof.Rows L2 Evl

/-! ### a def whose code object is known -/
section
variable {P : Program} {w : World} {K : PySem.W.Frag} {mg : Str → Option Value} {base : Heap}
theorem Def.calC {x : Str} {st : Stmt} {N ps : List Str} {k : Nat} {sp : Sp} (D : Gw.Def K mg x st ps) (S : FnScope N ps (defScope st)) (len : ∀ vs H Q E, sp vs H Q E → vs.length = ps.length)
    (hbody : ∀ (f : Addr) (cdv : Value) (A : Around) (outer : List Env) (s : Shared) (H : Hp) (vs : List V) (Q : VK) (E : XK), PySem.W.kdsCode K cdv = true → Room k (A.deeper (envOfC x (defScope st) s.heap.objs.size f cdv)) → sp vs H Q E →
      ∃ t, PSs (cxOf CX0 P w K mg base N x (defScope st) f cdv A outer s H E).nox (defBody st) t ∧ t { nx := fun _ H' => Q .non H', rt := Q } (start N vs) H) : Gw.Cal P w K mg base CX0 x (k + 1) ps sp := by
  obtain ⟨f, fd, F, hm, hb⟩ := D.ex
  have lk := Fun.look F
  have kp := F.kp
  obtain ⟨oc, od, kV, doc, pm, an, cdv, ct, osl, rfl, lk0, hcd⟩ := F.ex
  refine ⟨f, _, ?_, hm, kp, hb, lk⟩
  refine fn_of lk0 hcd S len fun A outer s H vs Q E hr hsp => ?_
  obtain ⟨t, h, q⟩ := hbody f cdv A outer s H vs Q E (kdsCode_of hcd) hr hsp
  exact ⟨t, h.nox, q⟩
end
/-! ### sets of ints, asked for members only -/
def SetI (P : Program) (w : World) (a : Addr) (S : Int → Bool) (n : Nat) : HO := .ext fun h => h.SetOf (intKind P w) a S n
theorem setOf_at {P : Program} {w : World} {h h' : Heap} {a : Addr} {S : Int → Bool} {n : Nat} (R : h.SetOf (intKind P w) a S n) (k : ∀ o, h.get? a = some o → h'.get? a = some o) : h'.SetOf (intKind P w) a S n := by
  obtain ⟨o, es, ep, t, ho, r⟩ := R
  exact ⟨o, es, ep, t, k o ho, r⟩
theorem setI_new {P : Program} {w : World} {H : Hp} {h : Heap} {a : Addr} {S : Int → Bool} {n : Nat} (R : h.SetOf (intKind P w) a S n) : ObjOk P w H h a (SetI P w a S n) := by
  have ⟨o, _, _, _, ho, _⟩ := R
  exact ⟨R, ⟨o, ho⟩, fun h1 h2 p k => setOf_at p k⟩
section
variable {X : Cx}
theorem setI_get {pins : List (Addr × Obj)} {σ : L2.St} {H : Hp} {s : Shared} {a : Addr} {S : Int → Bool} {n : Nat} (I : Inv X pins σ H s) (ha : H a = some (SetI X.prog X.w a S n)) : s.heap.SetOf (intKind X.prog X.w) a S n := (I.hok a _ ha).1
/-- s.add(k) -/
def rSAddI (P : Program) (w : World) : V → List V → Hp → VK → Prop := fun x xs H Q => ∃ (a : Addr) (k : Int) (S : Int → Bool) (n : Nat), x = V.ref a ∧ xs = [V.int k] ∧ H a = some (SetI P w a S n) ∧ n + 1 < scanBound ∧
  Q .non (upd H a (SetI P w a (fun j => S j || decide (j = k)) (if S k = true then n else n + 1)))
theorem mt_saddI : MtR X "set.add" (rSAddI X.prog X.w) := by
  intro pins s σ H x xs v us Q I rx rxs h
  obtain ⟨a, k, S, n, rfl, rfl, ha, room, q⟩ := h
  cases rx
  cases rxs with
  | cons ry rt =>
    cases rt
    obtain ⟨tk, rfl⟩ := ry
    have R := setI_get I ha
    refine wpAny_call_entry PySem.F.slot_set_add R.typeIs PySem.F.entry_set_add ?_ (PySem.F.args_set_add_2 _ _)
    unfold Builtin.«set.add» Builtin.Frozenset.oneOther
    simp only [List.isEmpty_nil, bind_assoc]
    unfold Builtin.Frozenset.addrOf setAdd
    refine wpAny_bind (wpAny_pure ?_)
    try dsimp only
    refine wpAny_bind (wpAny_pure ?_)
    try dsimp only
    refine wpAny_bind ?_
    refine wpAny_holding ?_
    refine wpAny_bind ((intKind X.prog X.w).pyHash (intKind_is X.prog X.w k tk) ?_)
    refine wpAny_setAddHashed_of (s := { s with toks := s.toks + 1 }) (intKind_is X.prog X.w k tk) rfl R room fun h' sb new => ?_
    show wpAny _ _ (ret Value.none) _ _ _
    refine wpAny_pure ⟨_, rfl, ?_⟩
    have he : ∃ u, h'.get? a = some u := by
      have ⟨o, _, _, _, ho, _⟩ := new
      exact ⟨o, ho⟩
    exact ⟨.non, upd H a (SetI X.prog X.w a (fun j => S j || decide (j = k)) (if S k = true then n else n + 1)), I.write (e := a) (t' := s.toks + 1) (by rw [ha]; trivial) (.inl rfl) (fun b u hb hu => (sb.2 b hb).trans hu) he (setI_new new), rfl, q⟩
def tSAddI (P : Program) (w : World) (to : TE) (t : TA) : TE := fun σ H Q => to σ H fun x H1 => (∃ a S n, x = V.ref a ∧ H1 a = some (SetI P w a S n)) ∧ t σ H1 fun xs H2 => rSAddI P w x xs H2 Q
variable {o e : Expr} {es : List Expr} {to te : TE} {t : TA} {apos cpos : Pos}
theorem pe_saddI (ho : PE X o to) (ha : PA X (e :: es) t)
    (hbase : attributeBase o "add" X.env (eval o X.env) = eval o X.env := by rfl)
    (hfew : ((backTo cpos (starEach (e :: es) X.env)).all (fun x => !x.1) && (backToKw cpos (keywordEach [] X.env)).all (fun x => x.1.isSome)
      && decide ((e :: es).length + ([] : List Keyword).length + (if ([] : List Keyword).isEmpty then 0 else 1) < 30)) = true := by rfl)
    (hline : (apos.endLine == cpos.line) = true := by rfl) (hs : starEach (e :: es) X.env = (false, eval e X.env) :: starEach es X.env := by rfl) (hplain : (backTo cpos (starEach es X.env)).any (·.1) = false := by rfl) :
    PE X (.Call (.Attribute o "add" apos) (e :: es) [] cpos) (tSAddI X.prog X.w to t) := by
  refine ⟨fun pins s σ H Q I h => ?_⟩
  refine wpAny_Call_method_late hbase hfew hline rfl (thn (ho.run pins s σ H _ I h) fun v s1 ⟨x, H1, I1, r1, ty, q1⟩ => ?_)
  obtain ⟨a, S, n, rfl, hka⟩ := ty
  have R := setI_get I1 hka
  cases r1
  refine ⟨"set", "set.add", PySem.F.plainAttrs_set, PySem.F.slot_set_add, PySem.F.type_set_add, R.typeIs, R.noDict, ?_⟩
  have hA := ha.run cpos pins s1 σ H1 _ I1 q1
  rw [hs] at hA ⊢
  refine Calls.callWith_builtin (by show (false || (backTo cpos (starEach es X.env)).any (·.1)) = false; rw [hplain] <;> rfl) (Calls.evalArgs_plain ?_)
  exact thn hA fun us s2 ⟨vs, H2, I2, r2, q2⟩ => mt_saddI pins s2 σ H2 (.ref a) vs (.ref a) us Q I2 rfl r2 q2
/-- k not in s, k in s -/
def rSInI (P : Program) (w : World) (neg : Bool) : V → V → Hp → VK → Prop := fun x y H Q => ∃ k a S n, x = V.int k ∧ y = V.ref a ∧ H a = some (SetI P w a S n) ∧ Q (.bl (if neg then !S k else S k)) H
theorem or_snotinI : OpR X (compareOp .NotIn) (rSInI X.prog X.w true) := by
  intro pins s σ H x y v u Q I rx ry h
  obtain ⟨k, a, S, n, rfl, rfl, ha, q⟩ := h
  obtain ⟨tk, rfl⟩ := rx
  cases ry
  exact wpAny_notInSet_of (intKind_is _ _ _ _) rfl (setI_get I ha) ⟨.bl (!S k), H, I.tok _, rfl, q⟩
theorem or_sinI : OpR X (compareOp .In) (rSInI X.prog X.w false) := by
  intro pins s σ H x y v u Q I rx ry h
  obtain ⟨k, a, S, n, rfl, rfl, ha, q⟩ := h
  obtain ⟨tk, rfl⟩ := rx
  cases ry
  exact wpAny_inSet_of (intKind_is _ _ _ _) rfl (setI_get I ha) ⟨.bl (S k), H, I.tok _, rfl, q⟩
/-- {k}, k written -/
def tSetC (P : Program) (w : World) (k : Int) : TE := fun σ H Q => ∀ p, H p = none → Q (.ref p) (upd H p (SetI P w p (fun j => decide (j = k)) 1))
theorem pe_setC {k : Int} {j : Nat} {p pos : Pos} (hcd : PySem.W.kdsCode X.K X.env.code = true) : PE X (.Set [.Constant (.int k) j p] 0 pos) (tSetC X.prog X.w k) := by
  refine ⟨fun pins s σ H Q I h => ?_⟩
  rw [arm_eval_Set]
  refine wpAny_bind (wpAny_standAt ?_)
  refine wpAny_bind (PySem.W.kds_main I.kIn hcd fun b => ?_)
  rw [PySem.W.kds_star [.Constant (.int k) j p] rfl, List.map_map]
  refine PySem.W.kds_core (ts := (evalEach [.Constant (.int k) j p] X.env).map fun t => do let v ← t; standAt pos; pure v) (road0 _) ?_ ?_ ?_ fun led => ?_
  · refine List.findIdx?_eq_none_iff.mpr fun x hx => ?_
    obtain ⟨t, _, rfl⟩ := List.mem_map.mp hx
    rfl
  · rw [List.length_map, PySem.W.kds_len]; exact Nat.le_of_ble_eq_true rfl
  · rw [List.map_map]; try rfl
  · refine PySem.W.kds_all pos _ _ _ ?_
    show wpAny _ _ (eval (.Constant (.int k) j p) X.env) _ _ _
    have F : (s.heap.push { cls := .type "set", dict := none, data := .set #[] 0 (.fresh 0 0 led) }).SetOf (intKind X.prog X.w) s.heap.objs.size (fun _ => false) 0 := (setObjOf_fresh (knd := intKind X.prog X.w) led).setOf (Heap.get?_push_size _ rfl) (by decide)
    refine wpAny_Constant_int ?_
    refine PySem.W.kds_fill_cons ?_
    unfold setAdd
    refine wpAny_holding (wpAny_bind ((intKind X.prog X.w).pyHash (k := k) (intKind_is _ _ _ _) ?_))
    refine wpAny_setAddHashed_of (knd := intKind X.prog X.w) (s := { s with heap := s.heap.push { cls := .type "set", dict := none, data := .set #[] 0 (.fresh 0 0 led) }, toks := s.toks + 1 + 1 }) (intKind_is _ _ _ _) rfl F (by decide) fun h' sb hS' => ?_
    refine PySem.W.kds_fill_nil rfl ?_
    have kp : ∀ b u, s.heap.get? b = some u → h'.get? b = some u := fun b u e => by
      have ne : b ≠ s.heap.objs.size := fun z => Nat.lt_irrefl _ (z ▸ Heap.lt_size e)
      exact (sb.2 b ne).trans (Heap.get?_push_of_some _ e)
    have hS2 : h'.SetOf (intKind X.prog X.w) s.heap.objs.size (fun j => decide (j = k)) 1 := SetOf_congr hS' (fun x => by simp) rfl
    exact ⟨.ref s.heap.objs.size, upd H s.heap.objs.size (SetI X.prog X.w s.heap.objs.size (fun j => decide (j = k)) 1), I.laid (t' := s.toks + 1 + 1) kp (Nat.le_refl _) (setI_new hS2), rfl, h _ (I.hok.fresh (Nat.le_refl _))⟩
end
end Gw

/-! ## R15 -/
namespace Gw
open PySem PySem.Spec PyProof.Rows L2 Evl

/-! ### keys that may hold None: asked for, never there -/
section
variable {prog : Program} {w : World} {A : Around} {E : Value → Shared → Prop} {s : Shared}
theorem pyHash_none {Q : Int → Shared → Prop} (h : Q 0xFCA86420 { s with toks := s.toks + 1 }) : wpAny (model prog w) A (pyHash .none) Q E s := by
  have hT : s.TypeIs .none "NoneType" := rfl
  unfold pyHash pyHashByItsType
  refine wpAny_bind (wpAny_cRoomFor_or (.inl rfl) ?_)
  refine wpAny_bind (wpAny_specialOf hT PySem.F.slot_NoneType_hash.lookup ?_)
  show wpAny _ _ (if (some (Value.builtin "NoneType.__hash__") == some Value.none) = true then _ else _) Q E s
  rw [if_neg (by rw [beq_builtin_none]; exact Bool.false_ne_true)]
  refine wpAny_bind (wpAny_specialOf hT PySem.F.slot_NoneType_hash.lookup ?_)
  show wpAny _ _ (callSpecialIfBoundUnlessNone? .none "__hash__" _ >>= _) Q E s
  refine wpAny_bind (wpAny_callSpecialIfBoundUnlessNone?_slot hT PySem.F.slot_NoneType_hash
    (wpAny_call_entry PySem.F.slot_NoneType_hash hT PySem.F.entry_NoneType_hash
      (show wpAny _ _ (do ret (← mkInt 0xFCA86420)) _ _ s from wpAny_ret_mkInt ?_) (PySem.F.args_NoneType_hash_1 _)))
  exact wpAny_pure h
end
abbrev KeyN := Option Key
def keyNIs : KeyN → Value → Bool
  | none, v => v == .none
  | some k, v => keyIs k v
def keyNH (w : World) : KeyN → Int
  | none => 0xFCA86420
  | some k => keyH w k
theorem none_is {v : Value} (h : keyNIs none v = true) : v = .none := eq_of_beq h
theorem keyIs_none {k : Key} (h : keyIs k .none = true) : False := by
  rcases keyIs_shape h with ⟨i, t, _, e⟩ | ⟨x, t, _, e⟩ <;> cases e
def mixN (prog : Program) (w : World) : PySem.KeyKind prog w KeyN where
  is := keyNIs
  hash := keyNH w
  inj := fun v a b ha hb => by
    cases a with
    | none =>
      cases none_is ha
      cases b with
      | none => rfl
      | some b => exact (keyIs_none hb).elim
    | some a =>
      cases b with
      | none => cases none_is hb; exact (keyIs_none ha).elim
      | some b => rw [(mixKind prog w).inj v a b ha hb]
  byValue := fun k v h => by
    cases k with
    | none => cases none_is h; rfl
    | some k => exact (mixKind prog w).byValue k v h
  pyHash := fun {_ _ _ k _ _} hv h => by
    cases k with
    | none => cases none_is hv; exact pyHash_none h
    | some k => exact (mixKind prog w).pyHash (k := k) hv h
  eqBool := fun {_ _ _ a b _ _ _} hu hv h => by
    cases a with
    | none =>
      cases none_is hu
      cases b with
      | none =>
        cases none_is hv
        rw [decide_eq_true rfl] at h
        unfold PySem.eqBool
        refine wpAny_holding ?_
        show wpAny _ _ (if (Value.none == Value.none) = true then _ else _) _ _ _
        rw [if_pos (beq_self_eq_true Value.none)]
        exact wpAny_bind (wpAny_rule (wpAny_pure h))
      | some b =>
        rw [decide_eq_false (by intro z; cases z)] at h
        rcases keyIs_shape hv with ⟨i, t, rfl, rfl⟩ | ⟨x, t, rfl, rfl⟩
        · exact SeqAt.EqAt.none_int i t _ _ _ _ h
        · exact SeqAt.EqAt.none_str x t _ _ _ _ h
    | some a =>
      cases b with
      | none =>
        cases none_is hv
        rw [decide_eq_false (by intro z; cases z)] at h
        rcases keyIs_shape hu with ⟨i, t, rfl, rfl⟩ | ⟨x, t, rfl, rfl⟩
        · exact SeqAt.EqAt.int_none i t _ _ _ _ h
        · exact SeqAt.EqAt.str_none x t _ _ _ _ h
      | some b =>
        refine (mixKind prog w).eqBool (a := a) (b := b) hu hv ?_
        have e : decide (a = b) = decide ((some a : KeyN) = some b) := by
          by_cases q : a = b
          · subst q; simp
          · rw [decide_eq_false q, decide_eq_false fun z => q (Option.some.inj z)]
        rw [e]; exact h
  «strs» := fun k x t v h => by
    cases k with
    | none => cases none_is h
    | some k => exact (mixKind prog w).strs k x t v h
/-- (None, letter) is no key of such a dict -/
theorem items_some {P : Program} {w : World} {h : Heap} : ∀ {ks : List Key} {vs : List Value}, ItemsAre (mixKind P w) ks vs → ItemsAre (mixN P w) (ks.map some) vs
  | [], _, .nil => .nil
  | k :: ks, _, .cons h1 t => .cons (show keyNIs (some k) _ = true from h1) (items_some (h := h) t)
theorem hash_some {P : Program} {w : World} (ks : List Key) : tupleKeyHash (mixN P w) (ks.map some) = tupleKeyHash (mixKind P w) ks := by
  unfold tupleKeyHash
  rw [List.map_map]; rfl
theorem dictOfN {P : Program} {w : World} {h : Heap} {d : Addr} {xs : List (List Key × Addr × Value)} (dd : h.DictOfH (tupleKind (mixKind P w)) d xs) :
    h.DictOfH (tupleKind (mixN P w)) d (xs.map fun x => (x.1.map some, x.2)) := by
  obtain ⟨o, es, ep, h1, h2, h3, h4, h5, h6⟩ := dd
  refine ⟨o, es, ep, h1, h2, h3, ?_, fun x hx => ?_, ?_⟩
  · rw [h4, List.map_map]
    refine List.map_congr_left fun x _ => ?_
    show entryOfKey (tupleKind (mixKind P w)) x = entryOfKey (tupleKind (mixN P w)) (x.1.map some, x.2)
    unfold entryOfKey
    show DictEntry.mk (tupleKeyHash (mixKind P w) x.1) _ _ = DictEntry.mk (tupleKeyHash (mixN P w) (x.1.map some)) _ _
    rw [hash_some]
  · obtain ⟨y, hy, rfl⟩ := List.mem_map.mp hx
    obtain ⟨o', its, n, a1, a2, a3, a4⟩ := h5 y hy
    exact ⟨o', its, n, a1, a2, a3, items_some (h := h) a4⟩
  · rw [List.map_map]
    have : ((fun x : List KeyN × Addr × Value => x.1) ∘ fun x : List Key × Addr × Value => (x.1.map some, x.2)) = (fun l : List Key => l.map (some : Key → KeyN)) ∘ fun x => x.1 := rfl
    rw [this, ← List.map_map]
    exact nodup_map (fun a _ b _ e => (List.map_inj_right (fun x y z => Option.some.inj z)).mp e) h6
theorem atKey_none {xs : List (List Key × Addr × Value)} {k : List KeyN} (h : (none : KeyN) ∈ k) : atKey (xs.map fun x => (x.1.map (some : Key → KeyN), x.2)) k = none := by
  have : ∀ x ∈ xs.map fun x : List Key × Addr × Value => (x.1.map (some : Key → KeyN), x.2), x.1 ≠ k := fun x hx e => by
    obtain ⟨y, _, rfl⟩ := List.mem_map.mp hx
    rw [← e] at h
    obtain ⟨z, _, e2⟩ := List.mem_map.mp h
    cases e2
  generalize (xs.map fun x : List Key × Addr × Value => (x.1.map (some : Key → KeyN), x.2)) = ys at this
  unfold atKey
  have e : ys.find? (fun x => decide (x.1 = k)) = none := List.find?_eq_none.mpr fun x hx => by
    rw [decide_eq_false (this x hx)]; exact Bool.false_ne_true
  first
    | rw [e]; rfl
    | (simp only [e]; rfl)
    | (induction ys with
       | nil => rfl
       | cons a l ih => simp_all)
/-- d.get(y), y a tuple key that may hold None -/
def tDGet1N (K : PySem.W.Frag) (td ty : TE) : TE := fun σ H Q => td σ H fun x H1 => ∃ a, x = .ref a ∧ IsD H1 a ∧ ty σ H1 fun y H2 => (∃ o, DGet H2 a y o ∧ Q (o.getD .non) H2) ∨
  ∃ kvs b c, Rd H2 a (.dT kvs) ∧ y = .ref b ∧ H2 b = some (.tup [.non, .str c]) ∧ Q .non H2
section
variable {X : Cx} {o e : Expr} {apos cpos : Pos} {td ty : TE}
theorem d_get1N {pins : List (Addr × Obj)} {σ : L2.St} {H : Hp} {s : Shared} {a b : Addr} {c : Str} {kvs : List (List Key × V)} {A : Around} {E : Value → Shared → Prop} {Q : Value → Shared → Prop} (hu : A.units + 1 < cLine) (I : Inv X pins σ H s) (hd : Rd H a (.dT kvs)) (hb : H b = some (.tup [.non, .str c])) (h : ∀ s', Inv X pins σ H s' → Q .none s') :
    wpAny (model X.prog X.w) A (call (.builtin "dict.get") [.ref a, .ref b]) Q E s := by
  obtain ⟨z, hs, xs, rel, dd⟩ := dt_rd I.hok hd
  have ddN := dictOfN dd
  have kb : (tupleKind (mixN X.prog X.w)).is s.heap [none, some (.inr c)] b := by
    obtain ⟨_, its, r, o, h1, h2, n, h3⟩ := I.hok b _ hb
    cases r with
    | cons ra r =>
      cases r with
      | cons rb r =>
        cases r
        cases ra
        obtain ⟨t, rfl⟩ := rb
        exact ⟨o, #[.none, .str c t], n, h1, h2, h3, .cons rfl (.cons (keyIs_str c t) .nil)⟩
  refine call_meetsIn PySem.F.slot_dict_get dd.typeIs PySem.F.entry_dict_get (PySem.F.args_dict_get_2 _ _) (meetsH_dict_get (tupleKind (mixN X.prog X.w)) a b hs) ⟨tupleKind_room_in1 hu, _, _, kb, ddN, ?_⟩
  rw [atKey_none (List.mem_cons_self)]
  exact h _ (I.tok _)
theorem pe_dget1N (hu : X.A.units + 1 < cLine) (ho : PE X o td) (he : PE X e ty) (m : M1 X o "get" apos e cpos) : PE X (.Call (.Attribute o "get" apos) [e] [] cpos) (tDGet1N X.K td ty) := by
  refine ⟨fun pins s σ H Q I h => ?_⟩
  refine wpAny_Call_method m.base m.few m.line PySem.F.plainAttrs_dict PySem.F.slot_dict_get PySem.F.type_dict_get (thn (ho.run pins s σ H _ I h) fun u s1 ⟨x, H1, I1, rx, a, ex, d, q1⟩ => ?_)
  subst ex
  obtain rfl : u = Value.ref a := rx
  obtain ⟨t1, t2, _⟩ := isD_at I1 d
  refine ⟨t1, t2, ?_⟩
  rw [m.trees]
  refine Calls.callWith_builtin rfl (Calls.evalArgs_plain (Calls.spliced_cons (thn (he.run pins s1 σ H1 _ I1 q1) fun iv s2 ⟨y, H2, I2, ry, q2⟩ => Calls.spliced_nil ?_)))
  rcases q2 with ⟨ov, g, q2⟩ | ⟨kvs, b, c, hd, rfl, hb, q2⟩
  · exact d_get1 hu I2 g ry fun w' s3 I3 rw' => ⟨_, H2, I3, rw', q2⟩
  · obtain rfl : iv = Value.ref b := ry
    exact d_get1N hu I2 hd hb fun s3 I3 => ⟨.non, H2, I3, rfl, q2⟩
/-- x < y, data -/
def rLtD (K : PySem.W.Frag) : R2 := fun x y H Q => ∃ d e, Dp K H x d ∧ Dp K H y e ∧ PySem.W.alike d e = true ∧ d ≠ .none ∧ min d.depth e.depth ≤ 60 ∧ Q (.bl (PySem.W.dataLt d e)) H
theorem op_ltD (hu : X.A.units + 64 < cLine) : OpR X (compareOp .Lt) (rLtD X.K) := by
  intro pins s σ H x y v u Q I rx ry h
  obtain ⟨d, e, hd, he, al, nn, hm, q⟩ := h
  obtain ⟨as, r1⟩ := Dp.reads I d x v hd rx
  obtain ⟨bs, r2⟩ := Dp.reads I e y u he ry
  exact PySem.W.lt_data r1 r2 al nn (by omega) ⟨.bl _, H, I, rfl, q⟩
theorem op_ltDB {s : Shared} {H : Hp} {sc : Scope} {en : Env} {fp : List Addr} (hu : X.A.units + 64 < cLine) : OpR (X.blk s H sc en fp) (compareOp .Lt) (rLtD X.K) := op_ltD hu
end
end Gw

/-! ## R16 -/
namespace Gw
open PySem PySem.Spec PyProof.Rows L2 Evl
section
variable {K : PySem.W.Frag} {σ : L2.St} {H : Hp} {td te ta : TE} {t : TT} {tr : TA}
/-- a comprehension over a dict's pairs, values that are no new objects -/
theorem el_items {kvs : List (Key × V)} {d : Addr} {i j : Nat} {vs : List Nat} (p : Key × V → Bool) (f : Key × V → V) (hd : H d = some (.dK kvs)) (htd : ∀ H1, Ev td σ H1 (.ref d)) (hz : kvs.length ≤ 40000) (hw : ∀ x y, wipe (((wipe σ vs).set i (some x)).set j (some y)) vs = wipe σ vs)
    (ht : ∀ kv ∈ kvs, ∀ o H1, Ex (upd H d (.frz o (.dK kvs))) H1 → EvT t (((wipe σ vs).set i (some (kV kv.1))).set j (some kv.2)) H1 (p kv)) (he : ∀ kv ∈ kvs, p kv = true → ∀ o H1, Ex (upd H d (.frz o (.dK kvs))) H1 → Ev te (((wipe σ vs).set i (some (kV kv.1))).set j (some kv.2)) H1 (f kv)) :
    EvL (tLockE (tLc (iItems td) (gTup K 2 (gCons (gName i) (gCons (gName j) gNil))) t te vs)) σ H ((kvs.filter p).map f) := by
  intro H0 e Q q
  have hd0 := e _ _ hd
  refine ⟨d, .dK kvs, hd0, True.intro, fun od => ?_⟩
  have eB : Ex (upd H d (.frz od (.dK kvs))) (upd H0 d (.frz od (.dK kvs))) := ex_upd e
  refine htd _ _ (Ex.refl _) _ fun H1 e1 => ⟨d, od, kvs, rfl, e1 _ _ upd_same, ?_⟩
  intro Dl hD
  have fl : ∀ n : Nat, (((kvs.take n).filter p).map f).length ≤ kvs.length := fun n => by
    rw [List.length_map]
    exact Nat.le_trans (List.length_filter_le _ _) (by rw [List.length_take]; exact Nat.min_le_right _ _)
  refine ⟨fun n m H' => m = kvs.length - n ∧ n ≤ kvs.length ∧ Ex H1 H' ∧ H' Dl = some (.lst (((kvs.take n).filter p).map f)), ⟨kvs.length, rfl, Nat.zero_le _, Ex.new hD, upd_same⟩, ?_⟩
  rintro n m H' ⟨rfl, hi, ex, hl⟩
  have hf : H' d = some (.frz od (.dK kvs)) := ex _ _ (e1 _ _ upd_same)
  by_cases hlt : n < kvs.length
  · refine .inr ⟨⟨hf, hlt⟩, fun H'' => Ex H1 H'' ∧ H'' Dl = some (.lst (((kvs.take (n + 1)).filter p).map f)), fun H'' ⟨a, b⟩ => ⟨kvs.length - (n + 1), by omega, rfl, hlt, a, b⟩, ?_⟩
    rintro x H'' ⟨A, k, v, hk, rfl, hA, rfl⟩
    have eA : Ex H' (upd H' A (.tup [kV k, v])) := Ex.new hA
    have mk := List.mem_of_getElem? hk
    have tk : kvs.take (n + 1) = kvs.take n ++ [(k, v)] := by rw [List.take_add_one, hk]; rfl
    refine g2 rfl (st_of upd_same) ⟨hw _ _, ?_⟩
    refine ht (k, v) mk od _ (eB.trans (e1.trans (ex.trans eA))) _ (Ex.refl _) _ fun H3 e3 => ?_
    cases hp : p (k, v) with
    | true =>
      show te _ H3 _
      refine he (k, v) mk hp od _ (eB.trans (e1.trans ((ex.trans eA).trans e3))) H3 (Ex.refl _) _ fun H4 e4 => ⟨_, e4 _ _ (e3 _ _ (eA _ _ hl)), sz_lt (by have := fl n; omega), Ex.mut (((ex.trans eA).trans e3).trans e4) hD, ?_⟩
      rw [upd_same, tk, List.filter_append, List.map_append, List.filter_cons, if_pos hp]; rfl
    | false =>
      show Ex H1 H3 ∧ H3 Dl = _
      refine ⟨(ex.trans eA).trans e3, ?_⟩
      rw [e3 _ _ (eA _ _ hl), tk, List.filter_append, List.map_append, List.filter_cons, if_neg (by rw [hp]; decide)]
      simp
  · refine .inl ⟨⟨hf, by omega⟩, hf, q Dl _ ?_ (ex_unlock hd0 (e1.trans ex)) ?_⟩
    · have := fresh_back e1 hD
      by_cases k : Dl = d
      · subst k; rw [upd_same] at this; cases this
      · rw [upd_ne k] at this; exact this
    · rw [upd_ne (fun k => by subst k; rw [hl] at hf; cases hf), hl, List.take_of_length_le (by omega)]
/-- a comprehension over two lists side by side -/
theorem el_zip {a : Addr} {xs ys : List V} {i j : Nat} {vs : List Nat} (f : V → V → V) (h : ∀ H1, Ex H H1 → ∀ Q : List V → Hp → Prop, (∀ b H2, Ex H1 H2 → H2 b = some (.lst ys) → Q [.ref a, .ref b] H2) → tr σ H1 Q) (hs : SqL K H a xs) (hz : xs.length ≤ 40000) (hw : ∀ x y, wipe (((wipe σ vs).set i (some x)).set j (some y)) vs = wipe σ vs)
    (he : ∀ (n : Nat) x y, xs[n]? = some x → ys[n]? = some y → ∀ H1, Ex H H1 → Ev te (((wipe σ vs).set i (some x)).set j (some y)) H1 (f x y)) :
    EvL (tLc (iZip K tr) (gTup K 2 (gCons (gName i) (gCons (gName j) gNil))) tYes te vs) σ H ((xs.zip ys).map fun p => f p.1 p.2) := by
  intro H0 e Q q
  refine h H0 e _ fun b H1 e1 hb => ⟨a, b, xs, ys, rfl, ex_l (e.trans e1) hs, sq_of hb, ?_⟩
  intro Dl hD
  have zl : (xs.zip ys).length = min xs.length ys.length := List.length_zip
  refine ⟨fun n m H' => m = (xs.zip ys).length - n ∧ n ≤ (xs.zip ys).length ∧ Ex H1 H' ∧ H' Dl = some (.lst (((xs.zip ys).take n).map fun p => f p.1 p.2)), ⟨(xs.zip ys).length, rfl, Nat.zero_le _, Ex.new hD, upd_same⟩, ?_⟩
  rintro n m H' ⟨rfl, hi, ex, hl⟩
  have sa := ex_l ((e.trans e1).trans ex) hs
  have sb : SqL K H' b ys := sq_of (ex _ _ hb)
  by_cases hlt : n < (xs.zip ys).length
  · obtain ⟨x, hx⟩ : ∃ x, xs[n]? = some x := ⟨_, List.getElem?_eq_getElem (by omega)⟩
    obtain ⟨y, hy⟩ : ∃ y, ys[n]? = some y := ⟨_, List.getElem?_eq_getElem (by omega)⟩
    refine .inr ⟨⟨xs, ys, x, y, sa, sb, hx, hy⟩, fun H'' => Ex H1 H'' ∧ H'' Dl = some (.lst (((xs.zip ys).take (n + 1)).map fun p => f p.1 p.2)), fun H'' ⟨a, b⟩ => ⟨(xs.zip ys).length - (n + 1), by omega, rfl, hlt, a, b⟩, ?_⟩
    rintro v H'' ⟨A, x', y', rfl, hA, rfl, h1, h2⟩
    have ex1 := h1 xs sa
    have ey1 := h2 ys sb
    rw [hx] at ex1
    rw [hy] at ey1
    cases ex1
    cases ey1
    have eA : Ex H' (upd H' A (.tup [x, y])) := Ex.new hA
    refine g2 rfl (st_of upd_same) ⟨hw _ _, ?_⟩
    show te _ _ _
    have tk : (xs.zip ys).take (n + 1) = (xs.zip ys).take n ++ [(x, y)] := by
      rw [List.take_add_one, (List.getElem?_zip_eq_some (z := (x, y))).mpr ⟨hx, hy⟩]; rfl
    refine he n x y hx hy _ ((e.trans e1).trans (ex.trans eA)) _ (Ex.refl _) _ fun H4 e4 => ⟨_, e4 _ _ (eA _ _ hl), sz_lt ?_, Ex.mut ((ex.trans eA).trans e4) hD, ?_⟩
    · rw [List.length_map, List.length_take]; omega
    · rw [upd_same, tk, List.map_append]; rfl
  · refine .inl ⟨⟨xs, ys, sa, sb, ?_⟩, q Dl H' (fresh_back e1 hD) (e1.trans ex) ?_⟩
    · omega
    · rw [hl, List.take_of_length_le (by omega)]
theorem rc_all {p : Addr} {bs : List Bool} (h : SqL K H p (bs.map V.bl)) : RC (rAll K) [.ref p] H (.bl (bs.all id)) := fun H1 e _ q => ⟨p, bs, rfl, ex_l e h, q H1 (Ex.refl H1)⟩
end
/-! ### type(x), dicts too -/
inductive Ty7 (H : Hp) : V → String → Prop
  | base {x : V} {T : String} (h : Ty6 H x T) : Ty7 H x T
  | dct {a : Addr} {kvs : List (Key × V)} (h : H a = some (.dK kvs)) : Ty7 H (.ref a) "dict"
theorem Ty7.mono {H H' : Hp} {x : V} {T : String} (e : Ex H H') (h : Ty7 H x T) : Ty7 H' x T := by
  cases h with
  | base h => exact .base (Ty6.mono e h)
  | dct h => exact .dct (e _ _ h)
def rTy7 : List V → Hp → VK → Prop := fun xs H Q => ∃ (x : V) (T : String), xs = [x] ∧ Ty7 H x T ∧ Q (.ty T) H
theorem call_type7 {X : Cx} : CallR X (.type "type") rTy7 := by
  intro pz s σ H xs us Q I r h
  obtain ⟨x, T, rfl, t, q⟩ := h
  cases t with
  | base t => exact call_type6 pz s σ H [x] us Q I r ⟨x, T, rfl, t, q⟩
  | dct t =>
    obtain ⟨u, rfl, rX⟩ := vals1 r
    cases rX
    obtain ⟨z, hd, vs, rel, dd⟩ := dk_of I.hok t
    exact call_type_of dd.typeIs (by decide +kernel) ⟨.ty _, H, I, rfl, q⟩
theorem rc_type7 {x : V} {T : String} {H : Hp} (h : Ty7 H x T) : RC rTy7 [x] H (.ty T) := fun H1 e _ q => ⟨x, T, rfl, h.mono e, q H1 (Ex.refl H1)⟩
/-- a value whose type is known -/
def Kn (H : Hp) (x : V) (T : String) : Prop := Ty7 H x T ∧ ∀ s' : Shared, s'.TypeIs (.type T) "type"
theorem Kn.mono {H H' : Hp} {x : V} {T : String} (e : Ex H H') (h : Kn H x T) : Kn H' x T := ⟨h.1.mono e, h.2⟩
theorem kn_int {H : Hp} {i : Int} : Kn H (.int i) "int" := ⟨.base (.base (.int i)), fun _ => rfl⟩
theorem kn_str {H : Hp} {z : Str} : Kn H (.str z) "str" := ⟨.base (.base (.str z)), fun _ => rfl⟩
theorem kn_non {H : Hp} : Kn H .non "NoneType" := ⟨.base .non, fun _ => rfl⟩
theorem kn_bl {H : Hp} {b : Bool} : Kn H (.bl b) "bool" := ⟨.base (.bl b), fun _ => rfl⟩
theorem kn_lst {H : Hp} {a : Addr} {xs : List V} (h : H a = some (.lst xs)) : Kn H (.ref a) "list" := ⟨.base (.base (.lst h)), fun _ => rfl⟩
theorem kn_tup {H : Hp} {a : Addr} {xs : List V} (h : H a = some (.tup xs)) : Kn H (.ref a) "tuple" := ⟨.base (.base (.tup h)), fun _ => rfl⟩
theorem kn_dct {H : Hp} {a : Addr} {kvs : List (Key × V)} (h : H a = some (.dK kvs)) : Kn H (.ref a) "dict" := ⟨.dct h, fun _ => rfl⟩
end Gw

/-! ## R17 -/
/-! type(x) != T -/
namespace PySem.TypeEq
open Sem (wp)
theorem slot_type_ne' : Slot "type" (cmpInfo .NotEq).2.1 "object.__ne__" :=
  .of (owner := "object") (n := "__ne__") (by rw [typeLookup_type, builtinLookup_eq_fast]; kernel_rfl) (by decide +kernel) (by decide +kernel) (by decide +kernel)
    (by first | exact .inl (by decide +kernel) | exact .inr (by decide +kernel)) (by rw [isSubtype_type]; kernel_rfl)
theorem slot_type_ne_refl' : Slot "type" (cmpInfo .NotEq).2.2 "object.__ne__" :=
  .of (owner := "object") (n := "__ne__") (by rw [typeLookup_type, builtinLookup_eq_fast]; kernel_rfl) (by decide +kernel) (by decide +kernel) (by decide +kernel)
    (by first | exact .inl (by decide +kernel) | exact .inr (by decide +kernel)) (by rw [isSubtype_type]; kernel_rfl)
section
variable {prog : Program} {w : World} {A : Around} {E : Value → Shared → Prop} {s : Shared}
theorem ne_tree_same {X : String} (hX : ∀ s' : Shared, s'.TypeIs (.type X) "type") {Q : Fin → Shared → Prop} (hq : Q (.done (.ret (.bool false))) s) :
    wpAny (model prog w) A (Builtin.«object.__ne__» ⟨[.type X, .type X], []⟩) Q E s := by
  unfold Builtin.«object.__ne__»
  refine wpAny_bind (m := slotArgs "__ne__" 1 _) (wpAny_pure ?_)
  try dsimp only
  refine wpAny_bind (wpAny_cRoomFor_or (.inl rfl) ?_)
  refine wpAny_bind (m := callSpecialIfBound? (.type X) (Str.ofString "__eq__") [.type X]) (wpAny_callSpecialIfBound?_slot (hX s) slot_type_eq
    (call_gives slot_type_eq (hX s) F.entry_object_eq (F.args_object_eq_2 _ _) (object_eq_same rfl (by simp)) ?_))
  try dsimp only
  refine wpAny_bind (wpAny_truthy_bool ?_)
  exact wpAny_pure hq
theorem ne_tree_other {X Y : String} (hX : ∀ s' : Shared, s'.TypeIs (.type X) "type") (hne : (Value.type X == Value.type Y) = false) {Q : Fin → Shared → Prop} (hq : Q (.done (.ret .notImplemented)) s) :
    wpAny (model prog w) A (Builtin.«object.__ne__» ⟨[.type X, .type Y], []⟩) Q E s := by
  unfold Builtin.«object.__ne__»
  refine wpAny_bind (m := slotArgs "__ne__" 1 _) (wpAny_pure ?_)
  try dsimp only
  refine wpAny_bind (wpAny_cRoomFor_or (.inl rfl) ?_)
  refine wpAny_bind (m := callSpecialIfBound? (.type X) (Str.ofString "__eq__") [.type Y]) (wpAny_callSpecialIfBound?_slot (hX s) slot_type_eq
    (call_gives slot_type_eq (hX s) F.entry_object_eq (F.args_object_eq_2 _ _) (object_eq_other rfl hne) ?_))
  exact wpAny_pure hq
theorem ne_type_same {X : String} {Q : Value → Shared → Prop} (hX : ∀ s' : Shared, s'.TypeIs (.type X) "type") (h : Q (.bool false) s) : wpAny (model prog w) A (compareOp .NotEq (.type X) (.type X)) Q E s := by
  show wpAny _ A (richCompare .NotEq _ _) Q E s
  exact wpAny_richCompare_same (T := "type") (hX s) (hX s) slot_type_ne'
    (wpAny_call_entry slot_type_ne' (hX s) F.entry_object_ne (ne_tree_same hX ⟨_, rfl, (by intro e; cases e), h⟩) (F.args_object_ne_2 _ _))
theorem ne_type_other {X Y : String} {Q : Value → Shared → Prop} (hX : ∀ s' : Shared, s'.TypeIs (.type X) "type") (hY : ∀ s' : Shared, s'.TypeIs (.type Y) "type") (hne : (Value.type X == Value.type Y) = false) (h : Q (.bool true) s) : wpAny (model prog w) A (compareOp .NotEq (.type X) (.type Y)) Q E s := by
  have hne' : (Value.type Y == Value.type X) = false := by
    rw [Bool.eq_false_iff] at hne ⊢
    intro e
    exact hne (by rw [beq_iff_eq] at e ⊢; exact e.symm)
  show wpAny _ A (richCompare .NotEq _ _) Q E s
  have h1 := slot_type_ne'
  have h2 := slot_type_ne_refl'
  rcases hi : cmpInfo CmpOp.NotEq with ⟨sym, f, r⟩
  rw [hi] at h1 h2
  simp only [richCompare, hi, (hX s).oneThing_none]
  try with_reducible refine wpAny_holding ?_
  refine wpAny_bind (wpAny_cRoomFor_or (.inl rfl) ?_)
  refine wpAny_bind (wpAny_typeOf (hX s) (wpAny_bind (wpAny_typeOf (hY s) ?_)))
  simp only [bne_self_eq_false, Bool.false_eq_true, if_false, pure_bind, Bool.not_false, if_true]
  refine wpAny_bind (m := tryCompare (.type X) _ (.type Y)) (wpAny_tryCompare_declines (hX s) h1
    (wpAny_call_entry h1 (hX s) F.entry_object_ne (ne_tree_other hX hne ⟨_, rfl, rfl, ?_⟩) (F.args_object_ne_2 _ _)))
  refine wpAny_bind (m := tryCompare (.type Y) _ (.type X)) (wpAny_tryCompare_declines (hY s) h2
    (wpAny_call_entry h2 (hY s) F.entry_object_ne (ne_tree_other hY hne' ⟨_, rfl, rfl, ?_⟩) (F.args_object_ne_2 _ _)))
  refine wpAny_bind (wpAny_rule (wpAny_bind (wpAny_of_eq (isSame_plain rfl) (wpAny_pure ?_))))
  rw [hne]; exact h
end
end PySem.TypeEq
namespace Gw
open PySem PySem.Spec PyProof.Rows L2 Evl
def rNeTy : R2 := fun x y H Q => ∃ a b, x = .ty a ∧ y = .ty b ∧ (∀ s' : Shared, s'.TypeIs (.type a) "type") ∧ (∀ s' : Shared, s'.TypeIs (.type b) "type") ∧ Q (.bl (!decide (a = b))) H
theorem op_neTy {X : Cx} : OpR X (compareOp .NotEq) rNeTy := by
  intro pz s σ H x y v u Q I rX rY h
  obtain ⟨a, b, rfl, rfl, ha, hb, q⟩ := h
  cases (show v = Value.type a from rX)
  cases (show u = Value.type b from rY)
  by_cases e : a = b
  · subst e
    exact PySem.TypeEq.ne_type_same ha ⟨.bl false, H, I, rfl, by simpa using q⟩
  · refine PySem.TypeEq.ne_type_other ha hb ?_ ⟨.bl true, H, I, rfl, by simpa [e] using q⟩
    rw [Bool.eq_false_iff]
    intro z
    exact e (Value.type.inj (beq_iff_eq.mp z))
theorem rv_neTy {a b : String} {H : Hp} (ha : ∀ s' : Shared, s'.TypeIs (.type a) "type") (hb : ∀ s' : Shared, s'.TypeIs (.type b) "type") : RV rNeTy (.ty a) (.ty b) H (.bl (!decide (a = b))) := fun H1 _ _ q => ⟨a, b, rfl, rfl, ha, hb, q H1 (Ex.refl H1)⟩
theorem ty_str {H : Hp} {x : V} {T : String} (h : Ty7 H x T) (e : T = "str") : ∃ z, x = .str z := by
  cases h with
  | base h =>
    cases h with
    | non => exact absurd e (by decide)
    | bl b => exact absurd e (by decide)
    | base h =>
      cases h with
      | int i => exact absurd e (by decide)
      | str z => exact ⟨z, rfl⟩
      | lst _ => exact absurd e (by decide)
      | tup _ => exact absurd e (by decide)
  | dct _ => exact absurd e (by decide)
theorem ty_int {H : Hp} {x : V} {T : String} (h : Ty7 H x T) (e : T = "int") : ∃ z, x = .int z := by
  cases h with
  | base h =>
    cases h with
    | non => exact absurd e (by decide)
    | bl b => exact absurd e (by decide)
    | base h =>
      cases h with
      | int i => exact ⟨i, rfl⟩
      | str z => exact absurd e (by decide)
      | lst _ => exact absurd e (by decide)
      | tup _ => exact absurd e (by decide)
  | dct _ => exact absurd e (by decide)
theorem ty_of_str {H : Hp} {z : Str} {T : String} (h : Ty7 H (.str z) T) : T = "str" := by
  cases h with | base h => cases h with | base h => cases h with | str z => rfl
theorem ty_of_int {H : Hp} {z : Int} {T : String} (h : Ty7 H (.int z) T) : T = "int" := by
  cases h with | base h => cases h with | base h => cases h with | int z => rfl
end Gw
namespace L2
theorem Room.units65 {k : Nat} {A : PySem.Around} (r : L2.Room k A) : A.units + 65 < PySem.cLine := by have := r.un; omega
end L2

/-! ## R18 -/
namespace Gw
open PySem PySem.Spec PyProof.Rows L2 Evl SS
/-! ### set(xs), xs a list of texts -/
theorem foldS_len (xs : List Str) : ∀ l : List Str, (xs.foldl addS l).length ≤ l.length + xs.length := by
  induction xs with
  | nil => intro l; exact Nat.le_refl _
  | cons x xs ih =>
    intro l
    have := ih (addS l x)
    have h : (addS l x).length ≤ l.length + 1 := by unfold addS; split <;> simp
    rw [List.foldl_cons, List.length_cons]; omega
section
variable {prog : Program} {w : World} {A : Around} {R : Result → Shared → Prop} {I : Addr} {fp wr : List Addr} {G : Array GenState → Array GenState → Prop} {n : Nat} {P : Nat → Value → Prop} {St : Nat → Shared → Prop}
theorem loopTxt (W : WalksS prog w A.in1 I fp wr G n P St) (S : Addr) (hSf : S ∉ fp) (xs : List Str) (hsz : xs.length = n) (hn1 : n ≤ 4000)
    (hval : ∀ i v, P i v → ∃ t, v = .str (xs.getD i Str.empty) t) :
    ∀ (k i : Nat) (s : Shared), n - i = k → i ≤ n → St i s → SetS prog w s.heap S ((xs.take i).foldl addS []) →
      (∀ s', Moved (S :: wr) G s s' → SetS prog w s'.heap S (xs.foldl addS []) → R (.ok (.ret .none)) s') →
      codeAny (model prog w) A (.builtin "set.update.loop" ⟨[.ref S, .ref I], []⟩) R s := by
  have hSw : S ∉ wr := fun h => hSf (W.sub _ h)
  have hsub : ∀ b ∈ wr, b ∈ S :: wr := fun b hb => List.mem_cons_of_mem _ hb
  intro k
  induction k with
  | zero =>
    intro i s hk hi hst hS hR
    have hin : i = n := by omega
    subst hin
    refine codeAny_builtin PyProof.Rows.F.entry_set_update_loop ?_
    rw [Around.under_plainId PyProof.Rows.F.plain_set_update_loop _]
    show wpAny _ A.in1 (pyNext (.ref I) >>= _) _ _ s
    refine wpAny_bind (W.done s _ _ hst fun s' hm => ?_)
    show wpAny _ A.in1 (ret Value.none) _ _ s'
    rw [← hsz, List.take_length] at hS
    exact wpAny_pure (hR s' (hm.mono hsub) (hS.at fun o e => hm.heap S _ hSw e))
  | succ k ih =>
    intro i s hk hi hst hS hR
    have hlt : i < n := by omega
    refine codeAny_builtin PyProof.Rows.F.entry_set_update_loop ?_
    rw [Around.under_plainId PyProof.Rows.F.plain_set_update_loop _]
    show wpAny _ A.in1 (pyNext (.ref I) >>= _) _ _ s
    refine wpAny_bind (W.item i s _ _ hlt hst fun v s' hP hst' hm => ?_)
    obtain ⟨t, rfl⟩ := hval i v hP
    have hS' : SetS prog w s'.heap S ((xs.take i).foldl addS []) := hS.at fun o e => hm.heap S _ hSw e
    have tk : (xs.take (i + 1)).foldl addS [] = addS ((xs.take i).foldl addS []) (xs.getD i Str.empty) := by
      rw [List.take_add_one, List.getElem?_eq_getElem (by omega), List.foldl_append, List.getD_eq_getElem?_getD, List.getElem?_eq_getElem (by omega)]; rfl
    have ln := foldS_len (xs.take i) []
    rw [List.length_take] at ln
    show wpAny _ A.in1 (holding [Value.str (xs.getD i Str.empty) t] (setAdd S (.str (xs.getD i Str.empty) t)) >>= _) _ _ s'
    refine wpAny_bind (wpAny_holding ?_)
    unfold setAdd
    refine wpAny_holding ?_
    refine wpAny_bind ((PySem.strKind prog w).pyHash (k := xs.getD i Str.empty) (strKind_is _ _ _ _) ?_)
    refine setS_hashed (s := { s' with toks := s'.toks + 1 }) hS' (by unfold scanBound; simp at ln; omega) fun b h' hsb hS2 => ?_
    rw [← tk] at hS2
    refine wpAny_pure ⟨plainId_quiet PyProof.Rows.F.plain_set_update_loop _, ih (i + 1) _ (by omega) hlt (W.frame _ s' _ _ hst' (Nat.le_succ _) fun b hb o e => ?_) hS2 fun s'' hm'' hS'' => ?_⟩
    · rw [hsb.2 b (fun h : b = S => hSf (by rw [← h]; exact hb))]; exact e
    · refine hR s'' (Moved.trans W.gtrans ((hm.mono hsub).then_heap (Nat.le_succ _) fun b o hb e => ?_) hm'') hS''
      rw [hsb.2 b (fun h : b = S => hb (by rw [h]; exact List.mem_cons_self))]; exact e
end
section
variable {P : Program} {w : World} {A : Around} {E : Value → Shared → Prop} {s : Shared}
theorem call_set_texts {l : Addr} {items : Array Value} {xs : List Str} {Q : Value → Shared → Prop}
    (hh : A.handled = none) (hl : s.heap.IsList l items) (hi : PyProof.Rows.StrsAre items.toList xs) (hn1 : xs.length ≤ 4000)
    (h : ∀ (h' : Heap) (tk : Nat), SetS P w h' s.heap.objs.size (xs.foldl addS []) → (∀ b o, s.heap.get? b = some o → h'.get? b = some o) → Q (.ref s.heap.objs.size) { s with heap := h', toks := tk }) :
    wpAny (model P w) A (call (.type "set") [.ref l]) Q E s := by
  have hsz : xs.length = items.size := by rw [← StrsAre.len_eq hi, Array.length_toList]
  obtain ⟨c, tl, hmro⟩ := PySem.F.called_set.mro
  have hmade := PySem.F.called_set.made
  have hsub := PySem.F.called_set.sub
  refine wpAny_call (codeAny_of_tree ?_)
  show wpAny _ _ (callAny (.type "set") _) _ _ _
  refine wpAny_pure ⟨Code.quiet_builtin _ (by decide +kernel), codeAny_builtin PySem.F.entry_type_call ?_⟩
  rw [Around.under_plain (weight_type_call_type "set" [.ref l] []) rfl]
  have h1 := PySem.F.called_set.notType
  have h2 := PySem.F.called_set.canCreate
  have hct := PySem.F.typeCall_set_1 (.ref l)
  repeat (any_goals (first | assumption | wp_step))

  refine codeAny_mono (code_set_led1 (.ref l) (E := E) (Q₁ := fun obj s₁ => obj = .ref s.heap.objs.size ∧ s₁ = { s with heap := s.heap.push { cls := .type "set", dict := none, data := .set #[] 0 (.fresh 0 0 (!w.params.followText "set-order")) } }) ⟨rfl, rfl⟩) fun r s₁ hr => ?_
  cases r with
  | error e => exact hr
  | ok fl =>
    cases fl with
    | ret obj =>
      obtain ⟨rfl, rfl⟩ := hr
      have hS : (s.heap.push { cls := .type "set", dict := none, data := .set #[] 0 (.fresh 0 0 (!w.params.followText "set-order")) }).get? s.heap.objs.size = some { cls := .type "set", dict := none, data := .set #[] 0 (.fresh 0 0 (!w.params.followText "set-order")) } := Heap.get?_push_size _ rfl
      have hT : Shared.TypeIs { s with heap := s.heap.push { cls := .type "set", dict := none, data := .set #[] 0 (.fresh 0 0 (!w.params.followText "set-order")) } } (.ref s.heap.objs.size) "set" := ⟨_, hS, rfl⟩
      have hli := PySem.F.called_set.init.lookup
      have hbi := PySem.F.called_set.init.bind (.ref s.heap.objs.size)
      repeat (any_goals (first | assumption | wp_step))

      refine codeAny_mono (codeAny_call_builtin (R := wants (fun r s₂ => r = .none ∧ ∃ h' tk, s₂ = { s with heap := h', toks := tk } ∧ SetS P w h' s.heap.objs.size (xs.foldl addS []) ∧
          (∀ b o, s.heap.get? b = some o → h'.get? b = some o)) E) PySem.F.called_set.init.plain PySem.F.entry_set_init (check_set_init_1 hT ?_)) fun r₂ s₂ hr₂ => ?_
      · obtain ⟨ol, hol, hcl, nl, hdl⟩ := hl
        obtain ⟨ocls, odict, odata, oslots⟩ := ol
        simp only at hcl hdl
        subst hcl; subst hdl
        have hol' : (s.heap.push { cls := .type "set", dict := none, data := .set #[] 0 (.fresh 0 0 (!w.params.followText "set-order")) }).get? l = some { cls := .type "list", dict := odict, data := .seq items nl, slots := oslots } := Heap.get?_push_of_some _ hol
        have hsls := PySem.F.sub_list_set
        have hslf := PySem.F.sub_list_frozenset
        have hne : (Value.type "list" == Value.type "dict") = false := by decide
        have hl1 : (s.heap.push { cls := .type "set", dict := none, data := .set #[] 0 (.fresh 0 0 (!w.params.followText "set-order")) }).IsList l items := ⟨_, hol', rfl, nl, rfl⟩
        unfold Builtin.«set.__init__» noKeywords Builtin.Frozenset.updateFrom
        generalize hPI : pyIter = PI
        wp_walk
        subst hPI

        refine wpAny_pyIter_list hl1 ?_
        refine wpAny_bind (wpAny_runValue ?_)
        have hlS : l < s.heap.objs.size := Heap.lt_size hol
        have hh3 : A.in1.in1.in1.handled = none := by simp [hh]
        have hneI : l ≠ (s.heap.push { cls := .type "set", dict := none, data := .set #[] 0 (.fresh 0 0 (!w.params.followText "set-order")) }).objs.size := by
          rw [Heap.size_push]; exact Nat.ne_of_lt (Nat.lt_succ_of_lt hlS)
        have hSf : s.heap.objs.size ∉ [(s.heap.push { cls := .type "set", dict := none, data := .set #[] 0 (.fresh 0 0 (!w.params.followText "set-order")) }).objs.size, l] := by
          rw [Heap.size_push]; simp only [List.mem_cons, List.mem_singleton, List.not_mem_nil, or_false, not_or]
          exact ⟨Nat.ne_of_lt (Nat.lt_succ_self _), Nat.ne_of_gt hlS⟩
        have hval : ∀ (i : Nat) (v : Value), items[i]? = some v → ∃ t, v = .str (xs.getD i Str.empty) t := fun i v hv => strs_at hi i v (by rw [Array.getElem?_toList]; exact hv)
        refine loopTxt ((Walks.list hh3 _ l hneI items).toS) s.heap.objs.size
          hSf xs hsz (by omega) hval (items.size - 0) 0 _ (by omega) (Nat.zero_le _)
          ⟨⟨_, Heap.get?_push_size _ rfl, rfl, rfl⟩, (hl1.push _)⟩ ?hS0 ?hR
        case hS0 => exact (setS_fresh w).at fun o e => Heap.get?_push_of_some _ e
        case hR =>
          intro s' hm hS'
          obtain ⟨h', g', d', tk', os'⟩ := s'
          have eg : g' = s.gens := hm.gens
          have ed : d' = s.drawn := hm.drawn
          have eo : os' = s.os := hm.os
          subst eg; subst ed; subst eo
          show wpAny _ _ _ _ _ _
          refine wpAny_pure ?_
          show wpAny _ _ (ret Value.none) _ _ _
          refine wpAny_pure ⟨rfl, h', tk', rfl, hS', fun b o e => ?_⟩
          have hb := Heap.lt_size e
          have hb1 : b ≠ s.heap.objs.size := Nat.ne_of_lt hb
          have hb2 : b ≠ (s.heap.push { cls := .type "set", dict := none, data := .set #[] 0 (.fresh 0 0 (!w.params.followText "set-order")) }).objs.size := by
            rw [Heap.size_push]; exact Nat.ne_of_lt (Nat.lt_succ_of_lt hb)
          exact hm.heap b o (by simp only [List.mem_cons, List.mem_singleton, List.not_mem_nil, or_false, not_or]; exact ⟨hb1, hb2⟩) (Heap.get?_push_of_some _ (Heap.get?_push_of_some _ e))

      · cases r₂ with
        | error e => exact hr₂
        | ok fl₂ =>
          cases fl₂ with
          | ret r =>
            obtain ⟨rfl, h', tk, rfl, hS', hk'⟩ := hr₂
            repeat (any_goals (first | assumption | wp_step))
            exact h _ _ hS' hk'
          | _ => exact hr₂.elim
    | _ => exact hr.elim
end
def rSetOfS (K : PySem.W.Frag) (P : Program) (w : World) : List V → Hp → VK → Prop := fun xs H Q => ∃ (l : Addr) (ys : List Str), xs = [V.ref l] ∧ SqL K H l (ys.map V.str) ∧ ys.length ≤ 4000 ∧
  ∀ a, H a = none → Q (.ref a) (upd H a (SetSO P w a (ys.foldl addS [])))
theorem cr_setOfS {X : Cx} (hc : X.calm = true) : CallR X (.type "set") (rSetOfS X.K X.prog X.w) := by
  intro pins s σ H xs us Q I r h
  obtain ⟨l, ys, rfl, hl, hz, q⟩ := h
  rw [Vals.ref1 r]
  obtain ⟨its, rv, pl, hz2⟩ := I.list hl
  refine call_set_texts (P := X.prog) (w := X.w) (I.ok.hd hc) pl.isList (by simpa using strsAre_of rv) hz fun h' tk R k => ?_
  exact ⟨.ref s.heap.objs.size, upd H s.heap.objs.size (SetSO X.prog X.w s.heap.objs.size (ys.foldl addS [])), I.laid (t' := tk) k (Nat.le_refl _) (setSO_new R), rfl, q _ (I.hok.fresh (Nat.le_refl _))⟩
end Gw

/-! ## R19 -/
namespace Gw
open PySem PySem.Spec PyProof.Rows L2 Evl SS
/-! ### set(text): its letters -/
section
variable {P : Program} {w : World} {A : Around} {E : Value → Shared → Prop} {s : Shared}
theorem call_set_text {z : Str} {tz : Tok} {xs : List Str} {Q : Value → Shared → Prop}
    (hh : A.handled = none) (hx : xs = z.cps.toList.map fun c => (⟨#[c]⟩ : Str)) (hn1 : xs.length ≤ 4000)
    (h : ∀ (h' : Heap) (tk : Nat), SetS P w h' s.heap.objs.size (xs.foldl addS []) → (∀ b o, s.heap.get? b = some o → h'.get? b = some o) → Q (.ref s.heap.objs.size) { s with heap := h', toks := tk }) :
    wpAny (model P w) A (call (.type "set") [.str z tz]) Q E s := by
  have hsz : xs.length = z.cps.size := by rw [hx, List.length_map, Array.length_toList]
  obtain ⟨c, tl, hmro⟩ := PySem.F.called_set.mro
  have hmade := PySem.F.called_set.made
  have hsub := PySem.F.called_set.sub
  refine wpAny_call (codeAny_of_tree ?_)
  show wpAny _ _ (callAny (.type "set") _) _ _ _
  refine wpAny_pure ⟨Code.quiet_builtin _ (by decide +kernel), codeAny_builtin PySem.F.entry_type_call ?_⟩
  rw [Around.under_plain (weight_type_call_type "set" [.str z tz] []) rfl]
  have h1 := PySem.F.called_set.notType
  have h2 := PySem.F.called_set.canCreate
  have hct := PySem.F.typeCall_set_1 (.str z tz)
  repeat (any_goals (first | assumption | wp_step))

  refine codeAny_mono (code_set_led1 (.str z tz) (E := E) (Q₁ := fun obj s₁ => obj = .ref s.heap.objs.size ∧ s₁ = { s with heap := s.heap.push { cls := .type "set", dict := none, data := .set #[] 0 (.fresh 0 0 (!w.params.followText "set-order")) } }) ⟨rfl, rfl⟩) fun r s₁ hr => ?_
  cases r with
  | error e => exact hr
  | ok fl =>
    cases fl with
    | ret obj =>
      obtain ⟨rfl, rfl⟩ := hr
      have hS : (s.heap.push { cls := .type "set", dict := none, data := .set #[] 0 (.fresh 0 0 (!w.params.followText "set-order")) }).get? s.heap.objs.size = some { cls := .type "set", dict := none, data := .set #[] 0 (.fresh 0 0 (!w.params.followText "set-order")) } := Heap.get?_push_size _ rfl
      have hT : Shared.TypeIs { s with heap := s.heap.push { cls := .type "set", dict := none, data := .set #[] 0 (.fresh 0 0 (!w.params.followText "set-order")) } } (.ref s.heap.objs.size) "set" := ⟨_, hS, rfl⟩
      have hli := PySem.F.called_set.init.lookup
      have hbi := PySem.F.called_set.init.bind (.ref s.heap.objs.size)
      repeat (any_goals (first | assumption | wp_step))

      refine codeAny_mono (codeAny_call_builtin (R := wants (fun r s₂ => r = .none ∧ ∃ h' tk, s₂ = { s with heap := h', toks := tk } ∧ SetS P w h' s.heap.objs.size (xs.foldl addS []) ∧
          (∀ b o, s.heap.get? b = some o → h'.get? b = some o)) E) PySem.F.called_set.init.plain PySem.F.entry_set_init (check_set_init_1 hT ?_)) fun r₂ s₂ hr₂ => ?_
      · have hsls := PySem.F.sub_str_set
        have hslf := PySem.F.sub_str_frozenset
        have hne : (Value.type "str" == Value.type "dict") = false := by decide
        unfold Builtin.«set.__init__» noKeywords Builtin.Frozenset.updateFrom
        generalize hPI : pyIter = PI
        wp_walk
        subst hPI

        refine PySem.wpAny_pyIter_str fun oI St hW hst => ?_
        refine wpAny_bind (wpAny_runValue ?_)
        have hh3 : A.in1.in1.in1.handled = none := by simp [hh]
        have hSf : s.heap.objs.size ∉ [(s.heap.push { cls := .type "set", dict := none, data := .set #[] 0 (.fresh 0 0 (!w.params.followText "set-order")) }).objs.size] := by
          rw [Heap.size_push]; simp only [List.mem_singleton]
          exact Nat.ne_of_lt (Nat.lt_succ_self _)
        have hval : ∀ (i : Nat) (v : Value), SignAt z i v → ∃ t, v = .str (xs.getD i Str.empty) t := fun i v hv => by
          obtain ⟨c, u, hc, rfl⟩ := hv
          refine ⟨u, ?_⟩
          rw [hx, List.getD_eq_getElem?_getD, List.getElem?_map, Array.getElem?_toList, hc]; rfl
        refine loopTxt ((hW _ hh3).toS) s.heap.objs.size
          hSf xs hsz (by omega) hval (z.cps.size - 0) 0 _ (by omega) (Nat.zero_le _)
          hst ?hS0 ?hR
        case hS0 => exact (setS_fresh w).at fun o e => Heap.get?_push_of_some _ e
        case hR =>
          intro s' hm hS'
          obtain ⟨h', g', d', tk', os'⟩ := s'
          have eg : g' = s.gens := hm.gens
          have ed : d' = s.drawn := hm.drawn
          have eo : os' = s.os := hm.os
          subst eg; subst ed; subst eo
          show wpAny _ _ _ _ _ _
          refine wpAny_pure ?_
          show wpAny _ _ (ret Value.none) _ _ _
          refine wpAny_pure ⟨rfl, h', tk', rfl, hS', fun b o e => ?_⟩
          have hb := Heap.lt_size e
          have hb1 : b ≠ s.heap.objs.size := Nat.ne_of_lt hb
          have hb2 : b ≠ (s.heap.push { cls := .type "set", dict := none, data := .set #[] 0 (.fresh 0 0 (!w.params.followText "set-order")) }).objs.size := by
            rw [Heap.size_push]; exact Nat.ne_of_lt (Nat.lt_succ_of_lt hb)
          exact hm.heap b o (by simp only [List.mem_cons, List.mem_singleton, List.not_mem_nil, or_false, not_or]; exact ⟨hb1, hb2⟩) (Heap.get?_push_of_some _ (Heap.get?_push_of_some _ e))

      · cases r₂ with
        | error e => exact hr₂
        | ok fl₂ =>
          cases fl₂ with
          | ret r =>
            obtain ⟨rfl, h', tk, rfl, hS', hk'⟩ := hr₂
            repeat (any_goals (first | assumption | wp_step))
            exact h _ _ hS' hk'
          | _ => exact hr₂.elim
    | _ => exact hr.elim
end
def rSetOfT (P : Program) (w : World) : List V → Hp → VK → Prop := fun xs H Q => ∃ z : Str, xs = [V.str z] ∧ z.cps.size ≤ 4000 ∧
  ∀ a, H a = none → Q (.ref a) (upd H a (SetSO P w a ((z.cps.toList.map fun c => (⟨#[c]⟩ : Str)).foldl addS [])))
theorem cr_setOfT {X : Cx} (hc : X.calm = true) : CallR X (.type "set") (rSetOfT X.prog X.w) := by
  intro pins s σ H xs us Q I r h
  obtain ⟨z, rfl, hz, q⟩ := h
  cases r with
  | cons r1 r2 =>
    cases r2
    obtain ⟨tz, rfl⟩ := r1
    refine call_set_text (P := X.prog) (w := X.w) (I.ok.hd hc) rfl (by rw [List.length_map, Array.length_toList]; exact hz) fun h' tk R k => ?_
    exact ⟨.ref s.heap.objs.size, upd H s.heap.objs.size (SetSO X.prog X.w s.heap.objs.size ((z.cps.toList.map fun c => (⟨#[c]⟩ : Str)).foldl addS [])), I.laid (t' := tk) k (Nat.le_refl _) (setSO_new R), rfl, q _ (I.hok.fresh (Nat.le_refl _))⟩
end Gw

/-! ## R20 -/
namespace Gw
open PySem PySem.Spec PyProof.Rows L2 Evl SS
/-! ### len of a set of texts -/
def rLenSS (P : Program) (w : World) : List V → Hp → VK → Prop := fun xs H Q => ∃ (a : Addr) (l : List Str), xs = [V.ref a] ∧ H a = some (SetSO P w a l) ∧ l.length ≤ 100000 ∧ Q (.int (l.length : Nat)) H
theorem cr_lenSS {X : Cx} : CallR X (.builtin "len") (rLenSS X.prog X.w) := by
  intro pins s σ H xs us Q I r h
  obtain ⟨a, l, rfl, ha, hz, q⟩ := h
  rw [Vals.ref1 r]
  obtain ⟨D, ho, F, _⟩ := setSO_get I ha
  have hl := F.sz
  refine PySem.call_len_set ho ⟨rfl, rfl, rfl⟩ rfl F.fit (by rw [hl]; omega) ?_
  rw [hl]
  exact ⟨.int ((l.length : Nat) : Int), H, I.tok _, ⟨_, rfl⟩, q⟩
end Gw
namespace Gw
open PySem PySem.Spec PyProof.Rows L2 Evl
/-! ### a text some times over -/
def rMulS : R2 := fun x y H Q => ∃ (l : List Nat) (k : Nat), x = .str (S l) ∧ y = .int (k : Nat) ∧ k ≤ 1000 ∧ l.length ≤ 10000 ∧ Q (.str (S (List.replicate k l).flatten)) H
theorem foldl_app (l : List Nat) : ∀ (k : Nat) (a : Array Nat), (List.replicate k l.toArray).foldl (· ++ ·) a = a ++ (List.replicate k l).flatten.toArray
  | 0, a => by simp
  | k + 1, a => by
    rw [List.replicate_succ, List.foldl_cons, foldl_app l k, List.replicate_succ, List.flatten_cons]
    simp
theorem op_mulS {X : Cx} : OpR X (binaryOp .Mult) rMulS := by
  intro pins s σ H x y v u Q I rx ry h
  obtain ⟨l, k, rfl, rfl, hk, hl, q⟩ := h
  obtain ⟨t, rfl⟩ := rx
  obtain ⟨t', rfl⟩ := ry
  have ln : (S l).length = l.length := S_len l
  have le : l.length * k ≤ 10000 * 1000 := Nat.mul_le_mul hl hk
  refine PySem.P.mul_str (by rw [decide_eq_false (by omega), decide_eq_false (by omega)]; rfl) (fun h1 h2 => ?_) (fun h1 h2 => ?_) ?_
  · rw [ln]
    have : (10000000 : Int) ≤ (2 ^ 63 - 1) / (k : Int) := (Int.le_ediv_iff_mul_le (by omega)).mpr (by
      have : (10000000 : Int) * (k : Int) ≤ 10000000 * 1000 := Int.mul_le_mul_of_nonneg_left (by omega) (by omega)
      omega)
    omega
  · rw [ln]
    have e : ((k : Nat) : Int).toNat = k := by omega
    rw [e]
    show decide (l.length * k > sizeLine) = false
    rw [sizeLine_eq]
    exact decide_eq_false (by omega)
  · by_cases h0 : ((k : Nat) : Int) < 1
    · rw [if_pos h0]
      have : k = 0 := by omega
      subst this
      exact ⟨by decide, .str (S []), H, I.tok _, ⟨_, rfl⟩, q⟩
    · rw [if_neg h0]
      by_cases h1 : (((k : Nat) : Int) == 1 || (S l).length == 0) = true
      · rw [if_pos h1]
        have e : (List.replicate k l).flatten = l := by
          rw [Bool.or_eq_true] at h1
          rcases h1 with h1 | h1
          · have : k = 1 := by have := eq_of_beq h1; omega
            subst this; simp
          · have := eq_of_beq h1
            rw [ln] at this
            have : l = [] := List.eq_nil_of_length_eq_zero this
            subst this; simp
        rw [e] at q
        exact ⟨.str (S l), H, I, ⟨_, rfl⟩, q⟩
      · rw [if_neg h1]
        have e : ((k : Nat) : Int).toNat = k := by omega
        have e2 : (⟨(List.replicate ((k : Nat) : Int).toNat (S l).cps).foldl (· ++ ·) #[]⟩ : Str) = S (List.replicate k l).flatten := by
          rw [e]
          show (⟨(List.replicate k l.toArray).foldl (· ++ ·) #[]⟩ : Str) = _
          rw [foldl_app]
          simp [S]
        rw [e2]
        exact ⟨by
          show (S _).length ≤ sizeLine
          rw [S_len, PyProof.Rows.lm_len_rep_flat, sizeLine_eq, Nat.mul_comm]; omega, .str (S (List.replicate k l).flatten), H, I.tok _, ⟨_, rfl⟩, q⟩
end Gw
namespace Gw
open PySem PySem.Spec PyProof.Rows L2 Evl
/-! ### l.index(x) within a comprehension, x in a text, set and length there -/
section
variable {X : Cx} {s : Shared} {H : Hp} {sc : Scope} {en : Env} {fp : List Addr}
theorem mt_indexDB (hu : X.A.units + 65 < cLine) : MtR (X.blk s H sc en fp) "list.index" (rIndexD X.K) := mt_indexD hu
end
section
variable {K : PySem.W.Frag} {σ : L2.St} {H : Hp} {to te : TE}
theorem idxOf_le_of {x : Nat} : ∀ {l : List Nat} {m : Nat}, l[m]? = some x → l.idxOf x ≤ m
  | [], m, h => by simp at h
  | a :: l, 0, h => by
    have : a = x := Option.some.inj h
    subst this
    rw [List.idxOf_cons_self]; exact Nat.le_refl _
  | a :: l, m + 1, h => by
    have := idxOf_le_of (l := l) (m := m) h
    by_cases e : a = x
    · subst e; rw [List.idxOf_cons_self]; omega
    · have : (a :: l).idxOf x = l.idxOf x + 1 := by rw [List.idxOf_cons, show (a == x) = false from beq_false_of_ne e]; rfl
      omega
theorem nats_dp {l : List Nat} : DpAll K H (l.map fun i => V.int (i : Nat)) (l.map fun i => PyData.int (i : Nat)) := by
  induction l with
  | nil => exact .nil
  | cons a l ih => exact .cons (.int _) ih
theorem nats_lay : ∀ l : List Nat, PyData.canLayAll0 (l.map fun i => PyData.int (i : Nat)) = true ∧ PyData.depthAll (l.map fun i => PyData.int (i : Nat)) = 0
  | [] => ⟨rfl, rfl⟩
  | a :: l => by
    obtain ⟨h1, h2⟩ := nats_lay l
    refine ⟨?_, ?_⟩
    · show (true && PyData.canLayAll0 (l.map _)) = true
      rw [h1]; rfl
    · show max 0 (PyData.depthAll (l.map _)) = 0
      rw [h2]; rfl
/-- where a number stands in a list of such -/
theorem ev_index {a : Addr} {l : List Nat} {x : Nat} (h1 : Ev to σ H (.ref a)) (h2 : Ev te σ H (.int (x : Nat))) (hs : SqL K H a (l.map fun i => V.int (i : Nat))) (hx : x ∈ l) : Ev (tBM K "list" (rIndexD K) to (tCons te tNil)) σ H (.int (l.idxOf x : Nat)) := fun H1 e Q q =>
  h1 H1 e _ fun H2 e2 => ⟨Or.inl ⟨rfl, _, ex_l (e.trans e2) hs⟩, h2 H2 (e.trans e2) _ fun H3 e3 => by
    obtain ⟨c1, c2⟩ := nats_lay l
    have li := List.idxOf_lt_length_of_mem hx
    refine ⟨a, .int (x : Nat), .int (x : Nat), l.map fun i => PyData.int (i : Nat), l.idxOf x, .int (x : Nat), rfl, rfl, .lst (ex_l ((e.trans e2).trans e3) hs) nats_dp, .int _, ?_, rfl, ?_, ?_, fun m z hm hz => ?_, q H3 (e2.trans e3)⟩
    · show (PyData.canLayAll0 _ && decide (PyData.depthAll _ + 1 ≤ 64)) = true
      rw [c1, c2]; rfl
    · rw [List.getElem?_map, List.getElem?_eq_getElem li, List.getElem_idxOf]; rfl
    · show (((x : Nat) : Int) == ((x : Nat) : Int)) = true
      simp
    · rw [List.getElem?_map] at hz
      cases h : l[m]? with
      | none => rw [h] at hz; cases hz
      | some y =>
        rw [h] at hz
        cases hz
        have ne : y ≠ x := fun e => by
          subst e
          have := idxOf_le_of h
          omega
        show (((y : Nat) : Int) == ((x : Nat) : Int)) = false
        simp
        omega⟩
theorem in_sign_op {c : Nat} {l : List Nat} (h1 : Ev to σ H (sgn c)) (h2 : Ev te σ H (.str (S l))) : Ev (tOp (fun x y H Q => ∃ (c : Nat) (z : Str), x = .str ⟨#[c]⟩ ∧ y = .str z ∧ Q (.bl (decide (c ∈ z.cps.toList))) H) to te) σ H (.bl (decide (c ∈ l))) :=
  ev_op h1 h2 fun H1 e Q q => ⟨c, S l, rfl, rfl, by rw [S_cps]; exact q H1 (Ex.refl _)⟩
end
end Gw

/-! ## G1 -/
namespace Gw
open PySem PySem.Spec PyProof.Rows L2 Evl
/-! from Lw -/
/-! ### steps: a dict of lists by (room, letter) -/
def key (r c : Nat) : List Key := [.inl (r : Nat), .inr (S [c])]
theorem key_inj {r c r' c' : Nat} (h : key r c = key r' c') : r = r' ∧ c = c' := by
  unfold key at h
  injection h with h1 h2
  injection h2 with h2 _
  injection h1 with h1
  injection h2 with h2
  have := S_inj h2
  exact ⟨by omega, by simpa using this⟩
theorem key_v (r c : Nat) : (key r c).map kV = [.int (r : Nat), sgn c] := rfl
def nats (l : List Nat) : List V := l.map fun i => V.int (i : Nat)
theorem nats_len (l : List Nat) : (nats l).length = l.length := by unfold nats; simp
structure Sx (H0 H : Hp) (d : Addr) (n : Nat) (m : Nat → Nat → List Nat) : Prop where
  ex : ∃ kvs, H d = some (.dT kvs) ∧ kvs.length ≤ n ∧ (∀ r c, m r c = [] → valV kvs (key r c) = none) ∧
    (∀ r c, m r c ≠ [] → ∃ q, valV kvs (key r c) = some (.ref q) ∧ H q = some (.lst (nats (m r c))) ∧ H0 q = none ∧ ∀ r' c', valV kvs (key r' c') = some (.ref q) → r' = r ∧ c' = c) ∧
    (∀ kv ∈ kvs, ∃ r c, kv.1 = key r c ∧ m r c ≠ [])
  d0 : H0 d = none
  base : Ex H0 H
  len : ∀ r c, (m r c).length ≤ n
def mset (m : Nat → Nat → List Nat) (a x g : Nat) : Nat → Nat → List Nat := fun r c => if r = a ∧ c = x then m a x ++ [g] else m r c
theorem mset_at (m : Nat → Nat → List Nat) (a x g : Nat) : mset m a x g a x = m a x ++ [g] := if_pos ⟨rfl, rfl⟩
theorem mset_ne {m : Nat → Nat → List Nat} {a x g r c : Nat} (h : ¬ (r = a ∧ c = x)) : mset m a x g r c = m r c := if_neg h
section
variable {K : PySem.W.Frag}
theorem s_setd {H0 H : Hp} {d : Addr} {n : Nat} {m : Nat → Nat → List Nat} {a x g : Nat} {ta tx td : TE} {j : Nat} {σ : L2.St} {D : Ends} (S : Sx H0 H d n m) (hn : n < 50000) (hd : Ev td σ H (.ref d)) (ha : Ev ta σ H (.int (a : Nat))) (hx : Ev tx σ H (sgn x)) (hg : σ[j]? = some (some (.int (g : Nat))))
    (k : ∀ H', Sx H0 H' d (n + 1) (mset m a x g) → D.nx σ H') : tDrop (tBM K "list" rAppend (tDSetT td (tTup (tCons ta (tCons tx tNil))) (tLst tNil)) (tCons (tVar j) tNil)) D σ H := by
  obtain ⟨kvs, h1, h2, h3, h4, h5⟩ := S.ex
  refine hd H (Ex.refl _) _ fun H1 e1 => ⟨d, rfl, Or.inr ⟨kvs, Or.inl (e1 _ _ h1)⟩, ?_⟩
  refine ha H1 e1 _ fun H2 e2 => hx H2 (e1.trans e2) _ fun H3 e3 => ⟨by show 2 ≤ sizeLine; decide, fun t ht => ?_⟩
  refine ⟨Nat.zero_le _, fun l hl => ?_⟩
  have E4 : Ex H (upd (upd H3 t (.tup [.int (a : Nat), sgn x])) l (.lst [])) := (((e1.trans e2).trans e3).trans (Ex.new ht)).trans (Ex.new hl)
  have tup4 : (upd (upd H3 t (.tup [.int (a : Nat), sgn x])) l (.lst [])) t = some (.tup ((key a x).map kV)) := by
    rw [upd_ne (ne_of_none upd_same hl), upd_same]; rfl
  have d4 := E4 _ _ h1
  have l4 : (upd (upd H3 t (.tup [.int (a : Nat), sgn x])) l (.lst [])) l = some (.lst []) := upd_same
  have l0 : H l = none := fresh_back (((e1.trans e2).trans e3).trans (Ex.new ht)) hl
  generalize upd (upd H3 t (.tup [.int (a : Nat), sgn x])) l (.lst []) = H4 at *
  refine ⟨kvs, key a x, t, d4, rfl, tup4, sz_lt (by omega), fun v hv => ?_, fun hv => ?_⟩
  · -- there
    have ne : m a x ≠ [] := fun z => by rw [h3 a x z] at hv; cases hv
    obtain ⟨q, q1, q2, q3, q4⟩ := h4 a x ne
    rw [q1] at hv
    cases hv
    have q5 := E4 _ _ q2
    refine ⟨Or.inl ⟨rfl, _, sq_of q5⟩, _, hg, q, _, _, rfl, rfl, q5, sz_lt (by rw [nats_len]; have := S.len a x; omega), k _ ⟨⟨kvs, ?_, by omega, fun r c h => ?_, fun r c h => ?_, fun kv hkv => ?_⟩, S.d0, ?_, fun r c => ?_⟩⟩
    · rw [upd_ne (ne_of d4 q5 fun z => by cases z)]; exact d4
    · by_cases e : r = a ∧ c = x
      · obtain ⟨rfl, rfl⟩ := e
        rw [mset_at] at h; simp at h
      · rw [mset_ne e] at h; exact h3 r c h
    · by_cases e : r = a ∧ c = x
      · obtain ⟨rfl, rfl⟩ := e
        refine ⟨q, q1, ?_, q3, q4⟩
        rw [upd_same, mset_at]
        unfold nats; rw [List.map_append]; rfl
      · rw [mset_ne e] at h ⊢
        obtain ⟨p, p1, p2, p3, p4⟩ := h4 r c h
        have pq : p ≠ q := fun z => by
          subst z
          have := q4 r c p1
          exact e this
        refine ⟨p, p1, ?_, p3, p4⟩
        rw [upd_ne pq]; exact E4 _ _ p2
    · obtain ⟨r, c, e1, e2⟩ := h5 kv hkv
      refine ⟨r, c, e1, ?_⟩
      by_cases e : r = a ∧ c = x
      · obtain ⟨rfl, rfl⟩ := e
        rw [mset_at]; simp
      · rw [mset_ne e]; exact e2
    · exact Ex.mut (S.base.trans E4) q3
    · by_cases e : r = a ∧ c = x
      · obtain ⟨rfl, rfl⟩ := e
        rw [mset_at]; have := S.len r c; simp; omega
      · rw [mset_ne e]; have := S.len r c; omega
  · -- new
    have em : m a x = [] := by
      by_cases e : m a x = []
      · exact e
      · obtain ⟨q, q1, _⟩ := h4 a x e
        rw [q1] at hv; cases hv
    have ld : l ≠ d := fun z => by subst z; rw [d4] at l4; cases l4
    have l5 : (upd H4 d (.dT (putK kvs (key a x) (.ref l)))) l = some (.lst []) := by rw [upd_ne ld]; exact l4
    have lH0 : H0 l = none := fresh_back S.base l0
    refine ⟨Or.inl ⟨rfl, _, sq_of l5⟩, _, hg, l, _, _, rfl, rfl, l5, sz_lt (by simp), k _ ⟨⟨putK kvs (key a x) (.ref l), ?_, ?_, fun r c h => ?_, fun r c h => ?_, fun kv hkv => ?_⟩, S.d0, ?_, fun r c => ?_⟩⟩
    · rw [upd_ne ld.symm, upd_same]
    · have := length_putK kvs (key a x) (.ref l); omega
    · by_cases e : r = a ∧ c = x
      · obtain ⟨rfl, rfl⟩ := e
        rw [mset_at] at h; simp at h
      · rw [mset_ne e] at h
        rw [valV_put, if_neg fun z => e (key_inj z)]
        exact h3 r c h
    · by_cases e : r = a ∧ c = x
      · obtain ⟨rfl, rfl⟩ := e
        refine ⟨l, by rw [valV_put, if_pos rfl], ?_, lH0, fun r' c' h' => ?_⟩
        · rw [upd_same, mset_at, em]; rfl
        · by_cases e' : key r' c' = key r c
          · exact key_inj e'
          · rw [valV_put, if_neg e'] at h'
            exfalso
            have ne : m r' c' ≠ [] := fun z => by rw [h3 r' c' z] at h'; cases h'
            obtain ⟨p, p1, p2, _⟩ := h4 r' c' ne
            rw [p1] at h'
            cases h'
            rw [l0] at p2; cases p2
      · rw [mset_ne e] at h ⊢
        obtain ⟨p, p1, p2, p3, p4⟩ := h4 r c h
        have pl : p ≠ l := fun z => by subst z; rw [l0] at p2; cases p2
        have pd : p ≠ d := fun z => by subst z; rw [h1] at p2; cases p2
        refine ⟨p, by rw [valV_put, if_neg fun z => e (key_inj z)]; exact p1, ?_, p3, fun r' c' h' => ?_⟩
        · rw [upd_ne pl, upd_ne pd]; exact E4 _ _ p2
        · by_cases e' : key r' c' = key a x
          · rw [valV_put, if_pos e'] at h'
            cases h'
            exact absurd rfl pl
          · rw [valV_put, if_neg e'] at h'
            exact p4 r' c' h'
    · rw [putK_new _ hv] at hkv
      rcases List.mem_append.mp hkv with hkv | hkv
      · obtain ⟨r, c, e1, e2⟩ := h5 kv hkv
        refine ⟨r, c, e1, ?_⟩
        by_cases e : r = a ∧ c = x
        · obtain ⟨rfl, rfl⟩ := e
          rw [mset_at]; simp
        · rw [mset_ne e]; exact e2
      · rw [List.mem_singleton] at hkv
        subst hkv
        exact ⟨a, x, rfl, by rw [mset_at]; simp⟩
    · exact Ex.mut (Ex.mut (S.base.trans E4) S.d0) lH0
    · by_cases e : r = a ∧ c = x
      · obtain ⟨rfl, rfl⟩ := e
        rw [mset_at, em]; simp
      · rw [mset_ne e]; have := S.len r c; omega
theorem q_setd {H0 H : Hp} {d : Addr} {n : Nat} {m : Nat → Nat → List Nat} {a x g : Nat} {ta tx td : TE} {j : Nat} {σ : L2.St} {D : Ends} {tz : TS} (S : Sx H0 H d n m) (hn : n < 50000) (hd : Ev td σ H (.ref d)) (ha : Ev ta σ H (.int (a : Nat))) (hx : Ev tx σ H (sgn x)) (hg : σ[j]? = some (some (.int (g : Nat))))
    (k : ∀ H', Sx H0 H' d (n + 1) (mset m a x g) → tz D σ H') : tSeq (tDrop (tBM K "list" rAppend (tDSetT td (tTup (tCons ta (tCons tx tNil))) (tLst tNil)) (tCons (tVar j) tNil))) tz D σ H :=
  s_setd (D := { D with nx := tz D }) S hn hd ha hx hg k
end
/-- what stands at the told dict -/
def StepsAt (H : Hp) (d : Addr) (T : List Tie) : Prop := ∃ kvs, H d = some (.dT kvs) ∧ kvs.length ≤ 2 * T.length ∧ (∀ r c, isL c = true → gl T r c = [] → valV kvs (key r c) = none) ∧
  (∀ r c, isL c = true → gl T r c ≠ [] → ∃ q, valV kvs (key r c) = some (.ref q) ∧ H q = some (.lst (nats (gl T r c)))) ∧ ∀ kv ∈ kvs, ∃ r c, isL c = true ∧ kv.1 = key r c ∧ gl T r c ≠ []
def Small (T : List Tie) : Prop := ∀ t ∈ T, 97 ≤ t.2.1 ∧ t.2.1 ≤ 122
def sp_steps (K : PySem.W.Frag) : Sp := fun vs H Q _ => ∃ p T, vs = [.ref p] ∧ WebAt K H p T ∧ Small T ∧ T.length ≤ 10000 ∧ ∀ d H2, H d = none → Ex H H2 → StepsAt H2 d T → Q (.ref d) H2
/-- the goals by room and letter of the first ties -/
def mOf (T : List Tie) (r c : Nat) : List Nat := if isL c = true then gl T r c else []
theorem mOf_nil (r c : Nat) : mOf [] r c = [] := by unfold mOf gl; split <;> rfl
theorem gl_snoc (T : List Tie) (t : Tie) (r c : Nat) : gl (T ++ [t]) r c = gl T r c ++ (if 97 ≤ c then (if t.1 = r ∧ t.2.1 = c then [t.2.2] else []) else (if t.2.2 = r ∧ t.2.1 = c + 32 then [t.1] else [])) := by
  unfold gl
  rw [List.filterMap_append]
  congr 1
  rw [List.filterMap_cons]
  split <;> split <;> simp_all
theorem mOf_snoc {T : List Tie} {t : Tie} (h : 97 ≤ t.2.1 ∧ t.2.1 ≤ 122) : mset (mset (mOf T) t.1 t.2.1 t.2.2) t.2.2 (t.2.1 - 32) t.1 = mOf (T ++ [t]) := by
  funext r c
  have L1 : isL t.2.1 = true := isL_iff.mpr (Or.inl h)
  have L2 : isL (t.2.1 - 32) = true := isL_iff.mpr (Or.inr (by omega))
  unfold mOf
  rw [gl_snoc]
  by_cases e2 : r = t.2.2 ∧ c = t.2.1 - 32
  · obtain ⟨rfl, rfl⟩ := e2
    rw [mset_at, mset_ne (by omega), if_pos L2, if_pos L2, if_neg (by omega), if_pos ⟨rfl, by omega⟩]
  · rw [mset_ne e2]
    by_cases e1 : r = t.1 ∧ c = t.2.1
    · obtain ⟨rfl, rfl⟩ := e1
      rw [mset_at, if_pos L1, if_pos L1, if_pos h.1, if_pos ⟨rfl, rfl⟩]
    · rw [mset_ne e1]
      by_cases hc : isL c = true
      · rw [if_pos hc, if_pos hc]
        by_cases h97 : 97 ≤ c
        · rw [if_pos h97, if_neg fun z => e1 ⟨z.1.symm, z.2.symm⟩, List.append_nil]
        · rw [if_neg h97, if_neg fun z => e2 ⟨z.1.symm, by omega⟩, List.append_nil]
      · rw [if_neg hc, if_neg hc]
theorem wp_get {Hs H : Hp} {d l : Addr} {T : List Tie} {r c : Nat} {td ta tx : TE} {σ : L2.St} {o : HO} (SA : StepsAt Hs d T) (hl : Hs l = none) (e : Ex Hs H) (ho : H l = some o) (hc : isL c = true) (hd : Ev td σ H (.ref d)) (ha : Ev ta σ H (.int (r : Nat))) (hx : Ev tx σ H (sgn c)) :
    ∀ Q : VK, (∀ p H2, p ≠ l → Ex H H2 → H2 p = some (.lst (nats (gl T r c))) → Q (.ref p) H2) → tDGet2 td (tTup (tCons ta (tCons tx tNil))) (tLst tNil) σ H Q := by
  intro Q q
  obtain ⟨kvs, h1, h2, h3, h4, h5⟩ := SA
  refine hd H (Ex.refl _) _ fun H1 e1 => ⟨d, rfl, Or.inr ⟨kvs, Or.inl ((e.trans e1) _ _ h1)⟩, ?_⟩
  refine ha H1 e1 _ fun H2 e2 => hx H2 (e1.trans e2) _ fun H3 e3 => ⟨by show 2 ≤ sizeLine; decide, fun t ht => ?_⟩
  refine ⟨Nat.zero_le _, fun z hz => ?_⟩
  have E3 : Ex H (upd H3 t (.tup [.int (r : Nat), sgn c])) := ((e1.trans e2).trans e3).trans (Ex.new ht)
  have E4 : Ex H (upd (upd H3 t (.tup [.int (r : Nat), sgn c])) z (.lst [])) := E3.trans (Ex.new hz)
  refine ⟨valV kvs (key r c), .inr ⟨kvs, key r c, t, Or.inl ((e.trans E4) _ _ h1), rfl, ?_, rfl⟩, ?_⟩
  · rw [upd_ne (ne_of_none upd_same hz), upd_same]; rfl
  · by_cases em : gl T r c = []
    · rw [h3 r c hc em]
      refine q z _ (fun w => ?_) E4 (by rw [em]; exact upd_same)
      subst w
      have := E3 _ _ ho
      rw [this] at hz; cases hz
    · obtain ⟨p, p1, p2⟩ := h4 r c hc em
      rw [p1]
      refine q p _ (fun w => ?_) E4 ((e.trans E4) _ _ p2)
      subst w
      rw [hl] at p2; cases p2
theorem s_forQ {K : PySem.W.Frag} {tl : TE} {g : TG} {tu : TS} {D : Ends} {σ : L2.St} {H : Hp} {xs : List V} {φ : Addr → Prop} (h : ∀ Q : VK, (∀ p H2, φ p → Ex H H2 → H2 p = some (.lst xs) → Q (.ref p) H2) → tl σ H Q) (Pv : Addr → Nat → L2.St → Hp → Prop) (h0 : ∀ p H1, φ p → Ex H H1 → H1 p = some (.lst xs) → Pv p 0 σ H1) (hl : ∀ p i σ' H', i ≤ xs.length → Pv p i σ' H' → SqL K H' p xs)
    (hs : ∀ p i x σ' H', xs[i]? = some x → Pv p i σ' H' → g x σ' H' fun σ2 H2 => tu { D with nx := Pv p (i + 1), ct := Pv p (i + 1), bk := D.nx } σ2 H2) (hd : ∀ p σ' H', Pv p xs.length σ' H' → D.nx σ' H') : tFor (iList K tl) g tu D σ H :=
  h _ fun p H1 hp e h1 => ⟨p, rfl, ⟨xs, sq_of h1⟩, for_list (Pv p) (h0 p H1 hp e h1) (hl p) (hs p) (hd p)⟩
theorem in_nats {x : Nat} {l : List Nat} : inV (.int (x : Nat)) (nats l) = decide (x ∈ l) := by
  unfold nats
  induction l with
  | nil => rfl
  | cons a l ih =>
    show (eqV (.int (a : Nat)) (.int (x : Nat)) || inV (.int (x : Nat)) (l.map _)) = _
    rw [ih]
    have : eqV (.int (a : Nat)) (.int (x : Nat)) = decide (a = x) := by
      show (((a : Nat) : Int) == ((x : Nat) : Int)) = _
      by_cases h : a = x
      · subst h; simp
      · rw [decide_eq_false h]; simp; omega
    rw [this]
    by_cases h : a = x
    · subst h; simp
    · have : ¬ x = a := fun z => h z.symm
      simp [h, this]
theorem nats_flat (l : List Nat) : (nats l).all flatV = true := by
  unfold nats
  rw [List.all_eq_true]
  intro x hx
  obtain ⟨k, _, rfl⟩ := List.mem_map.mp hx
  rfl
theorem nats_at {l : List Nat} {i r : Nat} (h : l[i]? = some r) : (nats l)[i]? = some (.int (r : Nat)) := by
  unfold nats; rw [List.getElem?_map, h]; rfl
theorem nats_get {l : List Nat} {i : Nat} {x : V} (h : (nats l)[i]? = some x) : ∃ r, l[i]? = some r ∧ x = .int (r : Nat) := by
  unfold nats at h
  rw [List.getElem?_map] at h
  cases hr : l[i]? with
  | none => rw [hr] at h; cases h
  | some r => rw [hr] at h; exact ⟨r, rfl, (Option.some.inj h).symm⟩
/-- the order list is at l -/
structure Od (p d l : Addr) (i : Nat) (Hs : Hp) (A : List Nat) (σ : L2.St) (H : Hp) : Prop where
  sl : ∃ x y z, σ = [some (.ref p), some (.ref d), some (.ref l), some (.int (i : Nat)), x, y, z]
  ex : Ex Hs H
  at_ : H l = some (.lst (nats A))
theorem addAll_snoc {A l : List Nat} {x : Nat} : addAll A (l ++ [x]) = add1 (addAll A l) x := by rw [addAll_app]; rfl
theorem addAll_sub {T : List Tie} {A l : List Nat} (hA : ∀ x ∈ A, x ∈ rms T) (hl : ∀ x ∈ l, x ∈ rms T) (nA : A.Nodup) : (addAll A l).length ≤ 2 * T.length + 1 := by
  rw [← rms_len]
  refine nodup_le (addAll_nodup l nA) fun x hx => ?_
  rcases mem_addAll.mp hx with h | h
  · exact hA x h
  · exact hl x h
def sp_order (K : PySem.W.Frag) : Sp := fun vs H Q _ => ∃ p T, vs = [.ref p] ∧ WebAt K H p T ∧ Small T ∧ T.length ≤ 10000 ∧ RetL (nats (ord T)) H Q
def lets26 (k : Nat) : List Nat := (List.range k).flatMap fun k => [97 + k, 65 + k]
theorem lets26_succ (k : Nat) : lets26 (k + 1) = lets26 k ++ [97 + k, 65 + k] := by unfold lets26; rw [List.range_succ, List.flatMap_append]; rfl
theorem abc_at {i : Nat} {x : V} (h : ((("abcdefghijklmnopqrstuvwxyz" : Str).cps.toList).map sgn)[i]? = some x) : i < 26 ∧ x = sgn (97 + i) := by
  have e : ("abcdefghijklmnopqrstuvwxyz" : Str).cps.toList = (List.range 26).map (97 + ·) := by decide +kernel
  rw [e, List.getElem?_map, List.getElem?_map] at h
  by_cases hi : i < 26
  · rw [List.getElem?_range hi] at h; exact ⟨hi, (Option.some.inj h).symm⟩
  · rw [List.getElem?_eq_none (by rw [List.length_range]; omega)] at h; cases h
theorem abc_len : ((("abcdefghijklmnopqrstuvwxyz" : Str).cps.toList).map sgn).length = 26 := by
  rw [List.length_map]; decide +kernel
/-! from Lx -/
/-- a web -/
structure Good (T : List Tie) : Prop where
  core : Core T
  num : Num T
  srt : Srt T
theorem Good.unique {T U : List Tie} (a : Good T) (b : Good U) (e : SameR T U) : T = U := srt_unique a.srt b.srt (a.core.unique b.core a.num b.num e)
/-! ### how often a room stands -/
def rooms (T : List Tie) : List Int := T.map (fun t => ((t.1 : Nat) : Int)) ++ T.map (fun t => ((t.2.2 : Nat) : Int))
theorem count_one {α : Type} {f : α → Int} {T : List α} {x : Int} {a : α} (ha : a ∈ T) (e : f a = x) : 1 ≤ (T.map f).count x := by
  have : x ∈ T.map f := List.mem_map.mpr ⟨a, ha, e⟩
  have := List.count_pos_iff.mpr this
  omega
theorem count_two {α : Type} {f : α → Int} {T : List α} {x : Int} {a b : α} (ha : a ∈ T) (hb : b ∈ T) (ne : a ≠ b) (e : f a = x) (e' : f b = x) : 2 ≤ (T.map f).count x := by
  obtain ⟨l, m, rfl⟩ := List.append_of_mem ha
  have q : (List.map f (l ++ a :: m)).count x = (l.map f).count x + (1 + (m.map f).count x) := by
    rw [List.map_append, List.map_cons, List.count_append, List.count_cons, e]
    simp; omega
  rw [q]
  rcases List.mem_append.mp hb with h | h
  · have := count_one (f := f) h e'; omega
  · rcases List.mem_cons.mp h with h | h
    · exact absurd h.symm ne
    · have := count_one (f := f) h e'; omega
theorem rooms_two {T : List Tie} {r c s d u : Nat} (ne : c ≠ d) (h1 : Ld T r c s) (h2 : Ld T r d u) : 2 ≤ (rooms T).count (r : Int) := by
  unfold rooms
  rw [List.count_append]
  rcases h1 with ⟨a1, b1, m1⟩ | ⟨a1, b1, m1⟩ <;> rcases h2 with ⟨a2, b2, m2⟩ | ⟨a2, b2, m2⟩
  · have := count_two (f := fun t : Tie => ((t.1 : Nat) : Int)) (x := (r : Int)) m1 m2 (fun z => ne (by simp only [Prod.mk.injEq] at z; exact z.2.1)) rfl rfl
    omega
  · have p1 := count_one (f := fun t : Tie => ((t.1 : Nat) : Int)) (x := (r : Int)) m1 rfl
    have p2 := count_one (f := fun t : Tie => ((t.2.2 : Nat) : Int)) (x := (r : Int)) m2 rfl
    omega
  · have p1 := count_one (f := fun t : Tie => ((t.1 : Nat) : Int)) (x := (r : Int)) m2 rfl
    have p2 := count_one (f := fun t : Tie => ((t.2.2 : Nat) : Int)) (x := (r : Int)) m1 rfl
    omega
  · have := count_two (f := fun t : Tie => ((t.2.2 : Nat) : Int)) (x := (r : Int)) m1 m2 (fun z => ne (by simp only [Prod.mk.injEq] at z; omega)) rfl rfl
    omega
theorem mem_rooms {T : List Tie} {i : Int} (h : i ∈ rooms T) : ∃ r : Nat, i = (r : Int) ∧ r ∈ rms T := by
  unfold rooms at h
  rcases List.mem_append.mp h with h | h
  · obtain ⟨t, ht, e⟩ := List.mem_map.mp h
    exact ⟨t.1, e.symm, mem_rms.mpr (Or.inr ⟨t, ht, Or.inl rfl⟩)⟩
  · obtain ⟨t, ht, e⟩ := List.mem_map.mp h
    exact ⟨t.2.2, e.symm, mem_rms.mpr (Or.inr ⟨t, ht, Or.inr rfl⟩)⟩
theorem rooms_len (T : List Tie) : (rooms T).length = 2 * T.length := by unfold rooms; rw [List.length_append, List.length_map, List.length_map]; omega
theorem ord_len (T : List Tie) : (ord T).length ≤ 2 * T.length + 1 := fnd_len T _
/-! ### more readings -/
section
variable {K : PySem.W.Frag} {σ : L2.St} {H H' : Hp} {ta tb tc te tx to td : TE} {t u : TT} {x y z v w : V}
theorem el_is {xs ys : List V} (h : EvL te σ H xs) (e : xs = ys) : EvL te σ H ys := by subst e; exact h
theorem filter_none {α : Type} (l : List α) : l.filter (fun _ => false) = [] := by
  induction l with
  | nil => rfl
  | cons a l ih => rw [List.filter_cons, if_neg (by decide)]; exact ih
/-- a comprehension that keeps none -/
theorem el_lcNone {wi : TI} {items : List V} {St : Hp → Prop} {j : Nat} {vs : List Nat} (h : EvW wi σ H items St) (hst : St H) (hk : Kp St) (hz : items.length ≤ 40000) (hw : ∀ x, wipe ((wipe σ vs).set j (some x)) vs = wipe σ vs)
    (ht : ∀ x ∈ items, ∀ H1, Ex H H1 → EvT t ((wipe σ vs).set j (some x)) H1 false) : EvL (tLc wi (gName j) t te vs) σ H [] := by
  refine el_is (el_lc (fun _ => false) id h hst hk hz hw ht (fun x _ z => by cases z)) ?_
  rw [filter_none]; rfl
theorem ev_neNone (ha : EvL ta σ H []) : Ev (tOp (rNeD K) ta (tLst tNil)) σ H (.bl false) :=
  ev_opLL ha (el_lst ea_nil (Nat.zero_le _)) fun p q H1 hp hq e => rv_neNil (sq_of hp) (sq_of hq) rfl
theorem ev_eqNone (ha : EvL ta σ H []) : Ev (tOp (rEqD K) ta (tLst tNil)) σ H (.bl true) :=
  ev_opLL ha (el_lst ea_nil (Nat.zero_le _)) fun p q H1 hp hq e => fun H2 e2 Q k => ⟨.list [], .list [], .lst (ex_l e2 (sq_of hp)) .nil, .lst (ex_l e2 (sq_of hq)) .nil, rfl, rfl, k H2 (Ex.refl _)⟩
theorem eqv_flat : ∀ {xs : List V}, xs.all flat1 = true → PyData.eqv (.list (xs.map fd)) (.list (xs.map fd)) = true := fun {xs} h =>
  PySem.SeqAt.eqv_refl _ (by obtain ⟨a, _⟩ := layAll_flat h; exact a)
theorem ev_neSame {xs : List V} {p : Addr} (ha : Ev ta σ H (.ref p)) (hp : SqL K H p xs) (hb : EvL tb σ H xs) (hf : xs.all flat1 = true) : Ev (tOp (rNeD K) ta tb) σ H (.bl false) :=
  ev_opL ha hb fun q H1 hq e => fun H2 e2 Q k => ⟨.list (xs.map fd), .list (xs.map fd), .lst (ex_l (e.trans e2) hp) (dpAll_flat hf), .lst (ex_l e2 (sq_of hq)) (dpAll_flat hf), shaped_flat hf, shaped_flat hf, by rw [eqv_flat hf]; exact k H2 (Ex.refl _)⟩
theorem ev_neSorted {p : Addr} {T : List Tie} (ha : Ev ta σ H (.ref p)) (hb : Ev tb σ H (.ref p)) (hw : WebAt K H p T) (so : Srt T) (lo : Low T) : Ev (tOp (rNeD K) ta (tCB (rSort3 K) (tCons tb tNil))) σ H (.bl false) := fun H1 e Q q =>
  ha H1 e _ fun H2 e2 => wp_sorted (hb.mono (e.trans e2)) (hw.mono (e.trans e2)) so.nodup _ fun r H3 ys U hr e3 h3 ht sU mU _ => by
    have eU : T = U := srt_unique so sU fun t => (mU t).symm
    have := rv_neWeb (K := K) (H := H3) (p := p) (q := r) (hw.mono ((e.trans e2).trans e3)) ⟨ys, sq_of h3, ht⟩ lo (by rw [← eU]; exact lo)
    rw [decide_eq_true eU] at this
    exact this H3 (Ex.refl _) Q fun H4 e4 => q H4 ((e2.trans e3).trans e4)
end
theorem rv_inSg {c : Nat} {z : Str} {H : Hp} : RV (fun x y H Q => ∃ (c : Nat) (z : Str), x = .str ⟨#[c]⟩ ∧ y = .str z ∧ Q (.bl (decide (c ∈ z.cps.toList))) H) (sgn c) (.str z) H (.bl (decide (c ∈ z.cps.toList))) := fun H1 _ Q q => ⟨c, z, rfl, rfl, q H1 (Ex.refl _)⟩
theorem ev_dgetT {td ty : TE} {σ : L2.St} {H : Hp} {d b : Addr} {kvs : List (List Key × V)} {k : List Key} {v : V} (h1 : Ev td σ H (.ref d)) (h2 : Ev ty σ H (.ref b)) (hd : Rd H d (.dT kvs)) (hb : H b = some (.tup (k.map kV))) (hv : valV kvs k = some v) : Ev (tDGet td ty) σ H v := fun H1 e Q q =>
  h1 H1 e _ fun H2 e2 => h2 H2 (e.trans e2) _ fun H3 e3 => ⟨d, v, rfl, Or.inr ⟨kvs, k, b, ex_rd ((e.trans e2).trans e3) hd, rfl, ((e.trans e2).trans e3) _ _ hb, hv.symm⟩, q H3 (e2.trans e3)⟩
/-! ### the words -/
def sp_whole : Sp := fun vs H Q _ => ∃ i, vs = [.int i] ∧ RetV (.bl true) H Q
theorem sv_whole {i : Int} {H : Hp} : SpV sp_whole [.int i] H (.bl true) := fun H1 e Q q E => ⟨i, rfl, q⟩
def sp_is_tie : Sp := fun vs H Q _ => ∃ a t, vs = [.ref a] ∧ H a = some (.tup (tieV t)) ∧ (97 ≤ t.2.1 ∧ t.2.1 ≤ 122) ∧ RetV (.bl true) H Q
theorem sv_is_tie {a : Addr} {t : Tie} {H : Hp} (h : H a = some (.tup (tieV t))) (hs : 97 ≤ t.2.1 ∧ t.2.1 ≤ 122) : SpV sp_is_tie [.ref a] H (.bl true) := fun H1 e Q q E => ⟨a, t, rfl, e _ _ h, hs, q⟩
def sp_is_web : Sp := fun vs H Q _ => ∃ p xs T, vs = [.ref p] ∧ H p = some (.lst xs) ∧ Ties H xs T ∧ Good T ∧ T.length ≤ 10000 ∧ RetV (.bl true) H Q
theorem sv_is_web {p : Addr} {xs : List V} {T : List Tie} {H : Hp} (h : H p = some (.lst xs)) (ht : Ties H xs T) (g : Good T) (hz : T.length ≤ 10000) : SpV sp_is_web [.ref p] H (.bl true) := fun H1 e Q q E => ⟨p, xs, T, rfl, e _ _ h, ht.mono e, g, hz, q⟩
/-! from Lr -/
/-! ### the last letter, and what stands ahead of it -/
theorem cut_last (u : List Nat) (c : Nat) : cutS (S (u ++ [c])) (some (-1)) none = S [c] := by
  unfold cutS
  rw [S_cps, S_len, HT.sIx_none]
  have e : HT.sIx (u ++ [c]).length 0 (some (-1)) = u.length := by
    unfold HT.sIx
    simp
    omega
  rw [e]
  show S (((u ++ [c]).drop u.length).take ((u ++ [c]).length - u.length)) = _
  rw [List.drop_left, List.length_append]
  simp
theorem cut_last0 : cutS (S []) (some (-1)) none = S [] := rfl
theorem cut_init (u : List Nat) (c : Nat) : cutS (S (u ++ [c])) none (some (-1)) = S u := by
  unfold cutS
  rw [S_cps, S_len, HT.sIx_none]
  have e : HT.sIx (u ++ [c]).length (u ++ [c]).length (some (-1)) = u.length := by
    unfold HT.sIx
    simp
    omega
  rw [e]
  show S (((u ++ [c]).drop 0).take (u.length - 0)) = _
  rw [List.drop_zero, Nat.sub_zero, List.take_left]
def sp_lshort : Sp := fun vs H Q _ => ∃ l, vs = [.str (S l)] ∧ l.length ≤ 1000 ∧ isW l = true ∧ RetV (.str (S (short l))) H Q
theorem sv_lshort {l : List Nat} {H : Hp} (h : l.length ≤ 1000) (hw : isW l = true) : SpV sp_lshort [.str (S l)] H (.str (S (short l))) := fun H1 e Q q E => ⟨l, rfl, h, hw, q⟩
/-! ### rows -/
def InL (ls w : List Nat) : Prop := ∀ c ∈ w, lowOf c ∈ ls
theorem InL.isW {ls w : List Nat} (L : Lts ls) (h : InL ls w) : isW w = true := List.all_eq_true.mpr fun c hc => by
  have := L.2.2 _ (h c hc)
  unfold lowOf at this
  rw [isL_iff]
  split at this <;> omega
theorem InL.app {ls u v : List Nat} (a : InL ls u) (b : InL ls v) : InL ls (u ++ v) := fun c hc => by
  rcases List.mem_append.mp hc with h | h
  · exact a c h
  · exact b c h
theorem low_bk {c : Nat} (h : isL c = true) : lowOf (bk c) = lowOf c := by
  rw [isL_iff] at h
  unfold lowOf bk
  split <;> split <;> omega
theorem InL.inv {ls w : List Nat} (L : Lts ls) (h : InL ls w) : InL ls (inv w) := fun c hc => by
  unfold Gw.inv at hc
  obtain ⟨d, hd, rfl⟩ := List.mem_map.mp hc
  have hd := List.mem_reverse.mp hd
  rw [low_bk (List.all_eq_true.mp (h.isW L) d hd)]
  exact h d hd
theorem InL.word {ls : List Nat} (L : Lts ls) (c : Int) (n : Nat) : InL ls (wordOf c ls n) := fun x hx => by
  unfold wordOf at hx
  obtain ⟨k, _, rfl⟩ := List.mem_map.mp hx
  have h1 : 0 ≤ mixed c k / 7 % ls.length := Int.emod_nonneg _ (by have := L.1; omega)
  have h2 : mixed c k / 7 % ls.length < ls.length := Int.emod_lt_of_pos _ (by have := L.1; omega)
  have hi : (mixed c k / 7 % ls.length).toNat < ls.length := by omega
  have e : ls.getD (mixed c k / 7 % ls.length).toNat 0 = ls[(mixed c k / 7 % ls.length).toNat] := by rw [List.getD_eq_getElem?_getD, List.getElem?_eq_getElem hi]; rfl
  have m := List.getElem_mem hi
  have b := L.2.2 _ m
  unfold wordLet
  simp only [e]
  unfold lowOf
  split
  · rw [if_pos b.1]; exact m
  · rw [if_neg (by omega), show ls[(mixed c k / 7 % ls.length).toNat] - 32 + 32 = ls[(mixed c k / 7 % ls.length).toNat] by omega]; exact m
theorem InL.mono {ls ks w : List Nat} (h : InL ls w) (s : ∀ c ∈ ls, c ∈ ks) : InL ks w := fun c hc => s _ (h c hc)
def wordsV (ws : List (List Nat)) : List V := ws.map fun w => V.str (S w)
theorem wordsV_len (ws : List (List Nat)) : (wordsV ws).length = ws.length := by unfold wordsV; simp
theorem wordsV_app (a b : List (List Nat)) : wordsV (a ++ b) = wordsV a ++ wordsV b := by unfold wordsV; rw [List.map_append]
structure Row (ls : List Nat) (ws : List (List Nat)) (n m : Nat) : Prop where
  len : ws.length ≤ n
  each : ∀ w ∈ ws, w.length ≤ m ∧ InL ls w
theorem Row.snoc {ls : List Nat} {ws : List (List Nat)} {n m k : Nat} (R : Row ls ws n m) {w : List Nat} (h : w.length ≤ k) (hm : m ≤ k) (hw : InL ls w) : Row ls (ws ++ [w]) (n + 1) k := ⟨by rw [List.length_append]; have := R.len; simp; omega, fun x hx => by
  rcases List.mem_append.mp hx with hx | hx
  · have := R.each x hx; exact ⟨by omega, this.2⟩
  · rw [List.mem_singleton] at hx; subst hx; exact ⟨h, hw⟩⟩
theorem Row.wide {ls : List Nat} {ws : List (List Nat)} {n m n' m' : Nat} (R : Row ls ws n m) (h : n ≤ n') (k : m ≤ m') : Row ls ws n' m' := ⟨Nat.le_trans R.len h, fun w hw => ⟨Nat.le_trans (R.each w hw).1 k, (R.each w hw).2⟩⟩
theorem Row.allW {ls : List Nat} {ws : List (List Nat)} {n m : Nat} (R : Row ls ws n m) (L : Lts ls) : AllW ws := fun w hw => (R.each w hw).2.isW L
theorem strOk_w {w : List Nat} (h : isW w = true) : PyData.strOk (S w) = true := by
  show w.toArray.all (fun c => decide (c < 0x110000)) = true
  rw [List.all_toArray, List.all_eq_true]
  intro c hc
  have := List.all_eq_true.mp h c hc
  rw [isL_iff] at this
  exact decide_eq_true (by omega)
theorem wordsV_flat {ws : List (List Nat)} (h : AllW ws) : (wordsV ws).all flat1 = true := by
  unfold wordsV
  rw [List.all_map, List.all_eq_true]
  intro w hw
  exact strOk_w (h w hw)
theorem wordsV_at {ws : List (List Nat)} {i : Nat} {w : List Nat} (h : ws[i]? = some w) : (wordsV ws)[i]? = some (.str (S w)) := by unfold wordsV; rw [List.getElem?_map, h]; rfl
def sp_row (K : PySem.W.Frag) : Sp := fun vs H Q _ => ∃ (a b : Addr) (ns : List Int) (ls : List Nat), vs = [.ref a, .ref b] ∧ SqL K H a (ns.map V.int) ∧ SqL K H b (ls.map sgn) ∧ Lts ls ∧ ∀ p H2 ws, H p = none → Ex H H2 → H2 p = some (.lst (wordsV ws)) → Row ls ws 10 15 → Q (.ref p) H2
def rowMany (c : Int) : Int := [3, 2, 1, 3, 4, 0].getD (c % 6).toNat 0
theorem rowMany_bd (c : Int) : 0 ≤ rowMany c ∧ rowMany c ≤ 4 := by
  unfold rowMany
  have h1 : 0 ≤ c % 6 := Int.emod_nonneg _ (by decide)
  have h2 : c % 6 < 6 := Int.emod_lt_of_pos _ (by decide)
  generalize c % 6 = m at *
  have : m.toNat = 0 ∨ m.toNat = 1 ∨ m.toNat = 2 ∨ m.toNat = 3 ∨ m.toNat = 4 ∨ m.toNat = 5 := by omega
  rcases this with e | e | e | e | e | e <;> rw [e] <;> simp
theorem cutV_mem {xs : List V} {lo hi : Option Int} {x : V} (h : x ∈ cutV xs lo hi) : x ∈ xs := by
  unfold cutV at h
  exact List.mem_of_mem_drop (List.mem_of_mem_take h)
theorem cutV_few {xs : List V} {n : Nat} : (cutV xs (some 3) (some ((3 + n : Nat) : Int))).length ≤ n := by
  unfold cutV
  rw [List.length_take, List.length_drop, HT.sIx_nat, show (3 : Int) = ((3 : Nat) : Int) from rfl, HT.sIx_nat]
  omega
theorem cutV_two {ls : List Nat} : cutV (ls.map sgn) none (some 2) = (ls.take 2).map sgn := by
  unfold cutV
  rw [HT.sIx_none, show (2 : Int) = ((2 : Nat) : Int) from rfl, HT.sIx_nat, List.drop_zero, Nat.sub_zero, ← List.map_take, List.length_map]
  by_cases h : 2 ≤ ls.length
  · rw [Nat.min_eq_left h]
  · rw [Nat.min_eq_right (by omega), List.take_of_length_le (Nat.le_refl _), List.take_of_length_le (by omega)]
theorem ev_callP {sp : Sp} {ta : TA} {σ : L2.St} {H : Hp} {P : List V → Hp → Prop} {E : XK} {z : V} (h : EvP ta σ H P) (hs : ∀ vs H1, Ex H H1 → P vs H1 → SpV sp vs H1 z) : Ev (tCall sp [] E ta) σ H z := fun H1 e Q q =>
  h H1 e _ fun vs H2 e2 hp => (by
    show sp (vs ++ []) H2 Q E
    rw [List.append_nil]; exact hs vs H2 (e.trans e2) hp H2 (Ex.refl _) Q (fun H3 e3 => q H3 (e2.trans e3)) _)
/-! from K03 -/
/-- what web_of of a row is -/
structure WebOf (ws : List (List Nat)) (T : List Tie) : Prop where
  good : Good T
  reads : ∀ w, isW w = true → (Rds T w ↔ Made ws w)
  lets : ∀ t ∈ T, ∃ w ∈ ws, ∃ c ∈ w, lowOf c = t.2.1
  len : T.length ≤ (ws.map fun w => (short w).length).sum
theorem WebOf.unique {ws : List (List Nat)} {T U : List Tie} (a : WebOf ws T) (b : WebOf ws U) : T = U := a.good.unique b.good fun w hw => (a.reads w hw).trans (b.reads w hw).symm
structure Ws (ws : List (List Nat)) : Prop where
  all : AllW ws
  len : ws.length ≤ 60
  tot : (ws.map List.length).sum ≤ 1000
theorem mem_sum_le {α : Type} {f : α → Nat} {x : α} : ∀ {l : List α}, x ∈ l → f x ≤ (l.map f).sum
  | a :: l, h => by
    rw [List.map_cons, List.sum_cons]
    rcases List.mem_cons.mp h with rfl | h
    · omega
    · have := mem_sum_le (f := f) h; omega
theorem Ws.each {ws : List (List Nat)} (W : Ws ws) {w : List Nat} (h : w ∈ ws) : w.length ≤ 1000 := Nat.le_trans (mem_sum_le h) W.tot
theorem sum_bd {α : Type} {f : α → Nat} {b : Nat} : ∀ {l : List α}, (∀ x ∈ l, f x ≤ b) → (l.map f).sum ≤ l.length * b
  | [], _ => by simp
  | x :: l, h => by
    have := sum_bd (f := f) (b := b) (l := l) fun y hy => h y (List.mem_cons_of_mem _ hy)
    have h1 := h x List.mem_cons_self
    rw [List.map_cons, List.sum_cons, List.length_cons, Nat.succ_mul]; omega
theorem Row.ws {ls : List Nat} {ws : List (List Nat)} (L : Lts ls) (R : Row ls ws 10 15) : Ws ws := ⟨R.allW L, Nat.le_trans R.len (by decide), Nat.le_trans (sum_bd (b := 15) fun w hw => (R.each w hw).1) (by have := R.len; omega)⟩
theorem sum_le_sum {α : Type} {f g : α → Nat} : ∀ {l : List α}, (∀ x ∈ l, f x ≤ g x) → (l.map f).sum ≤ (l.map g).sum
  | [], _ => Nat.le_refl _
  | x :: l, h => by
    have := sum_le_sum (f := f) (g := g) (l := l) fun y hy => h y (List.mem_cons_of_mem _ hy)
    have h1 := h x List.mem_cons_self
    rw [List.map_cons, List.map_cons, List.sum_cons, List.sum_cons]; omega
theorem Ws.sum {ws : List (List Nat)} (W : Ws ws) : (ws.map fun w => (short w).length).sum ≤ 1000 := Nat.le_trans (sum_le_sum fun w hw => short_len (W.all w hw)) W.tot
theorem sum_sub {ws vs : List (List Nat)} (h : vs.Sublist ws) : (vs.map List.length).sum ≤ (ws.map List.length).sum := by
  induction h with
  | slnil => exact Nat.le_refl _
  | cons a _ ih => rw [List.map_cons, List.sum_cons]; omega
  | cons_cons a _ ih => rw [List.map_cons, List.map_cons, List.sum_cons, List.sum_cons]; omega
theorem Ws.sub {ws vs : List (List Nat)} (W : Ws ws) (h : vs.Sublist ws) : Ws vs := ⟨fun w hw => W.all w (h.subset hw), Nat.le_trans h.length_le W.len, Nat.le_trans (sum_sub h) W.tot⟩
theorem sum_cast {α : Type} (f : α → Nat) : ∀ l : List α, (l.map fun x => (f x : Int)).sum = (((l.map f).sum : Nat) : Int)
  | [] => rfl
  | x :: l => by rw [List.map_cons, List.map_cons, List.sum_cons, List.sum_cons, sum_cast f l]; omega
def RetWeb (ws : List (List Nat)) (H : Hp) (Q : VK) : Prop := ∀ p H2 ys T, H p = none → Ex H H2 → H2 p = some (.lst ys) → Ties H2 ys T → WebOf ws T → Q (.ref p) H2
def sp_web (K : PySem.W.Frag) (CW : Addr) : Sp := fun vs H Q E => ∃ (a : Addr) (xs : List V), vs = [.ref a] ∧ SqL K H a xs ∧
  ((∃ ws, xs = wordsV ws ∧ Ws ws ∧ RetWeb ws H Q) ∨ (∃ (u : List (List Nat)) (x : V) (r : List V), xs = wordsV u ++ x :: r ∧ Ws u ∧ NW H x ∧ r.length ≤ 60 ∧ ∀ H', Ex H H' → E (.ref CW) none H'))
def sp_law (K : PySem.W.Frag) : Sp := fun vs H Q _ => ∃ (a : Addr) (ns : List Int), vs = [.ref a] ∧ SqL K H a (ns.map V.int) ∧ RetV (.bl true) H Q
/-! ### values by what they are -/
def EvX (te : TE) (σ : L2.St) (H : Hp) (φ : V → Hp → Prop) : Prop := ∀ H1, Ex H H1 → ∀ Q : VK, (∀ x H2, Ex H1 H2 → φ x H2 → Q x H2) → te σ H1 Q
section
variable {K : PySem.W.Frag} {σ : L2.St} {H H' : Hp} {ta tb tc te tx to td : TE} {t u : TT} {x y z v w : V} {tr : TA} {P : List V → Hp → Prop} {φ : V → Hp → Prop} {D : Ends} {tz : TS}
theorem ex_ixP {i : Int} (h : EvP tr σ H P) (kp : KpP P) (hz : ∀ vs H1, P vs H1 → vs.length ≤ 100000) (hb : Ev tb σ H (.int i)) (hx : ∀ vs H1, P vs H1 → ∃ x, atI vs i = some x ∧ φ x H1) : EvX (tOp (rIxL K) (tLst tr) tb) σ H φ := fun H1 e Q q =>
  h H1 e _ fun vs H2 e2 hp => ⟨sz_of (hz _ _ hp), fun p hn => by
    have e3 : Ex H2 (upd H2 p (.lst vs)) := Ex.new hn
    exact hb _ ((e.trans e2).trans e3) _ fun H3 e4 => by
      have hp3 := kp _ _ _ (e3.trans e4) hp
      obtain ⟨x, hx, hφ⟩ := hx vs H3 hp3
      exact ⟨p, vs, i, x, rfl, rfl, ex_l e4 (sq_of upd_same), hx, q x H3 ((e2.trans e3).trans e4) hφ⟩⟩
theorem q_asgX {i : Nat} (h : EvX te σ H φ) (k : ∀ x H1, Ex H H1 → φ x H1 → tz D (σ.set i (some x)) H1) : tSeq (tAsg te (gName i)) tz D σ H := h H (Ex.refl _) _ fun x H1 e hx => k x H1 e hx
theorem ev_neSame2 {xs : List V} {p q : Addr} (ha : Ev ta σ H (.ref p)) (hp : SqL K H p xs) (hb : Ev tb σ H (.ref q)) (hq : SqL K H q xs) (hf : xs.all flat1 = true) : Ev (tOp (rNeD K) ta tb) σ H (.bl false) :=
  ev_op ha hb fun H2 e2 Q k => ⟨.list (xs.map fd), .list (xs.map fd), .lst (ex_l e2 hp) (dpAll_flat hf), .lst (ex_l e2 hq) (dpAll_flat hf), shaped_flat hf, shaped_flat hf, by rw [eqv_flat hf]; exact k H2 (Ex.refl _)⟩
theorem ev_sumN {ns : List Int} {xs : List V} (h : EvL te σ H xs) (hx : xs = ns.map V.int) : Ev (tCB (rSum K) (tCons te tNil)) σ H (.int ns.sum) := fun H1 e Q q =>
  h H1 e _ fun p H2 _ e2 hp => ⟨p, ns, rfl, sq_of (hp.trans (by rw [hx])), q H2 e2⟩
theorem cutW_to {ws : List (List Nat)} {k : Nat} : cutV (wordsV ws) none (some (k : Int)) = wordsV (ws.take k) := by
  unfold cutV
  rw [HT.sIx_none, HT.sIx_nat, List.drop_zero, Nat.sub_zero, wordsV_len]
  unfold wordsV
  rw [← List.map_take]
  by_cases h : k ≤ ws.length
  · rw [Nat.min_eq_left h]
  · rw [Nat.min_eq_right (by omega), List.take_of_length_le (Nat.le_refl _), List.take_of_length_le (by omega)]
theorem cutW_from {ws : List (List Nat)} {k : Nat} : cutV (wordsV ws) (some (k : Int)) none = wordsV (ws.drop k) := by
  unfold cutV
  rw [HT.sIx_none, HT.sIx_nat, wordsV_len]
  unfold wordsV
  rw [← List.map_drop]
  by_cases h : k ≤ ws.length
  · rw [Nat.min_eq_left h, ← List.map_take, List.take_of_length_le (by rw [List.length_drop]; exact Nat.le_refl _)]
  · rw [Nat.min_eq_right (by omega), List.drop_eq_nil_of_le (Nat.le_refl _), List.drop_eq_nil_of_le (by omega), List.map_nil, List.take_nil]
theorem in_sgns {c : Nat} {l : List Nat} (h : c ∈ l) : inV (sgn c) (l.map sgn) = true := by
  induction l with
  | nil => cases h
  | cons a l ih =>
    show (eqV (sgn a) (sgn c) || inV (sgn c) (l.map sgn)) = true
    rcases List.mem_cons.mp h with e | h
    · subst e
      have : eqV (sgn c) (sgn c) = true := by show (_ == _) = true; simp
      rw [this]; rfl
    · rw [ih h, Bool.or_true]
theorem sgns_flat (l : List Nat) : (l.map sgn).all flatV = true := by
  rw [List.all_map, List.all_eq_true]; intro x _; rfl
end
/-! from Pf -/
/-! ### new ties -/
def RetU (xs : List V) (H : Hp) (Q : VK) : Prop := ∀ p H2, H p = none → Ex H H2 → H2 p = some (.tup xs) → Q (.ref p) H2
def SpU (sp : Sp) (vs : List V) (H : Hp) (xs : List V) : Prop := ∀ H1, Ex H H1 → ∀ Q : VK, RetU xs H1 Q → ∀ E : XK, sp vs H1 Q E
theorem eu_call {sp : Sp} {vs xs : List V} {E : XK} {ta : TA} {σ : L2.St} {H : Hp} (h : EvA ta σ H vs) (hs : SpU sp vs H xs) : EvU (tCall sp [] E ta) σ H xs := fun H1 e Q q =>
  h H1 e _ fun H2 e2 => (by
    show sp (vs ++ []) H2 Q E
    rw [List.append_nil]; exact hs H2 (e.trans e2) Q (fun p H3 hp e3 h3 => q p H3 (fresh_back e2 hp) (e2.trans e3) h3) E)
/-- a new list of ties -/
def RetTs (T : List Tie) (H : Hp) (Q : VK) : Prop := ∀ p H2 ys, H p = none → Ex H H2 → H2 p = some (.lst ys) → Ties H2 ys T → Q (.ref p) H2
def sp_tie : Sp := fun vs H Q _ => ∃ h c t : Nat, vs = [.int (h : Nat), sgn c, .int (t : Nat)] ∧ isL c = true ∧ RetU (tieV (mkTie h c t)) H Q
theorem su_tie {h c t : Nat} {H : Hp} (hc : isL c = true) : SpU sp_tie [.int (h : Nat), sgn c, .int (t : Nat)] H (tieV (mkTie h c t)) := fun H1 e Q q E => ⟨h, c, t, rfl, hc, q⟩
/-- a tie the other way about -/
def wayBack (t : Tie) : Tie := (t.2.2, t.2.1 - 32, t.1)
def sp_both : Sp := fun vs H Q _ => ∃ a t, vs = [.ref a] ∧ H a = some (.tup (tieV t)) ∧ (97 ≤ t.2.1 ∧ t.2.1 ≤ 122) ∧ RetTs [t, wayBack t] H Q
/-- what is joined -/
def JAt (H : Hp) (d : Addr) (j : Jn) : Prop := ∃ kvs : List (Key × V), Rd H d (.dK kvs) ∧ ∀ r : Nat, valV kvs (.inl (r : Nat)) = (j r).map fun l => V.int (l : Nat)
theorem JAt.mono {H H' : Hp} {d : Addr} {j : Jn} (e : Ex H H') (h : JAt H d j) : JAt H' d j := by
  obtain ⟨kvs, a, b⟩ := h
  exact ⟨kvs, ex_rd e a, b⟩
def sp_lowest : Sp := fun vs H Q _ => ∃ d j r, vs = [.ref d, .int (r : Nat)] ∧ JAt H d j ∧ Dec j ∧ RetV (.int (rep j r : Nat)) H Q
theorem sv_lowest {d : Addr} {j : Jn} {r : Nat} {H : Hp} (h : JAt H d j) (D : Dec j) : SpV sp_lowest [.ref d, .int (r : Nat)] H (.int (rep j r : Nat)) := fun H1 e Q q E => ⟨d, j, r, rfl, h.mono e, D, q⟩
theorem ev_dgetK {td ty : TE} {σ : L2.St} {H : Hp} {d : Addr} {kvs : List (Key × V)} {k : Key} {v : V} (h1 : Ev td σ H (.ref d)) (h2 : Ev ty σ H (kV k)) (hd : Rd H d (.dK kvs)) (hv : valV kvs k = some v) : Ev (tDGet td ty) σ H v := fun H1 e Q q =>
  h1 H1 e _ fun H2 e2 => h2 H2 (e.trans e2) _ fun H3 e3 => ⟨d, v, rfl, Or.inl ⟨kvs, k, ex_rd ((e.trans e2).trans e3) hd, rfl, hv.symm⟩, q H3 (e2.trans e3)⟩
theorem ev_dinK {td ty : TE} {σ : L2.St} {H : Hp} {d : Addr} {kvs : List (Key × V)} {k : Key} (h1 : Ev ty σ H (kV k)) (h2 : Ev td σ H (.ref d)) (hd : Rd H d (.dK kvs)) : Ev (tDIn ty td) σ H (.bl (valV kvs k).isSome) := fun H1 e Q q =>
  h1 H1 e _ fun H2 e2 => h2 H2 (e.trans e2) _ fun H3 e3 => ⟨d, valV kvs k, rfl, Or.inl ⟨kvs, k, ex_rd ((e.trans e2).trans e3) hd, rfl, rfl⟩, q H3 (e2.trans e3)⟩
theorem q_asgG {te : TE} {g : TG} {tz : TS} {D : Ends} {σ : L2.St} {H : Hp} {v : V} (h : Ev te σ H v) (k : ∀ H1, Ex H H1 → g v σ H1 (tz D)) : tSeq (tAsg te g) tz D σ H := h H (Ex.refl _) _ k
theorem s_retP {tr : TA} {P : List V → Hp → Prop} {D : Ends} {σ : L2.St} {H : Hp} (h : EvP tr σ H P) (kp : KpP P) (hz : ∀ vs H1, P vs H1 → vs.length ≤ 100000) (k : ∀ p vs H1, H p = none → Ex H H1 → H1 p = some (.lst vs) → P vs H1 → D.rt (.ref p) H1) : tRet (tLst tr) D σ H :=
  h H (Ex.refl _) _ fun vs H1 e hp => ⟨sz_of (hz _ _ hp), fun p hn => k p vs _ (fresh_back e hn) (e.trans (Ex.new hn)) upd_same (kp _ _ _ (Ex.new hn) hp)⟩
theorem et_truS {ta : TE} {σ : L2.St} {H : Hp} {K : PySem.W.Frag} {z : Str} (h : Ev ta σ H (.str z)) (hz : z.length ≤ sizeLine) : EvT (fun σ H Q => ta σ H fun x H' => ∃ k, TruV K x H' k ∧ Q k H') σ H ((z.length : Int) != 0) := fun H1 e Q q =>
  h H1 e _ fun H2 e2 => ⟨_, ⟨hz, rfl⟩, q H2 e2⟩
theorem cut_butlast (w : List Nat) : cutS (S w) none (some (-1)) = S w.dropLast := by
  rcases List.eq_nil_or_concat w with rfl | ⟨u, c, rfl⟩
  · rfl
  · unfold cutS
    rw [S_cps, S_len, HT.sIx_none]
    have e : HT.sIx (u ++ [c]).length (u ++ [c]).length (some (-1)) = u.length := by
      unfold HT.sIx
      simp
      omega
    rw [List.concat_eq_append, e]
    show S (((u ++ [c]).drop 0).take (u.length - 0)) = _
    rw [List.drop_zero, Nat.sub_zero, List.take_left, List.dropLast_concat]
def ShW (ws : List (List Nat)) : Prop := (ws.map List.length).sum ≤ 1000 ∧ ws.length ≤ 60 ∧ ∀ w ∈ ws, w.length ≤ 1000 ∧ isW w = true
def wdsV (ws : List (List Nat)) : List V := ws.map fun w => V.str (S w)
def sp_rings (K : PySem.W.Frag) : Sp := fun vs H Q _ => ∃ a ws, vs = [.ref a] ∧ SqL K H a (wdsV ws) ∧ ShW ws ∧ ∀ R n, Rg ws R n → RetTs R H Q
theorem ringOf_nil (n : Nat) : ringOf n [] = [] := rfl
theorem islower_tab : ∀ c, c < 123 → isL c = true → Txt.islower (S [c]) = decide (97 ≤ c) := by decide +kernel
theorem islower_one {c : Nat} (h : isL c = true) : Txt.islower (S [c]) = decide (97 ≤ c) := islower_tab c (by rw [isL_iff] at h; omega) h
/-! from Pg -/
theorem Ties.updO {H : Hp} {xs : List V} {T : List Tie} {d : Addr} {o : HO} (h : Ties H xs T) (hd : ∀ l, H d ≠ some (.tup l)) : Ties (L2.upd H d o) xs T := Paired.mapP h fun x t ⟨a, h1, h2⟩ => ⟨a, h1, by
  rw [upd_ne (fun z => by subst z; exact hd _ h2)]; exact h2⟩
def waysT (J : List (Nat × Nat)) (room : Nat) (w : List (Nat × Nat)) : List Tie := (w.filter fun q => decide (97 ≤ q.1)).map fun q => (room, q.1, rep (lk J) q.2)
def tiesX (J : List (Nat × Nat)) (X : Xl) : List Tie := X.flatMap fun p => waysT J p.1 p.2.2
theorem waysT_len (J : List (Nat × Nat)) (room : Nat) (w : List (Nat × Nat)) : (waysT J room w).length ≤ w.length := by unfold waysT; rw [List.length_map]; exact List.length_filter_le _ _
theorem tiesX_len (J : List (Nat × Nat)) : ∀ X : Xl, (tiesX J X).length ≤ cnt X
  | [] => Nat.le_refl _
  | p :: X => by
    have := tiesX_len J X
    have h := waysT_len J p.1 p.2.2
    unfold tiesX cnt at *
    rw [List.flatMap_cons, List.length_append, List.map_cons, List.sum_cons]; omega
theorem cnt_take (X : Xl) (i : Nat) : cnt (X.take i) ≤ cnt X := by
  have : cnt X = cnt (X.take i) + cnt (X.drop i) := by
    unfold cnt
    rw [← List.sum_append, ← List.map_append, List.take_append_drop]
  omega
def sp_ties_of : Sp := fun vs H Q _ => ∃ dj dx J X, vs = [.ref dj, .ref dx] ∧ XAt H dj dx J X ∧ Dec (lk J) ∧ cnt X ≤ 10000 ∧ RetTs (tiesX J X) H Q
/-! ### folding -/
theorem Ties.unsnoc {H : Hp} : ∀ {ys : List V} {T : List Tie} {t : Tie}, Ties H ys (T ++ [t]) → ∃ ys0 a, ys = ys0 ++ [V.ref a] ∧ Ties H ys0 T ∧ H a = some (.tup (tieV t))
  | _, [], t, .cons ⟨a, e, h⟩ .nil => ⟨[], a, by rw [e]; rfl, .nil, h⟩
  | _, u :: T, t, .cons ⟨a, e, h⟩ r => by
    obtain ⟨ys0, b, e2, h2, h3⟩ := Ties.unsnoc r
    exact ⟨_ :: ys0, b, by rw [e2]; rfl, .cons ⟨a, e, h⟩ h2, h3⟩
def links (R : List Tie) : List Tie := R.flatMap fun t => [t, wayBack t]
theorem links_len (R : List Tie) : (links R).length = 2 * R.length := by
  unfold links
  induction R with
  | nil => rfl
  | cons t R ih => rw [List.flatMap_cons, List.length_append, ih, List.length_cons]; simp; omega
theorem mem_links {R : List Tie} (sm : ∀ t ∈ R, 97 ≤ t.2.1 ∧ t.2.1 ≤ 122) {s c e : Nat} : (s, c, e) ∈ links R ↔ Ld R s c e := by
  unfold links
  rw [List.mem_flatMap]
  constructor
  · rintro ⟨t, ht, h⟩
    have := sm t ht
    rcases List.mem_cons.mp h with h | h
    · subst h; exact ld_fst sm ht
    · rw [List.mem_singleton] at h
      have l := (ld_fst sm ht).back
      unfold wayBack at h
      simp only [Prod.mk.injEq] at h
      obtain ⟨rfl, rfl, rfl⟩ := h
      have : bk t.2.1 = t.2.1 - 32 := if_pos this.1
      rw [this] at l; exact l
  · rintro (⟨a, b, m⟩ | ⟨a, b, m⟩)
    · exact ⟨_, m, List.mem_cons_self⟩
    · refine ⟨_, m, List.mem_cons_of_mem _ (List.mem_singleton.mpr ?_)⟩
      show (s, c, e) = (s, c + 32 - 32, e)
      rw [show c + 32 - 32 = c by omega]
section
variable {K : PySem.W.Frag} {σ : L2.St} {H : Hp} {D : Ends} {tz : TS} {g : TG} {te : TE}
theorem q_newK {i : Nat} (k : ∀ p, H p = none → tz D (σ.set i (some (.ref p))) (upd H p (.dK []))) : tSeq (tAsg tDNewK (gName i)) tz D σ H := fun p hp => k p hp
theorem q_par {i j : Nat} {ta : TA} {v w : V} (h : EvA ta σ H [v, w]) (k : ∀ H1, Ex H H1 → tz D ((σ.set i (some v)).set j (some w)) H1) : tSeq (tPar i j ta) tz D σ H := h H (Ex.refl _) _ fun H1 e => ⟨v, w, rfl, k H1 e⟩
theorem q_asgGU {xs : List V} (h : EvU te σ H xs) (k : ∀ p H1, H p = none → Ex H H1 → H1 p = some (.tup xs) → g (.ref p) σ H1 (tz D)) : tSeq (tAsg te g) tz D σ H := h H (Ex.refl _) _ k
theorem q_asgQ {i : Nat} {Φ : Addr → Hp → Prop} (h : ∀ Q : VK, (∀ p H2, Φ p H2 → Q (.ref p) H2) → te σ H Q) (k : ∀ p H2, Φ p H2 → tz D (σ.set i (some (.ref p))) H2) : tSeq (tAsg te (gName i)) tz D σ H := h _ fun p H2 hp => k p H2 hp
theorem gname_go {i : Nat} {x : V} {Q : L2.St → Hp → Prop} (h : Q (σ.set i (some x)) H) : gName i x σ H Q := h
theorem nx_go {n : L2.St → Hp → Prop} {r : V → Hp → Prop} {b c : L2.St → Hp → Prop} (h : n σ H) : (⟨n, r, b, c⟩ : Ends).nx σ H := h
theorem yes_go {A B : Hp → Prop} (h : A H) : tYes σ H fun b H' => if b = true then A H' else B H' := h
theorem wp_links {a : Addr} {xs : List V} {R : List Tie} {E : XK} {i1 i2 : Nat} (h0 : σ[0]? = some (some (.ref a))) (hs : SqL K H a xs) (hT : Ties H xs R) (hz : R.length ≤ 10000) (sm : ∀ t ∈ R, 97 ≤ t.2.1 ∧ t.2.1 ≤ 122) (hw1 : ∀ x, wipe ((wipe σ [i1, i2]).set i1 (some x)) [i1, i2] = wipe σ [i1, i2]) (hx1 : ∀ x, ((wipe σ [i1, i2]).set i1 (some x))[i1]? = some (some x))
    (hw2 : ∀ x y, wipe ((wipe ((wipe σ [i1, i2]).set i1 (some x)) [i2]).set i2 (some y)) [i2] = wipe ((wipe σ [i1, i2]).set i1 (some x)) [i2]) (hx2 : ∀ x y, ((wipe ((wipe σ [i1, i2]).set i1 (some x)) [i2]).set i2 (some y))[i2]? = some (some y)) (Q : VK)
    (q : ∀ p H2 zs, H p = none → Ex H H2 → H2 p = some (.lst zs) → Ties H2 zs (links R) → Q (.ref p) H2) :
    tLc2 (iList K (tVar 0)) (gName i1) tYes (iList K (tCall sp_both [] E (tCons (tVar i1) tNil))) (gName i2) tYes (tVar i2) [i1, i2] [i2] σ H Q := by
  have xl := hT.length
  refine ew_list (K := K) (te := tVar 0) (ev_var h0) hs H (Ex.refl _) _ fun J H1 e1 wk Dl hD => ?_
  refine ⟨fun i m H' => m = xs.length - i ∧ i ≤ xs.length ∧ Ex H1 H' ∧ ∃ zs, H' Dl = some (.lst zs) ∧ Ties H' zs (links (R.take i)), ⟨xs.length, rfl, Nat.zero_le _, Ex.new hD, [], upd_same, .nil⟩, ?_⟩
  rintro i m H' ⟨rfl, hi, ex, zs, hl, ht⟩
  have hst := ex_l (e1.trans ex) hs
  by_cases hlt : i < xs.length
  · refine .inr ⟨wk.go i H' hst hlt, fun H'' => Ex H1 H'' ∧ ∃ zs, H'' Dl = some (.lst zs) ∧ Ties H'' zs (links (R.take (i + 1))), fun H'' ⟨b, c⟩ => ⟨xs.length - (i + 1), by omega, rfl, hlt, b, c⟩, ?_⟩
    intro x H'' hy
    obtain ⟨rfl, hx⟩ := wk.yld i H' x H'' hst hlt hy
    obtain ⟨t, ta, hti, rfl, hta⟩ := hT.at hx
    have smt := sm t (List.mem_of_getElem? hti)
    refine ⟨hw1 _, ?_⟩
    refine yes_go ?_
    refine ⟨.ref ta, hx1 _, ta, t, rfl, (e1.trans ex) _ _ hta, smt, fun p2 H4 ys hp2 e4 h4 hT4 => ⟨p2, rfl, ⟨ys, sq_of h4⟩, ?_⟩⟩
    have hl4 := e4 _ _ hl
    have nD : p2 ≠ Dl := fun z => by subst z; rw [hl] at hp2; cases hp2
    have yl : ys.length = 2 := hT4.length
    have tk : links (R.take (i + 1)) = links (R.take i) ++ [t, wayBack t] := by
      have : R.take (i + 1) = R.take i ++ [t] := by rw [List.take_add_one, hti]; rfl
      rw [this]; unfold links; rw [List.flatMap_append, List.flatMap_singleton]
    refine ⟨fun j k H5 => k = 2 - j ∧ j ≤ 2 ∧ Ex H1 H5 ∧ H5 p2 = some (.lst ys) ∧ Ties H5 ys [t, wayBack t] ∧ ∃ zs, H5 Dl = some (.lst zs) ∧ Ties H5 zs (links (R.take i) ++ [t, wayBack t].take j), ⟨2, rfl, Nat.zero_le _, ex.trans e4, h4, hT4, zs, hl4, by rw [List.take_zero, List.append_nil]; exact ht.mono e4⟩, ?_⟩
    rintro j k H5 ⟨rfl, hj, ex5, h5, hT5, zs5, hl5, ht5⟩
    by_cases hjl : j < 2
    · refine .inr ⟨⟨ys, ys[j], sq_of h5, List.getElem?_eq_getElem (by omega)⟩, fun H6 => Ex H1 H6 ∧ H6 p2 = some (.lst ys) ∧ Ties H6 ys [t, wayBack t] ∧ ∃ zs, H6 Dl = some (.lst zs) ∧ Ties H6 zs (links (R.take i) ++ [t, wayBack t].take (j + 1)), fun H6 ⟨b1, b2, b3, b4⟩ => ⟨2 - (j + 1), by omega, rfl, hjl, b1, b2, b3, b4⟩, ?_⟩
      intro y H6 hy2
      obtain ⟨rfl, hy3⟩ := hy2
      have hyj := hy3 ys (sq_of h5)
      obtain ⟨u, ua, huj, rfl, hua⟩ := hT5.at hyj
      refine ⟨hw2 _ _, ?_⟩
      refine yes_go ?_
      refine ⟨.ref ua, hx2 _ _, zs5, hl5, sz_lt ?_, Ex.mut ex5 hD, ?_, hT5.upd hl5, zs5 ++ [.ref ua], upd_same, ?_⟩
      · rw [ht5.length, List.length_append, links_len, List.length_take, List.length_take]
        have : [t, wayBack t].length = 2 := rfl
        omega
      · rw [upd_ne nD]; exact h5
      · have tk2 : [t, wayBack t].take (j + 1) = [t, wayBack t].take j ++ [u] := by rw [List.take_add_one, huj]; rfl
        rw [tk2, ← List.append_assoc]
        refine Ties.app (ht5.upd hl5) (.cons ⟨ua, rfl, ?_⟩ .nil)
        rw [upd_ne (ne_of hua hl5 fun z => by cases z)]; exact hua
    · have : j = 2 := by omega
      subst this
      refine .inl ⟨⟨ys, sq_of h5, by omega⟩, ex5, zs5, hl5, ?_⟩
      rw [tk]; exact ht5
  · have hi2 : i = xs.length := by omega
    refine .inl ⟨wk.stop i H' hst (by omega), q Dl H' zs (fresh_back e1 hD) (e1.trans ex) hl ?_⟩
    rw [hi2, xl, List.take_length] at ht; exact ht
end
def sp_folded (K : PySem.W.Frag) : Sp := fun vs H Q _ => ∃ a R N, vs = [.ref a] ∧ WebAt K H a R ∧ (∀ t ∈ R, 97 ≤ t.2.1 ∧ t.2.1 ≤ 122) ∧ R.length ≤ 4000 ∧ (∀ r c s, Ld R r c s → r < N ∧ s < N) ∧ N ≤ 5000 ∧ ∀ T rp, Quot R T rp → T.Nodup → RetTs T H Q
theorem tiesX_mem {J : List (Nat × Nat)} {X : Xl} (xk : (X.map (·.1)).Nodup) (wk : ∀ p ∈ X, (p.2.2.map (·.1)).Nodup) {r c s : Nat} : (r, c, s) ∈ tiesX J X ↔ 97 ≤ c ∧ ∃ e, xOf X r c = some e ∧ s = rep (lk J) e := by
  unfold tiesX waysT
  rw [List.mem_flatMap]
  constructor
  · rintro ⟨p, hp, h⟩
    obtain ⟨q, hq, e⟩ := List.mem_map.mp h
    obtain ⟨hq, h97⟩ := List.mem_filter.mp hq
    simp only [Prod.mk.injEq] at e
    obtain ⟨rfl, rfl, rfl⟩ := e
    refine ⟨of_decide_eq_true h97, q.2, ?_, rfl⟩
    rw [xOf_at, lk_of xk (r := p.1) (b := p.2) hp]
    exact lk_of (wk p hp) (r := q.1) (b := q.2) hq
  · rintro ⟨h97, e, hx, rfl⟩
    rw [xOf_at] at hx
    cases hk : lk X r with
    | none => rw [hk] at hx; cases hx
    | some p =>
      rw [hk] at hx
      exact ⟨(r, p), lk_mem hk, List.mem_map.mpr ⟨(c, e), List.mem_filter.mpr ⟨lk_mem hx, decide_eq_true h97⟩, rfl⟩⟩
theorem tiesX_nodup {J : List (Nat × Nat)} : ∀ {X : Xl}, (X.map (·.1)).Nodup → (∀ p ∈ X, (p.2.2.map (·.1)).Nodup) → (tiesX J X).Nodup
  | [], _, _ => List.nodup_nil
  | p :: X, xk, wk => by
    rw [List.map_cons, List.nodup_cons] at xk
    unfold tiesX
    rw [List.flatMap_cons, List.nodup_append]
    refine ⟨?_, tiesX_nodup xk.2 fun q hq => wk q (List.mem_cons_of_mem _ hq), fun a ha b hb e => ?_⟩
    · unfold waysT
      have n := wk p List.mem_cons_self
      refine nodup_map (fun a ha b hb e => ?_) (List.Nodup.sublist List.filter_sublist (nodup_of_map n))
      simp only [Prod.mk.injEq] at e
      exact nodup_inj n a (List.mem_filter.mp ha).1 b (List.mem_filter.mp hb).1 e.2.1
    · subst e
      unfold waysT at ha
      obtain ⟨q, _, rfl⟩ := List.mem_map.mp ha
      obtain ⟨p', hp', h⟩ := List.mem_flatMap.mp hb
      unfold waysT at h
      obtain ⟨q', _, e⟩ := List.mem_map.mp h
      simp only [Prod.mk.injEq] at e
      exact xk.1 (List.mem_map.mpr ⟨p', hp', e.1⟩)
/-- what holds ahead of each turn -/
structure Turn (K : PySem.W.Frag) (H0 : Hp) (R : List Tie) (N : Nat) (a dj dx dw : Addr) (m : Nat) (σ : L2.St) (H : Hp) : Prop where
  ex : ∃ J X Wt, FH H0 H dj dx dw J X Wt ∧ Fd R (lk J) (xOf X) Wt ∧ cnt X + Wt.length ≤ 2 * R.length ∧ (J.map (·.1)).Nodup ∧ (∀ p ∈ J, p.1 < N) ∧ m = (N - J.length) * (2 * R.length + 1) + Wt.length
  sl : ∃ x4 x5 x6 x7 x8 x9 x10 x11 x12 x13 x14, σ = [some (.ref a), some (.ref dj), some (.ref dx), some (.ref dw), x4, x5, x6, x7, x8, x9, x10, x11, x12, x13, x14]
theorem keys_few {J : List (Nat × Nat)} {N : Nat} (n : (J.map (·.1)).Nodup) (b : ∀ p ∈ J, p.1 < N) : J.length ≤ N := by
  have := nodup_le' (m := List.range N) n fun x hx => by
    obtain ⟨p, hp, rfl⟩ := List.mem_map.mp hx
    exact List.mem_range.mpr (b p hp)
  rwa [List.length_map, List.length_range] at this
theorem min_v (a b : Nat) : V.int (if (b : Int) < (a : Int) then (b : Int) else (a : Int)) = .int ((min a b : Nat) : Int) := by
  by_cases h : b < a
  · rw [if_pos (by omega), Nat.min_eq_right (by omega)]
  · rw [if_neg (by omega), Nat.min_eq_left (by omega)]
theorem max_v (a b : Nat) : V.int (if (b : Int) > (a : Int) then (b : Int) else (a : Int)) = .int ((max a b : Nat) : Int) := by
  by_cases h : b > a
  · rw [if_pos (by omega), Nat.max_eq_right (by omega)]
  · rw [if_neg (by omega), Nat.max_eq_left (by omega)]
theorem rc_min2 {i j : Int} {H : Hp} : RC (fun xs H Q => ∃ i j, xs = [V.int i, V.int j] ∧ Q (.int (if j < i then j else i)) H) [.int i, .int j] H (.int (if j < i then j else i)) := fun H1 _ Q q => ⟨i, j, rfl, q H1 (Ex.refl _)⟩
theorem rc_max2 {i j : Int} {H : Hp} : RC (fun xs H Q => ∃ i j, xs = [V.int i, V.int j] ∧ Q (.int (if j > i then j else i)) H) [.int i, .int j] H (.int (if j > i then j else i)) := fun H1 _ Q q => ⟨i, j, rfl, q H1 (Ex.refl _)⟩
/-! from Ph -/
section
variable {K : PySem.W.Frag} {σ : L2.St} {H : Hp} {te : TE} {Q : VK}
theorem wp_call1 {sp : Sp} {E : XK} (h : te σ H fun v H1 => sp [v] H1 Q E) : tCall sp [] E (tCons te tNil) σ H Q := h
theorem wp_cb1 {r : List V → Hp → VK → Prop} (h : te σ H fun v H1 => r [v] H1 Q) : tCB r (tCons te tNil) σ H Q := h
theorem wp_sort3 {p : Addr} {T : List Tie} (hw : WebAt K H p T) (nd : T.Nodup) (q : ∀ r H2 ys U, H r = none → Ex H H2 → H2 r = some (.lst ys) → Ties H2 ys U → Srt U → (∀ t, t ∈ U ↔ t ∈ T) → U.length = T.length → Q (.ref r) H2) : rSort3 K [.ref p] H Q :=
  wp_sorted (σ := []) (ta := tC (.ref p)) ev_c hw nd Q q
/-- a comprehension over a list, the step at n raising -/
theorem lc_raise {a : Addr} {xs : List V} {tl : TE} {j n : Nat} {vs : List Nat} (f : V → V) (hl : Ev tl σ H (.ref a)) (hs : SqL K H a xs) (hn : n < xs.length) (hz : n ≤ 40000) (hw : ∀ x, wipe ((wipe σ vs).set j (some x)) vs = wipe σ vs)
    (he : ∀ (i : Nat) x, i < n → xs[i]? = some x → ∀ H1, Ex H H1 → Ev te ((wipe σ vs).set j (some x)) H1 (f x)) (hb : ∀ x, xs[n]? = some x → ∀ H1, Ex H H1 → ∀ Q' : VK, te ((wipe σ vs).set j (some x)) H1 Q') : tLc (iList K tl) (gName j) tYes te vs σ H Q := by
  refine ew_list hl hs H (Ex.refl _) _ fun J H1 e1 wk Dl hD => ?_
  refine ⟨fun i m H' => m = xs.length - i ∧ i ≤ n ∧ Ex H1 H' ∧ ∃ zs, H' Dl = some (.lst zs) ∧ zs.length = i, ⟨xs.length, rfl, Nat.zero_le _, Ex.new hD, [], upd_same, rfl⟩, ?_⟩
  rintro i m H' ⟨rfl, hi, ex, zs, hl1, zl⟩
  have hst := ex_l (e1.trans ex) hs
  have hlt : i < xs.length := by omega
  refine .inr ⟨wk.go i H' hst hlt, fun H'' => i < n ∧ Ex H1 H'' ∧ ∃ zs, H'' Dl = some (.lst zs) ∧ zs.length = i + 1, fun H'' ⟨b, c, d⟩ => ⟨xs.length - (i + 1), by omega, rfl, b, c, d⟩, ?_⟩
  intro x H'' hy
  obtain ⟨rfl, hx⟩ := wk.yld i H' x H'' hst hlt hy
  refine ⟨hw x, ?_⟩
  refine yes_go ?_
  show te ((wipe σ vs).set j (some x)) H'' _
  by_cases k : i < n
  · refine he i x k hx _ (e1.trans ex) H'' (Ex.refl _) _ fun H4 e4 => ⟨zs, e4 _ _ hl1, sz_lt (by omega), k, Ex.mut (ex.trans e4) hD, _, upd_same, by rw [List.length_append, zl]; rfl⟩
  · have : i = n := by omega
    subst this
    exact hb x hx _ (e1.trans ex) _
/-- ties made of a list's ties -/
theorem wp_tiesTies {a : Addr} {xs : List V} {T U : List Tie} {tl : TE} {i j k : Nat} {vs : List Nat} (hl : Ev tl σ H (.ref a)) (hs : SqL K H a xs) (hT : Ties H xs T) (hlen : U.length = T.length) (hz : T.length ≤ 40000) (hw : ∀ x y z, wipe ((((wipe σ vs).set i (some x)).set j (some y)).set k (some z)) vs = wipe σ vs)
    (he : ∀ (n : Nat) (t u : Tie), T[n]? = some t → U[n]? = some u → ∀ H1, Ex H H1 → EvU te ((((wipe σ vs).set i (some (.int (t.1 : Nat)))).set j (some (sgn t.2.1))).set k (some (.int (t.2.2 : Nat)))) H1 (tieV u))
    (q : ∀ p H2 zs, H p = none → Ex H H2 → H2 p = some (.lst zs) → Ties H2 zs U → Q (.ref p) H2) : tLc (iList K tl) (gTup K 3 (gCons (gName i) (gCons (gName j) (gCons (gName k) gNil)))) tYes te vs σ H Q := by
  have xl := hT.length
  refine ew_list hl hs H (Ex.refl _) _ fun J H1 e1 wk Dl hD => ?_
  refine ⟨fun n m H' => m = xs.length - n ∧ n ≤ xs.length ∧ Ex H1 H' ∧ ∃ zs, H' Dl = some (.lst zs) ∧ Ties H' zs (U.take n), ⟨xs.length, rfl, Nat.zero_le _, Ex.new hD, [], upd_same, .nil⟩, ?_⟩
  rintro n m H' ⟨rfl, hi, ex, zs, hl1, ht⟩
  have hst := ex_l (e1.trans ex) hs
  by_cases hlt : n < xs.length
  · refine .inr ⟨wk.go n H' hst hlt, fun H'' => Ex H1 H'' ∧ ∃ zs, H'' Dl = some (.lst zs) ∧ Ties H'' zs (U.take (n + 1)), fun H'' ⟨b, c⟩ => ⟨xs.length - (n + 1), by omega, rfl, hlt, b, c⟩, ?_⟩
    intro x H'' hy
    obtain ⟨rfl, hx⟩ := wk.yld n H' x H'' hst hlt hy
    obtain ⟨t, ta, htn, rfl, hta⟩ := hT.at hx
    obtain ⟨u, hu⟩ : ∃ u, U[n]? = some u := ⟨U[n], List.getElem?_eq_getElem (by omega)⟩
    refine g3 rfl (st_of ((e1.trans ex) _ _ hta)) ⟨hw _ _ _, yes_go ?_⟩
    show te _ H'' _
    refine he n t u htn hu _ (e1.trans ex) H'' (Ex.refl _) _ fun p H3 hp e3 h3 => ?_
    have hl3 := e3 _ _ hl1
    refine ⟨zs, hl3, sz_lt (by rw [ht.length, List.length_take]; omega), Ex.mut (ex.trans e3) hD, zs ++ [.ref p], upd_same, ?_⟩
    have tk : U.take (n + 1) = U.take n ++ [u] := by rw [List.take_add_one, hu]; rfl
    rw [tk]
    refine Ties.app ((ht.mono e3).upd hl3) (.cons ⟨p, rfl, ?_⟩ .nil)
    rw [upd_ne (ne_of h3 hl3 fun z => by cases z)]; exact h3
  · have hn : n = xs.length := by omega
    refine .inl ⟨wk.stop n H' hst (by omega), q Dl H' zs (fresh_back e1 hD) (e1.trans ex) hl1 ?_⟩
    rw [hn, List.take_of_length_le (by omega)] at ht; exact ht
end
/-- the web, from folded rings to numbered ties -/
theorem web_made {ws : List (List Nat)} {R T U : List Tie} {n : Nat} {rp : Nat → Nat} (A : AllW ws) (rg : Rg (ws.map short) R n) (Q0 : Quot R T rp) (nd : T.Nodup) (so : Srt U) (mU : ∀ t, t ∈ U ↔ t ∈ tmap (pos T) T) (lU : U.length = (tmap (pos T) T).length) : Core T ∧ WebOf ws U := by
  have B : AllW (ws.map short) := fun u hu => by
    obtain ⟨x, hx, rfl⟩ := List.mem_map.mp hu
    exact short_isW (A x hx)
  have G := rg.ring B fun u hu => by
    obtain ⟨x, hx, rfl⟩ := List.mem_map.mp hu
    exact short_shrt (A x hx)
  have C := Q0.core G nd
  obtain ⟨C1, N1, r1⟩ := C.numbered
  have mU' : ∀ t, t ∈ tmap (pos T) T ↔ t ∈ U := fun t => (mU t).symm
  refine ⟨C, ⟨⟨C1.congr mU' so.nodup, N1.congr C1 mU' so.nodup, so⟩, fun w hw => ?_, fun t ht => ?_, ?_⟩⟩
  · rw [← rds_congr mU', r1 w, Q0.reads G.ringed hw, made_shorts A]
  · obtain ⟨u, hu, rfl⟩ := tmap_mem.mp ((mU t).mp ht)
    obtain ⟨t0, h0, rfl⟩ := Q0.of u hu
    obtain ⟨w, hw, c, hc, e⟩ := G.lets t0 h0
    obtain ⟨x, hx, rfl⟩ := List.mem_map.mp hw
    exact ⟨x, hx, c, short_sub (A x hx) c hc, e⟩
  · have l1 : (tmap (pos T) T).length = T.length := by unfold tmap; simp
    have l2 := Q0.len nd
    have l3 := G.len
    rw [List.map_map] at l3
    have : (ws.map (List.length ∘ short)) = ws.map fun w => (short w).length := rfl
    rw [this] at l3
    omega
/-! from Pn -/
theorem ret_go {te : TE} {D : Ends} {σ : L2.St} {H : Hp} (h : te σ H D.rt) : tRet te D σ H := h
/-- a dict of what leads where -/
def LdDict (kvs : List (List Key × V)) (L : List Tie) : Prop := (∀ r c e : Nat, (r, c, e) ∈ L → valV kvs (key r c) = some (.int (e : Nat))) ∧ (∀ r c : Nat, (∀ e, (r, c, e) ∉ L) → valV kvs (key r c) = none) ∧ kvs.length ≤ L.length
theorem ldDict_nil : LdDict [] [] := ⟨fun _ _ _ h => (by cases h), fun _ _ _ => rfl, Nat.le_refl _⟩
theorem LdDict.put {kvs : List (List Key × V)} {L : List Tie} {a x b : Nat} (h : LdDict kvs L) (F : ∀ e, (a, x, e) ∈ L → e = b) : LdDict (putK kvs (key a x) (.int (b : Nat))) (L ++ [(a, x, b)]) := by
  obtain ⟨h1, h2, h3⟩ := h
  refine ⟨fun r c e m => ?_, fun r c m => ?_, ?_⟩
  · rw [valV_put]
    by_cases k : key r c = key a x
    · obtain ⟨rfl, rfl⟩ := key_inj k
      rw [if_pos rfl]
      rcases List.mem_append.mp m with m | m
      · rw [F e m]
      · rw [List.mem_singleton] at m
        cases m; rfl
    · rw [if_neg k]
      rcases List.mem_append.mp m with m | m
      · exact h1 r c e m
      · rw [List.mem_singleton] at m
        cases m
        exact absurd rfl k
  · rw [valV_put]
    by_cases k : key r c = key a x
    · obtain ⟨rfl, rfl⟩ := key_inj k
      exact absurd (List.mem_append.mpr (Or.inr (List.mem_singleton.mpr rfl))) (m b)
    · rw [if_neg k]
      exact h2 r c fun e z => m e (List.mem_append.mpr (Or.inl z))
  · have := length_putK kvs (key a x) (.int (b : Nat))
    rw [List.length_append, List.length_singleton]; omega
/-! from Pm -/
theorem rising_one : ∀ (U : List Nat) (p : Nat), risingS (S [p]) (U.map fun c => S [c]) = true → (p :: U).Pairwise (· ≤ ·)
  | [], p, _ => List.pairwise_singleton _ _
  | x :: U, p, h => by
    have h' : (!ltCps (S [x]).cps.toList (S [p]).cps.toList && risingS (S [x]) (U.map fun c => S [c])) = true := h
    rw [Bool.and_eq_true] at h'
    have ih := rising_one U x h'.2
    have hx : p ≤ x := by
      have h1 := h'.1
      rw [S_cps, S_cps] at h1
      by_cases k : x < p
      · have : ltCps [x] [p] = true := by simp [ltCps, k]
        rw [this] at h1; cases h1
      · omega
    rw [List.pairwise_cons] at ih ⊢
    refine ⟨fun y hy => ?_, List.pairwise_cons.mpr ih⟩
    rcases List.mem_cons.mp hy with rfl | hy
    · exact hx
    · exact Nat.le_trans hx (ih.1 y hy)
theorem sorted_one {U : List Nat} (h : sortedS (U.map fun c => S [c]) = true) (n : U.Nodup) : U.Pairwise (· < ·) := by
  have : U.Pairwise (· ≤ ·) := by
    cases U with
    | nil => exact List.Pairwise.nil
    | cons p U => exact rising_one U p h
  exact (List.Pairwise.and this n).imp fun {a b} h => Nat.lt_of_le_of_ne h.1 h.2
theorem one_inj {a b : Nat} : S [a] = S [b] ↔ a = b := ⟨fun h => by have := S_inj h; simpa using this, fun h => by rw [h]⟩
theorem addS_map (L : List Nat) (c : Nat) : addS (L.map fun c => S [c]) (S [c]) = (addC L c).map fun c => S [c] := by
  unfold addS addC
  by_cases h : c ∈ L
  · rw [if_pos h, if_pos (List.mem_map.mpr ⟨c, h, rfl⟩)]
  · rw [if_neg h, if_neg fun z => by
      obtain ⟨d, hd, e⟩ := List.mem_map.mp z
      exact h (one_inj.mp e ▸ hd)]
    rfl
theorem perm_map_back {ys : List Str} {L : List Nat} (h : ys.Perm (L.map fun c => S [c])) : ∃ U : List Nat, ys = U.map (fun c => S [c]) ∧ U.Perm L := by
  refine ⟨ys.map fun y => y.cps.toList.headD 0, ?_, ?_⟩
  · rw [List.map_map]
    conv => lhs; rw [← List.map_id ys]
    refine List.map_congr_left fun y hy => ?_
    obtain ⟨c, _, rfl⟩ := List.mem_map.mp (h.mem_iff.mp hy)
    rfl
  · have := h.map fun y : Str => y.cps.toList.headD 0
    rw [List.map_map] at this
    have e : L.map ((fun y : Str => y.cps.toList.headD 0) ∘ fun c => S [c]) = L := by
      conv => rhs; rw [← List.map_id L]
      exact List.map_congr_left fun c _ => rfl
    rw [e] at this; exact this
theorem rv_notN {x : V} {H : Hp} : RV (fun x y H Q => y = .non ∧ Q (.bl (!decide (x = .non))) H) x .non H (.bl (!decide (x = .non))) := fun H1 _ Q q => ⟨rfl, q H1 (Ex.refl _)⟩
theorem ev_dninK {td ty : TE} {σ : L2.St} {H : Hp} {d : Addr} {kvs : List (Key × V)} {k : Key} (h1 : Ev ty σ H (kV k)) (h2 : Ev td σ H (.ref d)) (hd : Rd H d (.dK kvs)) : Ev (tDNotIn ty td) σ H (.bl (!(valV kvs k).isSome)) := fun H1 e Q q =>
  h1 H1 e _ fun H2 e2 => h2 H2 (e.trans e2) _ fun H3 e3 => ⟨d, valV kvs k, rfl, Or.inl ⟨kvs, k, ex_rd ((e.trans e2).trans e3) hd, rfl, rfl⟩, q H3 (e2.trans e3)⟩
/-- numbers told so far -/
def NumD (kvs : List (Key × V)) (F : List Nat) : Prop := (∀ r : Nat, valV kvs (.inl (r : Nat)) = if r ∈ F then some (.int (F.idxOf r : Nat)) else none) ∧ kvs.length ≤ F.length
theorem NumD.add {kvs : List (Key × V)} {F : List Nat} {e : Nat} (h : NumD kvs F) (ne : e ∉ F) : NumD (putK kvs (.inl (e : Nat)) (.int (F.length : Nat))) (F ++ [e]) := by
  refine ⟨fun r => ?_, ?_⟩
  · rw [valV_put]
    by_cases k : r = e
    · subst k
      rw [if_pos rfl, if_pos (List.mem_append.mpr (Or.inr (List.mem_singleton.mpr rfl))), List.idxOf_append, if_neg ne]
      simp
    · rw [if_neg (fun z => k (inl_inj.mp z)), h.1 r]
      by_cases m : r ∈ F
      · rw [if_pos m, if_pos (List.mem_append.mpr (Or.inl m)), List.idxOf_append, if_pos m]
      · rw [if_neg m, if_neg fun z => by
          rcases List.mem_append.mp z with z | z
          · exact m z
          · exact k (List.mem_singleton.mp z)]
  · have := length_putK kvs (.inl (e : Nat)) (.int (F.length : Nat))
    have := h.2
    rw [List.length_append, List.length_singleton]; omega
theorem numD_start : NumD [((.inl ((0 : Nat) : Int) : Key), .int ((0 : Nat) : Int))] [0] := by
  refine ⟨fun r => ?_, Nat.le_refl _⟩
  by_cases k : r = 0
  · subst k; rfl
  · rw [if_neg (by simpa using k), valV_neg (fun z => k (inl_inj.mp z).symm)]; rfl
theorem join_parts : ∀ ls : List (List Nat), Txt.join (S []) (ls.map S) = S ls.flatten := by
  intro ls
  have e := SX.join_S [] ls
  have e2 : ls.map SX.S = ls.map S := rfl
  rw [e2] at e
  have j : ∀ l : List (List Nat), TL.joinL [] l = l.flatten := by
    intro l
    induction l with
    | nil => rfl
    | cons a r ih =>
      cases r with
      | nil => show a = a ++ []; rw [List.append_nil]
      | cons b r =>
        show a ++ ([] ++ TL.joinL [] (b :: r)) = _
        rw [ih]; rfl
  rw [j] at e
  exact e
theorem cset_few {T : List Tie} (sm : ∀ t ∈ T, 97 ≤ t.2.1 ∧ t.2.1 ≤ 122) (i : Nat) : (csetL ((T.take i).map fun t => t.2.1)).length ≤ 26 := by
  have := nodup_le' (m := (List.range 26).map (97 + ·)) (csetL_nodup ((T.take i).map fun t => t.2.1)) fun c hc => by
    obtain ⟨t, ht, rfl⟩ := List.mem_map.mp (mem_csetL.mp hc)
    have := sm t (List.mem_of_mem_take ht)
    exact List.mem_map.mpr ⟨t.2.1 - 97, List.mem_range.mpr (by omega), by omega⟩
  simpa using this
theorem addAll_one (A : List Nat) (x : Nat) : addAll A [x] = add1 A x := rfl
end Gw

/-! ## G2 -/
namespace Gw
open PySem PySem.Spec PyProof.Rows L2 Evl
/-! ### what leads where, as a dict -/
def kvOf (L : List Tie) : List (List Key × V) := L.foldl (fun d x => putK d (key x.1 x.2.1) (.int (x.2.2 : Nat))) []
theorem kvOf_snoc (L : List Tie) (x : Tie) : kvOf (L ++ [x]) = putK (kvOf L) (key x.1 x.2.1) (.int (x.2.2 : Nat)) := by unfold kvOf; rw [List.foldl_append]; rfl
theorem kvOf_len (L : List Tie) : (kvOf L).length ≤ L.length := by
  have : ∀ n (L : List Tie), L.length = n → (kvOf L).length ≤ n := by
    intro n
    induction n with
    | zero => intro L h; rw [List.eq_nil_of_length_eq_zero h]; exact Nat.le_refl _
    | succ n ih =>
      intro L h
      rcases List.eq_nil_or_concat L with rfl | ⟨M, b, rfl⟩
      · cases h
      · rw [List.concat_eq_append] at *
        have h1 := ih M (by simpa using h)
        have h2 := length_putK (kvOf M) (key b.1 b.2.1) (.int (b.2.2 : Nat))
        rw [kvOf_snoc]; omega
  exact this _ L rfl
theorem kvOf_ld : ∀ {n : Nat} {L : List Tie}, L.length = n → (∀ r c e e', (r, c, e) ∈ L → (r, c, e') ∈ L → e = e') → LdDict (kvOf L) L
  | 0, L, h, _ => by rw [List.eq_nil_of_length_eq_zero h]; exact ldDict_nil
  | n + 1, L, h, F => by
    rcases List.eq_nil_or_concat L with rfl | ⟨M, b, rfl⟩
    · cases h
    · rw [List.concat_eq_append] at *
      rw [kvOf_snoc]
      exact (kvOf_ld (n := n) (by simpa using h) fun r c e e' a b => F r c e e' (List.mem_append.mpr (Or.inl a)) (List.mem_append.mpr (Or.inl b))).put fun e he => F _ _ _ _ (List.mem_append.mpr (Or.inl he)) (List.mem_append.mpr (Or.inr (List.mem_singleton.mpr rfl)))
theorem kvOf_links {T : List Tie} (sm : ∀ t ∈ T, 97 ≤ t.2.1 ∧ t.2.1 ≤ 122) (fo : Folded T) : LdDict (kvOf (links T)) (links T) :=
  kvOf_ld rfl fun r c e e' h h' => fo r c e e' ((mem_links sm).mp h) ((mem_links sm).mp h')
def LeadsAt (H : Hp) (d : Addr) (T : List Tie) : Prop := Rd H d (.dT (kvOf (links T)))
theorem LeadsAt.mono {H H' : Hp} {d : Addr} {T : List Tie} (e : Ex H H') (h : LeadsAt H d T) : LeadsAt H' d T := ex_rd e h
def sp_leads (K : PySem.W.Frag) : Sp := fun vs H Q _ => ∃ a T, vs = [.ref a] ∧ WebAt K H a T ∧ (∀ t ∈ T, 97 ≤ t.2.1 ∧ t.2.1 ≤ 122) ∧ T.length ≤ 4000 ∧ ∀ d H2, H d = none → Ex H H2 → H2 d = some (.dT (kvOf (links T))) → Q (.ref d) H2
/-- what a room and a letter lead to, by the dict -/
theorem leads_val {T : List Tie} (sm : ∀ t ∈ T, 97 ≤ t.2.1 ∧ t.2.1 ≤ 122) (fo : Folded T) (nd : T.Nodup) {r c : Nat} (hc : isL c = true) : ∃ o : Option Nat, valV (kvOf (links T)) (key r c) = o.map (fun s => V.int (s : Nat)) ∧ gl T r c = o.toList ∧ ∀ s, o = some s ↔ Ld T r c s := by
  obtain ⟨h1, h2, _⟩ := kvOf_links sm fo
  obtain ⟨one, none_⟩ := gl_one fo nd (r := r) hc
  by_cases e : ∃ s, Ld T r c s
  · obtain ⟨s, l⟩ := e
    exact ⟨some s, h1 r c s ((mem_links sm).mpr l), one s l, fun s' => ⟨fun z => by cases z; exact l, fun z => by rw [fo _ _ _ _ l z]⟩⟩
  · have e' : ∀ s, ¬ Ld T r c s := fun s l => e ⟨s, l⟩
    exact ⟨none, h2 r c fun s m => e' s ((mem_links sm).mp m), none_ e', fun s => ⟨fun z => (by cases z), fun z => (e' s z).elim⟩⟩
/-! ### finding, numbering -/
def sp_findings (K : PySem.W.Frag) : Sp := fun vs H Q _ => ∃ a T, vs = [.ref a] ∧ WebAt K H a T ∧ (∀ t ∈ T, 97 ≤ t.2.1 ∧ t.2.1 ≤ 122) ∧ Folded T ∧ T.Nodup ∧ T.length ≤ 2000 ∧ RetTs (fin T) H Q
def numKV (F : List Nat) : List (Key × V) := F.zipIdx.map fun p => ((.inl (p.1 : Nat) : Key), V.int (p.2 : Nat))
theorem numKV_snoc (F : List Nat) (e : Nat) : numKV (F ++ [e]) = numKV F ++ [((.inl (e : Nat) : Key), V.int (F.length : Nat))] := by
  unfold numKV; rw [List.zipIdx_append, List.map_append]; simp
theorem numKV_len (F : List Nat) : (numKV F).length = F.length := by unfold numKV; simp
theorem numKV_num : ∀ {n : Nat} {F : List Nat}, F.length = n → F.Nodup → NumD (numKV F) F
  | 0, F, h, _ => by
    rw [List.eq_nil_of_length_eq_zero h]
    exact ⟨fun r => by rw [if_neg (by simp)]; rfl, Nat.le_refl _⟩
  | n + 1, F, h, nd => by
    rcases List.eq_nil_or_concat F with rfl | ⟨M, e, rfl⟩
    · cases h
    · rw [List.concat_eq_append] at *
      rw [List.nodup_append] at nd
      have ih := numKV_num (n := n) (by simpa using h) nd.1
      have ne : e ∉ M := fun z => nd.2.2 _ z _ (List.mem_singleton.mpr rfl) rfl
      have := ih.add ne
      rw [putK_new _ (by rw [ih.1, if_neg ne]), ← numKV_snoc] at this
      exact this
theorem numKV_put {F : List Nat} (nd : F.Nodup) {e : Nat} (ne : e ∉ F) : putK (numKV F) (.inl (e : Nat)) (.int (F.length : Nat)) = numKV (F ++ [e]) := by
  rw [putK_new _ (by rw [(numKV_num rfl nd).1, if_neg ne]), numKV_snoc]
def NumAt (H : Hp) (d : Addr) (F : List Nat) : Prop := H d = some (.dK (numKV F))
def sp_numbering (K : PySem.W.Frag) : Sp := fun vs H Q _ => ∃ a T, vs = [.ref a] ∧ WebAt K H a T ∧ (∀ t ∈ T, 97 ≤ t.2.1 ∧ t.2.1 ≤ 122) ∧ Folded T ∧ T.Nodup ∧ T.length ≤ 2000 ∧ ∀ d H2, H d = none → Ex H H2 → NumAt H2 d (ord T) → Q (.ref d) H2
/-- the ties that are come to -/
def come (T : List Tie) : List Tie := T.filter fun t => decide (t.1 ∈ ord T)
theorem come_all {T : List Tie} (h : ∀ r ∈ rms T, r ∈ ord T) : come T = T := List.filter_eq_self.mpr fun t ht => decide_eq_true (h _ (mem_rms.mpr (Or.inr ⟨t, ht, Or.inl rfl⟩)))
def RetRen (T : List Tie) (H : Hp) (Q : VK) : Prop := ∀ p H2 ys U, H p = none → Ex H H2 → H2 p = some (.lst ys) → Ties H2 ys U → Srt U → (∀ t, t ∈ U ↔ t ∈ tmap (pos T) (come T)) → U.length = (come T).length → Q (.ref p) H2
def sp_renumbered (K : PySem.W.Frag) : Sp := fun vs H Q _ => ∃ a T, vs = [.ref a] ∧ WebAt K H a T ∧ (∀ t ∈ T, 97 ≤ t.2.1 ∧ t.2.1 ≤ 122) ∧ Folded T ∧ T.Nodup ∧ T.length ≤ 2000 ∧ RetRen T H Q
/-- what is found by one room's letters, step by step -/
theorem nbc_small {T : List Tie} {r c : Nat} {o : Option Nat} (h : gl T r c = o.toList) : glc T r c = o.toList.map fun s => (c, s) := by unfold glc; rw [h]
structure Nb (P : Program) (w : World) (a d p q : Addr) (Ls : List Nat) (s : Addr) (i : Nat) (H0 : Hp) (L : List Stp) (σ : L2.St) (H : Hp) : Prop where
  sl : ∃ x2 x8 x9, σ = [some (.ref a), some (.ref d), x2, some (.str (S Ls)), some (.ref p), some (.ref q), some (.ref s), some (.int (i : Nat)), x8, x9, none, none]
  ex : Ex H0 H
  kn : ∃ f n, H p = some (SetI P w p f n) ∧ (∀ r : Nat, f (r : Int) = decide (r ∈ news L)) ∧ n ≤ (news L).length
  fd : H q = some (.lst (nats (news L)))
  st : ∃ ys, H s = some (.lst ys) ∧ Ties H ys L
section
variable {K : PySem.W.Frag} {σ : L2.St} {H : Hp} {te : TE} {Q : VK} {t : TT}
/-- ties made of some of a list's ties -/
theorem wp_tiesTiesF {a : Addr} {xs : List V} {T : List Tie} {tl : TE} {i j k : Nat} {vs : List Nat} (p : Tie → Bool) (f : Tie → Tie) (hl : Ev tl σ H (.ref a)) (hs : SqL K H a xs) (hT : Ties H xs T) (hz : T.length ≤ 40000) (hw : ∀ x y z, wipe ((((wipe σ vs).set i (some x)).set j (some y)).set k (some z)) vs = wipe σ vs)
    (ht : ∀ u ∈ T, ∀ H1, Ex H H1 → EvT t ((((wipe σ vs).set i (some (.int (u.1 : Nat)))).set j (some (sgn u.2.1))).set k (some (.int (u.2.2 : Nat)))) H1 (p u))
    (he : ∀ u ∈ T, p u = true → ∀ H1, Ex H H1 → EvU te ((((wipe σ vs).set i (some (.int (u.1 : Nat)))).set j (some (sgn u.2.1))).set k (some (.int (u.2.2 : Nat)))) H1 (tieV (f u)))
    (q : ∀ p' H2 zs, H p' = none → Ex H H2 → H2 p' = some (.lst zs) → Ties H2 zs ((T.filter p).map f) → Q (.ref p') H2) : tLc (iList K tl) (gTup K 3 (gCons (gName i) (gCons (gName j) (gCons (gName k) gNil)))) t te vs σ H Q := by
  have xl := hT.length
  refine ew_list hl hs H (Ex.refl _) _ fun J H1 e1 wk Dl hD => ?_
  refine ⟨fun n m H' => m = xs.length - n ∧ n ≤ xs.length ∧ Ex H1 H' ∧ ∃ zs, H' Dl = some (.lst zs) ∧ Ties H' zs (((T.take n).filter p).map f), ⟨xs.length, rfl, Nat.zero_le _, Ex.new hD, [], upd_same, .nil⟩, ?_⟩
  rintro n m H' ⟨rfl, hi, ex, zs, hl1, hz1⟩
  have hst := ex_l (e1.trans ex) hs
  have few : ∀ n, (((T.take n).filter p).map f).length ≤ T.length := fun n => by
    rw [List.length_map]
    exact Nat.le_trans (List.length_filter_le _ _) (by rw [List.length_take]; exact Nat.min_le_right _ _)
  by_cases hlt : n < xs.length
  · refine .inr ⟨wk.go n H' hst hlt, fun H'' => Ex H1 H'' ∧ ∃ zs, H'' Dl = some (.lst zs) ∧ Ties H'' zs (((T.take (n + 1)).filter p).map f), fun H'' ⟨b, c⟩ => ⟨xs.length - (n + 1), by omega, rfl, hlt, b, c⟩, ?_⟩
    intro x H'' hy
    obtain ⟨rfl, hx⟩ := wk.yld n H' x H'' hst hlt hy
    obtain ⟨u, ta, htn, rfl, hta⟩ := hT.at hx
    have mu := List.mem_of_getElem? htn
    have tk : T.take (n + 1) = T.take n ++ [u] := by rw [List.take_add_one, htn]; rfl
    refine g3 rfl (st_of ((e1.trans ex) _ _ hta)) ⟨hw _ _ _, ?_⟩
    refine ht u mu _ (e1.trans ex) H'' (Ex.refl _) _ fun H3 e3 => ?_
    cases hp : p u with
    | true =>
      show te _ H3 _
      refine he u mu hp _ ((e1.trans ex).trans e3) H3 (Ex.refl _) _ fun b H4 hb e4 h4 => ?_
      have hl4 := (e3.trans e4) _ _ hl1
      refine ⟨zs, hl4, sz_lt (by rw [hz1.length]; have := few n; omega), Ex.mut ((ex.trans e3).trans e4) hD, zs ++ [.ref b], upd_same, ?_⟩
      rw [tk, List.filter_append, List.map_append, List.filter_cons, if_pos hp]
      refine Ties.app ((hz1.mono (e3.trans e4)).upd hl4) (.cons ⟨b, rfl, ?_⟩ .nil)
      rw [upd_ne (ne_of h4 hl4 fun z => by cases z)]; exact h4
    | false =>
      show Ex H1 H3 ∧ _
      refine ⟨ex.trans e3, zs, e3 _ _ hl1, ?_⟩
      rw [tk, List.filter_append, List.filter_cons, if_neg (by rw [hp]; decide)]
      simpa using hz1.mono e3
  · have hn : n = xs.length := by omega
    refine .inl ⟨wk.stop n H' hst (by omega), q Dl H' zs (fresh_back e1 hD) (e1.trans ex) hl1 ?_⟩
    rw [hn, List.take_of_length_le (by omega)] at hz1; exact hz1
end
/-- a loop over ties -/
theorem ties_turn {K : PySem.W.Frag} {H : Hp} {xs : List V} {T : List Tie} {i : Nat} {x : V} (h : Ties H xs T) (hx : xs[i]? = some x) : ∃ t a, T[i]? = some t ∧ x = .ref a ∧ H a = some (.tup (tieV t)) := h.at hx
end Gw
namespace Gw
open PySem PySem.Spec PyProof.Rows L2 Evl
section
variable {K : PySem.W.Frag} {σ : L2.St} {H : Hp} {tl : TE} {g : TG} {tu tz : TS} {D : Ends}
theorem q_forC (h : tl σ H fun x H1 => tSeq (tFor (iList K (tC x)) g tu) tz D σ H1) : tSeq (tFor (iList K tl) g tu) tz D σ H := h
theorem s_forC (h : tl σ H fun x H1 => tFor (iList K (tC x)) g tu D σ H1) : tFor (iList K tl) g tu D σ H := h
end
end Gw

/-! ## W10 -/
/-! what makes a web, asked piece by piece -/
namespace Gw
open PySem PySem.Spec PyProof.Rows L2 Evl
/-! ### rising -/
theorem alike_tie (t u : Tie) : PySem.W.alike (tieD t) (tieD u) = true := by
  unfold tieD
  simp [PySem.W.alike, PySem.W.alikeAll]
theorem lt_tie (t u : Tie) : PySem.W.dataLt (tieD t) (tieD u) = lt3 (k3 t) (k3 u) := by
  have ai : ∀ a b : Int, PySem.W.alike (.int a) (.int b) = true := fun a b => by simp [PySem.W.alike]
  have as : ∀ a b : Str, PySem.W.alike (.str a) (.str b) = true := fun a b => by simp [PySem.W.alike]
  have ei : ∀ a b : Int, PyData.eqv (.int a) (.int b) = decide (a = b) := fun a b => by
    by_cases h : a = b
    · subst h; simp [PyData.eqv]
    · rw [decide_eq_false h]; simpa [PyData.eqv] using h
  have es : ∀ a b : Str, PyData.eqv (.str a) (.str b) = decide (a = b) := fun a b => by
    by_cases h : a = b
    · subst h; simp [PyData.eqv]
    · rw [decide_eq_false h]; simpa [PyData.eqv] using h
  unfold tieD
  rw [PySem.W.dataLt_tuple]
  by_cases h1 : t.1 = u.1
  · rw [PySem.W.dataLt_all_yes (ai _ _) (by rw [ei]; simp [h1])]
    by_cases h2 : t.2.1 = u.2.1
    · rw [PySem.W.dataLt_all_yes (as _ _) (by rw [es]; simp [h2])]
      by_cases h3 : t.2.2 = u.2.2
      · rw [PySem.W.dataLt_all_yes (ai _ _) (by rw [ei]; simp [h3])]
        have : lt3 (k3 t) (k3 u) = false := by
          refine lt3_no.mpr ?_
          show ¬ ((t.1 : Int) < u.1 ∨ ((t.1 : Int) = u.1 ∧ (t.2.1 < u.2.1 ∨ (t.2.1 = u.2.1 ∧ ((t.2.2 : Nat) : Int) < (u.2.2 : Nat)))))
          omega
        rw [this]; simp [PySem.W.keyToksAll, PyProof.Rows.lexLt]; rfl
      · rw [PySem.W.dataLt_all_no (ai _ _) (by rw [ei]; exact decide_eq_false (by omega)), PySem.W.dataLt_int]
        unfold lt3 k3
        rw [if_pos (by simp [h1]), if_pos (by simp [h2])]
    · rw [PySem.W.dataLt_all_no (as _ _) (by rw [es]; exact decide_eq_false fun z => h2 (by have := S_inj z; simpa using this)), PySem.W.dataLt_str, S_cps, S_cps]
      unfold lt3 k3
      rw [if_pos (by simp [h1]), if_neg (by simp [h2])]
      by_cases hc : t.2.1 < u.2.1
      · rw [decide_eq_true hc, decide_eq_true (List.cons_lt_cons_iff.mpr (Or.inl hc))]
      · rw [decide_eq_false hc, decide_eq_false fun z => by
          rcases List.cons_lt_cons_iff.mp z with z | ⟨_, z⟩
          · exact hc z
          · exact absurd z (by simp)]
  · rw [PySem.W.dataLt_all_no (ai _ _) (by rw [ei]; exact decide_eq_false (by omega)), PySem.W.dataLt_int]
    unfold lt3 k3
    rw [if_neg (show ¬ ((t.1 : Int) = (u.1 : Int)) by omega)]
theorem lt3_trans {p q r : K3} (a : lt3 p q = true) (b : lt3 q r = true) : lt3 p r = true := by
  have a := lt3_iff.mp a
  have b := lt3_iff.mp b
  exact lt3_iff.mpr (by omega)
def ris (T : List Tie) : Bool := (T.zip (T.drop 1)).all fun p => lt3 (k3 p.1) (k3 p.2)
theorem ris_iff : ∀ {T : List Tie}, ris T = true ↔ Srt T
  | [] => ⟨fun _ => List.Pairwise.nil, fun _ => rfl⟩
  | [t] => ⟨fun _ => List.pairwise_singleton _ _, fun _ => rfl⟩
  | t :: u :: T => by
    have ih := ris_iff (T := u :: T)
    have e : ris (t :: u :: T) = (lt3 (k3 t) (k3 u) && ris (u :: T)) := rfl
    rw [e, Bool.and_eq_true, ih]
    unfold Srt
    rw [List.pairwise_cons (a := t)]
    constructor
    · rintro ⟨h1, h2⟩
      refine ⟨fun x hx => ?_, h2⟩
      rcases List.mem_cons.mp hx with rfl | hx
      · exact h1
      · exact lt3_trans h1 ((List.pairwise_cons.mp h2).1 x hx)
    · exact fun h => ⟨h.1 u List.mem_cons_self, h.2⟩
/-! ### folded -/
def kof (x : Tie) : Nat × Nat := (x.1, x.2.1)
theorem valV_none_iff {n : Nat} : ∀ {L : List Tie}, L.length = n → ∀ {r c : Nat}, valV (kvOf L) (key r c) = none ↔ (r, c) ∉ L.map kof := by
  induction n with
  | zero => intro L h r c; rw [List.eq_nil_of_length_eq_zero h]; exact ⟨fun _ => by simp, fun _ => rfl⟩
  | succ n ih =>
    intro L h r c
    rcases List.eq_nil_or_concat L with rfl | ⟨M, b, rfl⟩
    · cases h
    · rw [List.concat_eq_append] at *
      have ih := ih (L := M) (by simpa using h) (r := r) (c := c)
      rw [kvOf_snoc, valV_put, List.map_append, List.mem_append]
      by_cases k : key r c = key b.1 b.2.1
      · obtain ⟨rfl, rfl⟩ := key_inj k
        rw [if_pos rfl]
        exact ⟨fun z => (by cases z), fun z => (z (Or.inr (List.mem_singleton.mpr rfl))).elim⟩
      · rw [if_neg k, ih]
        refine ⟨fun z y => ?_, fun z y => z (Or.inl y)⟩
        rcases y with y | y
        · exact z y
        · have : (r, c) = kof b := by simpa using y
          unfold kof at this
          simp only [Prod.mk.injEq] at this
          exact k (by rw [this.1, this.2])
theorem putK_old {kvs : List (List Key × V)} {k : List Key} {v : V} (h : valV kvs k ≠ none) : (putK kvs k v).length = kvs.length := by
  unfold putK
  rw [valV_any, if_pos (by cases q : valV kvs k with | none => exact absurd q h | some x => rfl), List.length_map]
theorem kvOf_full {n : Nat} : ∀ {L : List Tie}, L.length = n → ((kvOf L).length = L.length ↔ (L.map kof).Nodup) := by
  induction n with
  | zero => intro L h; rw [List.eq_nil_of_length_eq_zero h]; exact ⟨fun _ => List.nodup_nil, fun _ => rfl⟩
  | succ n ih =>
    intro L h
    rcases List.eq_nil_or_concat L with rfl | ⟨M, b, rfl⟩
    · cases h
    · rw [List.concat_eq_append] at *
      have hM : M.length = n := by simpa using h
      have ih := ih hM
      have le := kvOf_len M
      have v := valV_none_iff hM (r := b.1) (c := b.2.1)
      rw [kvOf_snoc, List.length_append, List.length_singleton, List.map_append, List.nodup_append]
      by_cases k : valV (kvOf M) (key b.1 b.2.1) = none
      · rw [putK_new _ k, List.length_append, List.length_singleton]
        refine ⟨fun e => ⟨ih.mp (by omega), by simp, fun x hx y hy z => ?_⟩, fun e => by rw [ih.mpr e.1]⟩
        have : y = kof b := by simpa using hy
        subst this; subst z
        exact v.mp k hx
      · rw [putK_old k]
        refine ⟨fun e => by omega, fun e => ?_⟩
        have m : kof b ∈ M.map kof := by
          by_cases z : kof b ∈ M.map kof
          · exact z
          · exact absurd (v.mpr z) k
        exact (e.2.2 _ m _ (List.mem_singleton.mpr rfl) rfl).elim
theorem links_keys {T : List Tie} (sm : ∀ t ∈ T, 97 ≤ t.2.1 ∧ t.2.1 ≤ 122) : ((links T).map kof).Nodup ↔ Folded T ∧ T.Nodup := by
  constructor
  · intro n
    refine ⟨fun r c s s' h h' => ?_, ?_⟩
    · have m := (mem_links sm).mpr h
      have m' := (mem_links sm).mpr h'
      have := nodup_inj n (r, c, s) m (r, c, s') m' rfl
      simpa using this
    · have n2 := nodup_of_map n
      unfold links at n2
      have : ∀ {T : List Tie}, (T.flatMap fun t => [t, wayBack t]).Nodup → T.Nodup := by
        intro T
        induction T with
        | nil => intro _; exact List.nodup_nil
        | cons t T ih =>
          intro n
          rw [List.flatMap_cons, List.nodup_append] at n
          refine List.nodup_cons.mpr ⟨fun z => ?_, ih n.2.1⟩
          exact n.2.2 t List.mem_cons_self t (List.mem_flatMap.mpr ⟨t, z, List.mem_cons_self⟩) rfl
      exact this n2
  · rintro ⟨fo, nd⟩
    have : ∀ {U : List Tie}, (∀ t ∈ U, t ∈ T) → U.Nodup → ((links U).map kof).Nodup := by
      intro U
      induction U with
      | nil => intro _ _; exact List.nodup_nil
      | cons t U ih =>
        intro sub nd
        have ht := sub t List.mem_cons_self
        have hs := sm t ht
        rw [List.nodup_cons] at nd
        have e : (links (t :: U)).map kof = kof t :: kof (wayBack t) :: (links U).map kof := rfl
        rw [e]
        have smU : ∀ u ∈ U, 97 ≤ u.2.1 ∧ u.2.1 ≤ 122 := fun u hu => sm u (sub u (List.mem_cons_of_mem _ hu))
        have nin : ∀ x, x ∈ links [t] → kof x ∉ (links U).map kof := fun x hx z => by
          obtain ⟨y, hy, ek⟩ := List.mem_map.mp z
          have lx : Ld [t] x.1 x.2.1 x.2.2 := (mem_links (fun u hu => by rw [List.mem_singleton] at hu; subst hu; exact hs)).mp hx
          have ly : Ld U y.1 y.2.1 y.2.2 := (mem_links smU).mp hy
          unfold kof at ek
          simp only [Prod.mk.injEq] at ek
          have lxT : Ld T x.1 x.2.1 x.2.2 := lx.mono fun u hu => by rw [List.mem_singleton] at hu; subst hu; exact ht
          have lyT : Ld T y.1 y.2.1 y.2.2 := ly.mono fun u hu => sub u (List.mem_cons_of_mem _ hu)
          rw [ek.1, ek.2] at lyT
          have es := fo _ _ _ _ lyT lxT
          have m1 := ld_mem lx
          have m2 := ld_mem ly
          rw [ek.1, ek.2, es] at m2
          rw [List.mem_singleton] at m1
          exact nd.1 (m1 ▸ m2)
        refine List.nodup_cons.mpr ⟨fun z => ?_, List.nodup_cons.mpr ⟨?_, ih (fun u hu => sub u (List.mem_cons_of_mem _ hu)) nd.2⟩⟩
        · rcases List.mem_cons.mp z with z | z
          · unfold kof wayBack at z
            simp only [Prod.mk.injEq] at z
            omega
          · exact nin t (List.mem_cons_self) z
        · exact nin (wayBack t) (List.mem_cons_of_mem _ List.mem_cons_self)
    exact this (fun t h => h) nd
theorem kvOf_folded {T : List Tie} (sm : ∀ t ∈ T, 97 ≤ t.2.1 ∧ t.2.1 ≤ 122) : (kvOf (links T)).length = 2 * T.length ↔ Folded T ∧ T.Nodup := by
  rw [← links_keys sm, ← kvOf_full rfl, links_len]
/-! ### numbered -/
theorem numKV_same {F : List Nat} : (numKV F).all (fun kv => decide (kV kv.1 = kv.2)) = true ↔ F = List.range F.length := by
  unfold numKV
  rw [List.all_map, List.all_eq_true]
  constructor
  · intro h
    refine List.ext_getElem? fun i => ?_
    by_cases hi : i < F.length
    · have := h (F[i], i) (by rw [List.mem_iff_getElem?]; exact ⟨i, by rw [List.getElem?_zipIdx, List.getElem?_eq_getElem hi]; simp⟩)
      have e : kV (.inl (F[i] : Nat)) = V.int (i : Nat) := by simpa using this
      have e2 : F[i] = i := by have : ((F[i] : Nat) : Int) = (i : Nat) := V.int.inj e
                               omega
      rw [List.getElem?_eq_getElem hi, List.getElem?_range hi, e2]
    · rw [List.getElem?_eq_none (by omega), List.getElem?_eq_none (by rw [List.length_range]; omega)]
  · intro h p hp
    obtain ⟨i, hi⟩ := List.mem_iff_getElem?.mp hp
    rw [List.getElem?_zipIdx] at hi
    cases hc : F[i]? with
    | none => rw [hc] at hi; cases hi
    | some x =>
      rw [hc] at hi
      have lt := (List.getElem?_eq_some_iff.mp hc).1
      have ex : x = i := by
        rw [h, List.getElem?_range (by simpa using lt)] at hc
        exact (Option.some.inj hc).symm
      cases hi
      subst ex
      simp
      rfl
/-! ### no dead end -/
theorem count_split {T : List Tie} {r : Nat} : (rooms T).count (r : Int) = (T.map fun t => (if t.1 = r then 1 else 0) + (if t.2.2 = r then 1 else 0)).sum := by
  unfold rooms
  rw [List.count_append]
  induction T with
  | nil => rfl
  | cons t T ih =>
    rw [List.map_cons, List.map_cons, List.map_cons, List.sum_cons, List.count_cons, List.count_cons, ← ih]
    have e1 : (((t.1 : Nat) : Int) == (r : Int)) = decide (t.1 = r) := by
      by_cases h : t.1 = r
      · subst h; simp
      · rw [decide_eq_false h]; exact beq_eq_false_iff_ne.mpr (by omega)
    have e2 : (((t.2.2 : Nat) : Int) == (r : Int)) = decide (t.2.2 = r) := by
      by_cases h : t.2.2 = r
      · subst h; simp
      · rw [decide_eq_false h]; exact beq_eq_false_iff_ne.mpr (by omega)
    rw [e1, e2]
    simp only [decide_eq_true_eq]
    omega
/-- two ends at a room: two letters that lead on -/
theorem two_of_count {T : List Tie} (sm : ∀ t ∈ T, 97 ≤ t.2.1 ∧ t.2.1 ≤ 122) (fo : Folded T) (nd : T.Nodup) {r : Nat} (h : 2 ≤ (rooms T).count (r : Int)) : ∃ c s d u, c ≠ d ∧ Ld T r c s ∧ Ld T r d u := by
  rw [count_split] at h
  by_cases lp : ∃ t ∈ T, t.1 = r ∧ t.2.2 = r
  · obtain ⟨t, ht, e1, e2⟩ := lp
    have l := ld_fst sm ht
    rw [e1, e2] at l
    exact ⟨_, _, _, _, fun z => bk_ne l.isL z.symm, l, l.back⟩
  · -- two ties
    have each : ∀ t ∈ T, (if t.1 = r then 1 else 0) + (if t.2.2 = r then 1 else 0) ≤ 1 := fun t ht => by
      by_cases a : t.1 = r
      · by_cases b : t.2.2 = r
        · exact absurd ⟨t, ht, a, b⟩ lp
        · rw [if_pos a, if_neg b]; exact Nat.le_refl 1
      · rw [if_neg a]; split <;> omega
    have two : ∃ t ∈ T, ∃ u ∈ T, t ≠ u ∧ (t.1 = r ∨ t.2.2 = r) ∧ (u.1 = r ∨ u.2.2 = r) := by
      clear fo lp
      induction T with
      | nil => simp at h
      | cons t T ih =>
        rw [List.nodup_cons] at nd
        rw [List.map_cons, List.sum_cons] at h
        have et := each t List.mem_cons_self
        by_cases z : (if t.1 = r then 1 else 0) + (if t.2.2 = r then 1 else 0) = 0
        · obtain ⟨a, ha, b, hb, q⟩ := ih (fun x hx => sm x (List.mem_cons_of_mem _ hx)) nd.2 (by omega) fun x hx => each x (List.mem_cons_of_mem _ hx)
          exact ⟨a, List.mem_cons_of_mem _ ha, b, List.mem_cons_of_mem _ hb, q⟩
        · have tr : t.1 = r ∨ t.2.2 = r := by
            by_cases a : t.1 = r
            · exact Or.inl a
            · by_cases b : t.2.2 = r
              · exact Or.inr b
              · rw [if_neg a, if_neg b] at z; exact absurd rfl z
          have pos : 0 < (T.map fun t => (if t.1 = r then 1 else 0) + (if t.2.2 = r then 1 else 0)).sum := by omega
          have : ∃ u ∈ T, u.1 = r ∨ u.2.2 = r := by
            clear ih h et z nd tr each sm
            induction T with
            | nil => simp at pos
            | cons u T ih =>
              rw [List.map_cons, List.sum_cons] at pos
              by_cases a : u.1 = r
              · exact ⟨u, List.mem_cons_self, Or.inl a⟩
              · by_cases b : u.2.2 = r
                · exact ⟨u, List.mem_cons_self, Or.inr b⟩
                · rw [if_neg a, if_neg b] at pos
                  obtain ⟨v, hv, q⟩ := ih (by omega)
                  exact ⟨v, List.mem_cons_of_mem _ hv, q⟩
          obtain ⟨u, hu, q⟩ := this
          exact ⟨t, List.mem_cons_self, u, List.mem_cons_of_mem _ hu, fun e => nd.1 (e ▸ hu), tr, q⟩
    obtain ⟨t, ht, u, hu, ne, pt, pu⟩ := two
    have lead : ∀ t ∈ T, (t.1 = r ∨ t.2.2 = r) → ∃ c s, Ld T r c s ∧ mkTie r c s = t := fun t ht p => by
      have l := ld_fst sm ht
      have e : mkTie t.1 t.2.1 t.2.2 = t := if_pos (sm t ht).1
      rcases p with p | p
      · rw [p] at l e; exact ⟨_, _, l, e⟩
      · have b := l.back
        rw [← mkTie_bk l.isL] at e
        rw [p] at b e
        exact ⟨_, _, b, e⟩
    obtain ⟨c, s, l1, e1⟩ := lead t ht pt
    obtain ⟨d, v, l2, e2⟩ := lead u hu pu
    refine ⟨c, s, d, v, fun z => ne ?_, l1, l2⟩
    subst z
    rw [← e1, ← e2, fo _ _ _ _ l1 l2]
/-- the pieces together -/
theorem good_of {T : List Tie} (sm : ∀ t ∈ T, 97 ≤ t.2.1 ∧ t.2.1 ≤ 122) : (Srt T ∧ (Folded T ∧ T.Nodup) ∧ ((∀ t ∈ T, t.1 ∈ ord T) ∧ Num T) ∧ ∀ r ∈ rms T, r ≠ 0 → 2 ≤ (rooms T).count (r : Int)) ↔ Good T := by
  constructor
  · rintro ⟨so, ⟨fo, nd⟩, ⟨cn, nm⟩, tw⟩
    refine ⟨⟨nd, sm, fo, fun r hr => ?_, fun r hr h0 => two_of_count sm fo nd (tw r hr h0)⟩, nm, so⟩
    rcases mem_rms.mp hr with rfl | ⟨t, ht, rfl | rfl⟩
    · exact mem_ord_zero T
    · exact cn t ht
    · exact ord_closed (cn t ht) (ld_fst sm ht)
  · intro G
    refine ⟨G.srt, ⟨G.core.fold, G.core.nd⟩, ⟨fun t ht => G.core.conn _ (mem_rms.mpr (Or.inr ⟨t, ht, Or.inl rfl⟩)), G.num⟩, fun r hr h0 => ?_⟩
    obtain ⟨c, s, d, u, ne, l1, l2⟩ := G.core.two r hr h0
    exact rooms_two ne l1 l2
end Gw

/-! ## W11 -/
/-! what is come to, and numbered: a web -/
namespace Gw
theorem mem_come {T : List Tie} {t : Tie} : t ∈ come T ↔ t ∈ T ∧ t.1 ∈ ord T := by
  unfold come; rw [List.mem_filter, decide_eq_true_iff]
theorem come_sub {T : List Tie} : ∀ t ∈ come T, t ∈ T := fun t h => (mem_come.mp h).1
theorem ld_come {T : List Tie} {r c s : Nat} (hr : r ∈ ord T) : Ld (come T) r c s ↔ Ld T r c s := by
  constructor
  · exact Ld.mono come_sub
  · intro l
    have hs := ord_closed hr l
    rcases l with ⟨a, b, m⟩ | ⟨a, b, m⟩
    · exact Or.inl ⟨a, b, mem_come.mpr ⟨m, hr⟩⟩
    · exact Or.inr ⟨a, b, mem_come.mpr ⟨m, hs⟩⟩
theorem gl_come {T : List Tie} (sm : ∀ t ∈ T, 97 ≤ t.2.1 ∧ t.2.1 ≤ 122) {r c : Nat} (hr : r ∈ ord T) : gl (come T) r c = gl T r c := by
  have key : ∀ U : List Tie, (∀ t ∈ U, t ∈ T) → gl (U.filter fun t => decide (t.1 ∈ ord T)) r c = gl U r c := by
    intro U
    induction U with
    | nil => intro _; rfl
    | cons t U ih =>
      intro h
      have ih := ih fun x hx => h x (List.mem_cons_of_mem _ hx)
      have ht := h t List.mem_cons_self
      unfold gl at ih ⊢
      rw [List.filter_cons, List.filterMap_cons]
      by_cases m : t.1 ∈ ord T
      · rw [if_pos (decide_eq_true m), List.filterMap_cons, ih]
      · rw [if_neg (by rw [decide_eq_false m]; decide), ih]
        have n1 : ¬ (t.1 = r ∧ t.2.1 = c) := fun z => m (z.1 ▸ hr)
        have n2 : ¬ (t.2.2 = r ∧ t.2.1 = c + 32) := fun z => m (by
          have l := (ld_fst sm ht).back
          rw [z.1] at l
          exact ord_closed hr l)
        by_cases h97 : 97 ≤ c
        · simp only [if_pos h97, if_neg n1]
        · simp only [if_neg h97, if_neg n2]
  exact key T fun _ h => h
theorem fnd_come {T : List Tie} (sm : ∀ t ∈ T, 97 ≤ t.2.1 ∧ t.2.1 ≤ 122) : ∀ i, fnd (come T) i = fnd T i
  | 0 => rfl
  | i + 1 => by
    have ih := fnd_come sm i
    cases e : (fnd T i)[i]? with
    | none => rw [fnd_end e, fnd_end (by rw [ih]; exact e), ih]
    | some r =>
      have hr : r ∈ ord T := mem_ord.mpr (fnd_rms (List.mem_of_getElem? e)).2
      rw [fnd_succ e, fnd_succ (r := r) (by rw [ih]; exact e), ih]
      congr 1
      unfold nb
      exact congrArg (fun f => List.flatMap f lets) (funext fun c => gl_come sm hr)
theorem ord_come {T : List Tie} (sm : ∀ t ∈ T, 97 ≤ t.2.1 ∧ t.2.1 ≤ 122) : ord (come T) = ord T := by
  have h := ord_of (T := come T) (i := 2 * T.length + 1) (by rw [fnd_come sm]; exact fnd_len T _)
  rw [← h, fnd_come sm]; rfl
theorem wlk_come {T : List Tie} : ∀ {w : List Nat} {r s : Nat}, r ∈ ord T → (Wlk (come T) r w s ↔ Wlk T r w s)
  | [], _, _, _ => Iff.rfl
  | c :: w, r, s, hr => by
    constructor
    · exact Wlk.mono come_sub
    · rintro ⟨m, l, k⟩
      exact ⟨m, (ld_come hr).mpr l, (wlk_come (ord_closed hr l)).mpr k⟩
theorem rds_come {T : List Tie} {w : List Nat} : Rds (come T) w ↔ Rds T w := wlk_come (mem_ord_zero T)
theorem come_rms {T : List Tie} (sm : ∀ t ∈ T, 97 ≤ t.2.1 ∧ t.2.1 ≤ 122) {r : Nat} (h : r ∈ rms (come T)) : r ∈ ord T := by
  rcases mem_rms.mp h with rfl | ⟨t, ht, e⟩
  · exact mem_ord_zero T
  · obtain ⟨h1, h2⟩ := mem_come.mp ht
    rcases e with rfl | rfl
    · exact h2
    · exact ord_closed h2 (ld_fst sm h1)
/-- rooms come to with two ends each: what is come to is a web but for its numbers -/
theorem core_come {T : List Tie} (nd : T.Nodup) (sm : ∀ t ∈ T, 97 ≤ t.2.1 ∧ t.2.1 ≤ 122) (fo : Folded T) (two : ∀ r ∈ ord T, r ≠ 0 → ∃ c s d u, c ≠ d ∧ Ld T r c s ∧ Ld T r d u) : Core (come T) where
  nd := nd.filter _
  small := fun t ht => sm t (come_sub t ht)
  fold := fun r c s s' l l' => fo r c s s' (Ld.mono come_sub l) (Ld.mono come_sub l')
  conn := fun r h => by rw [ord_come sm]; exact come_rms sm h
  two := fun r h h0 => by
    have hr := come_rms sm h
    obtain ⟨c, s, d, u, ne, l1, l2⟩ := two r hr h0
    exact ⟨c, s, d, u, ne, (ld_come hr).mpr l1, (ld_come hr).mpr l2⟩
theorem pos_come {T : List Tie} (sm : ∀ t ∈ T, 97 ≤ t.2.1 ∧ t.2.1 ≤ 122) (r : Nat) : pos (come T) r = pos T r := by unfold pos; rw [ord_come sm]
theorem good_come {T U : List Tie} (nd : T.Nodup) (sm : ∀ t ∈ T, 97 ≤ t.2.1 ∧ t.2.1 ≤ 122) (fo : Folded T) (two : ∀ r ∈ ord T, r ≠ 0 → ∃ c s d u, c ≠ d ∧ Ld T r c s ∧ Ld T r d u) (so : Srt U) (mU : ∀ t, t ∈ U ↔ t ∈ tmap (pos T) (come T)) :
    Good U ∧ (∀ w, Rds U w ↔ Rds T w) ∧ (ord U).length = (ord T).length := by
  have C := core_come nd sm fo two
  obtain ⟨C1, N1, r1⟩ := C.numbered
  have e : tmap (pos (come T)) (come T) = tmap (pos T) (come T) := by
    unfold tmap
    exact List.map_congr_left fun t _ => by rw [pos_come sm, pos_come sm]
  rw [e] at C1 N1 r1
  have mU' : ∀ t, t ∈ tmap (pos T) (come T) ↔ t ∈ U := fun t => (mU t).symm
  refine ⟨⟨C1.congr mU' so.nodup, N1.congr C1 mU' so.nodup, so⟩, fun w => ?_, ?_⟩
  · rw [← rds_congr mU', r1 w, rds_come]
  · rw [← ord_congr mU' C1.fold C1.nd so.nodup]
    have hf : ∀ a ∈ rms (come T), ∀ b ∈ rms (come T), pos T a = pos T b → a = b := fun a ha b hb q => pos_inj (come_rms sm ha) (come_rms sm hb) q
    rw [ord_tmap hf pos_zero, List.length_map, ord_come sm]
end Gw

/-! ## W12 -/
/-! rooms and an order of them for each letter -/
namespace Gw
theorem nodup_at {p : List Nat} (nd : p.Nodup) : ∀ {i j x : Nat}, p[i]? = some x → p[j]? = some x → i = j := by
  induction p with
  | nil => intro i j x h; simp at h
  | cons a p ih =>
    rw [List.nodup_cons] at nd
    intro i j x h k
    cases i with
    | zero =>
      cases j with
      | zero => rfl
      | succ j =>
        have : a = x := Option.some.inj h
        subst this
        exact absurd (List.mem_of_getElem? (show p[j]? = some a from k)) nd.1
    | succ i =>
      cases j with
      | zero =>
        have : a = x := Option.some.inj k
        subst this
        exact absurd (List.mem_of_getElem? (show p[i]? = some a from h)) nd.1
      | succ j => rw [ih nd.2 (show p[i]? = some x from h) (show p[j]? = some x from k)]
inductive PermT (n : Nat) : List Nat → List Tie → Prop
  | nil : PermT n [] []
  | snoc {ls : List Nat} {T : List Tie} {c : Nat} {p : List Nat} (h : PermT n ls T) (hc : c ∉ ls) (sm : 97 ≤ c ∧ c ≤ 122) (hp : p.Perm (List.range n)) : PermT n (ls ++ [c]) (T ++ (List.range n).map fun r => (r, c, p.getD r 0))
theorem perm_row {n c : Nat} {p : List Nat} (hp : p.Perm (List.range n)) {t : Tie} : t ∈ (List.range n).map (fun r => (r, c, p.getD r 0)) ↔ t.2.1 = c ∧ p[t.1]? = some t.2.2 := by
  have pl : p.length = n := by rw [hp.length_eq, List.length_range]
  rw [List.mem_map]
  constructor
  · rintro ⟨r, hr, rfl⟩
    have := List.mem_range.mp hr
    exact ⟨rfl, by rw [List.getD_eq_getElem?_getD, List.getElem?_eq_getElem (by omega)]; rfl⟩
  · rintro ⟨rfl, h⟩
    have lt := (List.getElem?_eq_some_iff.mp h).1
    refine ⟨t.1, List.mem_range.mpr (by omega), ?_⟩
    rw [List.getD_eq_getElem?_getD, h]; rfl
section
variable {n : Nat} {ls : List Nat} {T : List Tie}
theorem PermT.mem (h : PermT n ls T) : ∀ t ∈ T, t.2.1 ∈ ls ∧ t.1 < n ∧ t.2.2 < n ∧ (97 ≤ t.2.1 ∧ t.2.1 ≤ 122) := by
  induction h with
  | nil => intro t ht; cases ht
  | snoc h hc sm hp ih =>
    rename_i ls T c p
    intro t ht
    rcases List.mem_append.mp ht with ht | ht
    · obtain ⟨a, b, d⟩ := ih t ht
      exact ⟨List.mem_append.mpr (Or.inl a), b, d⟩
    · obtain ⟨e, k⟩ := (perm_row hp).mp ht
      have l1 := (List.getElem?_eq_some_iff.mp k).1
      rw [hp.length_eq, List.length_range] at l1
      have m := List.mem_range.mp (hp.mem_iff.mp (List.mem_of_getElem? k))
      exact ⟨by rw [e]; simp, l1, m, by rw [e]; exact sm⟩
theorem PermT.out (h : PermT n ls T) : ∀ c ∈ ls, ∀ r, r < n → ∃ s, (r, c, s) ∈ T := by
  induction h with
  | nil => intro c hc; cases hc
  | snoc h hc sm hp ih =>
    rename_i ls T c p
    intro d hd r hr
    rcases List.mem_append.mp hd with hd | hd
    · obtain ⟨s, hs⟩ := ih d hd r hr
      exact ⟨s, List.mem_append.mpr (Or.inl hs)⟩
    · rw [List.mem_singleton] at hd
      subst hd
      exact ⟨_, List.mem_append.mpr (Or.inr (List.mem_map.mpr ⟨r, List.mem_range.mpr hr, rfl⟩))⟩
theorem PermT.into (h : PermT n ls T) : ∀ c ∈ ls, ∀ s, s < n → ∃ r, (r, c, s) ∈ T := by
  induction h with
  | nil => intro c hc; cases hc
  | snoc h hc sm hp ih =>
    rename_i ls T c p
    intro d hd s hs
    rcases List.mem_append.mp hd with hd | hd
    · obtain ⟨r, hr⟩ := ih d hd s hs
      exact ⟨r, List.mem_append.mpr (Or.inl hr)⟩
    · rw [List.mem_singleton] at hd
      subst hd
      obtain ⟨r, hr⟩ := List.getElem?_of_mem (hp.mem_iff.mpr (List.mem_range.mpr hs))
      exact ⟨r, List.mem_append.mpr (Or.inr ((perm_row hp).mpr ⟨rfl, hr⟩))⟩
theorem PermT.det (h : PermT n ls T) : (∀ r c s s', (r, c, s) ∈ T → (r, c, s') ∈ T → s = s') ∧ ∀ r r' c s, (r, c, s) ∈ T → (r', c, s) ∈ T → r = r' := by
  induction h with
  | nil => exact ⟨fun r c s s' a => (by cases a), fun r r' c s a => (by cases a)⟩
  | snoc h hc sm hp ih =>
    rename_i ls T c p
    have nm : ∀ {t : Tie}, t ∈ T → t.2.1 ≠ c := fun m e => hc (e ▸ (h.mem _ m).1)
    have pn : p.Nodup := hp.nodup_iff.mpr List.nodup_range
    refine ⟨fun r d s s' a b => ?_, fun r r' d s a b => ?_⟩
    · rcases List.mem_append.mp a with a | a <;> rcases List.mem_append.mp b with b | b
      · exact ih.1 r d s s' a b
      · exact absurd (show d = c from ((perm_row hp).mp b).1) (nm a)
      · exact absurd (show d = c from ((perm_row hp).mp a).1) (nm b)
      · have h1 := ((perm_row hp).mp a).2
        have h2 := ((perm_row hp).mp b).2
        exact Option.some.inj (h1.symm.trans h2)
    · rcases List.mem_append.mp a with a | a <;> rcases List.mem_append.mp b with b | b
      · exact ih.2 r r' d s a b
      · exact absurd (show d = c from ((perm_row hp).mp b).1) (nm a)
      · exact absurd (show d = c from ((perm_row hp).mp a).1) (nm b)
      · exact nodup_at pn ((perm_row hp).mp a).2 ((perm_row hp).mp b).2
theorem PermT.fold (h : PermT n ls T) : Folded T := by
  intro r c s s' a b
  obtain ⟨d1, d2⟩ := h.det
  rcases a with ⟨a1, a2, a⟩ | ⟨a1, a2, a⟩ <;> rcases b with ⟨b1, b2, b⟩ | ⟨b1, b2, b⟩
  · exact d1 _ _ _ _ a b
  · omega
  · omega
  · exact d2 _ _ _ _ a b
theorem PermT.small (h : PermT n ls T) : ∀ t ∈ T, 97 ≤ t.2.1 ∧ t.2.1 ≤ 122 := fun t ht => (h.mem t ht).2.2.2
theorem PermT.nodup (h : PermT n ls T) : T.Nodup := by
  induction h with
  | nil => exact List.nodup_nil
  | snoc h hc sm hp ih =>
    rename_i ls T c p
    rw [List.nodup_append]
    refine ⟨ih, ?_, fun a ha b hb e => ?_⟩
    · refine nodup_map (fun x _ y _ e => ?_) List.nodup_range
      exact (Prod.mk.inj e).1
    · subst e
      exact hc (((perm_row hp).mp hb).1 ▸ (h.mem a ha).1)
theorem PermT.len (h : PermT n ls T) : T.length = n * ls.length := by
  induction h with
  | nil => rfl
  | snoc h hc sm hp ih => rw [List.length_append, List.length_map, List.length_range, ih, List.length_append, List.length_singleton, Nat.mul_succ]
theorem PermT.pick (h : PermT n ls T) (D : List Nat) : (T.filter fun t => decide (t.1 ∈ D)).length = ((List.range n).filter fun r => decide (r ∈ D)).length * ls.length := by
  induction h with
  | nil => rfl
  | snoc h hc sm hp ih =>
    rw [List.filter_append, List.length_append, ih, List.length_append, List.length_singleton, Nat.mul_succ, List.filter_map, List.length_map]
    rfl
theorem PermT.ord_lt (h : PermT n ls T) (n1 : 1 ≤ n) : ∀ r ∈ ord T, r < n := fun r hr => by
  rcases mem_rms.mp (fnd_rms hr).1 with rfl | ⟨t, ht, e | e⟩
  · exact n1
  · subst e; exact (h.mem t ht).2.1
  · subst e; exact (h.mem t ht).2.2.1
theorem PermT.come_len (h : PermT n ls T) (n1 : 1 ≤ n) : (come T).length = (ord T).length * ls.length := by
  unfold come
  rw [h.pick]
  congr 1
  have n2 : ((List.range n).filter fun r => decide (r ∈ ord T)).Nodup := List.nodup_range.filter _
  have le1 := nodup_le' n2 fun r hr => of_decide_eq_true (List.mem_filter.mp hr).2
  have le2 := nodup_le' (ord_nodup T) (m := (List.range n).filter fun r => decide (r ∈ ord T)) fun r hr => List.mem_filter.mpr ⟨List.mem_range.mpr (h.ord_lt n1 r hr), decide_eq_true hr⟩
  omega
theorem PermT.two (h : PermT n ls T) (n1 : 1 ≤ n) (l1 : ls ≠ []) : ∀ r ∈ ord T, r ≠ 0 → ∃ c s d u, c ≠ d ∧ Ld T r c s ∧ Ld T r d u := fun r hr _ => by
  obtain ⟨c, hc⟩ := List.exists_mem_of_ne_nil ls l1
  have lt := h.ord_lt n1 r hr
  obtain ⟨s, hs⟩ := h.out c hc r lt
  obtain ⟨q, hq⟩ := h.into c hc r lt
  have sm := h.small _ hs
  refine ⟨c, s, c - 32, q, by simp only at sm; omega, Or.inl ⟨sm.1, sm.2, hs⟩, Or.inr ⟨?_, ?_, ?_⟩⟩
  · simp only at sm; omega
  · simp only at sm; omega
  · simp only at sm
    rw [show c - 32 + 32 = c by omega]; exact hq
end
/-- a web that is whole for its letters -/
structure Whl (U : List Tie) (ls : List Nat) (m : Nat) : Prop where
  good : Good U
  rooms : (ord U).length = m
  len : U.length = m * ls.length
  lets : ∀ t ∈ U, t.2.1 ∈ ls
  out : ∀ r ∈ ord U, ∀ c ∈ ls, ∃ s, (r, c, s) ∈ U
  into : ∀ s ∈ ord U, ∀ c ∈ ls, ∃ r, (r, c, s) ∈ U
theorem PermT.whl {n : Nat} {ls : List Nat} {T U : List Tie} (h : PermT n ls T) (n1 : 1 ≤ n) (l1 : ls ≠ []) (so : Srt U) (mU : ∀ t, t ∈ U ↔ t ∈ tmap (pos T) (come T)) (lU : U.length = (come T).length) : Whl U ls (ord T).length := by
  obtain ⟨G, _, hl⟩ := good_come h.nodup h.small h.fold (h.two n1 l1) so mU
  have om : ∀ r, r ∈ ord U → ∃ x ∈ ord T, r = pos T x := fun r hr => by
    rcases mem_rms.mp (fnd_rms hr).1 with rfl | ⟨t, ht, e⟩
    · exact ⟨0, mem_ord_zero T, pos_zero.symm⟩
    · obtain ⟨u, hu, rfl⟩ := tmap_mem.mp ((mU t).mp ht)
      obtain ⟨h1, h2⟩ := mem_come.mp hu
      rcases e with rfl | rfl
      · exact ⟨u.1, h2, rfl⟩
      · exact ⟨u.2.2, ord_closed h2 (ld_fst h.small h1), rfl⟩
  refine ⟨G, hl, by rw [lU, h.come_len n1], fun t ht => ?_, fun r hr c hc => ?_, fun s hs c hc => ?_⟩
  · obtain ⟨u, hu, rfl⟩ := tmap_mem.mp ((mU t).mp ht)
    exact (h.mem u (come_sub u hu)).1
  · obtain ⟨x, hx, rfl⟩ := om r hr
    obtain ⟨s, hs⟩ := h.out c hc x (h.ord_lt n1 x hx)
    exact ⟨pos T s, (mU _).mpr (tmap_mem.mpr ⟨_, mem_come.mpr ⟨hs, hx⟩, rfl⟩)⟩
  · obtain ⟨x, hx, rfl⟩ := om s hs
    obtain ⟨r, hr⟩ := h.into c hc x (h.ord_lt n1 x hx)
    have hrT : r ∈ ord T := ord_closed hx (ld_fst h.small hr).back
    exact ⟨pos T r, (mU _).mpr (tmap_mem.mpr ⟨_, mem_come.mpr ⟨hr, hrT⟩, rfl⟩)⟩
section
variable {U : List Tie} {ls : List Nat} {m : Nat}
theorem Whl.ld (W : Whl U ls m) {r c : Nat} (hr : r ∈ ord U) (hc : isL c = true) (hl : (if 97 ≤ c then c else c + 32) ∈ ls) : ∃ s, Ld U r c s := by
  rw [isL_iff] at hc
  by_cases h : 97 ≤ c
  · rw [if_pos h] at hl
    obtain ⟨s, hs⟩ := W.out r hr c hl
    exact ⟨s, Or.inl ⟨h, by omega, hs⟩⟩
  · rw [if_neg h] at hl
    obtain ⟨s, hs⟩ := W.into r hr _ hl
    exact ⟨s, Or.inr ⟨by omega, by omega, hs⟩⟩
theorem Whl.walk (W : Whl U ls m) : ∀ {w : List Nat} {r : Nat}, r ∈ ord U → (∀ c ∈ w, isL c = true ∧ lowOf c ∈ ls) → ∃ s, Wlk U r w s
  | [], r, _, _ => ⟨r, rfl⟩
  | c :: w, r, hr, h => by
    obtain ⟨h1, h2⟩ := h c List.mem_cons_self
    obtain ⟨s, l⟩ := W.ld hr h1 h2
    obtain ⟨x, k⟩ := W.walk (ord_closed hr l) fun d hd => h d (List.mem_cons_of_mem _ hd)
    exact ⟨x, s, l, k⟩
theorem wlk_inj {T : List Tie} (F : Folded T) {w : List Nat} {r r' s : Nat} (h : Wlk T r w s) (k : Wlk T r' w s) : r = r' := h.back.det F k.back
/-- some power is read, at most the rooms' number -/
theorem Whl.power (W : Whl U ls m) {w : List Nat} (hw : ∀ c ∈ w, isL c = true ∧ lowOf c ∈ ls) : ∃ k, 1 ≤ k ∧ k ≤ m ∧ Wlk U 0 (List.replicate k w).flatten 0 := by
  have F := W.good.core.fold
  have F' : ∀ k, ∃ s, Wlk U 0 (List.replicate k w).flatten s := fun k => W.walk (mem_ord_zero U) fun c hc => by
    obtain ⟨l, hl, hc⟩ := List.mem_flatten.mp hc
    rw [List.eq_of_mem_replicate hl] at hc
    exact hw c hc
  have add : ∀ i j, (List.replicate (i + j) w).flatten = (List.replicate i w).flatten ++ (List.replicate j w).flatten := fun i j => by rw [← List.flatten_append, List.replicate_append_replicate]
  let g : Nat → Nat := fun k => Classical.choose (F' k)
  have gs : ∀ k, Wlk U 0 (List.replicate k w).flatten (g k) := fun k => Classical.choose_spec (F' k)
  have go : ∀ k, g k ∈ ord U := fun k => ord_walk (mem_ord_zero U) (gs k)
  have key : ∀ i j, i < j → g i = g j → Wlk U 0 (List.replicate (j - i) w).flatten 0 := fun i j hij e => by
    have h := gs j
    have e2 : j = (j - i) + i := by omega
    rw [e2, add, ← e2] at h
    obtain ⟨x, h1, h2⟩ := h.split
    have h3 := gs i
    rw [e] at h3
    have : x = 0 := wlk_inj F h2 h3
    subst this
    exact h1
  by_cases ex : ∃ i j, i < j ∧ j ≤ m ∧ g i = g j
  · obtain ⟨i, j, h1, h2, e⟩ := ex
    exact ⟨j - i, by omega, by omega, key i j h1 e⟩
  · exfalso
    have nd : ((List.range (m + 1)).map g).Nodup := nodup_map (fun a ha b hb e => by
      have ha := List.mem_range.mp ha
      have hb := List.mem_range.mp hb
      rcases Nat.lt_trichotomy a b with h | h | h
      · exact (ex ⟨a, b, h, by omega, e⟩).elim
      · exact h
      · exact (ex ⟨b, a, h, by omega, e.symm⟩).elim) List.nodup_range
    have := nodup_le' nd (m := ord U) fun x hx => by
      obtain ⟨k, _, rfl⟩ := List.mem_map.mp hx
      exact go k
    rw [List.length_map, List.length_range, W.rooms] at this
    omega
/-- one word times the back of the other is read where both lead to one room -/
theorem Whl.same (W : Whl U ls m) {u v : List Nat} {r s : Nat} (hu : Wlk U 0 u r) (hv : Wlk U 0 v s) : Rds U (u ++ inv v) ↔ r = s := by
  have F := W.good.core.fold
  have wu := hu.isW
  have wv := hv.isW
  constructor
  · intro h
    have k : Wlk U 0 (short (u ++ inv v)) 0 := h
    obtain ⟨x, k2⟩ : ∃ x, Wlk U s (inv v) x := ⟨0, hv.back⟩
    -- u leads to r; from r the back of v leads somewhere, as the web is whole
    have hvl : ∀ c ∈ inv v, isL c = true ∧ lowOf c ∈ ls := fun c hc => by
      have : ∀ {w : List Nat} {a b : Nat}, Wlk U a w b → ∀ c ∈ w, isL c = true ∧ lowOf c ∈ ls := by
        intro w
        induction w with
        | nil => intro a b _ c hc; cases hc
        | cons d w ih =>
          rintro a b ⟨y, l, t⟩ c hc
          rcases List.mem_cons.mp hc with rfl | hc
          · refine ⟨l.isL, ?_⟩
            rcases l with ⟨a1, a2, mm⟩ | ⟨a1, a2, mm⟩
            · unfold lowOf; rw [if_pos a1]; exact W.lets _ mm
            · unfold lowOf; rw [if_neg (by omega)]; exact W.lets _ mm
          · exact ih t c hc
      exact this hv.back c hc
    obtain ⟨y, k3⟩ := W.walk (ord_walk (mem_ord_zero U) hu) hvl
    have k4 := (hu.app k3).red F (red_short (isW_app.mpr ⟨wu, isW_inv wv⟩))
    have y0 : y = 0 := k4.det F k
    subst y0
    exact wlk_inj F k3 hv.back
  · intro e
    subst e
    exact rds_of F (hu.app hv.back)
/-- a tie left out: if that is a web, it has as many rooms, but is not whole -/
theorem Whl.less (W : Whl U ls m) {t : Tie} {V : List Tie} (ht : t ∈ U) (hV : ∀ x, x ∈ V ↔ x ∈ U ∧ x ≠ t) (lV : V.length + 1 = U.length) (G : Good V) : (ord V).length = m ∧ ¬ ∃ s, Ld V t.1 t.2.1 s := by
  have CU := W.good.core
  have CV := G.core
  have lt := ld_fst CU.small ht
  have o1 : t.1 ∈ ord U := CU.conn _ lt.rms.1
  have tc := W.lets t ht
  have no : ¬ ∃ s, Ld V t.1 t.2.1 s := by
    rintro ⟨s, l⟩
    have sm := CU.small t ht
    rcases l with ⟨_, _, mm⟩ | ⟨a, b, _⟩
    · obtain ⟨m1, m2⟩ := (hV _).mp mm
      have e := CU.fold _ _ _ _ (ld_fst CU.small m1) lt
      exact m2 (Prod.ext rfl (Prod.ext rfl e))
    · omega
  refine ⟨?_, no⟩
  have sub : ∀ r, r ∈ rms V → r ∈ rms U := fun r h => by
    rcases mem_rms.mp h with rfl | ⟨x, hx, e⟩
    · exact mem_rms.mpr (Or.inl rfl)
    · exact mem_rms.mpr (Or.inr ⟨x, ((hV x).mp hx).1, e⟩)
  have sup : ∀ r, r ∈ ord U → r ∈ rms V := fun r hr => by
    by_cases h0 : r = 0
    · exact mem_rms.mpr (Or.inl h0)
    · obtain ⟨s, hs⟩ := W.out r hr _ tc
      obtain ⟨q, hq⟩ := W.into r hr _ tc
      by_cases e1 : (r, t.2.1, s) = t
      · by_cases e2 : (q, t.2.1, r) = t
        · -- the only tie is a loop at r: r is not come to
          have e3 : q = r := by rw [← e1] at e2; exact (Prod.mk.inj e2).1
          have e4 : r = s := by rw [← e1] at e2; exact (Prod.mk.inj (Prod.mk.inj e2).2).2
          subst e3
          by_cases ex : ∃ x ∈ V, q = x.1 ∨ q = x.2.2
          · exact mem_rms.mpr (Or.inr ex)
          · exfalso
            -- a walk to q from 0 never comes
            obtain ⟨w, k⟩ := mem_ord.mp hr
            have stay : ∀ {w : List Nat} {a : Nat}, a ≠ q → ¬ Wlk U a w q := by
              intro w
              induction w with
              | nil => intro a ha k; exact ha k
              | cons c w ih =>
                rintro a ha ⟨y, l, k⟩
                by_cases hy : y = q
                · subst hy
                  rcases l with ⟨_, _, mm⟩ | ⟨_, _, mm⟩
                  · by_cases e5 : (a, c, y) = t
                    · rw [← e1] at e5; exact ha (Prod.mk.inj e5).1
                    · exact ex ⟨_, (hV _).mpr ⟨mm, e5⟩, Or.inr rfl⟩
                  · by_cases e5 : (y, c + 32, a) = t
                    · rw [← e1] at e5
                      have := (Prod.mk.inj (Prod.mk.inj e5).2).2
                      exact ha (this.trans e4.symm)
                    · exact ex ⟨_, (hV _).mpr ⟨mm, e5⟩, Or.inl rfl⟩
                · exact ih hy k
            exact stay (fun z => h0 z.symm) k
        · exact mem_rms.mpr (Or.inr ⟨_, (hV _).mpr ⟨hq, e2⟩, Or.inr rfl⟩)
      · exact mem_rms.mpr (Or.inr ⟨_, (hV _).mpr ⟨hs, e1⟩, Or.inl rfl⟩)
  have le1 := nodup_le' (ord_nodup V) (m := ord U) fun r hr => CU.conn _ (sub r (CV.ords.mp hr))
  have le2 := nodup_le' (ord_nodup U) (m := ord V) fun r hr => CV.conn _ (sup r hr)
  have := W.rooms
  omega
end
end Gw

/-! ## G3 -/
namespace Gw
open PySem PySem.Spec PyProof.Rows L2 Evl
/-! ### what is asked of things: rooms, letters, ties, webs -/
def roomB : V → Bool
  | .int i => decide (0 ≤ i)
  | _ => false
def smallL : List Nat → Bool
  | [c] => decide (97 ≤ c) && decide (c ≤ 122)
  | _ => false
def smallB : V → Bool
  | .str z => smallL z.cps.toList
  | _ => false
def sp_is_small : Sp := fun vs H Q _ => ∃ x T, vs = [x] ∧ Kn H x T ∧ (∀ z, x = .str z → z.length ≤ 1000) ∧ RetV (.bl (smallB x)) H Q
def sp_is_room : Sp := fun vs H Q _ => ∃ x T, vs = [x] ∧ Kn H x T ∧ RetV (.bl (roomB x)) H Q
theorem sv_is_small {x : V} {T : String} {H : Hp} (k : Kn H x T) (hz : ∀ z, x = .str z → z.length ≤ 1000) : SpV sp_is_small [x] H (.bl (smallB x)) := fun H1 e Q q E => ⟨x, T, rfl, k.mono e, hz, q⟩
theorem sv_is_room {x : V} {T : String} {H : Hp} (k : Kn H x T) : SpV sp_is_room [x] H (.bl (roomB x)) := fun H1 e Q q E => ⟨x, T, rfl, k.mono e, q⟩
/-- what a thing is as a tie -/
inductive TieQ (H : Hp) : V → Bool → Prop
  | tup {a : Addr} {u v w : V} {A B C : String} (h : H a = some (.tup [u, v, w])) (hu : Kn H u A) (hv : Kn H v B) (hw : Kn H w C) (hz : ∀ z, v = .str z → z.length ≤ 1000) : TieQ H (.ref a) (roomB u && (smallB v && roomB w))
  | few {a : Addr} {xs : List V} (h : H a = some (.tup xs)) (hl : xs.length ≠ 3) : TieQ H (.ref a) false
  | oth {x : V} {T : String} (h : Kn H x T) (ht : T ≠ "tuple") : TieQ H x false
theorem TieQ.mono {H H' : Hp} {x : V} {b : Bool} (e : Ex H H') (h : TieQ H x b) : TieQ H' x b := by
  cases h with
  | tup h hu hv hw hz => exact .tup (e _ _ h) (hu.mono e) (hv.mono e) (hw.mono e) hz
  | few h hl => exact .few (e _ _ h) hl
  | oth h ht => exact .oth (h.mono e) ht
def sp_is_tie1 : Sp := fun vs H Q _ => ∃ x b, vs = [x] ∧ TieQ H x b ∧ RetV (.bl b) H Q
theorem sv_is_tie1 {x : V} {b : Bool} {H : Hp} (h : TieQ H x b) : SpV sp_is_tie1 [x] H (.bl b) := fun H1 e Q q E => ⟨x, b, rfl, h.mono e, q⟩
theorem smallL_one {c : Nat} (h : 97 ≤ c ∧ c ≤ 122) : smallL [c] = true := by
  show (decide (97 ≤ c) && decide (c ≤ 122)) = true
  rw [decide_eq_true h.1, decide_eq_true h.2]; rfl
/-- a tie is one -/
theorem tieQ_of {H : Hp} {a : Addr} {t : Tie} (h : H a = some (.tup (tieV t))) (sm : 97 ≤ t.2.1 ∧ t.2.1 ≤ 122) : TieQ H (.ref a) true := by
  have q := TieQ.tup (u := .int (t.1 : Nat)) (v := sgn t.2.1) (w := .int (t.2.2 : Nat)) h kn_int kn_str kn_int (fun z e => by cases e; exact (by decide : 1 ≤ 1000))
  have e : (roomB (.int (t.1 : Nat)) && (smallB (sgn t.2.1) && roomB (.int (t.2.2 : Nat)))) = true := by
    have h1 : roomB (.int (t.1 : Nat)) = true := by show decide (0 ≤ ((t.1 : Nat) : Int)) = true; exact decide_eq_true (by omega)
    have h2 : roomB (.int (t.2.2 : Nat)) = true := by show decide (0 ≤ ((t.2.2 : Nat) : Int)) = true; exact decide_eq_true (by omega)
    have h3 : smallB (sgn t.2.1) = true := smallL_one sm
    rw [h1, h2, h3]; rfl
  rw [e] at q; exact q
/-! ### of a list of ties -/
def TiesAt (K : PySem.W.Frag) (vs : List V) (H : Hp) (T : List Tie) : Prop := ∃ a, vs = [.ref a] ∧ WebAt K H a T ∧ (∀ t ∈ T, 97 ≤ t.2.1 ∧ t.2.1 ≤ 122) ∧ T.length ≤ 2000
def sp_rising (K : PySem.W.Frag) : Sp := fun vs H Q _ => ∃ T, TiesAt K vs H T ∧ RetV (.bl (ris T)) H Q
def sp_isfold (K : PySem.W.Frag) : Sp := fun vs H Q _ => ∃ T b, TiesAt K vs H T ∧ (b = true ↔ Folded T ∧ T.Nodup) ∧ RetV (.bl b) H Q
def sp_isnum (K : PySem.W.Frag) : Sp := fun vs H Q _ => ∃ T b, TiesAt K vs H T ∧ Folded T ∧ T.Nodup ∧ (b = true ↔ (∀ t ∈ T, t.1 ∈ ord T) ∧ Num T) ∧ RetV (.bl b) H Q
def sp_nodead (K : PySem.W.Frag) : Sp := fun vs H Q _ => ∃ T b, TiesAt K vs H T ∧ (b = true ↔ ∀ r ∈ rms T, r ≠ 0 → 2 ≤ (rooms T).count (r : Int)) ∧ RetV (.bl b) H Q
def sp_isweb (K : PySem.W.Frag) : Sp := fun vs H Q _ => ∃ x b, vs = [x] ∧ RetV (.bl b) H Q ∧
  ((∃ a xs T, x = .ref a ∧ H a = some (.lst xs) ∧ Ties H xs T ∧ (∀ t ∈ T, 97 ≤ t.2.1 ∧ t.2.1 ≤ 122) ∧ T.length ≤ 2000 ∧ (b = true ↔ Good T)) ∨
   (∃ T, Kn H x T ∧ T ≠ "list" ∧ b = false) ∨
   (∃ a xs bs, x = .ref a ∧ H a = some (.lst xs) ∧ Paired (TieQ H) xs bs ∧ xs.length ≤ 2000 ∧ bs.all id = false ∧ b = false))
/-- no web: what is refused -/
def NoWeb (H : Hp) (x : V) : Prop := (∃ a xs T, x = .ref a ∧ H a = some (.lst xs) ∧ Ties H xs T ∧ (∀ t ∈ T, 97 ≤ t.2.1 ∧ t.2.1 ≤ 122) ∧ T.length ≤ 2000 ∧ ¬ Good T) ∨
   (∃ T, Kn H x T ∧ T ≠ "list") ∨ (∃ a xs bs, x = .ref a ∧ H a = some (.lst xs) ∧ Paired (TieQ H) xs bs ∧ xs.length ≤ 2000 ∧ bs.all id = false)
theorem NoWeb.mono {H H' : Hp} {x : V} (e : Ex H H') (h : NoWeb H x) : NoWeb H' x := by
  rcases h with ⟨a, xs, T, h1, h2, h3, h4⟩ | ⟨T, h1, h2⟩ | ⟨a, xs, bs, h1, h2, h3, h4⟩
  · exact Or.inl ⟨a, xs, T, h1, e _ _ h2, h3.mono e, h4⟩
  · exact Or.inr (Or.inl ⟨T, h1.mono e, h2⟩)
  · exact Or.inr (Or.inr ⟨a, xs, bs, h1, e _ _ h2, Paired.mapP h3 (fun x b h => h.mono e), h4⟩)
/-- a web that stands at a -/
def GoodAt (H : Hp) (a : Addr) (T : List Tie) : Prop := ∃ xs, H a = some (.lst xs) ∧ Ties H xs T ∧ Good T ∧ T.length ≤ 2000
theorem GoodAt.mono {H H' : Hp} {a : Addr} {T : List Tie} (e : Ex H H') (h : GoodAt H a T) : GoodAt H' a T := by
  obtain ⟨xs, h1, h2, h3⟩ := h
  exact ⟨xs, e _ _ h1, h2.mono e, h3⟩
theorem GoodAt.web {K : PySem.W.Frag} {H : Hp} {a : Addr} {T : List Tie} (h : GoodAt H a T) : WebAt K H a T := by
  obtain ⟨xs, h1, h2, _⟩ := h
  exact ⟨xs, sq_of h1, h2⟩
def sp_checkweb (CB : Addr) : Sp := fun vs H Q E => ∃ x, vs = [x] ∧ ((∃ a T, x = .ref a ∧ GoodAt H a T ∧ RetV .non H Q) ∨ (NoWeb H x ∧ ∀ H', Ex H H' → E (.ref CB) none H'))
def sp_reads (CB CW : Addr) : Sp := fun vs H Q E => ∃ x y, vs = [x, y] ∧ ((NoWeb H x ∧ ∀ H', Ex H H' → E (.ref CB) none H') ∨
  (∃ a T, x = .ref a ∧ GoodAt H a T ∧ ((NW H y ∧ ∀ H', Ex H H' → E (.ref CW) none H') ∨ (∃ l b, y = .str (S l) ∧ l.length ≤ 1000 ∧ isW l = true ∧ (b = true ↔ Rds T l) ∧ RetV (.bl b) H Q))))
end Gw
namespace Gw
open PySem PySem.Spec PyProof.Rows L2 Evl
section
variable {K : PySem.W.Frag} {σ : L2.St} {H : Hp} {te : TE} {tl : TE}
/-- a comprehension over ties, values that are no new objects -/
theorem el_lcTies {a : Addr} {xs : List V} {T : List Tie} {i j k : Nat} {vs : List Nat} {f : Tie → V} (hl : Ev tl σ H (.ref a)) (hs : SqL K H a xs) (hT : Ties H xs T) (hz : T.length ≤ 40000) (hw : ∀ x y z, wipe ((((wipe σ vs).set i (some x)).set j (some y)).set k (some z)) vs = wipe σ vs)
    (he : ∀ u ∈ T, ∀ H1, Ex H H1 → Ev te ((((wipe σ vs).set i (some (.int (u.1 : Nat)))).set j (some (sgn u.2.1))).set k (some (.int (u.2.2 : Nat)))) H1 (f u)) :
    EvL (tLc (iList K tl) (gTup K 3 (gCons (gName i) (gCons (gName j) (gCons (gName k) gNil)))) tYes te vs) σ H (T.map f) := fun H0 e0 Q q => by
  have xl := hT.length
  refine ew_list hl hs H0 e0 _ fun J H1 e1 wk Dl hD => ?_
  refine ⟨fun n m H' => m = xs.length - n ∧ n ≤ xs.length ∧ Ex H1 H' ∧ H' Dl = some (.lst ((T.take n).map f)), ⟨xs.length, rfl, Nat.zero_le _, Ex.new hD, upd_same⟩, ?_⟩
  rintro n m H' ⟨rfl, hi, ex, hl1⟩
  have E1 := (e0.trans e1).trans ex
  have hst := ex_l E1 hs
  by_cases hlt : n < xs.length
  · refine .inr ⟨wk.go n H' hst hlt, fun H'' => Ex H1 H'' ∧ H'' Dl = some (.lst ((T.take (n + 1)).map f)), fun H'' ⟨b, c⟩ => ⟨xs.length - (n + 1), by omega, rfl, hlt, b, c⟩, ?_⟩
    intro x H'' hy
    obtain ⟨rfl, hx⟩ := wk.yld n H' x H'' hst hlt hy
    obtain ⟨u, ta, htn, rfl, hta⟩ := hT.at hx
    have mu := List.mem_of_getElem? htn
    have tk : T.take (n + 1) = T.take n ++ [u] := by rw [List.take_add_one, htn]; rfl
    refine g3 rfl (st_of (E1 _ _ hta)) ⟨hw _ _ _, yes_go ?_⟩
    show te _ H'' _
    refine he u mu _ E1 H'' (Ex.refl _) _ fun H4 e4 => ⟨_, e4 _ _ hl1, sz_lt ?_, Ex.mut (ex.trans e4) hD, ?_⟩
    · rw [List.length_map, List.length_take]; omega
    · rw [upd_same, tk, List.map_append]; rfl
  · have hn : n = xs.length := by omega
    refine .inl ⟨wk.stop n H' hst (by omega), q Dl H' (fresh_back e1 hD) (e1.trans ex) ?_⟩
    rw [hl1, List.take_of_length_le (by omega)]
end
end Gw
namespace Gw
open PySem PySem.Spec PyProof.Rows L2 Evl
/-! ### how many ends: a dict that counts -/
def cntR (T : List Tie) (r : Nat) : Nat := (T.map fun t => (if t.1 = r then 1 else 0) + (if t.2.2 = r then 1 else 0)).sum
def CntD (kvs : List (Key × V)) (m : Nat → Nat) : Prop := (∀ r : Nat, valV kvs (.inl (r : Nat)) = if m r = 0 then none else some (.int (m r : Nat))) ∧ (∀ kv ∈ kvs, ∃ r : Nat, kv = ((.inl (r : Nat) : Key), V.int (m r : Nat)) ∧ m r ≠ 0) ∧ (kvs.map (·.1)).Nodup
def inc (m : Nat → Nat) (a : Nat) : Nat → Nat := fun r => if r = a then m r + 1 else m r
theorem valV_of_mem {kvs : List (Key × V)} (n : (kvs.map (·.1)).Nodup) {k : Key} {v : V} (h : (k, v) ∈ kvs) : valV kvs k = some v := by
  induction kvs with
  | nil => cases h
  | cons p kvs ih =>
    rw [List.map_cons, List.nodup_cons] at n
    rcases List.mem_cons.mp h with rfl | h
    · exact valV_pos rfl
    · rw [valV_neg (fun z => n.1 (z ▸ List.mem_map.mpr ⟨_, h, rfl⟩))]
      exact ih n.2 h
theorem mem_of_valV {kvs : List (Key × V)} {k : Key} {v : V} (h : valV kvs k = some v) : (k, v) ∈ kvs := by
  induction kvs with
  | nil => cases h
  | cons p kvs ih =>
    by_cases e : p.1 = k
    · rw [valV_pos e] at h
      cases h
      rw [← e]; exact List.mem_cons_self
    · rw [valV_neg e] at h
      exact List.mem_cons_of_mem _ (ih h)
theorem putK_keys {kvs : List (Key × V)} {k : Key} {v : V} : ((putK kvs k v).map (·.1)) = if (valV kvs k).isSome then kvs.map (·.1) else kvs.map (·.1) ++ [k] := by
  cases h : valV kvs k with
  | none => rw [putK_new _ h, List.map_append]; rfl
  | some x =>
    unfold putK
    rw [valV_any, h]
    simp only [Option.isSome_some, if_true]
    rw [List.map_map]
    refine List.map_congr_left fun p _ => ?_
    show (if p.1 = k then (p.1, v) else p).1 = p.1
    split <;> rfl
theorem putK_nodup {kvs : List (Key × V)} {k : Key} {v : V} (n : (kvs.map (·.1)).Nodup) : ((putK kvs k v).map (·.1)).Nodup := by
  rw [putK_keys]
  cases h : valV kvs k with
  | some x => exact n
  | none =>
    show (kvs.map (·.1) ++ [k]).Nodup
    rw [List.nodup_append]
    refine ⟨n, by simp, fun a ha b hb e => ?_⟩
    have : b = k := by simpa using hb
    subst this; subst e
    obtain ⟨p, hp, rfl⟩ := List.mem_map.mp ha
    rw [valV_of_mem n (v := p.2) hp] at h; cases h
theorem CntD.put {kvs : List (Key × V)} {m : Nat → Nat} (C : CntD kvs m) (a : Nat) : CntD (putK kvs (.inl (a : Nat)) (.int ((m a + 1 : Nat)))) (inc m a) := by
  obtain ⟨h1, h2, h3⟩ := C
  have n := putK_nodup (k := (.inl (a : Nat) : Key)) (v := .int ((m a + 1 : Nat))) h3
  have val : ∀ r : Nat, valV (putK kvs (.inl (a : Nat)) (.int ((m a + 1 : Nat)))) (.inl (r : Nat)) = if inc m a r = 0 then none else some (.int (inc m a r : Nat)) := fun r => by
    rw [valV_put]
    unfold inc
    by_cases k : r = a
    · subst k; rw [if_pos rfl, if_pos rfl, if_neg (by omega)]
    · rw [if_neg (fun z => k (inl_inj.mp z)), if_neg k, h1]
  refine ⟨val, fun kv hkv => ?_, n⟩
  have v := valV_of_mem n (k := kv.1) (v := kv.2) hkv
  have hk : kv.1 ∈ (putK kvs (.inl (a : Nat)) (.int ((m a + 1 : Nat)))).map (·.1) := List.mem_map.mpr ⟨_, hkv, rfl⟩
  obtain ⟨r, er⟩ : ∃ r : Nat, kv.1 = .inl (r : Nat) := by
    rw [putK_keys] at hk
    have : kv.1 ∈ kvs.map (·.1) ∨ kv.1 = .inl (a : Nat) := by
      cases q : valV kvs (.inl (a : Nat)) with
      | some x => rw [q] at hk; exact Or.inl hk
      | none =>
        rw [q] at hk
        rcases List.mem_append.mp hk with hk | hk
        · exact Or.inl hk
        · exact Or.inr (List.mem_singleton.mp hk)
    rcases this with hk | hk
    · obtain ⟨p, hp, e⟩ := List.mem_map.mp hk
      obtain ⟨r, rfl, _⟩ := h2 p hp
      exact ⟨r, e.symm⟩
    · exact ⟨a, hk⟩
  rw [er, val r] at v
  by_cases z : inc m a r = 0
  · rw [if_pos z] at v; cases v
  · rw [if_neg z] at v
    refine ⟨r, ?_, z⟩
    have := Option.some.inj v
    exact Prod.ext er this.symm
theorem CntD.val {kvs : List (Key × V)} {m : Nat → Nat} (C : CntD kvs m) (r : Nat) : (valV kvs (.inl (r : Nat))).getD (.int 0) = .int (m r : Nat) := by
  rw [C.1]
  by_cases z : m r = 0
  · rw [if_pos z, z]; rfl
  · rw [if_neg z]; rfl
theorem cntD_nil : CntD [] fun _ => 0 := ⟨fun r => by rw [if_pos rfl]; rfl, fun kv h => (by cases h), List.nodup_nil⟩
theorem cntR_snoc (T : List Tie) (t : Tie) : cntR (T ++ [t]) = inc (inc (cntR T) t.1) t.2.2 := by
  funext r
  unfold cntR inc
  rw [List.map_append, List.sum_append, List.map_singleton, List.sum_singleton]
  have a' : (r = t.1) = (t.1 = r) := propext eq_comm
  have b' : (r = t.2.2) = (t.2.2 = r) := propext eq_comm
  simp only [a', b']
  split <;> split <;> omega
theorem cntR_pos {T : List Tie} {r : Nat} (h : cntR T r ≠ 0) : r ∈ rms T := by
  unfold cntR at h
  have : ∃ t ∈ T, t.1 = r ∨ t.2.2 = r := by
    induction T with
    | nil => exact absurd rfl h
    | cons t T ih =>
      rw [List.map_cons, List.sum_cons] at h
      by_cases a : t.1 = r
      · exact ⟨t, List.mem_cons_self, Or.inl a⟩
      · by_cases b : t.2.2 = r
        · exact ⟨t, List.mem_cons_self, Or.inr b⟩
        · rw [if_neg a, if_neg b] at h
          obtain ⟨u, hu, q⟩ := ih (by omega)
          exact ⟨u, List.mem_cons_of_mem _ hu, q⟩
  obtain ⟨t, ht, q⟩ := this
  exact mem_rms.mpr (Or.inr ⟨t, ht, q.imp Eq.symm Eq.symm⟩)
theorem cntR_of {T : List Tie} {r : Nat} (h : r ∈ rms T) (h0 : r ≠ 0) : cntR T r ≠ 0 := by
  rcases mem_rms.mp h with h | ⟨t, ht, q⟩
  · exact absurd h h0
  · unfold cntR
    have := mem_sum_le (f := fun t : Tie => (if t.1 = r then 1 else 0) + (if t.2.2 = r then 1 else 0)) ht
    have : 0 < (if t.1 = r then 1 else 0) + (if t.2.2 = r then 1 else 0) := by
      rcases q with q | q
      · rw [if_pos q.symm]; omega
      · rw [if_pos q.symm]; omega
    omega
end Gw
namespace Gw
open PySem PySem.Spec PyProof.Rows L2 Evl
theorem given_all (bs : List Bool) : given bs.length (fun _ => true) (fun n => .bl (bs.getD n false)) = bs.map V.bl := by
  unfold given
  rw [List.filter_eq_self.mpr fun _ _ => rfl]
  refine List.ext_getElem? fun i => ?_
  rw [List.getElem?_map, List.getElem?_map]
  by_cases h : i < bs.length
  · rw [List.getElem?_range h, List.getElem?_eq_getElem h]
    show some (V.bl (bs.getD i false)) = some (V.bl bs[i])
    rw [List.getD_eq_getElem?_getD, List.getElem?_eq_getElem h]; rfl
  · rw [List.getElem?_eq_none (by rw [List.length_range]; omega), List.getElem?_eq_none (by omega)]; rfl
theorem paired_get {α β : Type} {R : α → β → Prop} {xs : List α} {ys : List β} (h : Paired R xs ys) : ∀ {i : Nat} {x : α}, xs[i]? = some x → ∃ y, ys[i]? = some y ∧ R x y := by
  induction h with
  | nil => intro i x e; cases e
  | cons r t ih =>
    intro i x e
    cases i with
    | zero => cases e; exact ⟨_, rfl, r⟩
    | succ i => exact ih e
theorem paired_ties {H : Hp} {xs : List V} {T : List Tie} (h : Ties H xs T) (sm : ∀ t ∈ T, 97 ≤ t.2.1 ∧ t.2.1 ≤ 122) : Paired (TieQ H) xs (T.map fun _ => true) := by
  induction h with
  | nil => exact .nil
  | cons r _ ih =>
    obtain ⟨a, rfl, ha⟩ := r
    exact .cons (tieQ_of ha (sm _ List.mem_cons_self)) (ih fun t ht => sm t (List.mem_cons_of_mem _ ht))
theorem all_true {α : Type} (l : List α) : ((l.map fun _ => true).all id) = true := by rw [all_map_id, List.all_eq_true]; exact fun _ _ => rfl
end Gw
namespace Gw
open PySem PySem.Spec PyProof.Rows L2 Evl
theorem NoWeb.of_bad {H : Hp} {a : Addr} {xs : List V} {T : List Tie} (h : H a = some (.lst xs)) (hT : Ties H xs T) (sm : ∀ t ∈ T, 97 ≤ t.2.1 ∧ t.2.1 ≤ 122) (hz : T.length ≤ 2000) (n : ¬ Good T) : NoWeb H (.ref a) := Or.inl ⟨a, xs, T, rfl, h, hT, sm, hz, n⟩
/-- a web is told as one -/
theorem sv_isweb1 {K : PySem.W.Frag} {a : Addr} {T : List Tie} {H : Hp} (h : GoodAt H a T) : SpV (sp_isweb K) [.ref a] H (.bl true) := fun H1 e Q q E => by
  obtain ⟨xs, h1, h2, G, hz⟩ := h
  exact ⟨_, true, rfl, q, Or.inl ⟨a, xs, T, rfl, e _ _ h1, h2.mono e, G.core.small, hz, ⟨fun _ => G, fun _ => rfl⟩⟩⟩
theorem sv_isweb0 {K : PySem.W.Frag} {x : V} {H : Hp} (h : NoWeb H x) : SpV (sp_isweb K) [x] H (.bl false) := fun H1 e Q q E => by
  rcases h.mono e with ⟨a, xs, T, rfl, h1, h2, sm, hz, n⟩ | ⟨T, k, hT⟩ | ⟨a, xs, bs, rfl, h1, h2, hz, hb⟩
  · exact ⟨_, false, rfl, q, Or.inl ⟨a, xs, T, rfl, h1, h2, sm, hz, ⟨fun z => (by cases z), fun z => (n z).elim⟩⟩⟩
  · exact ⟨_, false, rfl, q, Or.inr (Or.inl ⟨T, k, hT, rfl⟩)⟩
  · exact ⟨_, false, rfl, q, Or.inr (Or.inr ⟨a, xs, bs, rfl, h1, h2, hz, hb, rfl⟩)⟩
section
variable {K : PySem.W.Frag} {CB : Addr} {E : XK} {te : TE} {tz : TS} {D : Ends} {σ : L2.St} {H : Hp}
/-- a web is let through -/
theorem q_checkweb {a : Addr} {T : List Tie} (h : Ev te σ H (.ref a)) (g : GoodAt H a T) (k : ∀ H1, Ex H H1 → tz D σ H1) : tSeq (tDrop (tCall (sp_checkweb CB) [] E (tCons te tNil))) tz D σ H :=
  h H (Ex.refl _) _ fun H1 e1 => ⟨_, rfl, Or.inl ⟨a, T, rfl, g.mono e1, fun H2 e2 => k H2 (e1.trans e2)⟩⟩
/-- what is none is refused -/
theorem q_badweb {x : V} (h : Ev te σ H x) (n : NoWeb H x) (k : ∀ H1, Ex H H1 → E (.ref CB) none H1) : tSeq (tDrop (tCall (sp_checkweb CB) [] E (tCons te tNil))) tz D σ H :=
  h H (Ex.refl _) _ fun H1 e1 => ⟨_, rfl, Or.inr ⟨n.mono e1, fun H2 e2 => k H2 (e1.trans e2)⟩⟩
end
/-- where a word leads, None where it leads nowhere -/
def ledO (T : List Tie) : Option Nat → List Nat → Option Nat
  | o, [] => o
  | o, c :: w => ledO T (o.bind fun r => (gl T r c).head?) w
theorem ledO_none (T : List Tie) : ∀ w, ledO T none w = none
  | [] => rfl
  | c :: w => ledO_none T w
theorem gl_head {T : List Tie} (fo : Folded T) (nd : T.Nodup) {r c : Nat} (hc : isL c = true) {s : Nat} : (gl T r c).head? = some s ↔ Ld T r c s := by
  obtain ⟨one, none_⟩ := gl_one fo nd (r := r) hc
  constructor
  · intro h
    have : s ∈ gl T r c := List.mem_of_mem_head? h
    exact (mem_gl hc).mp this
  · intro l; rw [one s l]; rfl
theorem ledO_iff {T : List Tie} (fo : Folded T) (nd : T.Nodup) : ∀ {w : List Nat} {r s : Nat}, isW w = true → (ledO T (some r) w = some s ↔ Wlk T r w s)
  | [], r, s, _ => ⟨fun h => Option.some.inj h, fun h => congrArg some h⟩
  | c :: w, r, s, hw => by
    obtain ⟨h1, h2⟩ := isW_cons.mp hw
    show ledO T ((gl T r c).head?) w = some s ↔ ∃ m, Ld T r c m ∧ Wlk T m w s
    constructor
    · intro h
      cases q : (gl T r c).head? with
      | none => rw [q, ledO_none] at h; cases h
      | some m => rw [q] at h; exact ⟨m, (gl_head fo nd h1).mp q, (ledO_iff fo nd h2).mp h⟩
    · rintro ⟨m, l, k⟩
      rw [(gl_head fo nd h1).mpr l]
      exact (ledO_iff fo nd h2).mpr k
theorem ledO_snoc (T : List Tie) : ∀ (w : List Nat) (o : Option Nat) (c : Nat), ledO T o (w ++ [c]) = (ledO T o w).bind fun r => (gl T r c).head?
  | [], o, c => rfl
  | d :: w, o, c => ledO_snoc T w _ c
def oV : Option Nat → V
  | none => .non
  | some r => .int (r : Nat)
end Gw
namespace Gw
open PySem PySem.Spec PyProof.Rows L2 Evl
/-! ### the few words in the heap -/
theorem wayL_len : ∀ {n : Nat} {L : List Stp}, L.length = n → ∀ r, (wayL L r).length ≤ n
  | 0, L, h, r => by rw [List.eq_nil_of_length_eq_zero h]; exact Nat.le_refl _
  | n + 1, L, h, r => by
    rcases List.eq_nil_or_concat L with rfl | ⟨M, a, rfl⟩
    · cases h
    · rw [List.concat_eq_append] at *
      have ih := wayL_len (n := n) (L := M) (by simpa using h)
      rw [wayL_snoc]
      unfold wayS
      split
      · rw [List.length_append, List.length_singleton]; have := ih a.1; omega
      · have := ih r; omega
theorem way_len {T : List Tie} (nd : T.Nodup) (r : Nat) : (way T r).length ≤ T.length := by
  have h1 := wayL_len (L := fin T) rfl r
  have h2 := fin_len T
  have h3 := idle_len nd
  show (wayL (fin T) r).length ≤ _
  omega
def key3 (t : Tie) : List Key := [.inl (t.1 : Nat), .inr (S [t.2.1]), .inl (t.2.2 : Nat)]
theorem key3_v (t : Tie) : (key3 t).map kV = tieV t := rfl
theorem key3_inj {t u : Tie} (h : key3 t = key3 u) : t = u := by
  unfold key3 at h
  simp only [List.cons.injEq, Sum.inl.injEq, Sum.inr.injEq, and_true] at h
  obtain ⟨h1, h2, h3⟩ := h
  have h2 := S_inj h2
  simp only [List.cons.injEq, and_true] at h2
  exact Prod.ext (by omega) (Prod.ext h2 (by omega))
def WayD (kvs : List (Key × V)) (L : List Stp) : Prop := (∀ r ∈ news L, valV kvs (.inl (r : Nat)) = some (.str (S (wayL L r)))) ∧ kvs.length ≤ L.length + 1
theorem WayD.put {kvs : List (Key × V)} {L : List Stp} {a : Stp} (h : WayD kvs L) (ka : a.1 ∈ news L) (na : a.2.2 ∉ news L) : WayD (putK kvs (.inl (a.2.2 : Nat)) (.str (S (wayL L a.1 ++ [a.2.1])))) (L ++ [a]) := by
  refine ⟨fun r hr => ?_, ?_⟩
  · rw [valV_put, wayL_snoc]
    unfold wayS
    by_cases k : r = a.2.2
    · subst k; rw [if_pos rfl, if_pos rfl]
    · rw [if_neg (fun z => k (inl_inj.mp z)), if_neg k]
      rw [news_snoc] at hr
      rcases List.mem_append.mp hr with hr | hr
      · exact h.1 r hr
      · exact absurd (List.mem_singleton.mp hr) k
  · have := length_putK kvs (.inl (a.2.2 : Nat)) (.str (S (wayL L a.1 ++ [a.2.1])))
    have := h.2
    rw [List.length_append, List.length_singleton]; omega
theorem wayD_start : WayD [((.inl ((0 : Nat) : Int) : Key), .str (S []))] [] := by
  refine ⟨fun r hr => ?_, Nat.le_refl _⟩
  have : r = 0 := by simpa [news] using hr
  subst this; rfl
def FndD (kvs : List (List Key × V)) (M : List Tie) : Prop := (∀ t : Tie, valV kvs (key3 t) = if t ∈ M then some (.bl true) else none) ∧ kvs.length ≤ M.length
theorem FndD.put {kvs : List (List Key × V)} {M : List Tie} (h : FndD kvs M) (t : Tie) : FndD (putK kvs (key3 t) (.bl true)) (M ++ [t]) := by
  refine ⟨fun u => ?_, ?_⟩
  · rw [valV_put]
    by_cases k : key3 u = key3 t
    · rw [if_pos k, if_pos (List.mem_append.mpr (Or.inr (List.mem_singleton.mpr (key3_inj k))))]
    · rw [if_neg k, h.1]
      by_cases m : u ∈ M
      · rw [if_pos m, if_pos (List.mem_append.mpr (Or.inl m))]
      · rw [if_neg m, if_neg fun z => by
          rcases List.mem_append.mp z with z | z
          · exact m z
          · exact k (by rw [List.mem_singleton.mp z])]
  · have := length_putK kvs (key3 t) (.bl true)
    have := h.2
    rw [List.length_append, List.length_singleton]; omega
def sp_few (CB : Addr) : Sp := fun vs H Q E => ∃ x, vs = [x] ∧ ((NoWeb H x ∧ ∀ H', Ex H H' → E (.ref CB) none H') ∨
  (∃ a T, x = .ref a ∧ GoodAt H a T ∧ T.length ≤ 400 ∧ ∀ p H2, H p = none → Ex H H2 → H2 p = some (.lst (wordsV (few T))) → Q (.ref p) H2))
section
variable {K : PySem.W.Frag} {σ : L2.St} {H : Hp} {te td ty : TE} {tl : TE} {t : TT}
theorem el_lcTiesF {a : Addr} {xs : List V} {T : List Tie} {i j k : Nat} {vs : List Nat} (p : Tie → Bool) (f : Tie → V) (hl : Ev tl σ H (.ref a)) (hs : SqL K H a xs) (hT : Ties H xs T) (hz : T.length ≤ 40000) (hw : ∀ x y z, wipe ((((wipe σ vs).set i (some x)).set j (some y)).set k (some z)) vs = wipe σ vs)
    (ht : ∀ u ∈ T, ∀ H1, Ex H H1 → EvT t ((((wipe σ vs).set i (some (.int (u.1 : Nat)))).set j (some (sgn u.2.1))).set k (some (.int (u.2.2 : Nat)))) H1 (p u))
    (he : ∀ u ∈ T, p u = true → ∀ H1, Ex H H1 → Ev te ((((wipe σ vs).set i (some (.int (u.1 : Nat)))).set j (some (sgn u.2.1))).set k (some (.int (u.2.2 : Nat)))) H1 (f u)) :
    EvL (tLc (iList K tl) (gTup K 3 (gCons (gName i) (gCons (gName j) (gCons (gName k) gNil)))) t te vs) σ H ((T.filter p).map f) := fun H0 e0 Q q => by
  have xl := hT.length
  have fl : ∀ n : Nat, (((T.take n).filter p).map f).length ≤ T.length := fun n => by
    rw [List.length_map]
    exact Nat.le_trans (List.length_filter_le _ _) (by rw [List.length_take]; exact Nat.min_le_right _ _)
  refine ew_list hl hs H0 e0 _ fun J H1 e1 wk Dl hD => ?_
  refine ⟨fun n m H' => m = xs.length - n ∧ n ≤ xs.length ∧ Ex H1 H' ∧ H' Dl = some (.lst (((T.take n).filter p).map f)), ⟨xs.length, rfl, Nat.zero_le _, Ex.new hD, upd_same⟩, ?_⟩
  rintro n m H' ⟨rfl, hi, ex, hl1⟩
  have E1 := (e0.trans e1).trans ex
  have hst := ex_l E1 hs
  by_cases hlt : n < xs.length
  · refine .inr ⟨wk.go n H' hst hlt, fun H'' => Ex H1 H'' ∧ H'' Dl = some (.lst (((T.take (n + 1)).filter p).map f)), fun H'' ⟨b, c⟩ => ⟨xs.length - (n + 1), by omega, rfl, hlt, b, c⟩, ?_⟩
    intro x H'' hy
    obtain ⟨rfl, hx⟩ := wk.yld n H' x H'' hst hlt hy
    obtain ⟨u, ta, htn, rfl, hta⟩ := hT.at hx
    have mu := List.mem_of_getElem? htn
    have tk : T.take (n + 1) = T.take n ++ [u] := by rw [List.take_add_one, htn]; rfl
    refine g3 rfl (st_of (E1 _ _ hta)) ⟨hw _ _ _, ?_⟩
    refine ht u mu _ E1 H'' (Ex.refl _) _ fun H3 e3 => ?_
    cases hp : p u with
    | true =>
      show te _ H3 _
      refine he u mu hp _ (E1.trans e3) H3 (Ex.refl _) _ fun H4 e4 => ⟨_, e4 _ _ (e3 _ _ hl1), sz_lt (by have := fl n; omega), Ex.mut ((ex.trans e3).trans e4) hD, ?_⟩
      rw [upd_same, tk, List.filter_append, List.map_append, List.filter_cons, if_pos hp]; rfl
    | false =>
      show Ex H1 H3 ∧ H3 Dl = _
      refine ⟨ex.trans e3, ?_⟩
      rw [e3 _ _ hl1, tk, List.filter_append, List.filter_cons, if_neg (by rw [hp]; decide)]
      simp
  · have hn : n = xs.length := by omega
    refine .inl ⟨wk.stop n H' hst (by omega), q Dl H' (fresh_back e1 hD) (e1.trans ex) ?_⟩
    rw [hl1, List.take_of_length_le (by omega)]
theorem ev_dninT {d : Addr} {kvs : List (List Key × V)} {k : List Key} (h1 : EvU ty σ H (k.map kV)) (h2 : ∀ H1, Ex H H1 → Ev td σ H1 (.ref d)) (hd : Rd H d (.dT kvs)) : Ev (tDNotIn ty td) σ H (.bl (!(valV kvs k).isSome)) := fun H1 e Q q =>
  h1 H1 e _ fun b H2 hb e2 hk => h2 H2 (e.trans e2) H2 (Ex.refl _) _ fun H3 e3 => ⟨d, valV kvs k, rfl, Or.inr ⟨kvs, k, b, ex_rd ((e.trans e2).trans e3) hd, rfl, e3 _ _ hk, rfl⟩, q H3 (e2.trans e3)⟩
theorem ev_dinT {d : Addr} {kvs : List (List Key × V)} {k : List Key} (h1 : EvU ty σ H (k.map kV)) (h2 : ∀ H1, Ex H H1 → Ev td σ H1 (.ref d)) (hd : Rd H d (.dT kvs)) : Ev (tDIn ty td) σ H (.bl (valV kvs k).isSome) := fun H1 e Q q =>
  h1 H1 e _ fun b H2 hb e2 hk => h2 H2 (e.trans e2) H2 (Ex.refl _) _ fun H3 e3 => ⟨d, valV kvs k, rfl, Or.inr ⟨kvs, k, b, ex_rd ((e.trans e2).trans e3) hd, rfl, e3 _ _ hk, rfl⟩, q H3 (e2.trans e3)⟩
end
end Gw
namespace Gw
open PySem PySem.Spec PyProof.Rows L2 Evl
section
variable {σ : L2.St} {H : Hp} {td ty tv : TE} {tz : TS} {D : Ends}
theorem s_dputK {d : Addr} {kvs : List (Key × V)} {k : Key} {v : V} (hd : H d = some (.dK kvs)) (h1 : Ev tv σ H v) (h2 : Ev td σ H (.ref d)) (h3 : Ev ty σ H (kV k)) (hz : kvs.length < 100000) (q : ∀ H1, Ex H H1 → H1 d = some (.dK kvs) → D.nx σ (upd H1 d (.dK (putK kvs k v)))) : sDPut td ty tv D σ H :=
  h1 H (Ex.refl _) _ fun H1 e1 => h2 H1 e1 _ fun H2 e2 => h3 H2 (e1.trans e2) _ fun H3 e3 => ⟨d, _, rfl, DPut.k ((e1.trans (e2.trans e3)) _ _ hd) (sz_lt hz), q H3 (e1.trans (e2.trans e3)) ((e1.trans (e2.trans e3)) _ _ hd)⟩
theorem q_dputK {d : Addr} {kvs : List (Key × V)} {k : Key} {v : V} (hd : H d = some (.dK kvs)) (h1 : Ev tv σ H v) (h2 : Ev td σ H (.ref d)) (h3 : Ev ty σ H (kV k)) (hz : kvs.length < 100000) (q : ∀ H1, Ex H H1 → H1 d = some (.dK kvs) → tz D σ (upd H1 d (.dK (putK kvs k v)))) : tSeq (sDPut td ty tv) tz D σ H :=
  s_dputK (D := { D with nx := tz D }) hd h1 h2 h3 hz q
end
end Gw

/-! ## G4 -/
namespace Gw
open PySem PySem.Spec PyProof.Rows L2 Evl
/-! ### the law's own finding, tie by tie -/
theorem glc_snoc (T : List Tie) (t : Tie) (r c : Nat) : glc (T ++ [t]) r c = glc T r c ++ (if 97 ≤ c then (if t.1 = r ∧ t.2.1 = c then [(c, t.2.2)] else []) else (if t.2.2 = r ∧ t.2.1 = c + 32 then [(c, t.1)] else [])) := by
  unfold glc
  rw [gl_snoc, List.map_append]
  congr 1
  split
  · split <;> rfl
  · split <;> rfl
theorem stpAll_app (r : Nat) (L : List Stp) (a b : List (Nat × Nat)) : stpAll r L (a ++ b) = stpAll r (stpAll r L a) b := List.foldl_append
def WayE (kvs : List (Key × V)) (L : List Stp) : Prop := WayD kvs L ∧ kvs.length = L.length + 1 ∧ ∀ r : Nat, r ∉ news L → valV kvs (.inl (r : Nat)) = none
theorem wayE_start : WayE [((.inl ((0 : Nat) : Int) : Key), .str (S []))] [] := ⟨wayD_start, rfl, fun r h => by
  have : r ≠ 0 := by simpa [news] using h
  rw [valV_neg (fun z => this (inl_inj.mp z).symm)]; rfl⟩
theorem WayE.put {kvs : List (Key × V)} {L : List Stp} {a : Stp} (h : WayE kvs L) (ka : a.1 ∈ news L) (na : a.2.2 ∉ news L) : WayE (putK kvs (.inl (a.2.2 : Nat)) (.str (S (wayL L a.1 ++ [a.2.1])))) (L ++ [a]) := by
  refine ⟨h.1.put ka na, ?_, fun r hr => ?_⟩
  · rw [putK_new _ (h.2.2 _ na), List.length_append, List.length_append, h.2.1]; rfl
  · rw [news_snoc, List.mem_append, List.mem_singleton, not_or] at hr
    rw [valV_put, if_neg (fun z => hr.2 (inl_inj.mp z)), h.2.2 r hr.1]
theorem WayE.val {kvs : List (Key × V)} {L : List Stp} (h : WayE kvs L) (r : Nat) : (valV kvs (.inl (r : Nat))).isSome = decide (r ∈ news L) := by
  by_cases m : r ∈ news L
  · rw [h.1.1 r m, decide_eq_true m]; rfl
  · rw [h.2.2 r m, decide_eq_false m]; rfl
structure Lf (a dw lo lu : Addr) (H0 : Hp) (L : List Stp) (H : Hp) : Prop where
  ex : Ex H0 H
  wy : ∃ kvs, H dw = some (.dK kvs) ∧ WayE kvs L
  od : H lo = some (.lst (nats (news L)))
  us : ∃ us, H lu = some (.lst us) ∧ Ties H us (L.map tieS)
structure LfA (dw lo lu : Addr) (H0 : Hp) : Prop where
  fw : H0 dw = none
  fo : H0 lo = none
  fu : H0 lu = none
  n1 : dw ≠ lo
  n2 : dw ≠ lu
  n3 : lo ≠ lu
theorem Lf.mono {a dw lo lu : Addr} {H0 : Hp} {L : List Stp} {H H' : Hp} (h : Lf a dw lo lu H0 L H) (e : Ex H H') : Lf a dw lo lu H0 L H' := by
  obtain ⟨ex, ⟨kvs, hk, W⟩, od, us, hu, hT⟩ := h
  exact ⟨ex.trans e, ⟨kvs, e _ _ hk, W⟩, e _ _ od, us, e _ _ hu, hT.mono e⟩
section
variable {K : PySem.W.Frag} {σ : L2.St} {H : Hp} {tl : TE} {D : Ends}
/-- one tie looked at: a room more, or none -/
theorem lf_if {a dw lo lu ta : Addr} {H0 : Hp} {L : List Stp} {t : Tie} {r c k0 k2 x0 x2 : Nat} {N : L2.St → Hp → Prop} (A : LfA dw lo lu H0) (h : Lf a dw lo lu H0 L H) (S0 : L.length ≤ 1000) (hr : r ∈ news L) (wl : (wayL L r).length ≤ 1000)
    (h1 : σ[1]? = some (some (.ref dw))) (h2 : σ[2]? = some (some (.ref lo))) (h3 : σ[3]? = some (some (.ref lu))) (h5 : σ[5]? = some (some (.int (r : Nat)))) (h6 : σ[6]? = some (some (sgn (lowOf c)))) (h7 : σ[7]? = some (some (.ref ta))) (ht : H ta = some (.tup (tieV t)))
    (i0 : atI (tieV t) (k0 : Nat) = some (.int (x0 : Nat))) (i1 : atI (tieV t) 1 = some (sgn t.2.1)) (i2 : atI (tieV t) (k2 : Nat) = some (.int (x2 : Nat))) (hl : ∀ H1, Ev tl σ H1 (sgn c)) (hs : x0 = r → t.2.1 = lowOf c → tieS (r, c, x2) = t)
    (q : ∀ L2 H2, Lf a dw lo lu H0 L2 H2 → (∀ z o, z ≠ dw → z ≠ lo → z ≠ lu → H z = some o → H2 z = some o) → L2 = stpAll r L (if x0 = r ∧ t.2.1 = lowOf c then [(c, x2)] else []) → D.nx σ H2) :
    tIfS (tAnd (tTest (tOp rEq (tOp (rIxT K) (tVar 7) (tC (.int (k0 : Nat)))) (tVar 5))) (tAnd (tTest (tOp rEq (tOp (rIxT K) (tVar 7) (tC (.int 1))) (tVar 6))) (tTest (tDNotIn (tOp (rIxT K) (tVar 7) (tC (.int (k2 : Nat)))) (tVar 1)))))
      (tSeq (sDPut (tVar 1) (tOp (rIxT K) (tVar 7) (tC (.int (k2 : Nat)))) (tOp (fun x y H Q => ∃ i j, x = .str i ∧ y = .str j ∧ i.length + j.length ≤ sizeLine ∧ Q (.str (i ++ j)) H) (tDGet (tVar 1) (tVar 5)) tl))
        (tSeq (tDrop (tBM K "list" rAppend (tVar 2) (tCons (tOp (rIxT K) (tVar 7) (tC (.int (k2 : Nat)))) tNil))) (tDrop (tBM K "list" rAppend (tVar 3) (tCons (tVar 7) tNil))))) tNext D σ H := by
  obtain ⟨ex, ⟨kvs, hk, W⟩, od, us, hu, hT⟩ := h
  have ul : us.length = L.length := by rw [hT.length, List.length_map]
  have nl : (news L).length = L.length + 1 := by unfold news; rw [List.length_cons, List.length_map]
  refine s_when (b := decide (x0 = r) && (decide (t.2.1 = lowOf c) && !decide (x2 ∈ news L))) (et_is (et_and (et_test (ev_op (ev_op (ev_var h7) ev_c (rv_ixT (st_of ht) i0)) (ev_var h5) (rv_eq rfl))) (fun _ => et_and (et_test (ev_op (ev_op (ev_var h7) ev_c (rv_ixT (st_of ht) i1)) (ev_var h6) (rv_eq rfl))) (fun _ => et_test (ev_dninK (k := .inl (x2 : Nat)) (ev_op (ev_var h7) ev_c (rv_ixT (st_of ht) i2)) (ev_var h1) (Or.inl hk))))) ?_) (fun b H1 e1 => ?_) (fun b H1 e1 => ?_)
  · rw [W.val]
    congr 1
    · by_cases z : x0 = r
      · rw [decide_eq_true z, decide_eq_true (by rw [z])]
      · rw [decide_eq_false z, decide_eq_false fun y => z (by have y2 := V.int.inj y; omega)]
    · congr 1
      by_cases z : t.2.1 = lowOf c
      · rw [decide_eq_true z, decide_eq_true (by rw [z])]
      · rw [decide_eq_false z, decide_eq_false fun y => z (by have y2 : (⟨#[t.2.1]⟩ : Str) = ⟨#[lowOf c]⟩ := V.str.inj y; simpa using y2)]
  · simp only [Bool.and_eq_true, Bool.not_eq_true'] at b
    have b1 := of_decide_eq_true b.1
    have b2 := of_decide_eq_true b.2.1
    have b3 := of_decide_eq_false b.2.2
    have hk1 := e1 _ _ hk
    have ht1 := e1 _ _ ht
    have rv := rv_addS (H := H1) (i := S (wayL L r)) (j := S [c]) (by rw [S_len, S_len]; exact sz_of (by simp; omega))
    rw [S_app] at rv
    have kl := W.2.1
    refine q_dputK (k := .inl (x2 : Nat)) hk1 (ev_op (ev_dgetK (k := .inl (r : Nat)) (ev_var h1) (ev_var h5) (Or.inl hk1) (W.1.1 r hr)) (hl H1) rv) (ev_var h1) (ev_op (ev_var h7) ev_c (rv_ixT (st_of ht1) i2)) (by omega) fun H2 e2 hk2 => ?_
    have W2 := W.put (a := (r, c, x2)) hr b3
    have ne7 : dw ≠ ta := fun z => by subst z; rw [hk1] at ht1; cases ht1
    have Ea : Ex H0 (upd H2 dw (.dK (putK kvs (.inl (x2 : Nat)) (.str (S (wayL L r ++ [c])))))) := Ex.mut ((ex.trans e1).trans e2) A.fw
    have ka : (upd H2 dw (.dK (putK kvs (.inl (x2 : Nat)) (.str (S (wayL L r ++ [c])))))) dw = some (.dK (putK kvs (.inl (x2 : Nat)) (.str (S (wayL L r ++ [c]))))) := upd_same
    have oa : (upd H2 dw (.dK (putK kvs (.inl (x2 : Nat)) (.str (S (wayL L r ++ [c])))))) lo = some (.lst (nats (news L))) := by rw [upd_ne A.n1.symm]; exact e2 _ _ (e1 _ _ od)
    have ua : (upd H2 dw (.dK (putK kvs (.inl (x2 : Nat)) (.str (S (wayL L r ++ [c])))))) lu = some (.lst us) := by rw [upd_ne A.n2.symm]; exact e2 _ _ (e1 _ _ hu)
    have ta2 : (upd H2 dw (.dK (putK kvs (.inl (x2 : Nat)) (.str (S (wayL L r ++ [c])))))) ta = some (.tup (tieV t)) := by rw [upd_ne ne7.symm]; exact e2 _ _ ht1
    have Ta : Ties (upd H2 dw (.dK (putK kvs (.inl (x2 : Nat)) (.str (S (wayL L r ++ [c])))))) us (L.map tieS) := ties_dk (hT.mono (e1.trans e2)) fun l z => by rw [hk2] at z; cases z
    have keep3 : ∀ z o, z ≠ dw → H z = some o → (upd H2 dw (.dK (putK kvs (.inl (x2 : Nat)) (.str (S (wayL L r ++ [c])))))) z = some o := fun z o z1 hz => by rw [upd_ne z1]; exact e2 _ _ (e1 _ _ hz)
    generalize upd H2 dw (.dK (putK kvs (.inl (x2 : Nat)) (.str (S (wayL L r ++ [c]))))) = H3 at *
    generalize putK kvs (.inl (x2 : Nat)) (.str (S (wayL L r ++ [c]))) = kvs2 at *
    refine q_app oa (ev_var h2) (ev_op (ev_var h7) ev_c (rv_ixT (st_of ta2) i2)) (by rw [nats_len]; omega) fun H4 e4 => ?_
    have oa4 := e4 _ _ oa
    have Eb : Ex H0 (upd H4 lo (.lst (nats (news L) ++ [.int (x2 : Nat)]))) := Ex.mut (Ea.trans e4) A.fo
    have kb : (upd H4 lo (.lst (nats (news L) ++ [.int (x2 : Nat)]))) dw = some (.dK kvs2) := by rw [upd_ne A.n1]; exact e4 _ _ ka
    have ob : (upd H4 lo (.lst (nats (news L) ++ [.int (x2 : Nat)]))) lo = some (.lst (nats (news L ++ [x2]))) := by rw [upd_same]; unfold nats; rw [List.map_append]; rfl
    have ub : (upd H4 lo (.lst (nats (news L) ++ [.int (x2 : Nat)]))) lu = some (.lst us) := by rw [upd_ne A.n3.symm]; exact e4 _ _ ua
    have tb : (upd H4 lo (.lst (nats (news L) ++ [.int (x2 : Nat)]))) ta = some (.tup (tieV t)) := by rw [upd_ne (fun z => by subst z; rw [oa] at ta2; cases ta2)]; exact e4 _ _ ta2
    have Tb : Ties (upd H4 lo (.lst (nats (news L) ++ [.int (x2 : Nat)]))) us (L.map tieS) := ties_dk (Ta.mono e4) fun l z => by rw [oa4] at z; cases z
    have keep5 : ∀ z o, z ≠ dw → z ≠ lo → H z = some o → (upd H4 lo (.lst (nats (news L) ++ [.int (x2 : Nat)]))) z = some o := fun z o z1 z2 hz => by rw [upd_ne z2]; exact e4 _ _ (keep3 z o z1 hz)
    generalize upd H4 lo (.lst (nats (news L) ++ [.int (x2 : Nat)])) = H5 at *
    refine s_app ub (ev_var h3) (ev_var h7) (by omega) fun H6 e6 => ?_
    have ub6 := e6 _ _ ub
    refine q (L ++ [(r, c, x2)]) _ ⟨Ex.mut (Eb.trans e6) A.fu, ⟨kvs2, ?_, W2⟩, ?_, us ++ [.ref ta], upd_same, ?_⟩ (fun z o z1 z2 z3 hz => ?_) ?_
    · rw [upd_ne A.n2]; exact e6 _ _ kb
    · rw [upd_ne A.n3, news_snoc]; exact e6 _ _ ob
    · rw [List.map_append]
      refine Ties.app ((Tb.mono e6).upd ub6) (.cons ⟨ta, rfl, ?_⟩ .nil)
      rw [hs b1 b2, upd_ne (fun z => by subst z; rw [ub] at tb; cases tb)]
      exact e6 _ _ tb
    · rw [upd_ne z3]; exact e6 _ _ (keep5 z o z1 z2 hz)
    · rw [if_pos ⟨b1, b2⟩]
      show _ = stp1 r L (c, x2)
      exact (if_neg b3).symm
  · refine q L H1 (Lf.mono ⟨ex, ⟨kvs, hk, W⟩, od, us, hu, hT⟩ e1) (fun z o _ _ _ hz => e1 _ _ hz) ?_
    by_cases z : x0 = r ∧ t.2.1 = lowOf c
    · rw [if_pos z]
      have : x2 ∈ news L := by
        rw [decide_eq_true z.1, decide_eq_true z.2, Bool.true_and, Bool.true_and] at b
        simpa using b
      exact (if_pos this : stp1 r L (c, x2) = L).symm
    · rw [if_neg z]; rfl
end
end Gw
namespace Gw
open PySem PySem.Spec PyProof.Rows L2 Evl
theorem foldS_map (L : List Nat) : ∀ M : List Nat, (L.map fun c => S [c]).foldl addS (M.map fun c => S [c]) = (L.foldl addC M).map fun c => S [c] := by
  induction L with
  | nil => intro M; rfl
  | cons c L ih =>
    intro M
    rw [List.map_cons, List.foldl_cons, List.foldl_cons, addS_map, ih]
section
variable {K : PySem.W.Frag} {σ : L2.St} {H : Hp} {tl : TE} {P : Program} {w : World} {Q : VK}
/-- sorted(set(letters)): the letters, rising -/
theorem wp_letters {ls : List Nat} (hl : EvL tl σ H (ls.map sgn)) (hz : ls.length ≤ 4000) (sm : ∀ c ∈ ls, 97 ≤ c ∧ c ≤ 122) (q : ∀ (p : Addr) (H2 : Hp) (U : List Nat), H p = none → Ex H H2 → H2 p = some (.lst (U.map sgn)) → U.Pairwise (· < ·) → (∀ c, c ∈ U ↔ c ∈ ls) → U.length ≤ 26 → Q (.ref p) H2) :
    tCB (rSortSS P w) (tCons (tCB (rSetOfS K P w) (tCons tl tNil)) tNil) σ H Q := by
  refine wp_cb1 (wp_cb1 (hl H (Ex.refl _) _ fun a H1 ha e1 h1 => ⟨a, ls.map fun c => S [c], rfl, sq_of (by rw [h1]; congr 2; rw [List.map_map]; rfl), by rw [List.length_map]; exact hz, fun b hb => ?_⟩))
  have fe : (ls.map fun c => S [c]).foldl addS [] = (csetL ls).map fun c => S [c] := foldS_map ls []
  have few : (csetL ls).length ≤ 26 := by
    have := nodup_le' (m := (List.range 26).map (97 + ·)) (csetL_nodup ls) fun c hc => by
      have := sm c (mem_csetL.mp hc)
      exact List.mem_map.mpr ⟨c - 97, List.mem_range.mpr (by omega), by omega⟩
    simpa using this
  refine ⟨b, _, rfl, upd_same, by rw [fe, List.length_map]; omega, fun ys p so pm hp => ?_⟩
  rw [fe] at pm
  obtain ⟨U, rfl, pU⟩ := perm_map_back pm
  have nU := pU.nodup_iff.mpr (csetL_nodup ls)
  have eb : Ex H (upd H1 b (SetSO P w b ((ls.map fun c => S [c]).foldl addS []))) := e1.trans (Ex.new hb)
  refine q p _ U (fresh_back eb hp) (eb.trans (Ex.new hp)) ?_ (sorted_one so nU) (fun c => ?_) ?_
  · rw [upd_same, List.map_map]; rfl
  · rw [pU.mem_iff, mem_csetL]
  · rw [pU.length_eq]; exact few
/-- the letters of a list's ties -/
theorem el_lets {a : Addr} {xs : List V} {T : List Tie} {j : Nat} {vs : List Nat} (hl : Ev tl σ H (.ref a)) (hs : SqL K H a xs) (hT : Ties H xs T) (hz : T.length ≤ 40000) (hw : ∀ x, wipe ((wipe σ vs).set j (some x)) vs = wipe σ vs) (hj : ∀ x, ((wipe σ vs).set j (some x))[j]? = some (some x)) :
    EvL (tLc (iList K tl) (gName j) tYes (tOp (rIxT K) (tVar j) (tC (.int 1))) vs) σ H ((T.map fun t => t.2.1).map sgn) := by
  have xl := hT.length
  refine el_is (el_lcA (fun x => sgn (tieAt H x).2.1) (ew_list hl hs) hs kp_list (by omega) hw fun x hx H1 e1 => ?_) ?_
  · obtain ⟨b, rfl, hb⟩ := hT.each x hx
    exact ev_op (ev_var (hj _)) ev_c (rv_ixT (st_of (e1 _ _ hb)) rfl)
  · rw [← hT.maps, List.map_map, List.map_map]; rfl
end
def sp_lfound : Sp := fun vs H Q _ => ∃ a xs T, vs = [.ref a] ∧ H a = some (.lst xs) ∧ Ties H xs T ∧ (∀ t ∈ T, 97 ≤ t.2.1 ∧ t.2.1 ≤ 122) ∧ Folded T ∧ T.Nodup ∧ T.length ≤ 400 ∧
  ∀ p dw lu kvs us H2, H p = none → Ex H H2 → H2 p = some (.tup [.ref dw, .ref lu]) → H2 dw = some (.dK kvs) → WayE kvs (fin T) → H2 lu = some (.lst us) → Ties H2 us (used T) → Q (.ref p) H2
theorem used_flat (T : List Tie) (r : Nat) (U : List Nat) : (U.flatMap fun c => [c, c - 32]).flatMap (glc T r) = U.flatMap fun c => glc T r c ++ glc T r (c - 32) := by
  rw [flatMap_flatMap']
  refine congrArg (fun f => U.flatMap f) (funext fun c => ?_)
  show glc T r c ++ (glc T r (c - 32) ++ []) = _
  rw [List.append_nil]
end Gw
namespace Gw
open PySem PySem.Spec PyProof.Rows L2 Evl
/-! ### a row: at most four words of at most five letters, the last one perhaps made of these -/
structure RowS (ls : List Nat) (ws : List (List Nat)) : Prop where
  ex : ∃ us, Row ls us 4 5 ∧ (ws = us ∨ ∃ x, ws = us ++ [x] ∧ x.length ≤ 15 ∧ InL ls x ∧ Made us x)
theorem RowS.row {ls : List Nat} {ws : List (List Nat)} (R : RowS ls ws) : Row ls ws 5 15 := by
  obtain ⟨us, R4, rfl | ⟨x, rfl, hx, hi, _⟩⟩ := R.ex
  · exact R4.wide (by decide) (by decide)
  · exact R4.snoc hx (by decide) hi
theorem RowS.of {ls : List Nat} {ws : List (List Nat)} (R : Row ls ws 4 5) : RowS ls ws := ⟨ws, R, Or.inl rfl⟩
def sp_rowS (K : PySem.W.Frag) : Sp := fun vs H Q _ => ∃ (a b : Addr) (ns : List Int) (ls : List Nat), vs = [.ref a, .ref b] ∧ SqL K H a (ns.map V.int) ∧ SqL K H b (ls.map sgn) ∧ Lts ls ∧ ∀ p H2 ws, H p = none → Ex H H2 → H2 p = some (.lst (wordsV ws)) → RowS ls ws → Q (.ref p) H2
theorem made_conj {us : List (List Nat)} (A : AllW us) {u v : List Nat} (hu : u ∈ us) (hv : v ∈ us) : Made us (u ++ v ++ inv u) :=
  Made.app A (isW_app.mpr ⟨A u hu, A v hv⟩) (isW_inv (A u hu)) (Made.app A (A u hu) (A v hv) (Made.one hu) (Made.one hv)) (Made.inv A (A u hu) (Made.one hu))
theorem made_cube {us : List (List Nat)} (A : AllW us) {v : List Nat} (hv : v ∈ us) : Made us (v ++ v ++ v) :=
  Made.app A (isW_app.mpr ⟨A v hv, A v hv⟩) (A v hv) (Made.app A (A v hv) (A v hv) (Made.one hv) (Made.one hv)) (Made.one hv)
end Gw

/-! ## G5 -/
namespace Gw
open PySem PySem.Spec PyProof.Rows L2 Evl
/-! ### the few words of a web that a short row makes -/
theorem low_one {t : Tie} (h : 97 ≤ t.2.1 ∧ t.2.1 ≤ 122) : SeqAt.shaped (tieD t) = true := by
  show ((tieD t).canLay0 && decide ((tieD t).depth ≤ 64)) = true
  rw [lay_tie h, depth_tie]; rfl
theorem any_tie {U : List Tie} {t : Tie} : ((webD U).any fun z => PyData.eqv z (tieD t)) = decide (t ∈ U) := by
  unfold webD
  rw [List.any_map]
  induction U with
  | nil => rfl
  | cons u U ih =>
    rw [List.any_cons, ih]
    show (PyData.eqv (tieD u) (tieD t) || _) = _
    rw [eqv_tie]
    by_cases h : u = t
    · subst h; simp
    · have : ¬ t = u := fun z => h z.symm
      simp [h, this]
section
variable {K : PySem.W.Frag} {H : Hp}
theorem rv_ninTies {a p : Addr} {t : Tie} {U : List Tie} (ha : H a = some (.tup (tieV t))) (ht : 97 ≤ t.2.1 ∧ t.2.1 ≤ 122) (hp : WebAt K H p U) (hU : Low U) : RV (rNotInD K) (.ref a) (.ref p) H (.bl (!decide (t ∈ U))) := fun H1 e Q k =>
  ⟨tieD t, webD U, dp_tie (e _ _ ha), dp_web (hp.mono e), low_one ht, shaped_web hU, by rw [any_tie]; exact k H1 (Ex.refl _)⟩
theorem rv_inTies {a p : Addr} {t : Tie} {U : List Tie} (ha : H a = some (.tup (tieV t))) (ht : 97 ≤ t.2.1 ∧ t.2.1 ≤ 122) (hp : WebAt K H p U) (hU : Low U) : RV (rInD K) (.ref a) (.ref p) H (.bl (decide (t ∈ U))) := fun H1 e Q k =>
  ⟨tieD t, webD U, dp_tie (e _ _ ha), dp_web (hp.mono e), low_one ht, shaped_web hU, by rw [any_tie]; exact k H1 (Ex.refl _)⟩
theorem rc_lenK {d : Addr} {kvs : List (Key × V)} (h : H d = some (.dK kvs)) : RC (fun xs H Q => ∃ a kvs, xs = [V.ref a] ∧ H a = some (.dK kvs) ∧ Q (.int kvs.length) H) [.ref d] H (.int kvs.length) := fun H1 e _ q => ⟨d, kvs, rfl, e _ _ h, q H1 (Ex.refl H1)⟩
theorem ev_eqSame2 {σ : L2.St} {ta tb : TE} {xs : List V} {p q : Addr} (ha : Ev ta σ H (.ref p)) (hp : SqL K H p xs) (hb : Ev tb σ H (.ref q)) (hq : SqL K H q xs) (hf : xs.all flat1 = true) : Ev (tOp (rEqD K) ta tb) σ H (.bl true) :=
  ev_op ha hb fun H2 e2 Q k => ⟨.list (xs.map fd), .list (xs.map fd), .lst (ex_l e2 hp) (dpAll_flat hf), .lst (ex_l e2 hq) (dpAll_flat hf), shaped_flat hf, shaped_flat hf, by rw [eqv_flat hf]; exact k H2 (Ex.refl _)⟩
theorem ev_eqSameL {σ : L2.St} {ta tb : TE} {xs : List V} {q : Addr} (ha : EvL ta σ H xs) (hb : Ev tb σ H (.ref q)) (hq : SqL K H q xs) (hf : xs.all flat1 = true) : Ev (tOp (rEqD K) ta tb) σ H (.bl true) := fun H1 e Q k =>
  ha H1 e _ fun p H2 hp e2 h2 => hb H2 (e.trans e2) _ fun H3 e3 => ⟨.list (xs.map fd), .list (xs.map fd), .lst (ex_l e3 (sq_of h2)) (dpAll_flat hf), .lst (ex_l ((e.trans e2).trans e3) hq) (dpAll_flat hf), shaped_flat hf, shaped_flat hf, by rw [eqv_flat hf]; exact k H3 (e2.trans e3)⟩
end
theorem fw_len {T : List Tie} (nd : T.Nodup) (t : Tie) : (fw T t).length ≤ 2 * T.length + 1 := by
  have h1 := way_len nd t.1
  have h2 := way_len nd t.2.2
  unfold fw
  rw [List.length_append, List.length_cons, inv_len]; omega
theorem few_length (T : List Tie) : (few T).length = (idle T).length := by unfold few; rw [List.length_map]
theorem fws_ws {T : List Tie} (C : Core T) (h : T.length ≤ 75) {ts : List Tie} (hs : ∀ t ∈ ts, t ∈ idle T) (hl : ts.length ≤ 5) : Ws (ts.map (fw T)) := by
  refine ⟨fun w hw => ?_, by rw [List.length_map]; omega, ?_⟩
  · obtain ⟨t, ht, rfl⟩ := List.mem_map.mp hw
    exact (fw_wlk C (mem_idle.mp (hs t ht)).1).isW
  · have := sum_bd (l := ts.map (fw T)) (b := 151) fun w hw => by
      obtain ⟨t, ht, rfl⟩ := List.mem_map.mp hw
      have := fw_len C.nd t
      show (fw T t).length ≤ 151
      omega
    rw [List.length_map] at this
    omega
/-- a row of five short words: its web has at most 75 ties, and at most five few words -/
theorem rowS_bd {ls : List Nat} {ws : List (List Nat)} {T : List Tie} (L : Lts ls) (R : Row ls ws 5 15) (W : WebOf ws T) : T.length ≤ 75 ∧ (idle T).length ≤ 5 := by
  have A := R.allW L
  have tl : T.length ≤ 75 := by
    have h1 := W.len
    have h2 : (ws.map fun w => (short w).length).sum ≤ (ws.map List.length).sum := sum_le_sum fun w hw => short_len (A w hw)
    have h3 := sum_bd (l := ws) (b := 15) fun w hw => (R.each w hw).1
    have := R.len
    omega
  refine ⟨tl, ?_⟩
  have := rank W.good.core A (fun w hw => (W.reads w (A w hw)).mpr (Made.one hw)) fun w hw => by
    have iw := few_allW W.good.core w hw
    exact (W.reads w iw).mp ((few_reads W.good.core iw).mp (Made.one hw))
  rw [few_length] at this
  exact Nat.le_trans this R.len
theorem web_few {T U : List Tie} (G : Good T) (W : WebOf (few T) U) : U = T := W.good.unique G fun w hw => (W.reads w hw).trans (few_reads G.core hw)
/-- one few word left out -/
theorem few_out {T U : List Tie} (G : Good T) {k : Nat} {t : Tie} (hk : (idle T)[k]? = some t) (W : WebOf (((idle T).take k ++ (idle T).drop (k + 1)).map (fw T)) U) : ¬ Rds U (fw T t) ∧ U ≠ T := by
  have C := G.core
  have ht := List.mem_of_getElem? hk
  have nd : (idle T).Nodup := C.nd.filter _
  have hT := (mem_idle.mp ht).1
  have iw := (fw_wlk C hT).isW
  have no : ¬ Rds U (fw T t) := fun z => by
    refine few_spare C ht (ts := (idle T).take k ++ (idle T).drop (k + 1)) (fun x hx => ?_) ((W.reads _ iw).mp z)
    have li := (List.getElem?_eq_some_iff.mp hk).1
    have sp : idle T = (idle T).take k ++ t :: (idle T).drop (k + 1) := by
      have e : (idle T)[k] = t := (List.getElem?_eq_some_iff.mp hk).2
      rw [← e, List.getElem_cons_drop, List.take_append_drop]
    rw [sp] at nd
    rw [List.nodup_append, List.nodup_cons] at nd
    obtain ⟨n1, ⟨n2, n3⟩, n4⟩ := nd
    rcases List.mem_append.mp hx with hx | hx
    · exact ⟨List.mem_of_mem_take hx, fun e => n4 x hx t List.mem_cons_self e⟩
    · exact ⟨List.mem_of_mem_drop hx, fun e => n2 (e ▸ hx)⟩
  refine ⟨no, fun e => no ?_⟩
  subst e
  exact (few_reads C iw).mp (Made.one (List.mem_map.mpr ⟨t, ht, rfl⟩))
theorem idle_take {T : List Tie} {n : Nat} {t : Tie} (h : T[n]? = some t) (p : Tie → Bool) : (T.take (n + 1)).filter p = (T.take n).filter p ++ (if p t = true then [t] else []) := by
  rw [List.take_add_one, h, List.filter_append]
  show _ ++ [t].filter p = _
  rw [List.filter_cons]
  cases p t <;> rfl
end Gw
namespace Gw
open PySem PySem.Spec PyProof.Rows L2 Evl
section
variable {K : PySem.W.Frag} {σ : L2.St} {H : Hp} {te tb : TE} {CB CW : Addr} {E : XK}
/-- a list, new or not -/
def EvS (K : PySem.W.Frag) (te : TE) (σ : L2.St) (H : Hp) (xs : List V) : Prop := ∀ H1, Ex H H1 → ∀ Q : VK, (∀ p H2, Ex H1 H2 → SqL K H2 p xs → Q (.ref p) H2) → te σ H1 Q
theorem es_l {xs : List V} (h : EvL te σ H xs) : EvS K te σ H xs := fun H1 e Q q => h H1 e _ fun p H2 _ e2 h2 => q p H2 e2 (sq_of h2)
theorem es_v {xs : List V} {p : Addr} (h : Ev te σ H (.ref p)) (hp : SqL K H p xs) : EvS K te σ H xs := fun H1 e Q q => h H1 e _ fun H2 e2 => q p H2 e2 (ex_l (e.trans e2) hp)
theorem el_few {a : Addr} {T : List Tie} (h : Ev te σ H (.ref a)) (g : GoodAt H a T) (hz : T.length ≤ 400) : EvL (tCall (sp_few CB) [] E (tCons te tNil)) σ H (wordsV (few T)) := fun H1 e Q q =>
  h H1 e _ fun H2 e2 => ⟨_, rfl, Or.inr ⟨a, T, rfl, g.mono (e.trans e2), hz, fun p H3 hp e3 h3 => q p H3 (fresh_back e2 hp) (e2.trans e3) h3⟩⟩
theorem wp_web {ws : List (List Nat)} (h : EvS K te σ H (wordsV ws)) (W : Ws ws) {H1 : Hp} (e : Ex H H1) {Q : VK} (q : ∀ p H2 ys T, H1 p = none → Ex H1 H2 → H2 p = some (.lst ys) → Ties H2 ys T → WebOf ws T → Q (.ref p) H2) : tCall (sp_web K CW) [] E (tCons te tNil) σ H1 Q :=
  h H1 e _ fun p H2 e2 h2 => ⟨p, _, rfl, h2, Or.inl ⟨ws, rfl, W, fun p2 H3 ys T hp2 e3 h3 hT WW => q p2 H3 ys T (fresh_back e2 hp2) (e2.trans e3) h3 hT WW⟩⟩
theorem ev_neWebOf {ws : List (List Nat)} {T : List Tie} {q : Addr} (h : EvS K te σ H (wordsV ws)) (W : Ws ws) (hb : Ev tb σ H (.ref q)) (hq : WebAt K H q T) (lo : Low T) (eq : ∀ U, WebOf ws U → U = T) : Ev (tOp (rNeD K) (tCall (sp_web K CW) [] E (tCons te tNil)) tb) σ H (.bl false) := fun H1 e Q k =>
  wp_web h W e fun p H2 ys U hp e2 h2 hT WW => hb H2 (e.trans e2) _ fun H3 e3 => by
    have := eq U WW
    subst this
    have rv := rv_neWeb (K := K) (H := H3) ⟨ys, ex_l e3 (sq_of h2), hT.mono e3⟩ (hq.mono ((e.trans e2).trans e3)) lo lo
    rw [decide_eq_true rfl] at rv
    exact rv H3 (Ex.refl _) Q fun H4 e4 => k H4 ((e2.trans e3).trans e4)
theorem ev_eqWebOf {ws : List (List Nat)} {T : List Tie} {q : Addr} (h : EvS K te σ H (wordsV ws)) (W : Ws ws) (hb : Ev tb σ H (.ref q)) (hq : WebAt K H q T) (lo : Low T) (eq : ∀ U, WebOf ws U → U = T) : Ev (tOp (rEqD K) (tCall (sp_web K CW) [] E (tCons te tNil)) tb) σ H (.bl true) := fun H1 e Q k =>
  wp_web h W e fun p H2 ys U hp e2 h2 hT WW => hb H2 (e.trans e2) _ fun H3 e3 => by
    have := eq U WW
    subst this
    have rv := rv_eqWeb (K := K) (H := H3) ⟨ys, ex_l e3 (sq_of h2), hT.mono e3⟩ (hq.mono ((e.trans e2).trans e3)) lo lo
    rw [decide_eq_true rfl] at rv
    exact rv H3 (Ex.refl _) Q fun H4 e4 => k H4 ((e2.trans e3).trans e4)
theorem ev_reads {T : List Tie} {a : Addr} {l : List Nat} {b : Bool} (h : Ev te σ H (.ref a)) (g : GoodAt H a T) (hb : Ev tb σ H (.str (S l))) (hl : l.length ≤ 1000) (hw : isW l = true) (hr : b = true ↔ Rds T l) : Ev (tCall (sp_reads CB CW) [] E (tCons te (tCons tb tNil))) σ H (.bl b) := fun H1 e Q q =>
  h H1 e _ fun H2 e2 => hb H2 (e.trans e2) _ fun H3 e3 => ⟨_, _, rfl, Or.inr ⟨a, T, rfl, g.mono ((e.trans e2).trans e3), Or.inr ⟨l, b, rfl, hl, hw, hr, fun H4 e4 => q H4 ((e2.trans e3).trans e4)⟩⟩⟩
theorem WebOf.at {ws : List (List Nat)} {T : List Tie} {p : Addr} {ys : List V} (W : WebOf ws T) (w : Ws ws) (h : H p = some (.lst ys)) (hT : Ties H ys T) : GoodAt H p T := ⟨ys, h, hT, W.good, Nat.le_trans (Nat.le_trans W.len w.sum) (by decide)⟩
end
end Gw

/-! ## G6 -/
namespace Gw
open PySem PySem.Spec PyProof.Rows L2 Evl
/-! ### two walks in one comprehension -/
section
variable {K : PySem.W.Frag} {σ : L2.St} {H : Hp} {te : TE} {wi wi1 : TI} {St : Hp → Prop}
theorem el_lc2 {items : List V} {inner : V → List V} {i1 i2 : Nat} {vs vs1 : List Nat} (f : V → V → V) (h : EvW wi σ H items St) (hst : St H) (hk : Kp St) (hz : (items.flatMap inner).length ≤ 1000000)
    (hw1 : ∀ x, wipe ((wipe σ vs).set i1 (some x)) vs = wipe σ vs) (hw2 : ∀ x y, wipe ((wipe ((wipe σ vs).set i1 (some x)) vs1).set i2 (some y)) vs1 = wipe ((wipe σ vs).set i1 (some x)) vs1)
    (hi : ∀ x ∈ items, ∀ H1, Ex H H1 → EvW wi1 ((wipe σ vs).set i1 (some x)) H1 (inner x) (fun _ => True))
    (he : ∀ x ∈ items, ∀ y ∈ inner x, ∀ H1, Ex H H1 → Ev te ((wipe ((wipe σ vs).set i1 (some x)) vs1).set i2 (some y)) H1 (f x y)) :
    EvL (tLc2 wi (gName i1) tYes wi1 (gName i2) tYes te vs vs1) σ H (items.flatMap fun x => (inner x).map (f x)) := fun H0 e Q q => h H0 e _ fun J H1 e1 wk Dl hD => by
  have sub : ∀ n : Nat, ((items.take n).flatMap fun x => (inner x).map (f x)).length ≤ (items.flatMap inner).length := fun n => by
    have e1 : ∀ l : List V, (l.flatMap fun x => (inner x).map (f x)).length = (l.flatMap inner).length := fun l => by
      induction l with
      | nil => rfl
      | cons a l ih => rw [List.flatMap_cons, List.flatMap_cons, List.length_append, List.length_append, ih, List.length_map]
    rw [e1]
    conv => rhs; rw [← List.take_append_drop n items]
    rw [List.flatMap_append, List.length_append]; omega
  refine ⟨fun i m H' => m = items.length - i ∧ i ≤ items.length ∧ Ex H1 H' ∧ H' Dl = some (.lst ((items.take i).flatMap fun x => (inner x).map (f x))), ⟨items.length, rfl, Nat.zero_le _, Ex.new hD, upd_same⟩, ?_⟩
  rintro i m H' ⟨rfl, hi', ex, hl⟩
  have hs : St H' := hk _ _ ((e.trans e1).trans ex) hst
  by_cases hlt : i < items.length
  · refine .inr ⟨wk.go i H' hs hlt, fun H'' => Ex H1 H'' ∧ H'' Dl = some (.lst ((items.take (i + 1)).flatMap fun x => (inner x).map (f x))), fun H'' ⟨a, b⟩ => ⟨items.length - (i + 1), by omega, rfl, hlt, a, b⟩, ?_⟩
    intro x H'' hy
    obtain ⟨rfl, hx⟩ := wk.yld i H' x H'' hs hlt hy
    have hm : x ∈ items := List.mem_of_getElem? hx
    have tk : items.take (i + 1) = items.take i ++ [x] := by rw [List.take_add_one, hx]; rfl
    have E1 := (e.trans e1).trans ex
    have bd := sub (i + 1)
    rw [tk, List.flatMap_append, List.flatMap_singleton, List.length_append, List.length_map] at bd
    refine ⟨hw1 x, ?_⟩
    show wi1 _ H'' _
    refine hi x hm H'' E1 H'' (Ex.refl _) _ fun J1 H4 e4 wk1 => ?_
    refine ⟨fun j k H5 => k = (inner x).length - j ∧ j ≤ (inner x).length ∧ Ex H1 H5 ∧ H5 Dl = some (.lst (((items.take i).flatMap fun x => (inner x).map (f x)) ++ ((inner x).take j).map (f x))), ⟨(inner x).length, rfl, Nat.zero_le _, ex.trans e4, by rw [List.take_zero, List.map_nil, List.append_nil]; exact e4 _ _ hl⟩, ?_⟩
    rintro j k H5 ⟨rfl, hj, ex5, hl5⟩
    by_cases hlj : j < (inner x).length
    · refine .inr ⟨wk1.go j H5 trivial hlj, fun H6 => Ex H1 H6 ∧ H6 Dl = some (.lst (((items.take i).flatMap fun x => (inner x).map (f x)) ++ ((inner x).take (j + 1)).map (f x))), fun H6 ⟨a, b⟩ => ⟨(inner x).length - (j + 1), by omega, rfl, hlj, a, b⟩, ?_⟩
      intro y H6 hy2
      obtain ⟨rfl, hyj⟩ := wk1.yld j H5 y H6 trivial hlj hy2
      have hmy : y ∈ inner x := List.mem_of_getElem? hyj
      have tk1 : (inner x).take (j + 1) = (inner x).take j ++ [y] := by rw [List.take_add_one, hyj]; rfl
      refine ⟨hw2 x y, ?_⟩
      show te _ H6 _
      refine he x hm y hmy H6 ((e.trans e1).trans ex5) H6 (Ex.refl _) _ fun H7 e7 => ⟨_, e7 _ _ hl5, ?_, Ex.mut (ex5.trans e7) hD, ?_⟩
      · rw [sizeLine_eq, List.length_append, List.length_map, List.length_take]; omega
      · rw [upd_same, tk1, List.map_append, List.append_assoc]; rfl
    · have hjn : j = (inner x).length := by omega
      refine .inl ⟨wk1.stop j H5 trivial (by omega), ex5, ?_⟩
      rw [hl5, hjn, List.take_length, tk, List.flatMap_append, List.flatMap_singleton]
  · have hn : i = items.length := by omega
    refine .inl ⟨wk.stop i H' hs (by omega), q Dl H' (fresh_back e1 hD) (e1.trans ex) ?_⟩
    rw [hl, List.take_of_length_le (by omega)]
theorem ev_tif {t : TT} {ta tb : TE} {b : Bool} {v : V} (h : EvT t σ H b) (h1 : b = true → ∀ H1, Ex H H1 → Ev ta σ H1 v) (h2 : b = false → ∀ H1, Ex H H1 → Ev tb σ H1 v) : Ev (tIf t ta tb) σ H v := fun H1 e Q q =>
  h H1 e _ fun H2 e2 => by
    cases b
    · exact h2 rfl H2 (e.trans e2) H2 (Ex.refl _) Q fun H3 e3 => q H3 (e2.trans e3)
    · exact h1 rfl H2 (e.trans e2) H2 (Ex.refl _) Q fun H3 e3 => q H3 (e2.trans e3)
end
/-! ### many letters made great -/
theorem up_tab : ∀ c, c < 123 → 97 ≤ c → Unicode.upperOf c = [c - 32] := by decide +kernel
theorem upper_many {l : List Nat} (h : ∀ c ∈ l, 97 ≤ c ∧ c ≤ 122) : Txt.upper (S l) = S (l.map (· - 32)) := by
  have key : ∀ l : List Nat, (∀ c ∈ l, 97 ≤ c ∧ c ≤ 122) → (l.map fun c => (Unicode.upperOf c).toArray) = l.map fun c => #[c - 32] := fun l h => List.map_congr_left fun c hc => by rw [up_tab c (by have := h c hc; omega) (h c hc).1]
  have e : ((S l).cps.mapIdx fun _ c => (Unicode.upperOf c).toArray) = ((S l).cps.map fun c => #[c - 32]) := by
    apply Array.ext'
    rw [Array.toList_mapIdx, Array.toList_map, S_cps]
    rw [List.mapIdx_eq_zipIdx_map]
    rw [← key l h]
    conv => rhs; rw [← List.zipIdx_map_fst 0 l]
    rw [List.map_map]; rfl
  show (⟨((S l).cps.mapIdx fun _ c => (Unicode.upperOf c).toArray).flatten⟩ : Str) = _
  rw [e]
  unfold S
  congr 1
  apply Array.ext'
  rw [Array.toList_flatten]
  simp
  clear e key
  induction l with
  | nil => rfl
  | cons a l ih => simp at ih ⊢; exact ih fun c hc => h c (List.mem_cons_of_mem _ hc)
end Gw
namespace Gw
open PySem PySem.Spec PyProof.Rows L2 Evl
/-! ### letters told, sides -/
def OkL (z : List Nat) (T : List Tie) : Prop := (∀ c ∈ z, 97 ≤ c ∧ c ≤ 122) ∧ z.Nodup ∧ ∀ t ∈ T, t.2.1 ∈ z
/-- what are no letters for a web -/
def BadL (H : Hp) (y : V) (T : List Tie) : Prop := (∃ U, Kn H y U ∧ U ≠ "str") ∨ ∃ z : Str, y = .str z ∧ z.cps.size ≤ 1000 ∧ ¬ OkL z.cps.toList T
theorem BadL.mono {H H' : Hp} {y : V} {T : List Tie} (e : Ex H H') (h : BadL H y T) : BadL H' y T := h.imp (fun ⟨U, k, n⟩ => ⟨U, k.mono e, n⟩) id
def sp_checkl (K : PySem.W.Frag) (CW : Addr) : Sp := fun vs H Q E => ∃ y a xs T, vs = [y, .ref a] ∧ H a = some (.lst xs) ∧ Ties H xs T ∧ (∀ t ∈ T, 97 ≤ t.2.1 ∧ t.2.1 ≤ 122) ∧ T.length ≤ 2000 ∧
  ((∃ l, y = .str (S l) ∧ OkL l T ∧ RetV .non H Q) ∨ (BadL H y T ∧ ∀ H', Ex H H' → E (.ref CW) none H'))
def wholeB (T : List Tie) (l : List Nat) : Bool := (List.range (ord T).length).all fun r => (l ++ l.map (· - 32)).all fun c => !(gl T r c).isEmpty
def sp_sides (CB CW : Addr) : Sp := fun vs H Q E => ∃ x y, vs = [x, y] ∧ ((NoWeb H x ∧ ∀ H', Ex H H' → E (.ref CB) none H') ∨
  (∃ a T, x = .ref a ∧ GoodAt H a T ∧ ((BadL H y T ∧ ∀ H', Ex H H' → E (.ref CW) none H') ∨ (∃ l, y = .str (S l) ∧ OkL l T ∧ RetV (if wholeB T l = true then .int ((ord T).length : Nat) else .non) H Q))))
theorem OkL.len {l : List Nat} {T : List Tie} (h : OkL l T) : l.length ≤ 26 := by
  have := nodup_le' (m := (List.range 26).map (97 + ·)) h.2.1 fun c hc => by
    have := h.1 c hc
    exact List.mem_map.mpr ⟨c - 97, List.mem_range.mpr (by omega), by omega⟩
  simpa using this
theorem csetL_len_iff {l : List Nat} : (csetL l).length = l.length ↔ l.Nodup := by
  constructor
  · intro h
    have p : ∀ L M : List Nat, L.Nodup → (M.foldl addC L).length = L.length + M.length → M.Nodup ∧ ∀ x ∈ M, x ∉ L := by
      intro L M
      induction M generalizing L with
      | nil => intro _ _; exact ⟨List.nodup_nil, fun x hx => by cases hx⟩
      | cons c M ih =>
        intro nL hl
        rw [List.foldl_cons] at hl
        have le : ∀ (M L : List Nat), (M.foldl addC L).length ≤ L.length + M.length := fun M => by
          induction M with
          | nil => intro L; exact Nat.le_refl _
          | cons a M ih =>
            intro L
            have h1 := ih (addC L a)
            have h2 : (addC L a).length ≤ L.length + 1 := by unfold addC; split <;> simp
            rw [List.foldl_cons, List.length_cons]; omega
        have h1 := le M (addC L c)
        rw [List.length_cons] at hl
        have hc : c ∉ L := fun z => by
          have : addC L c = L := if_pos z
          rw [this] at h1; rw [this] at hl; omega
        have ea : addC L c = c :: L := if_neg hc
        rw [ea] at hl
        obtain ⟨n1, n2⟩ := ih (c :: L) (List.nodup_cons.mpr ⟨hc, nL⟩) (by rw [hl, List.length_cons]; omega)
        refine ⟨List.nodup_cons.mpr ⟨fun z => n2 c z List.mem_cons_self, n1⟩, fun x hx => ?_⟩
        rcases List.mem_cons.mp hx with rfl | hx
        · exact hc
        · exact fun z => n2 x hx (List.mem_cons_of_mem _ z)
    exact (p [] l List.nodup_nil (by rw [List.length_nil, Nat.zero_add]; exact h)).1
  · intro h
    have e1 := nodup_le' (csetL_nodup l) fun c hc => mem_csetL.mp hc
    have e2 := nodup_le' h fun c hc => mem_csetL.mpr hc
    omega
end Gw
namespace Gw
open PySem PySem.Spec PyProof.Rows L2 Evl
section
variable {K : PySem.W.Frag} {σ : L2.St} {H : Hp} {te tl : TE} {P : Program} {w : World}
theorem ev_lenSet {z : Str} (h : Ev te σ H (.str z)) (hz : z.cps.size ≤ 4000) : Ev (tCB (rLenSS P w) (tCons (tCB (rSetOfT P w) (tCons te tNil)) tNil)) σ H (.int ((csetL z.cps.toList).length : Nat)) := fun H1 e Q q =>
  wp_cb1 (wp_cb1 (h H1 e _ fun H2 e2 => ⟨z, rfl, hz, fun a ha => by
    have fe : (z.cps.toList.map fun c => (⟨#[c]⟩ : Str)).foldl addS [] = (csetL z.cps.toList).map fun c => S [c] := foldS_map z.cps.toList []
    have le := nodup_le' (csetL_nodup z.cps.toList) fun c hc => mem_csetL.mp hc
    have le2 : (csetL z.cps.toList).length ≤ z.cps.size := by rw [← Array.length_toList]; exact le
    refine ⟨a, _, rfl, upd_same, by rw [fe, List.length_map]; omega, ?_⟩
    rw [fe, List.length_map]
    exact q _ (e2.trans (Ex.new ha))⟩))
theorem ev_inZ {c : Nat} {z : Str} {to : TE} (h1 : Ev to σ H (sgn c)) (h2 : Ev te σ H (.str z)) : Ev (tOp (fun x y H Q => ∃ (c : Nat) (z : Str), x = .str ⟨#[c]⟩ ∧ y = .str z ∧ Q (.bl (decide (c ∈ z.cps.toList))) H) to te) σ H (.bl (decide (c ∈ z.cps.toList))) :=
  ev_op h1 h2 fun H1 e Q q => ⟨c, z, rfl, rfl, q H1 (Ex.refl _)⟩
end
end Gw
namespace Gw
open PySem PySem.Spec PyProof.Rows L2 Evl
section
variable {K : PySem.W.Frag} {σ : L2.St} {H : Hp} {td ty tv : TE} {tz : TS} {D : Ends}
theorem s_dputT {d : Addr} {kvs : List (List Key × V)} {k : List Key} {v : V} (hd : H d = some (.dT kvs)) (h1 : Ev tv σ H v) (h2 : Ev td σ H (.ref d)) (h3 : EvU ty σ H (k.map kV)) (hz : kvs.length < 100000) (q : ∀ H1, Ex H H1 → H1 d = some (.dT kvs) → D.nx σ (upd H1 d (.dT (putK kvs k v)))) : sDPut td ty tv D σ H :=
  h1 H (Ex.refl _) _ fun H1 e1 => h2 H1 e1 _ fun H2 e2 => h3 H2 (e1.trans e2) _ fun b H3 _ e3 hb => ⟨d, _, rfl, DPut.t ((e1.trans (e2.trans e3)) _ _ hd) hb (sz_lt hz), q H3 (e1.trans (e2.trans e3)) ((e1.trans (e2.trans e3)) _ _ hd)⟩
theorem q_dputT {d : Addr} {kvs : List (List Key × V)} {k : List Key} {v : V} (hd : H d = some (.dT kvs)) (h1 : Ev tv σ H v) (h2 : Ev td σ H (.ref d)) (h3 : EvU ty σ H (k.map kV)) (hz : kvs.length < 100000) (q : ∀ H1, Ex H H1 → H1 d = some (.dT kvs) → tz D σ (upd H1 d (.dT (putK kvs k v)))) : tSeq (sDPut td ty tv) tz D σ H :=
  s_dputT (D := { D with nx := tz D }) hd h1 h2 h3 hz q
theorem ev_dget1T {d : Addr} {kvs : List (List Key × V)} {k : List Key} {o : Option V} (h1 : Ev td σ H (.ref d)) (h2 : EvU ty σ H (k.map kV)) (hd : Rd H d (.dT kvs)) (hv : valV kvs k = o) : Ev (tDGet1 td ty) σ H (o.getD .non) := fun H1 e Q q =>
  h1 H1 e _ fun H2 e2 => ⟨d, rfl, Or.inr ⟨kvs, ex_rd (e.trans e2) hd⟩, h2 H2 (e.trans e2) _ fun b H3 _ e3 hb => ⟨o, Or.inr ⟨kvs, k, b, ex_rd ((e.trans e2).trans e3) hd, rfl, hb, hv.symm⟩, q H3 (e2.trans e3)⟩⟩
end
def sp_led (K : PySem.W.Frag) : Sp := fun vs H Q _ => ∃ a xs T l, vs = [.ref a, .str (S l)] ∧ H a = some (.lst xs) ∧ Ties H xs T ∧ (∀ t ∈ T, 97 ≤ t.2.1 ∧ t.2.1 ≤ 122) ∧ Folded T ∧ T.Nodup ∧ T.length ≤ 2000 ∧ isW l = true ∧ l.length ≤ 10000 ∧ RetV (oV (ledO T (some 0) l)) H Q
theorem sv_led {K : PySem.W.Frag} {a : Addr} {T : List Tie} {l : List Nat} {H : Hp} (g : GoodAt H a T) (hw : isW l = true) (hl : l.length ≤ 10000) : SpV (sp_led K) [.ref a, .str (S l)] H (oV (ledO T (some 0) l)) := fun H1 e Q q E => by
  obtain ⟨xs, h1, h2, G, hz⟩ := g
  exact ⟨a, xs, T, l, rfl, e _ _ h1, h2.mono e, G.core.small, G.core.fold, G.core.nd, hz, hw, hl, q⟩
end Gw

/-! ## G7 -/
namespace Gw
open PySem PySem.Spec PyProof.Rows L2 Evl
/-! ### ties by name -/
theorem Ties.pick {H : Hp} {xs : List V} {T : List Tie} (p : Tie → Bool) (h : Ties H xs T) : Ties H (xs.filter fun x => p (tieAt H x)) (T.filter p) := by
  induction h with
  | nil => exact .nil
  | cons r t ih =>
    rename_i x u xs T
    obtain ⟨a, rfl, ha⟩ := r
    have e : tieAt H (.ref a) = u := by
      have m := Ties.maps (H := H) (xs := [V.ref a]) (T := [u]) (.cons ⟨a, rfl, ha⟩ .nil)
      exact (List.cons.inj m).1
    rw [List.filter_cons, List.filter_cons, e]
    cases p u
    · exact ih
    · exact .cons ⟨a, rfl, ha⟩ ih
section
variable {K : PySem.W.Frag} {σ : L2.St} {H : Hp} {te : TE} {t : TT} {Q : VK}
theorem wp_tiesN {a : Addr} {xs : List V} {T : List Tie} {tl : TE} {j : Nat} {vs : List Nat} (f : Tie → Tie) (hl : Ev tl σ H (.ref a)) (hs : SqL K H a xs) (hT : Ties H xs T) (hz : T.length ≤ 40000) (hw : ∀ x, wipe ((wipe σ vs).set j (some x)) vs = wipe σ vs)
    (he : ∀ u ∈ T, ∀ b, H b = some (.tup (tieV u)) → ∀ H1, Ex H H1 → EvU te ((wipe σ vs).set j (some (.ref b))) H1 (tieV (f u)))
    (q : ∀ p' H2 zs, H p' = none → Ex H H2 → H2 p' = some (.lst zs) → Ties H2 zs (T.map f) → Q (.ref p') H2) : tLc (iList K tl) (gName j) tYes te vs σ H Q := by
  have xl := hT.length
  refine ew_list hl hs H (Ex.refl _) _ fun J H1 e1 wk Dl hD => ?_
  refine ⟨fun n m H' => m = xs.length - n ∧ n ≤ xs.length ∧ Ex H1 H' ∧ ∃ zs, H' Dl = some (.lst zs) ∧ Ties H' zs ((T.take n).map f), ⟨xs.length, rfl, Nat.zero_le _, Ex.new hD, [], upd_same, .nil⟩, ?_⟩
  rintro n m H' ⟨rfl, hi, ex, zs, hl1, hz1⟩
  have hst := ex_l (e1.trans ex) hs
  by_cases hlt : n < xs.length
  · refine .inr ⟨wk.go n H' hst hlt, fun H'' => Ex H1 H'' ∧ ∃ zs, H'' Dl = some (.lst zs) ∧ Ties H'' zs ((T.take (n + 1)).map f), fun H'' ⟨b, c⟩ => ⟨xs.length - (n + 1), by omega, rfl, hlt, b, c⟩, ?_⟩
    intro x H'' hy
    obtain ⟨rfl, hx⟩ := wk.yld n H' x H'' hst hlt hy
    obtain ⟨u, ta, htn, rfl, hta⟩ := hT.at hx
    have mu := List.mem_of_getElem? htn
    have tk : T.take (n + 1) = T.take n ++ [u] := by rw [List.take_add_one, htn]; rfl
    refine ⟨hw _, yes_go ?_⟩
    refine he u mu ta hta H'' (e1.trans ex) H'' (Ex.refl _) _ fun b H4 hb e4 h4 => ?_
    have hl4 := e4 _ _ hl1
    refine ⟨zs, hl4, sz_lt (by rw [hz1.length, List.length_map, List.length_take]; omega), Ex.mut (ex.trans e4) hD, zs ++ [.ref b], upd_same, ?_⟩
    rw [tk, List.map_append]
    refine Ties.app ((hz1.mono e4).upd hl4) (.cons ⟨b, rfl, ?_⟩ .nil)
    rw [upd_ne (ne_of h4 hl4 fun z => by cases z)]; exact h4
  · have hn : n = xs.length := by omega
    refine .inl ⟨wk.stop n H' hst (by omega), q Dl H' zs (fresh_back e1 hD) (e1.trans ex) hl1 ?_⟩
    rw [hn, List.take_of_length_le (by omega)] at hz1; exact hz1
/-- one tie looked at: a room more in the order, or none -/
theorem s_ordIf {D : Ends} {lo ta : Addr} {A : List Nat} {i r c x0 x2 k0 k2 : Nat} {t : Tie} (hA : H lo = some (.lst (nats A))) (hz : A.length ≤ 90000) (hr : A[i]? = some r)
    (h1 : σ[1]? = some (some (.ref lo))) (h2 : σ[2]? = some (some (.int (i : Nat)))) (h3 : σ[3]? = some (some (sgn c))) (h4 : σ[4]? = some (some (.ref ta))) (ht : H ta = some (.tup (tieV t)))
    (i0 : atI (tieV t) (k0 : Nat) = some (.int (x0 : Nat))) (i1 : atI (tieV t) 1 = some (sgn t.2.1)) (i2 : atI (tieV t) (k2 : Nat) = some (.int (x2 : Nat)))
    (q : ∀ H2, (∀ z o, z ≠ lo → H z = some o → H2 z = some o) → H2 lo = some (.lst (nats (addAll A (if x0 = r ∧ t.2.1 = c then [x2] else [])))) → D.nx σ H2) :
    tIfS (tAnd (tTest (tOp rEq (tOp (rIxT K) (tVar 4) (tC (.int (k0 : Nat)))) (tOp (rIxL K) (tVar 1) (tVar 2)))) (tAnd (tTest (tOp rEq (tOp (rIxT K) (tVar 4) (tC (.int 1))) (tVar 3))) (tTest (tOp (rIn K true) (tOp (rIxT K) (tVar 4) (tC (.int (k2 : Nat)))) (tVar 1)))))
      (tDrop (tBM K "list" rAppend (tVar 1) (tCons (tOp (rIxT K) (tVar 4) (tC (.int (k2 : Nat)))) tNil))) tNext D σ H := by
  refine s_when (b := decide (x0 = r) && (decide (t.2.1 = c) && !decide (x2 ∈ A))) (et_is (et_and (et_test (ev_op (ev_op (ev_var h4) ev_c (rv_ixT (st_of ht) i0)) (ev_op (ev_var h1) (ev_var h2) (rv_ixL (sq_of hA) (atI_nat (nats_at hr)))) (rv_eq rfl))) (fun _ => et_and (et_test (ev_op (ev_op (ev_var h4) ev_c (rv_ixT (st_of ht) i1)) (ev_var h3) (rv_eq rfl))) (fun _ => et_test (ev_op (ev_op (ev_var h4) ev_c (rv_ixT (st_of ht) i2)) (ev_var h1) (rv_niL (sq_of hA) rfl (nats_flat A)))))) ?_) (fun b H1 e1 => ?_) (fun b H1 e1 => ?_)
  · rw [in_nats]
    congr 1
    · by_cases z : x0 = r
      · rw [decide_eq_true z, decide_eq_true (by rw [z])]
      · rw [decide_eq_false z, decide_eq_false fun y => z (by have y2 := V.int.inj y; omega)]
    · congr 1
      by_cases z : t.2.1 = c
      · rw [decide_eq_true z, decide_eq_true (by rw [z])]
      · rw [decide_eq_false z, decide_eq_false fun y => z (by have y2 : (⟨#[t.2.1]⟩ : Str) = ⟨#[c]⟩ := V.str.inj y; simpa using y2)]
  · simp only [Bool.and_eq_true, Bool.not_eq_true'] at b
    have b1 := of_decide_eq_true b.1
    have b2 := of_decide_eq_true b.2.1
    have b3 := of_decide_eq_false b.2.2
    refine s_app (e1 _ _ hA) (ev_var h1) (ev_op (ev_var h4) ev_c (rv_ixT (st_of (e1 _ _ ht)) i2)) (by rw [nats_len]; omega) fun H2 e2 => q _ (fun z o hne hz => by rw [upd_ne hne]; exact (e1.trans e2) _ _ hz) ?_
    rw [upd_same, if_pos ⟨b1, b2⟩, addAll_one]
    unfold add1
    rw [if_neg b3]
    unfold nats
    rw [List.map_append]; rfl
  · refine q H1 (fun z o _ hz => e1 _ _ hz) ?_
    rw [e1 _ _ hA]
    by_cases z : x0 = r ∧ t.2.1 = c
    · rw [if_pos z, addAll_one]
      have : x2 ∈ A := by
        rw [decide_eq_true z.1, decide_eq_true z.2, Bool.true_and, Bool.true_and] at b
        simpa using b
      unfold add1
      rw [if_pos this]
    · rw [if_neg z]; rfl
end
theorem eraseIdx_mapN {α β : Type} (f : α → β) : ∀ (l : List α) (k : Nat), (l.map f).eraseIdx k = (l.eraseIdx k).map f
  | [], _ => rfl
  | a :: l, 0 => rfl
  | a :: l, k + 1 => by
    show f a :: (l.map f).eraseIdx k = f a :: (l.eraseIdx k).map f
    rw [eraseIdx_mapN f l k]
theorem cons_erase_perm : ∀ {l : List Nat} {k : Nat} (h : k < l.length), (l[k] :: l.eraseIdx k).Perm l
  | a :: l, 0, h => List.Perm.refl _
  | a :: l, k + 1, h => by
    have hk : k < l.length := by simpa using h
    have := cons_erase_perm hk
    show (l[k] :: a :: l.eraseIdx k).Perm (a :: l)
    exact (List.Perm.swap _ _ _).trans (this.cons _)
/-! ### an order of the rooms -/
def sp_order10 : Sp := fun vs H Q _ => ∃ (c : Int) (n : Nat), vs = [.int c, .int (n : Nat)] ∧ n ≤ 100 ∧ ∀ p, p.Perm (List.range n) → RetL (nats p) H Q
def sp_numb : Sp := fun vs H Q _ => ∃ a xs T, vs = [.ref a] ∧ H a = some (.lst xs) ∧ Ties H xs T ∧ (∀ t ∈ T, 97 ≤ t.2.1 ∧ t.2.1 ≤ 122) ∧ Folded T ∧ T.Nodup ∧ T.length ≤ 400 ∧ RetRen T H Q
theorem seqIx {k n : Nat} (h : k < n) : seqIndex? (k : Int) n = some k := by
  unfold seqIndex?
  have h1 : ¬ ((k : Int) < 0) := by omega
  simp only [if_neg h1]
  rw [if_pos (by simp; omega)]; rfl
end Gw

/-! ## G8 -/
namespace Gw
open PySem PySem.Spec PyProof.Rows L2 Evl
theorem lettersOf_nodup (c : Int) : (lettersOf c).Nodup := by
  unfold lettersOf
  have mb := manyOf_bd c
  refine nodup_map (fun a ha b hb e => ?_) List.nodup_range
  have ha := List.mem_range.mp ha
  have hb := List.mem_range.mp hb
  have e : 97 + ((c + (a : Int) * stepOf c) % 26).toNat = 97 + ((c + (b : Int) * stepOf c) % 26).toNat := e
  have st : stepOf c = 1 ∨ stepOf c = 3 ∨ stepOf c = 5 ∨ stepOf c = 7 ∨ stepOf c = 9 ∨ stepOf c = 11 ∨ stepOf c = 15 ∨ stepOf c = 25 := by
    unfold stepOf
    have h1 : 0 ≤ c / 26 % 8 := Int.emod_nonneg _ (by decide)
    have h2 : c / 26 % 8 < 8 := Int.emod_lt_of_pos _ (by decide)
    generalize c / 26 % 8 = m at *
    have : m.toNat = 0 ∨ m.toNat = 1 ∨ m.toNat = 2 ∨ m.toNat = 3 ∨ m.toNat = 4 ∨ m.toNat = 5 ∨ m.toNat = 6 ∨ m.toNat = 7 := by omega
    rcases this with e | e | e | e | e | e | e | e <;> rw [e] <;> simp
  have h1 : 0 ≤ (c + (a : Int) * stepOf c) % 26 := Int.emod_nonneg _ (by decide)
  have h2 : 0 ≤ (c + (b : Int) * stepOf c) % 26 := Int.emod_nonneg _ (by decide)
  have h3 : (c + (a : Int) * stepOf c) % 26 = (c + (b : Int) * stepOf c) % 26 := by omega
  have la : a < 8 := by omega
  have lb : b < 8 := by omega
  rcases st with e | e | e | e | e | e | e | e <;> rw [e] at h3 <;> omega
section
variable {K : PySem.W.Frag} {σ : L2.St} {H : Hp} {te ta tb : TE} {Q : VK} {wi : TI} {St : Hp → Prop} {CB CW : Addr} {E : XK}
/-- new ties out of what is walked -/
theorem wp_tiesW {items : List V} {j : Nat} {vs : List Nat} (f : V → Tie) (h : EvW wi σ H items St) (hst : St H) (hk : Kp St) (hz : items.length ≤ 40000) (hw : ∀ x, wipe ((wipe σ vs).set j (some x)) vs = wipe σ vs)
    (he : ∀ x ∈ items, ∀ H1, Ex H H1 → EvU te ((wipe σ vs).set j (some x)) H1 (tieV (f x)))
    (q : ∀ p' H2 zs, H p' = none → Ex H H2 → H2 p' = some (.lst zs) → Ties H2 zs (items.map f) → Q (.ref p') H2) : tLc wi (gName j) tYes te vs σ H Q := by
  refine h H (Ex.refl _) _ fun J H1 e1 wk Dl hD => ?_
  refine ⟨fun n m H' => m = items.length - n ∧ n ≤ items.length ∧ Ex H1 H' ∧ ∃ zs, H' Dl = some (.lst zs) ∧ Ties H' zs ((items.take n).map f), ⟨items.length, rfl, Nat.zero_le _, Ex.new hD, [], upd_same, .nil⟩, ?_⟩
  rintro n m H' ⟨rfl, hi, ex, zs, hl1, hz1⟩
  have hs : St H' := hk _ _ (e1.trans ex) hst
  by_cases hlt : n < items.length
  · refine .inr ⟨wk.go n H' hs hlt, fun H'' => Ex H1 H'' ∧ ∃ zs, H'' Dl = some (.lst zs) ∧ Ties H'' zs ((items.take (n + 1)).map f), fun H'' ⟨b, c⟩ => ⟨items.length - (n + 1), by omega, rfl, hlt, b, c⟩, ?_⟩
    intro x H'' hy
    obtain ⟨rfl, hx⟩ := wk.yld n H' x H'' hs hlt hy
    have mu := List.mem_of_getElem? hx
    have tk : items.take (n + 1) = items.take n ++ [x] := by rw [List.take_add_one, hx]; rfl
    refine ⟨hw _, yes_go ?_⟩
    refine he x mu H'' (e1.trans ex) H'' (Ex.refl _) _ fun b H4 hb e4 h4 => ?_
    have hl4 := e4 _ _ hl1
    refine ⟨zs, hl4, sz_lt (by rw [hz1.length, List.length_map, List.length_take]; omega), Ex.mut (ex.trans e4) hD, zs ++ [.ref b], upd_same, ?_⟩
    rw [tk, List.map_append]
    refine Ties.app ((hz1.mono e4).upd hl4) (.cons ⟨b, rfl, ?_⟩ .nil)
    rw [upd_ne (ne_of h4 hl4 fun z => by cases z)]; exact h4
  · have hn : n = items.length := by omega
    refine .inl ⟨wk.stop n H' hs (by omega), q Dl H' zs (fresh_back e1 hD) (e1.trans ex) hl1 ?_⟩
    rw [hn, List.take_of_length_le (by omega)] at hz1; exact hz1
theorem ew_rng2 {i j : Int} {ta : TA} (h : EvA ta σ H [.int i, .int j]) (hi : -1000000 ≤ i ∧ i ≤ 1000000) (hj : -1000000 ≤ j ∧ j ≤ 1000000) : EvW (iRng2 ta) σ H ((List.range (j - i).toNat).map fun k => V.int (i + (k : Nat))) (fun _ => True) := fun H0 e R q =>
  h H0 e _ fun H1 e1 => ⟨i, j, rfl, ⟨by omega, by omega, by omega, by omega⟩, q _ H1 e1 ⟨fun k H' _ hk => by
    have : k < (j - i).toNat := by simpa only [List.length_map, List.length_range] using hk
    exact this, fun k H' x H'' _ hk hy => ⟨hy.1, by
    have hk' : k < (j - i).toNat := by simpa only [List.length_map, List.length_range] using hk
    rw [hy.2, List.getElem?_map, List.getElem?_range hk']; rfl⟩, fun k H' _ hk => by
    have : (j - i).toNat ≤ k := by simpa only [List.length_map, List.length_range] using hk
    exact this⟩⟩
theorem rv_eqNil {p q : Addr} {xs : List V} (hp : SqL K H p xs) (hq : SqL K H q []) (h : xs.all flat1 = true) : RV (rEqD K) (.ref p) (.ref q) H (.bl xs.isEmpty) := fun H1 e Q k =>
  ⟨.list (xs.map fd), .list [], .lst (ex_l e hp) (dpAll_flat h), .lst (ex_l e hq) .nil, shaped_flat h, rfl, by cases xs <;> exact k H1 (Ex.refl _)⟩
theorem ev_sides {a : Addr} {T : List Tie} {l : List Nat} (h1 : Ev ta σ H (.ref a)) (g : GoodAt H a T) (h2 : Ev tb σ H (.str (S l))) (ok : OkL l T) : Ev (tCall (sp_sides CB CW) [] E (tCons ta (tCons tb tNil))) σ H (if wholeB T l = true then .int ((ord T).length : Nat) else .non) := fun H1 e Q q =>
  h1 H1 e _ fun H2 e2 => h2 H2 (e.trans e2) _ fun H3 e3 => ⟨_, _, rfl, Or.inr ⟨a, T, rfl, g.mono ((e.trans e2).trans e3), Or.inr ⟨l, rfl, ok, fun H4 e4 => q H4 ((e2.trans e3).trans e4)⟩⟩⟩
theorem good_nil : Good [] := by
  have o : ord [] = [0] := rfl
  have r0 : ∀ r ∈ rms [], r = 0 := fun r h => by
    rcases mem_rms.mp h with h | ⟨t, ht, _⟩
    · exact h
    · cases ht
  exact ⟨⟨List.nodup_nil, fun t ht => (by cases ht), fun r c s s' l => (ld_nil l).elim, fun r h => by rw [o, r0 r h]; exact List.mem_singleton.mpr rfl, fun r h h0 => (h0 (r0 r h)).elim⟩, rfl, List.Pairwise.nil⟩
theorem ev_sides0 {l : List Nat} (h1 : EvL ta σ H []) (h2 : Ev tb σ H (.str (S l))) (ok : OkL l []) : Ev (tCall (sp_sides CB CW) [] E (tCons ta (tCons tb tNil))) σ H (if wholeB [] l = true then .int 1 else .non) := fun H1 e Q q =>
  h1 H1 e _ fun p H2 hp e2 hl => h2 H2 (e.trans e2) _ fun H3 e3 => ⟨_, _, rfl, Or.inr ⟨p, [], rfl, ⟨[], e3 _ _ hl, .nil, good_nil, Nat.zero_le _⟩, Or.inr ⟨l, rfl, ok, fun H4 e4 => q H4 ((e2.trans e3).trans e4)⟩⟩⟩
noncomputable def goodB (T : List Tie) : Bool := @decide (Good T) (Classical.propDecidable _)
theorem goodB_iff {T : List Tie} : goodB T = true ↔ Good T := @decide_eq_true_iff _ (Classical.propDecidable _)
theorem sv_isweb {a : Addr} {xs : List V} {T : List Tie} (h : H a = some (.lst xs)) (hT : Ties H xs T) (sm : ∀ t ∈ T, 97 ≤ t.2.1 ∧ t.2.1 ≤ 122) (hz : T.length ≤ 2000) : SpV (sp_isweb K) [.ref a] H (.bl (goodB T)) := fun H1 e Q q E =>
  ⟨_, _, rfl, q, Or.inl ⟨a, xs, T, rfl, e _ _ h, hT.mono e, sm, hz, goodB_iff⟩⟩
theorem ev_isweb1L {xs : List V} {T : List Tie} (h1 : EvL te σ H xs) (hT : Ties H xs T) (G : Good T) (hz : T.length ≤ 2000) : Ev (tCall (sp_isweb K) [] E (tCons te tNil)) σ H (.bl true) := fun H1 e Q q =>
  h1 H1 e _ fun p H2 hp e2 hl => sv_isweb1 (K := K) (T := T) ⟨xs, hl, hT.mono (e.trans e2), G, hz⟩ H2 (Ex.refl _) _ (fun H3 e3 => q H3 (e2.trans e3)) E
end
/-! ### whole, or not -/
theorem wholeB_iff {T : List Tie} {l : List Nat} : wholeB T l = true ↔ ∀ r, r < (ord T).length → ∀ c ∈ l ++ l.map (· - 32), gl T r c ≠ [] := by
  unfold wholeB
  rw [List.all_eq_true]
  constructor
  · intro h r hr c hc
    have := h r (List.mem_range.mpr hr)
    rw [List.all_eq_true] at this
    have := this c hc
    intro z
    rw [z] at this
    cases this
  · intro h r hr
    rw [List.all_eq_true]
    intro c hc
    have := h r (List.mem_range.mp hr) c hc
    cases q : gl T r c with
    | nil => exact (this q).elim
    | cons _ _ => rfl
theorem wholeB_no {T : List Tie} {l : List Nat} {r c : Nat} (hr : r < (ord T).length) (hc : c ∈ l) (h : 97 ≤ c ∧ c ≤ 122) (n : ¬ ∃ s, Ld T r c s) : wholeB T l = false := by
  cases q : wholeB T l with
  | false => rfl
  | true =>
    exfalso
    have := wholeB_iff.mp q r hr c (List.mem_append.mpr (Or.inl hc))
    cases g : gl T r c with
    | nil => exact this g
    | cons s L => exact n ⟨s, (mem_gl (isL_iff.mpr (Or.inl h))).mp (by rw [g]; exact List.mem_cons_self)⟩
theorem ord_pos (T : List Tie) : 0 < (ord T).length := List.length_pos_of_mem (mem_ord_zero T)
theorem Whl.whole {U : List Tie} {ls : List Nat} {m : Nat} (W : Whl U ls m) (sm : ∀ c ∈ ls, 97 ≤ c ∧ c ≤ 122) : wholeB U ls = true := wholeB_iff.mpr fun r hr c hc z => by
  have ho : r ∈ ord U := by
    have N : ord U = List.range (ord U).length := W.good.num
    rw [N]; exact List.mem_range.mpr hr
  have : isL c = true ∧ (if 97 ≤ c then c else c + 32) ∈ ls := by
    rcases List.mem_append.mp hc with hc | hc
    · have := sm c hc
      exact ⟨isL_iff.mpr (Or.inl this), by rw [if_pos this.1]; exact hc⟩
    · obtain ⟨d, hd, rfl⟩ := List.mem_map.mp hc
      have := sm d hd
      exact ⟨isL_iff.mpr (Or.inr (by omega)), by rw [if_neg (by omega), show d - 32 + 32 = d by omega]; exact hd⟩
  obtain ⟨s, l⟩ := W.ld ho this.1 this.2
  have m := (mem_gl this.1).mpr l
  rw [z] at m; cases m
end Gw

/-! ## G9 -/
namespace Gw
open PySem PySem.Spec PyProof.Rows L2 Evl
theorem fws_ws16 {T : List Tie} (C : Core T) (h : T.length ≤ 16) {ts : List Tie} (hs : ∀ t ∈ ts, t ∈ idle T) (hl : ts.length ≤ 17) : Ws (ts.map (fw T)) := by
  refine ⟨fun w hw => ?_, by rw [List.length_map]; omega, ?_⟩
  · obtain ⟨t, ht, rfl⟩ := List.mem_map.mp hw
    exact (fw_wlk C (mem_idle.mp (hs t ht)).1).isW
  · have := sum_bd (l := ts.map (fw T)) (b := 33) fun w hw => by
      obtain ⟨t, ht, rfl⟩ := List.mem_map.mp hw
      have := fw_len C.nd t
      show (fw T t).length ≤ 33
      omega
    rw [List.length_map] at this
    omega
theorem cutX_to {xs : List V} {k : Nat} (h : k ≤ xs.length) : cutV xs none (some (k : Int)) = xs.take k := by
  unfold cutV
  rw [HT.sIx_none, HT.sIx_nat, List.drop_zero, Nat.sub_zero, Nat.min_eq_left h]
theorem cutX_from {xs : List V} {k : Nat} (h : k ≤ xs.length) : cutV xs (some (k : Int)) none = xs.drop k := by
  unfold cutV
  rw [HT.sIx_none, HT.sIx_nat, Nat.min_eq_left h, List.take_of_length_le (by rw [List.length_drop]; exact Nat.le_refl _)]
theorem Ties.take {H : Hp} {xs : List V} {T : List Tie} (h : Ties H xs T) : ∀ k, Ties H (xs.take k) (T.take k) := by
  induction h with
  | nil => intro k; rw [List.take_nil, List.take_nil]; exact .nil
  | cons r t ih =>
    intro k
    cases k with
    | zero => exact .nil
    | succ k => exact .cons r (ih k)
theorem Ties.drop {H : Hp} {xs : List V} {T : List Tie} (h : Ties H xs T) : ∀ k, Ties H (xs.drop k) (T.drop k) := by
  induction h with
  | nil => intro k; rw [List.drop_nil, List.drop_nil]; exact .nil
  | cons r t ih =>
    intro k
    cases k with
    | zero => exact .cons r t
    | succ k => exact ih k
section
variable {K : PySem.W.Frag} {σ : L2.St} {H : Hp} {te ta tb : TE} {xs : List V}
theorem ev_lenL (h : EvL te σ H xs) : Ev (tCB (fun xs H Q => ∃ p ys, xs = [V.ref p] ∧ (SqL K H p ys ∨ SqT K H p ys) ∧ Q (.int ys.length) H) (tCons te tNil)) σ H (.int xs.length) := fun H1 e Q q =>
  wp_cb1 (h H1 e _ fun p H2 _ e2 h2 => ⟨p, xs, rfl, Or.inl (sq_of h2), q H2 e2⟩)
theorem rv_eqDI {i j : Int} : RV (rEqD K) (.int i) (.int j) H (.bl (decide (i = j))) := fun H1 e Q k =>
  ⟨.int i, .int j, .int i, .int j, rfl, rfl, by
    have : PyData.eqv (.int i) (.int j) = decide (i = j) := by
      show (i == j) = _
      by_cases h : i = j
      · subst h; simp
      · simp [h]
    rw [this]; exact k H1 (Ex.refl _)⟩
theorem rv_notBl {a b : Bool} : RV rNotB (.bl a) (.bl b) H (.bl (!decide (a = b))) := fun H1 e Q k => ⟨a, b, rfl, rfl, k H1 (Ex.refl _)⟩
theorem rv_isN {x : V} : RV (fun x y H Q => y = .non ∧ Q (.bl (decide (x = .non))) H) x .non H (.bl (decide (x = .non))) := fun H1 _ Q q => ⟨rfl, q H1 (Ex.refl _)⟩
theorem ev_mulS {l : List Nat} {k : Nat} (h1 : Ev ta σ H (.str (S l))) (h2 : Ev tb σ H (.int (k : Nat))) (hk : k ≤ 1000) (hl : l.length ≤ 10000) : Ev (tOp rMulS ta tb) σ H (.str (S (List.replicate k l).flatten)) :=
  ev_op h1 h2 fun H1 e Q q => ⟨l, k, rfl, rfl, hk, hl, q H1 (Ex.refl _)⟩
end
section
variable {σ : L2.St} {H : Hp} {ta tb : TE} {CB CW : Addr} {E : XK}
theorem ev_sidesN {a : Addr} {T : List Tie} {l : List Nat} (h1 : Ev ta σ H (.ref a)) (g : GoodAt H a T) (h2 : Ev tb σ H (.str (S l))) (ok : OkL l T) (wh : wholeB T l = false) : Ev (tCall (sp_sides CB CW) [] E (tCons ta (tCons tb tNil))) σ H .non := by
  have := ev_sides (CB := CB) (CW := CW) (E := E) h1 g h2 ok
  rw [if_neg (by rw [wh]; decide)] at this
  exact this
theorem ev_sidesY {a : Addr} {T : List Tie} {l : List Nat} {m : Nat} (h1 : Ev ta σ H (.ref a)) (g : GoodAt H a T) (h2 : Ev tb σ H (.str (S l))) (ok : OkL l T) (wh : wholeB T l = true) (hm : (ord T).length = m) : Ev (tCall (sp_sides CB CW) [] E (tCons ta (tCons tb tNil))) σ H (.int (m : Nat)) := by
  have := ev_sides (CB := CB) (CW := CW) (E := E) h1 g h2 ok
  rw [if_pos wh, hm] at this
  exact this
theorem ev_sides0N {l : List Nat} (h1 : EvL ta σ H []) (h2 : Ev tb σ H (.str (S l))) (ok : OkL l []) (wh : wholeB [] l = false) : Ev (tCall (sp_sides CB CW) [] E (tCons ta (tCons tb tNil))) σ H .non := by
  have := ev_sides0 (CB := CB) (CW := CW) (E := E) h1 h2 ok
  rw [if_neg (by rw [wh]; decide)] at this
  exact this
theorem ev_sides0Y {l : List Nat} (h1 : EvL ta σ H []) (h2 : Ev tb σ H (.str (S l))) (ok : OkL l []) (wh : wholeB [] l = true) : Ev (tCall (sp_sides CB CW) [] E (tCons ta (tCons tb tNil))) σ H (.int 1) := by
  have := ev_sides0 (CB := CB) (CW := CW) (E := E) h1 h2 ok
  rw [if_pos wh] at this
  exact this
end
noncomputable def rdsB (T : List Tie) (w : List Nat) : Bool := @decide (Rds T w) (Classical.propDecidable _)
theorem rdsB_iff {T : List Tie} {w : List Nat} : rdsB T w = true ↔ Rds T w := @decide_eq_true_iff _ (Classical.propDecidable _)
theorem join_many (ls : List Nat) : Txt.join (S []) (ls.map fun c => S [c]) = S ls := by
  have := join_ones ls
  exact this
def abc9 : List Nat := [97, 98, 99, 100, 101, 102, 103, 104, 105]
theorem abc9_str : ("abcdefghi" : Str) = S abc9 := rfl
theorem inV_sgn {c : Nat} {ls : List Nat} : inV (sgn c) (ls.map sgn) = decide (c ∈ ls) := by
  by_cases m : c ∈ ls
  · rw [in_sgns m, decide_eq_true m]
  · rw [decide_eq_false m]
    induction ls with
    | nil => rfl
    | cons a l ih =>
      rw [List.mem_cons, not_or] at m
      show (eqV (sgn a) (sgn c) || inV (sgn c) (l.map sgn)) = false
      rw [ih m.2]
      have : eqV (sgn a) (sgn c) = false := by
        show ((⟨#[a]⟩ : Str) == ⟨#[c]⟩) = false
        refine beq_false_of_ne fun e => m.1 ?_
        have := S_inj (show S [a] = S [c] from e)
        simpa using this.symm
      rw [this]; rfl
/-- a letter more -/
theorem more_letter {ls : List Nat} (h : ls.length ≤ 8) : ∃ d r, abc9.filter (fun c => decide (c ∉ ls)) = d :: r ∧ d ∉ ls ∧ 97 ≤ d ∧ d ≤ 122 := by
  cases q : abc9.filter (fun c => decide (c ∉ ls)) with
  | nil =>
    exfalso
    have sub : ∀ c ∈ abc9, c ∈ ls := fun c hc => by
      by_cases m : c ∈ ls
      · exact m
      · have : c ∈ abc9.filter (fun c => decide (c ∉ ls)) := List.mem_filter.mpr ⟨hc, decide_eq_true m⟩
        rw [q] at this; cases this
    have := nodup_le' (l := abc9) (by decide) sub
    have : abc9.length = 9 := rfl
    omega
  | cons d r =>
    have m : d ∈ abc9.filter (fun c => decide (c ∉ ls)) := by rw [q]; exact List.mem_cons_self
    obtain ⟨h1, h2⟩ := List.mem_filter.mp m
    have tab : ∀ c ∈ abc9, 97 ≤ c ∧ c ≤ 122 := by decide
    exact ⟨d, r, rfl, of_decide_eq_true h2, tab d h1⟩
section
variable {U : List Tie} {ls : List Nat} {m : Nat}
theorem Whl.ok (W : Whl U ls m) (sm : ∀ c ∈ ls, 97 ≤ c ∧ c ≤ 122) (nd : ls.Nodup) : OkL ls U := ⟨sm, nd, W.lets⟩
theorem Whl.okMore (W : Whl U ls m) (sm : ∀ c ∈ ls, 97 ≤ c ∧ c ≤ 122) (nd : ls.Nodup) {d : Nat} (hd : d ∉ ls) (h : 97 ≤ d ∧ d ≤ 122) : OkL (ls ++ [d]) U ∧ wholeB U (ls ++ [d]) = false := by
  refine ⟨⟨fun c hc => ?_, ?_, fun t ht => List.mem_append.mpr (Or.inl (W.lets t ht))⟩, wholeB_no (r := 0) (c := d) (ord_pos U) (by simp) h ?_⟩
  · rcases List.mem_append.mp hc with hc | hc
    · exact sm c hc
    · rw [List.mem_singleton] at hc; subst hc; exact h
  · rw [List.nodup_append]
    exact ⟨nd, by simp, fun a ha b hb e => by rw [List.mem_singleton] at hb; subst hb; subst e; exact hd ha⟩
  · rintro ⟨s, ⟨_, _, mm⟩ | ⟨a, b, _⟩⟩
    · exact hd (W.lets _ mm)
    · omega
theorem okOne {d : Nat} (h : 97 ≤ d ∧ d ≤ 122) : OkL [d] [] ∧ wholeB [] [d] = false := by
  refine ⟨⟨fun c hc => ?_, by simp, fun t ht => by cases ht⟩, wholeB_no (r := 0) (c := d) (ord_pos []) (by simp) h ?_⟩
  · rw [List.mem_singleton] at hc; subst hc; exact h
  · rintro ⟨s, l⟩; exact (ld_nil l).elim
theorem okNone : OkL [] [] ∧ wholeB [] [] = true := ⟨⟨fun c hc => (by cases hc), List.nodup_nil, fun t ht => (by cases ht)⟩, rfl⟩
theorem Whl.few_len (W : Whl U ls m) (l1 : 1 ≤ ls.length) : ((few U).length : Int) = 1 + (m : Int) * ((ls.length : Int) - 1) := by
  have h1 := idle_len W.good.core.nd
  have h2 := W.len
  have h3 := W.rooms
  rw [few_length, Int.mul_sub, Int.mul_one, ← Int.natCast_mul]
  omega
end
end Gw

/-! ## Pw -/
namespace Gw
open PySem PySem.Spec PyProof.Rows L2 Evl
def topS (i : Nat) : Stmt := PySem.Challenge.pw_gluewords_k10_whole_sides.main.body.getD i (.Pass ⟨0, 0, 0, 0⟩)
abbrev s__is_letter : Stmt := topS 22
theorem sc__is_letter : FnScope ["sign"] ["sign"] (defScope s__is_letter) := ⟨rfl, rfl, rfl, by decide +kernel, rfl, by decide +kernel, by decide +kernel⟩
abbrev s_is_word : Stmt := topS 17
theorem sc_is_word : FnScope ["thing", "sign"] ["thing"] (defScope s_is_word) := ⟨rfl, rfl, rfl, by decide +kernel, rfl, by decide +kernel, by decide +kernel⟩
abbrev s_check_word : Stmt := topS 19
theorem sc_check_word : FnScope ["thing"] ["thing"] (defScope s_check_word) := ⟨rfl, rfl, rfl, by decide +kernel, rfl, by decide +kernel, by decide +kernel⟩
abbrev s_short : Stmt := topS 20
theorem sc_short : FnScope ["word", "kept", "letter"] ["word"] (defScope s_short) := ⟨rfl, rfl, rfl, by decide +kernel, rfl, by decide +kernel, by decide +kernel⟩
section
variable {P : Program} {w : World} {K : PySem.W.Frag} {mg : Str → Option Value} {base : Heap} {C_GlueError C_BadWord C_BadWeb : Addr}
theorem ok__is_letter (D : Def K mg "_is_letter" s__is_letter ["sign"]) : Cal P w K mg base CX0 "_is_letter" 1 ["sign"] sp__is_letter := by
  refine D.cal sc__is_letter (fun vs H Q E h => ?_) (fun f cdv A outer s H vs Q E hr h => ⟨_, (pss_one (ps_ret (pe_or (pe_chain op_le_str op_le_str pe_str (pv 0) pe_str) (pe_one (pe_chain op_le_str op_le_str pe_str (pv 0) pe_str))))), ?_⟩)
  · obtain ⟨c, rfl, _⟩ := h; rfl
  · obtain ⟨c, rfl, q⟩ := h
    refine s_ret (v := .bl (isL c)) (ev_is (ev_orV (ev_chain ev_c (ev_var rfl) rv_leS ev_c rv_leS) (fun _ => ev_chain ev_c (ev_var rfl) rv_leS ev_c rv_leS)) ?_) (fun H1 e => q H1 e)
    rw [lt_lit (k := 97) (by decide +kernel), lt_lit2 (k := 122) (by decide +kernel), lt_lit (k := 65) (by decide +kernel), lt_lit2 (k := 90) (by decide +kernel)]
    rfl
theorem ok_is_word (D : Def K mg "is_word" s_is_word ["thing"]) (B : Blt mg) (C__is_letter : Cal P w K mg base CX0 "_is_letter" 1 ["sign"] sp__is_letter) : Cal P w K mg base CX0 "is_word" 2 ["thing"] sp_is_word := by
  refine D.cal sc_is_word (fun vs H Q E h => ?_) (fun f cdv A outer s H vs Q E hr h => ⟨_, (pss_one (ps_ret (pe_and (pe_cmpR op_eqTy (pe_callTy call_type6 (by rfl) B.z_type (by decide +kernel) (pa_cons (pv 0) pa_nil)) (pe_bltn (v := .ty "str") (by rfl) B.z_str (by decide +kernel) rfl) (nomark _)) (pe_one (pe_callB (cr_all rfl) (by rfl) B.z_all (by decide +kernel) (pa_cons (pe_lc (own := [("sign", 1)]) (g := (gName 1)) rfl sc_is_word.nd (pi_str (pv 0)) (blkOk_by (own := [("sign", 1)]) (N := ["thing", "sign"]) (sc := defScope s_is_word) (by decide +kernel)) (fun _ _ _ _ _ => (pg_name (i := 1) sc_is_word.nd rfl (Or.inl rfl))) (fun _ _ _ _ _ => pts_nil) (fun _ _ _ _ _ => (pe_callC C__is_letter (hr.mono (by decide)) rfl pass0 (pa_cons (pv 1) pa_nil)))) pa_nil)))))), ?_⟩)
  · rcases h with ⟨l, rfl, _⟩ | ⟨x, rfl, _⟩ <;> rfl
  · rcases h with ⟨l, rfl, hz, q⟩ | ⟨x, rfl, ⟨T, t6, hT, tf⟩, q⟩
    · refine s_ret (v := .bl (isW l)) (ev_is (ev_andV (ev_op (ev_cb (ea_cons (ev_var rfl) ea_nil) (rc_type (.base (.str _)))) ev_c (rv_eqTy (fun _ => rfl) (fun _ => rfl)))
        (fun _ => ev_allN (bs := l.map isL) (el_lcA (fun x => match x with | .str z => .bl (isL (z.cps.getD 0 0)) | _ => .non) (ew_str (ev_var rfl)) trivial kp_true ?_ (fun x => rfl) ?_) ?_)) ?_) (fun H1 e => q H1 e)
      · rw [List.length_map, S_cps]; omega
      · intro x hx H1 e1
        rw [S_cps] at hx
        obtain ⟨c, hc, rfl⟩ := List.mem_map.mp hx
        exact ev_call (ea_cons (ev_var rfl) ea_nil) sv_is_letter
      · rw [S_cps, List.map_map, List.map_map]; rfl
      · rw [all_map_id]; rfl
    · exact s_ret (ev_is (ev_andV (ev_op (ev_cb (ea_cons (ev_var rfl) ea_nil) (rc_type t6)) ev_c (rv_eqTy tf (fun _ => rfl))) (b := true) (fun z => absurd (of_decide_eq_true z) hT)) (by rw [decide_eq_false hT]; rfl)) (fun H1 e => q H1 e)
theorem ok_check (D : Def K mg "check_word" s_check_word ["thing"]) (T : Exn K mg C_GlueError C_BadWord C_BadWeb) (C_is_word : Cal P w K mg base CX0 "is_word" 2 ["thing"] sp_is_word) : Cal P w K mg base (L2.CX P w) "check_word" 5 ["thing"] (sp_check C_BadWord) := by
  refine D.calX sc_check_word (fun vs H Q E h => ?_) (fun f cdv A outer s H vs Q E hr h => ⟨_, (pss_one (ps_if (pt_not (pt_val (pe_callC C_is_word (hr.mono (by decide)) rfl pass0 (pa_cons (pv 0) pa_nil))))
      (pss_one (ps_raise rfl (takes_of rfl rfl rfl rfl) (pmk_own PySem.F.excBase_ValueError T.x_BadWord T.g_BadWord T.k_BadWord (raises_own T.b_BadWord T.t_BadWord) rfl)))
      pss_nil)), ?_⟩)
  · obtain ⟨x, rfl, _⟩ := h; rfl
  · obtain ⟨x, rfl, ⟨l, rfl, hz, hw, q⟩ | ⟨hn, hE⟩⟩ := h
    · exact s_if (et_not (et_B (ev_call (ea_cons (ev_var rfl) ea_nil) (sv_is_word hz)))) (fun z => by rw [hw] at z; cases z) (fun _ H1 e => q H1 e)
    · exact s_if (et_not (et_B (ev_call (ea_cons (ev_var rfl) ea_nil) (sv_is_word0 hn)))) (fun _ H1 e => hE H1 e) (fun z => by cases z)
theorem ok_short (D : Def K mg "short" s_short ["word"]) (C_check_word : Cal P w K mg base (L2.CX P w) "check_word" 5 ["thing"] (sp_check C_BadWord)) : Cal P w K mg base (L2.CX P w) "short" 6 ["word"] (sp_short C_BadWord) := by
  refine D.calX sc_short (fun vs H Q E h => ?_) (fun f cdv A outer s H vs Q E hr h => ⟨_, (pss_cons (ps_expr (pe_callC C_check_word (hr.mono (by decide)) rfl (passes_call (takes_of rfl rfl rfl rfl) (fun _ _ _ _ h => h)) (pa_cons (pv 0) pa_nil)))
      (pss_cons (ps_set (i := 1) sc_short.nd rfl (Or.inl rfl) (pe_lst pa_nil))
      (pss_cons (ps_for (passes_of rfl) rfl (pi_str (pv 0)) (pg_name (i := 2) sc_short.nd rfl (Or.inl rfl))
      (pss_one (ps_if (PW.pt (pw_and (pt_truth (pv 1) (by intro _; rfl)) (pw_and1 (pt_cmpR op_eq (pe_ix ix_list (pv 1) (pe_un un_neg pe_int) (fun _ _ => rfl)) (pe_m0 PySem.F.slot_str_swapcase PySem.F.type_str_swapcase mt_swapcase (pv 2)) (nomark _)))))
      (pss_one (ps_expr (pe_bm0 PySem.F.plainAttrs_list PySem.F.slot_list_pop PySem.F.type_list_pop mt_pop (pv 1))))
      (pss_one (ps_expr (pe_bm PySem.F.plainAttrs_list PySem.F.slot_list_append PySem.F.type_list_append mt_append (pv 1) (pa_cons (pv 2) pa_nil)))))))
      (pss_one (ps_ret (pe_join pe_str (pv 1))))))), ?_⟩)
  · obtain ⟨x, rfl, _⟩ := h; rfl
  · obtain ⟨x, rfl, ⟨l, rfl, hz, hw, q⟩ | ⟨hn, hE⟩⟩ := h
    · refine q_check (ev_var rfl) hz hw fun H1 e1 => ?_
      refine q_asgL (el_lst ea_nil (Nat.zero_le _)) fun p H2 hp e2 h2 => ?_
      refine q_for (ew_str (ev_var rfl)) (fun i σ' H' => ∃ v, σ' = [some (.str (S l)), some (.ref p), v] ∧ Ex H1 H' ∧ H' p = some (.lst ((stk [] (l.take i)).reverse.map sgn))) (fun H3 e3 => ⟨none, rfl, e2.trans e3, e3 _ _ h2⟩) (fun _ _ _ _ _ => trivial) ?_ ?_
      · rintro i x σ' H' hx ⟨v, rfl, e3, h3⟩
        rw [S_cps] at hx
        obtain ⟨c, hc, rfl⟩ : ∃ c, l[i]? = some c ∧ x = sgn c := by
          rw [List.getElem?_map] at hx
          cases hc : l[i]? with
          | none => rw [hc] at hx; cases hx
          | some c => rw [hc] at hx; exact ⟨c, rfl, (Option.some.inj hx).symm⟩
        have hL : isL c = true := List.all_eq_true.mp hw c (List.mem_of_getElem? hc)
        have st := rev_take hc
        have sl : (stk [] (l.take i)).length ≤ 1000 := by
          have w2 : isW (l.take i) = true := List.all_eq_true.mpr fun x hx => List.all_eq_true.mp hw x (List.mem_of_mem_take hx)
          have := short_len w2
          unfold short at this
          rw [List.length_reverse, List.length_take] at this
          omega
        generalize stk [] (l.take i) = s at st h3 sl
        show tIfS _ _ _ _ [some (.str (S l)), some (.ref p), some (sgn c)] H'
        cases s with
        | nil =>
          refine s_if (b := false) (et_is (et_and (et_truL (ev_var rfl) (sq_of h3)) (b := true) (fun z => by cases z)) rfl) (fun z => by cases z) fun _ H4 e4 => ?_
          refine s_app (e4 _ _ h3) (ev_var rfl) (ev_var rfl) (by simp) fun H5 e5 => ⟨_, rfl, Ex.mut ((e3.trans e4).trans e5) hp, ?_⟩
          rw [upd_same, st]; rfl
        | cons t r =>
          have hr : (List.map sgn (t :: r).reverse) = r.reverse.map sgn ++ [sgn t] := by rw [List.reverse_cons, List.map_append]; rfl
          rw [hr] at h3
          refine s_if (b := decide (t = bk c)) (et_is (et_and (et_truL (ev_var rfl) (sq_of h3)) (fun _ => et_test (ev_op (ev_op (ev_var rfl) (ev_un ev_c ru_neg) (rv_ixL (sq_of h3) (atI_last _ _))) (ev_mS (C := fun a => a.length ≤ 5592405) (g := fun a => .str (Txt.swapcase a)) (ev_var rfl) (by show (S [c]).length ≤ _; rw [S_len]; simp)) (rv_eq rfl)))) ?_) (fun b H4 e4 => ?_) (fun b H4 e4 => ?_)
          · have e0 : (!(r.reverse.map sgn ++ [sgn t]).isEmpty) = true := by simp
            rw [e0, Bool.true_and]
            show decide (V.str (S [t]) = V.str (Txt.swapcase (S [c]))) = _
            rw [swap_one hL]
            by_cases e : t = bk c
            · rw [e]; simp
            · rw [decide_eq_false e, decide_eq_false fun z => e (by have := S_inj (V.str.inj z); simpa using this)]
          · have e : t = bk c := of_decide_eq_true b
            refine s_pop (e4 _ _ h3) (ev_var rfl) (y := sgn t) (by simp) fun H5 e5 => ⟨_, rfl, Ex.mut ((e3.trans e4).trans e5) hp, ?_⟩
            rw [upd_same, st]
            have : push (t :: r) c = r := if_pos e
            rw [this]; simp
          · have e : ¬ t = bk c := of_decide_eq_false b
            refine s_app (e4 _ _ h3) (ev_var rfl) (ev_var rfl) (by simp at sl ⊢; omega) fun H5 e5 => ⟨_, rfl, Ex.mut ((e3.trans e4).trans e5) hp, ?_⟩
            rw [upd_same, st]
            have : push (t :: r) c = c :: t :: r := if_neg e
            rw [this]; simp
      · rintro σ' H' ⟨v, rfl, e3, h3⟩
        rw [List.length_map, S_cps, List.take_length] at h3
        have : (stk [] l).reverse = short l := rfl
        rw [this, sgn_map] at h3
        refine s_ret (v := .str (S (short l))) (ev_is (ev_join (a := S []) ev_c (ev_var rfl) (sq_of h3) ?_) ?_) fun H4 e4 => q H4 ((e1.trans e3).trans e4)
        · rw [ones_size]; have := short_len hw; omega
        · rw [join_ones]
    · exact ⟨_, rfl, _, rfl, Or.inr ⟨hn, hE⟩⟩
end
end Gw

/-! ## Pf -/
namespace Gw
open PySem PySem.Spec PyProof.Rows L2 Evl
abbrev s_tie_of : Stmt := topS 6
theorem sc_tie_of : FnScope ["here", "letter", "there"] ["here", "letter", "there"] (defScope s_tie_of) := ⟨rfl, rfl, rfl, by decide +kernel, rfl, by decide +kernel, by decide +kernel⟩
abbrev s_both_ways : Stmt := topS 5
theorem sc_both_ways : FnScope ["tie", "first", "letter", "second"] ["tie"] (defScope s_both_ways) := ⟨rfl, rfl, rfl, by decide +kernel, rfl, by decide +kernel, by decide +kernel⟩
abbrev s__lowest : Stmt := topS 14
theorem sc__lowest : FnScope ["joined", "room"] ["joined", "room"] (defScope s__lowest) := ⟨rfl, rfl, rfl, by decide +kernel, rfl, by decide +kernel, by decide +kernel⟩
abbrev s_rings : Stmt := topS 12
theorem sc_rings : FnScope ["words", "ties", "rooms", "word", "here", "letter"] ["words"] (defScope s_rings) := ⟨rfl, rfl, rfl, by decide +kernel, rfl, by decide +kernel, by decide +kernel⟩
section
variable {P : Program} {w : World} {K : PySem.W.Frag} {mg : Str → Option Value} {base : Heap}
theorem ok_tie_of (D : Def K mg "tie_of" s_tie_of ["here", "letter", "there"]) : Cal P w K mg base CX0 "tie_of" 1 ["here", "letter", "there"] sp_tie := by
  refine D.cal sc_tie_of (fun vs H Q E h => ?_) (fun f cdv A outer s H vs Q E hr h => ⟨_, (pss_cons (ps_if (pt_val (pe_m0 PySem.F.slot_str_islower PySem.F.type_str_islower mt_islower (pv 1)))
      (pss_one (ps_ret (pe_tup (pa_cons (pv 0) (pa_cons (pv 1) (pa_cons (pv 2) pa_nil))))))
      pss_nil)
      (pss_one (ps_ret (pe_tup (pa_cons (pv 2) (pa_cons (pe_lower (pv 1)) (pa_cons (pv 0) pa_nil))))))), ?_⟩)
  · obtain ⟨h, c, t, rfl, _⟩ := h; rfl
  · obtain ⟨h, c, t, rfl, hc, q⟩ := h
    refine q_when (b := decide (97 ≤ c)) (et_is (et_B (ev_mS (C := fun _ => True) (g := fun a => .bl (Txt.islower a)) (ev_var rfl) trivial)) (islower_one hc)) (fun b H1 e1 => ?_) (fun b H1 e1 => ?_)
    · have h97 := of_decide_eq_true b
      refine s_retU (xs := tieV (mkTie h c t)) ?_ fun p H2 hp e2 h2 => q p H2 (fresh_back e1 hp) (e1.trans e2) h2
      unfold mkTie
      rw [if_pos h97]
      exact eu_tup (ea_cons (ev_var rfl) (ea_cons (ev_var rfl) (ea_cons (ev_var rfl) ea_nil))) (by show 3 ≤ 100000; decide)
    · have h97 := of_decide_eq_false b
      refine s_retU (xs := tieV (mkTie h c t)) ?_ fun p H2 hp e2 h2 => q p H2 (fresh_back e1 hp) (e1.trans e2) h2
      unfold mkTie
      rw [if_neg h97]
      refine eu_tup (ea_cons (ev_var rfl) (ea_cons (ev_is (ev_mS (C := fun a => a.length ≤ 5592405) (g := fun a => .str (Txt.lower a)) (ev_var rfl) (by show (S [c]).length ≤ _; rw [S_len]; simp)) ?_) (ea_cons (ev_var rfl) ea_nil))) (by show 3 ≤ 100000; decide)
      show V.str (Txt.lower (S [c])) = _
      rw [lower_one hc, if_neg h97]; rfl
theorem ok_both (D : Def K mg "both_ways" s_both_ways ["tie"]) : Cal P w K mg base CX0 "both_ways" 1 ["tie"] sp_both := by
  refine D.cal sc_both_ways (fun vs H Q E h => ?_) (fun f cdv A outer s H vs Q E hr h => ⟨_, (pss_cons (ps_asg (pv 0) (pg_tup (n := 3) rfl (pgs_cons (pg_name (i := 1) sc_both_ways.nd rfl (Or.inl rfl)) (pgs_cons (pg_name (i := 2) sc_both_ways.nd rfl (Or.inl rfl)) (pgs_cons (pg_name (i := 3) sc_both_ways.nd rfl (Or.inl rfl)) pgs_nil)))))
      (pss_one (ps_ret (pe_lst (pa_cons (pe_tup (pa_cons (pv 1) (pa_cons (pv 2) (pa_cons (pv 3) pa_nil)))) (pa_cons (pe_tup (pa_cons (pv 3) (pa_cons (pe_upper (pv 2)) (pa_cons (pv 1) pa_nil)))) pa_nil)))))), ?_⟩)
  · obtain ⟨a, t, rfl, _⟩ := h; rfl
  · obtain ⟨a, t, rfl, ha, sm, q⟩ := h
    refine q_asgG (ev_var rfl) fun H1 e1 => ?_
    refine g3 rfl (st_of (e1 _ _ ha)) ?_
    show tRet _ _ [some (.ref a), some (.int (t.1 : Nat)), some (sgn t.2.1), some (.int (t.2.2 : Nat))] H1
    have up : V.str (Txt.upper (S [t.2.1])) = sgn (t.2.1 - 32) := by rw [upper_one (isL_iff.mpr (Or.inl sm)), if_pos sm.1]; rfl
    have e := (ep_consU (P := fun vs H => ∃ p r, vs = .ref p :: r ∧ H p = some (.tup (tieV (wayBack t))) ∧ r = []) (σ := [some (.ref a), some (.int (t.1 : Nat)), some (sgn t.2.1), some (.int (t.2.2 : Nat))]) (H := H1) (xs := tieV t) (eu_tup (ea_cons (ev_var (i := 1) rfl) (ea_cons (ev_var (i := 2) rfl) (ea_cons (ev_var (i := 3) rfl) ea_nil))) (by show 3 ≤ 100000; decide))
      (ep_consU (eu_tup (ea_cons (ev_var (i := 3) rfl) (ea_cons (ev_is (ev_mS (C := fun a => a.length ≤ 5592405) (g := fun a => .str (Txt.upper a)) (ev_var (i := 2) rfl) (by show (S [_]).length ≤ _; rw [S_len]; simp)) up) (ea_cons (ev_var (i := 1) rfl) ea_nil))) (by show 3 ≤ 100000; decide)) ep_nil))
    refine s_retP e (kp_consU (kp_consU kp_nil)) ?_ fun p vs H2 hp e2 h2 hP => ?_
    · rintro vs H2 ⟨_, _, rfl, _, _, _, rfl, _, rfl⟩
      show 2 ≤ 100000; decide
    · obtain ⟨p1, _, rfl, h1, p2, _, rfl, h3, rfl⟩ := hP
      exact q p H2 [.ref p1, .ref p2] (fresh_back e1 hp) (e1.trans e2) h2 (.cons ⟨p1, rfl, h1⟩ (.cons ⟨p2, rfl, h3⟩ .nil))
theorem ok_lowest (D : Def K mg "_lowest" s__lowest ["joined", "room"]) : Cal P w K mg base CX0 "_lowest" 1 ["joined", "room"] sp_lowest := by
  refine D.cal sc__lowest (fun vs H Q E h => ?_) (fun f cdv A outer s H vs Q E hr h => ⟨_, (pss_cons (ps_while PassesOwn.never (pt_cmp (pc_din (hu_of hr) (pv 1) (pv 0)))
      (pss_one (ps_set (i := 1) sc__lowest.nd rfl (Or.inl rfl) (pe_dget (hu_of hr) (pv 0) (pv 1) (fun _ _ => rfl)))))
      (pss_one (ps_ret (pv 1)))), ?_⟩)
  · obtain ⟨d, j, r, rfl, _⟩ := h; rfl
  · obtain ⟨d, j, r, rfl, hj, D', q⟩ := h
    refine q_while (fun r' σ' H' => σ' = [some (.ref d), some (.int (r' : Nat))] ∧ Ex H H' ∧ rep j r' = rep j r) r ⟨rfl, Ex.refl _, rfl⟩ ?_
    rintro r' σ' H' ⟨rfl, e1, er⟩
    obtain ⟨kvs, k1, k2⟩ := hj.mono e1
    refine ⟨(j r').isSome, et_is (et_B (ev_dinK (k := .inl (r' : Nat)) (ev_var rfl) (ev_var rfl) k1)) (by rw [k2]; cases j r' <;> rfl), fun b H2 e2 => ?_, fun b H2 e2 => ?_⟩
    · cases hl : j r' with
      | none => rw [hl] at b; cases b
      | some l =>
        refine ⟨fun σ2 H3 => σ2 = [some (.ref d), some (.int (l : Nat))] ∧ Ex H H3, fun σ2 H3 ⟨h1, h2⟩ => ⟨l, D' _ _ hl, h1, h2, by rw [← er, rep_some D' hl]⟩, ?_⟩
        refine s_asg (ev_dgetK (k := .inl (r' : Nat)) (v := .int (l : Nat)) (ev_var rfl) (ev_var rfl) (ex_rd e2 k1) (by rw [k2, hl]; rfl)) fun H3 e3 => ⟨rfl, (e1.trans e2).trans e3⟩
    · cases hl : j r' with
      | some l => rw [hl] at b; cases b
      | none =>
        rw [rep_none hl] at er
        exact s_ret (ev_var rfl) fun H3 e3 => by rw [er]; exact q H3 ((e1.trans e2).trans e3)
theorem ok_rings (D : Def K mg "rings" s_rings ["words"]) (C_tie_of : Cal P w K mg base CX0 "tie_of" 1 ["here", "letter", "there"] sp_tie) : Cal P w K mg base CX0 "rings" 2 ["words"] (sp_rings K) := by
  refine D.cal sc_rings (fun vs H Q E h => ?_) (fun f cdv A outer s H vs Q E hr h => ⟨_, (pss_cons (ps_set (i := 1) sc_rings.nd rfl (Or.inl rfl) (pe_lst pa_nil))
      (pss_cons (ps_set (i := 2) sc_rings.nd rfl (Or.inl rfl) pe_int)
      (pss_cons (ps_for PassesOwn.never rfl (pi_list (pv 0)) (pg_name (i := 3) sc_rings.nd rfl (Or.inl rfl))
      (pss_cons (ps_set (i := 4) sc_rings.nd rfl (Or.inl rfl) pe_int)
      (pss_cons (ps_for PassesOwn.never rfl (pi_str (pe_slice sl_str (pv 3) po_none (po_some (pe_un un_neg pe_int)))) (pg_name (i := 5) sc_rings.nd rfl (Or.inl rfl))
      (pss_cons (ps_expr (pe_bm PySem.F.plainAttrs_list PySem.F.slot_list_append PySem.F.type_list_append mt_append (pv 1) (pa_cons (pe_callC C_tie_of (hr.mono (by decide)) rfl pass0 (pa_cons (pv 4) (pa_cons (pv 5) (pa_cons (pv 2) pa_nil)))) pa_nil)))
      (pss_cons (ps_set (i := 4) sc_rings.nd rfl (Or.inl rfl) (pv 2))
      (pss_one (ps_aug (i := 2) sc_rings.nd rfl (Or.inl rfl) pe_int ip_add)))))
      (pss_one (ps_if (pt_truth (pv 3) (by intro _; rfl))
      (pss_one (ps_expr (pe_bm PySem.F.plainAttrs_list PySem.F.slot_list_append PySem.F.type_list_append mt_append (pv 1) (pa_cons (pe_callC C_tie_of (hr.mono (by decide)) rfl pass0 (pa_cons (pv 4) (pa_cons (pe_ix ix_str (pv 3) (pe_un un_neg pe_int) (fun _ _ => rfl)) (pa_cons pe_int pa_nil)))) pa_nil))))
      pss_nil)))))
      (pss_one (ps_ret (pv 1)))))), ?_⟩)
  · obtain ⟨a, ws, rfl, _⟩ := h; rfl
  · obtain ⟨a, ws, rfl, hs, ⟨_, hl, hw⟩, q⟩ := h
    refine q_asgL (xs := []) (el_lst ea_nil (Nat.zero_le _)) fun p H1 hp e1 h1 => ?_
    refine q_asg (v := .int ((1 : Nat) : Int)) ev_c fun H2 e2 => ?_
    refine q_for (ew_list (ev_var rfl) (ex_l (e1.trans e2) hs)) (fun i σ' H' => ∃ R n ys x y z, σ' = [some (.ref a), some (.ref p), some (.int (n : Nat)), x, y, z] ∧ Ex H H' ∧ H' p = some (.lst ys) ∧ Ties H' ys R ∧ Rg (ws.take i) R n ∧ R.length ≤ 1000 * i) (fun H3 e3 => ⟨[], 1, [], none, none, none, rfl, (e1.trans e2).trans e3, (e2.trans e3) _ _ h1, .nil, .nil, Nat.le_refl _⟩) (fun i σ' H' _ ⟨_, _, _, _, _, _, _, e, _⟩ => ex_l e hs) ?_ ?_
    · rintro i x σ' H' hx ⟨R, n, ys, x0, y0, z0, rfl, e3, h3, hT, rg, rl⟩
      obtain ⟨w, hwi, rfl⟩ : ∃ w, ws[i]? = some w ∧ x = .str (S w) := by
        unfold wdsV at hx
        rw [List.getElem?_map] at hx
        cases hc : ws[i]? with
        | none => rw [hc] at hx; cases hx
        | some c => rw [hc] at hx; exact ⟨c, rfl, (Option.some.inj hx).symm⟩
      have tk : ws.take (i + 1) = ws.take i ++ [w] := by rw [List.take_add_one, hwi]; rfl
      have iw : i < ws.length := (List.getElem?_eq_some_iff.mp hwi).1
      obtain ⟨wl, ww⟩ := hw w (List.mem_of_getElem? hwi)
      have yl : ys.length = R.length := hT.length
      show tSeq _ _ _ [some (.ref a), some (.ref p), some (.int (n : Nat)), some (.str (S w)), y0, z0] H'
      refine q_asg (v := .int ((0 : Nat) : Int)) ev_c fun H4 e4 => ?_
      have dl : (w.dropLast).length = w.length - 1 := List.length_dropLast
      refine q_for (items := (w.dropLast).map sgn) (St := fun _ => True) ?_ (fun j σ2 H5 => ∃ zs v, σ2 = [some (.ref a), some (.ref p), some (.int ((n + j : Nat) : Int)), some (.str (S w)), some (.int (rmw n w j : Nat)), v] ∧ Ex H H5 ∧ H5 p = some (.lst zs) ∧ Ties H5 zs (R ++ (List.range j).map (ringTie n w))) (fun H5 e5 => ⟨ys, z0, by rw [rmw_0]; rfl, (e3.trans e4).trans e5, (e4.trans e5) _ _ h3, by rw [List.range_zero, List.map_nil, List.append_nil]; exact hT.mono (e4.trans e5)⟩) (fun _ _ _ _ _ => trivial) ?_ ?_
      · have := ew_str (σ := [some (.ref a), some (.ref p), some (.int (n : Nat)), some (.str (S w)), some (.int ((0 : Nat) : Int)), z0]) (H := H4) (ev_is (ev_slS (ev_var (i := 3) rfl) eo_none (eo_some (ev_un ev_c ru_neg)) (S_sz (by omega))) (congrArg V.str (cut_butlast w)))
        rw [S_cps] at this
        exact this
      · rintro j x σ2 H5 hx2 ⟨zs, v, rfl, e5, h5, hT5⟩
        obtain ⟨c, hc, rfl⟩ : ∃ c, (w.dropLast)[j]? = some c ∧ x = sgn c := by
          rw [List.getElem?_map] at hx2
          cases hc : (w.dropLast)[j]? with
          | none => rw [hc] at hx2; cases hx2
          | some c => rw [hc] at hx2; exact ⟨c, rfl, (Option.some.inj hx2).symm⟩
        have jl : j < w.length - 1 := by rw [← dl]; exact (List.getElem?_eq_some_iff.mp hc).1
        have cw : w.getD j 0 = c := by
          rw [List.getElem?_dropLast, if_pos jl] at hc
          rw [List.getD_eq_getElem?_getD, hc]; rfl
        have cL : isL c = true := by rw [← cw]; exact getD_L ww (by omega)
        have rj : rmw n w (j + 1) = n + j := by unfold rmw; rw [if_neg (by omega)]; omega
        have zl : zs.length = R.length + j := by rw [hT5.length, List.length_append, List.length_map, List.length_range]
        show tSeq _ _ _ [some (.ref a), some (.ref p), some (.int ((n + j : Nat) : Int)), some (.str (S w)), some (.int (rmw n w j : Nat)), some (sgn c)] H5
        refine q_appU h5 (ev_var rfl) (eu_call (ea_cons (ev_var rfl) (ea_cons (ev_var rfl) (ea_cons (ev_var rfl) ea_nil))) (su_tie cL)) (by omega) fun pu H6 hpu e6 h6 => ?_
        have npu : H5 p = some (.lst zs) := h5
        have E7 : Ex H (upd H6 p (.lst (zs ++ [.ref pu]))) := Ex.mut (e5.trans e6) hp
        have T7 : Ties (upd H6 p (.lst (zs ++ [.ref pu]))) (zs ++ [.ref pu]) (R ++ (List.range (j + 1)).map (ringTie n w)) := by
          rw [List.range_succ, List.map_append, ← List.append_assoc]
          refine Ties.app ((hT5.mono e6).upd (e6 _ _ h5)) (.cons ⟨pu, rfl, ?_⟩ .nil)
          rw [upd_ne (fun z => by subst z; rw [h5] at hpu; cases hpu), h6]
          unfold ringTie
          rw [cw, rj]
        have h7 : (upd H6 p (.lst (zs ++ [.ref pu]))) p = some (.lst (zs ++ [.ref pu])) := upd_same
        generalize upd H6 p (.lst (zs ++ [.ref pu])) = H7 at *
        refine q_asg (ev_var rfl) fun H8 e8 => ?_
        refine s_aug (f := fun a b => a + b) (b := 1) rfl ev_c fun H9 e9 => ⟨zs ++ [.ref pu], some (sgn c), ?_, (E7.trans e8).trans e9, (e8.trans e9) _ _ h7, T7.mono (e8.trans e9)⟩
        rw [rj]; rfl
      · rintro σ2 H5 ⟨zs, v, rfl, e5, h5, hT5⟩
        rw [List.length_map, dl] at hT5 ⊢
        have zl : zs.length = R.length + (w.length - 1) := by rw [hT5.length, List.length_append, List.length_map, List.length_range]
        refine s_if (et_truS (ev_var rfl) (S_sz (by omega))) (fun b H6 e6 => ?_) (fun b H6 e6 => ?_)
        · have wp : 0 < w.length := by
            rw [S_len] at b
            have : (w.length : Int) ≠ 0 := by simpa using b
            omega
          have lastL := getD_L ww (j := w.length - 1) (by omega)
          have lastC : w[w.length - 1]? = some (w.getD (w.length - 1) 0) := by rw [List.getD_eq_getElem?_getD, List.getElem?_eq_getElem (by omega)]; rfl
          have eL : w = w.take (w.length - 1) ++ [w.getD (w.length - 1) 0] := by
            rw [← take_succ' (by omega), show w.length - 1 + 1 = w.length by omega, List.take_length]
          have atl : atI (S w).cps.toList (-1) = some (w.getD (w.length - 1) 0) := by
            rw [S_cps]
            have := atI_last (w.take (w.length - 1)) (w.getD (w.length - 1) 0)
            rw [← eL] at this; exact this
          refine s_appU (e6 _ _ h5) (ev_var rfl) (eu_call (ea_cons (ev_var rfl) (ea_cons (ev_op (ev_var rfl) (ev_un ev_c ru_neg) (rv_ixS (by rw [S_len]; omega) atl)) (ea_cons ev_c ea_nil))) (su_tie (t := 0) lastL)) (by omega) fun pu H7 hpu e7 h7 => ⟨R ++ ringOf n w, n + (w.length - 1), zs ++ [.ref pu], _, _, _, rfl, Ex.mut ((e5.trans e6).trans e7) hp, upd_same, ?_, by rw [tk]; exact .snoc rg, by rw [List.length_append]; unfold ringOf; rw [List.length_map, List.length_range]; omega⟩
          have er : ringOf n w = (List.range (w.length - 1)).map (ringTie n w) ++ [ringTie n w (w.length - 1)] := by
            unfold ringOf
            conv => lhs; rw [show w.length = w.length - 1 + 1 by omega, List.range_succ, List.map_append]
            rfl
          rw [er, ← List.append_assoc]
          have h65 := e6 _ _ h5
          refine Ties.app ((hT5.mono (e6.trans e7)).upd (e7 _ _ h65)) (.cons ⟨pu, rfl, ?_⟩ .nil)
          rw [upd_ne (fun z => by subst z; rw [h65] at hpu; cases hpu), h7]
          unfold ringTie
          rw [show w.length - 1 + 1 = w.length by omega, rmw_end]
        · have w0 : w = [] := by
            rw [S_len] at b
            have : (w.length : Int) = 0 := by simpa using b
            exact List.eq_nil_of_length_eq_zero (by omega)
          subst w0
          refine ⟨R, n, zs, _, _, _, rfl, e5.trans e6, e6 _ _ h5, ?_, ?_, by omega⟩
          · have := hT5.mono e6
            simpa using this
          · rw [tk]
            have := Rg.snoc (w := []) rg
            rw [ringOf_nil, List.append_nil] at this
            exact this
    · rintro σ' H' ⟨R, n, ys, x0, y0, z0, rfl, e3, h3, hT, rg, rl⟩
      have : (wdsV ws).length = ws.length := by unfold wdsV; simp
      rw [this, List.take_length] at rg
      exact s_ret (ev_var rfl) fun H4 e4 => q R n rg p H4 ys hp (e3.trans e4) (e4 _ _ h3) (hT.mono e4)
end
end Gw

/-! ## Pg -/
namespace Gw
open PySem PySem.Spec PyProof.Rows L2 Evl
abbrev s__ties_of : Stmt := topS 15
theorem sc__ties_of : FnScope ["joined", "exits", "ties", "room", "ways", "letter", "end"] ["joined", "exits"] (defScope s__ties_of) := ⟨rfl, rfl, rfl, by decide +kernel, rfl, by decide +kernel, by decide +kernel⟩
abbrev s_folded : Stmt := topS 13
theorem sc_folded : FnScope ["ties", "joined", "exits", "waiting", "start", "letter", "end", "known", "low", "high", "moved", "tie", "link", "mark", "room"] ["ties"] (defScope s_folded) := ⟨rfl, rfl, rfl, by decide +kernel, rfl, by decide +kernel, by decide +kernel⟩
section
variable {P : Program} {w : World} {K : PySem.W.Frag} {mg : Str → Option Value} {base : Heap}
theorem ok_ties_of (D : Def K mg "_ties_of" s__ties_of ["joined", "exits"]) (C__lowest : Cal P w K mg base CX0 "_lowest" 1 ["joined", "room"] sp_lowest) : Cal P w K mg base CX0 "_ties_of" 2 ["joined", "exits"] sp_ties_of := by
  refine D.cal sc__ties_of (fun vs H Q E h => ?_) (fun f cdv A outer s H vs Q E hr h => ⟨_, (pss_cons (ps_set (i := 2) sc__ties_of.nd rfl (Or.inl rfl) (pe_lst pa_nil))
      (pss_cons (ps_lock (ps_for PassesOwn.never rfl (pi_items (pv 1)) (pg_tup (n := 2) rfl (pgs_cons (pg_name (i := 3) sc__ties_of.nd rfl (Or.inl rfl)) (pgs_cons (pg_name (i := 4) sc__ties_of.nd rfl (Or.inl rfl)) pgs_nil)))
      (pss_one (ps_lock (ps_for PassesOwn.never rfl (pi_items (pv 4)) (pg_tup (n := 2) rfl (pgs_cons (pg_name (i := 5) sc__ties_of.nd rfl (Or.inl rfl)) (pgs_cons (pg_name (i := 6) sc__ties_of.nd rfl (Or.inl rfl)) pgs_nil)))
      (pss_one (ps_if (pt_val (pe_m0 PySem.F.slot_str_islower PySem.F.type_str_islower mt_islower (pv 5)))
      (pss_one (ps_expr (pe_bm PySem.F.plainAttrs_list PySem.F.slot_list_append PySem.F.type_list_append mt_append (pv 2) (pa_cons (pe_tup (pa_cons (pv 3) (pa_cons (pv 5) (pa_cons (pe_callC C__lowest (hr.mono (by decide)) rfl pass0 (pa_cons (pv 0) (pa_cons (pv 6) pa_nil))) pa_nil)))) pa_nil))))
      pss_nil)))))))
      (pss_one (ps_ret (pv 2))))), ?_⟩)
  · obtain ⟨dj, dx, J, X, rfl, _⟩ := h; rfl
  · obtain ⟨dj, dx, J, X, rfl, hX, D', hc, q⟩ := h
    refine q_asgL (xs := []) (el_lst ea_nil (Nat.zero_le _)) fun p H1 hp e1 h1 => ?_
    have X1 := hX.mono e1
    refine q_items (kvs := xkv X) (d := dx) X1.hx (fun H2 => ev_var rfl) (fun o i σ' H' => ∃ zs x3 x4 x5 x6, σ' = [some (.ref dj), some (.ref dx), some (.ref p), x3, x4, x5, x6] ∧ Ex (upd H dx (.frz o (.dK (xkv X)))) H' ∧ H' p = some (.lst zs) ∧ Ties H' zs (tiesX J (X.take i)))
      (fun o H2 e2 => ⟨[], none, none, none, none, rfl, (ex_upd e1).trans e2, e2 _ _ (by rw [upd_ne (ne_of h1 X1.hx fun z => by cases z)]; exact h1), .nil⟩) (fun o i σ' H' ⟨_, _, _, _, _, _, e, _⟩ => e _ _ upd_same) ?_ ?_
    · rintro o i k v A σ' H' D2 hk ⟨zs, x3, x4, x5, x6, rfl, e2, h2, ht⟩ hA k2
      obtain ⟨⟨room, d, ways⟩, hi, e⟩ : ∃ pp, X[i]? = some pp ∧ (k, v) = ((.inl (pp.1 : Nat) : Key), V.ref pp.2.1) := by
        unfold xkv at hk
        rw [List.getElem?_map] at hk
        cases hq : X[i]? with
        | none => rw [hq] at hk; cases hk
        | some pp => rw [hq] at hk; exact ⟨pp, rfl, (Option.some.inj hk).symm⟩
      obtain ⟨rfl, rfl⟩ := Prod.mk.inj e
      have mX := List.mem_of_getElem? hi
      obtain ⟨hd, nj, nx⟩ := hX.hp _ mX
      have lt := hX.lets _ mX
      have tk : X.take (i + 1) = X.take i ++ [(room, d, ways)] := by rw [List.take_add_one, hi]; rfl
      have eA : Ex H' (upd H' A (.tup [kV (.inl (room : Nat)), .ref d])) := Ex.new hA
      refine g2 rfl (st_of upd_same) ?_
      have hdb : (upd H dx (.frz o (.dK (xkv X)))) d = some (.dK (wkv ways)) := by rw [upd_ne nx]; exact hd
      have hd2 : (upd H' A (.tup [kV (.inl (room : Nat)), .ref d])) d = some (.dK (wkv ways)) := eA _ _ (e2 _ _ hdb)
      have h2A := eA _ _ h2
      have htA := ht.mono eA
      have e2A := e2.trans eA
      generalize upd H' A (.tup [kV (.inl (room : Nat)), .ref d]) = H3 at *
      show tLock _ _ [some (.ref dj), some (.ref dx), some (.ref p), some (.int (room : Nat)), some (.ref d), x5, x6] H3
      have npd : p ≠ d := fun z => by subst z; rw [h2A] at hd2; cases hd2
      refine s_items (kvs := wkv ways) (d := d) hd2 (fun H4 => ev_var rfl) (fun o2 n σ2 H2 => ∃ zs x5 x6, σ2 = [some (.ref dj), some (.ref dx), some (.ref p), some (.int (room : Nat)), some (.ref d), x5, x6] ∧ Ex (upd (upd H dx (.frz o (.dK (xkv X)))) d (.frz o2 (.dK (wkv ways)))) H2 ∧ H2 p = some (.lst zs) ∧ Ties H2 zs (tiesX J (X.take i) ++ waysT J room (ways.take n)))
        (fun o2 H4 e4 => ⟨zs, x5, x6, rfl, (ex_upd e2A).trans e4, e4 _ _ (by rw [upd_ne npd]; exact h2A), ?_⟩) (fun o2 n σ2 H2 ⟨_, _, _, _, e, _⟩ => e _ _ upd_same) ?_ ?_
      · have := (htA.updO (o := .frz o2 (.dK (wkv ways))) (d := d) (fun l z => by rw [hd2] at z; cases z)).mono e4
        have e0 : waysT J room (ways.take 0) = [] := rfl
        rw [e0, List.append_nil]; exact this
      · rintro o2 n k v B σ2 H4 D3 hk ⟨zs, y5, y6, rfl, e4, h4, ht4⟩ hB k3
        obtain ⟨⟨c, e⟩, hn, ee⟩ : ∃ qq, ways[n]? = some qq ∧ (k, v) = ((.inr (S [qq.1]) : Key), V.int (qq.2 : Nat)) := by
          unfold wkv at hk
          rw [List.getElem?_map] at hk
          cases hq : ways[n]? with
          | none => rw [hq] at hk; cases hk
          | some pp => rw [hq] at hk; exact ⟨pp, rfl, (Option.some.inj hk).symm⟩
        obtain ⟨rfl, rfl⟩ := Prod.mk.inj ee
        have cL := lt _ (List.mem_of_getElem? hn)
        have tkn : ways.take (n + 1) = ways.take n ++ [(c, e)] := by rw [List.take_add_one, hn]; rfl
        have eB : Ex H4 (upd H4 B (.tup [kV (.inr (S [c])), .int (e : Nat)])) := Ex.new hB
        refine g2 rfl (st_of upd_same) ?_
        have h4B := eB _ _ h4
        have ht4B := ht4.mono eB
        have e4B := e4.trans eB
        generalize upd H4 B (.tup [kV (.inr (S [c])), .int (e : Nat)]) = H5 at *
        show tIfS _ _ _ _ [some (.ref dj), some (.ref dx), some (.ref p), some (.int (room : Nat)), some (.ref d), some (sgn c), some (.int (e : Nat))] H5
        have pH : H p = none := hp
        have pd0 : (upd (upd H dx (.frz o (.dK (xkv X)))) d (.frz o2 (.dK (wkv ways)))) p = none := by
          rw [upd_ne npd, upd_ne (fun z => by subst z; rw [hX.hx] at pH; cases pH)]; exact pH
        have zl : zs.length ≤ 10000 + ways.length := by
          rw [ht4.length, List.length_append]
          have a1 := tiesX_len J (X.take i)
          have a2 := cnt_take X i
          have a3 := waysT_len J room (ways.take n)
          have a4 : (ways.take n).length ≤ ways.length := by rw [List.length_take]; exact Nat.min_le_right _ _
          omega
        have wl : ways.length ≤ cnt X := by
          have : cnt [(room, d, ways)] ≤ cnt X := by
            have a1 := cnt_take X (i + 1)
            rw [tk] at a1
            have : cnt (X.take i ++ [(room, d, ways)]) = cnt (X.take i) + cnt [(room, d, ways)] := by unfold cnt; rw [List.map_append, List.sum_append]
            omega
          unfold cnt at this
          simpa [cnt] using this
        refine s_when (b := decide (97 ≤ c)) (et_is (et_B (ev_mS (C := fun _ => True) (g := fun a => .bl (Txt.islower a)) (ev_var rfl) trivial)) (islower_one cL)) (fun b H6 e6 => ?_) (fun b H6 e6 => ?_)
        · have h97 := of_decide_eq_true b
          have jat : JAt H6 dj (lk J) := ⟨jkv J, Or.inl ((e4B.trans e6) _ _ (by rw [upd_ne nj.symm, upd_ne hX.ne]; exact hX.hj)), fun r => valV_j⟩
          refine s_appU (e6 _ _ h4B) (ev_var rfl) (eu_tup (ea_cons (ev_var rfl) (ea_cons (ev_var rfl) (ea_cons (ev_call (ea_cons (ev_var rfl) (ea_cons (ev_var rfl) ea_nil)) (sv_lowest jat D')) ea_nil))) (by show 3 ≤ 100000; decide)) (by omega) fun pu H7 hpu e7 h7 => k3 _ _ ⟨zs ++ [.ref pu], _, _, rfl, Ex.mut ((e4B.trans e6).trans e7) pd0, upd_same, ?_⟩
          rw [tkn]
          have : waysT J room (ways.take n ++ [(c, e)]) = waysT J room (ways.take n) ++ [(room, c, rep (lk J) e)] := by
            unfold waysT
            rw [List.filter_append, List.map_append, List.filter_cons, if_pos (decide_eq_true h97)]; rfl
          rw [this, ← List.append_assoc]
          have h46 := e6 _ _ h4B
          refine Ties.app ((ht4B.mono (e6.trans e7)).upd (e7 _ _ h46)) (.cons ⟨pu, rfl, ?_⟩ .nil)
          rw [upd_ne (fun z => by subst z; rw [h46] at hpu; cases hpu), h7]; rfl
        · have h97 : ¬ 97 ≤ c := of_decide_eq_false b
          refine k3 _ _ ⟨zs, _, _, rfl, e4B.trans e6, e6 _ _ h4B, ?_⟩
          rw [tkn]
          have : waysT J room (ways.take n ++ [(c, e)]) = waysT J room (ways.take n) := by
            unfold waysT
            rw [List.filter_append, List.filter_cons, if_neg (show ¬ decide (97 ≤ (c, e).1) = true from fun z => h97 (of_decide_eq_true z)), List.filter_nil, List.append_nil]
          rw [this]
          exact ht4B.mono e6
      · rintro o2 σ2 H4 ⟨zs, y5, y6, rfl, e4, h4, ht4⟩
        have lw : (wkv ways).length = ways.length := by unfold wkv; simp
        rw [lw, List.take_length] at ht4
        refine k2 _ _ ⟨zs, _, _, _, _, rfl, ex_unlock hdb e4, by rw [upd_ne npd]; exact h4, ?_⟩
        rw [tk]
        have : tiesX J (X.take i ++ [(room, d, ways)]) = tiesX J (X.take i) ++ waysT J room ways := by
          unfold tiesX
          rw [List.flatMap_append, List.flatMap_singleton]
        rw [this]
        refine ht4.updO fun l z => ?_
        rw [e4 _ _ upd_same] at z; cases z
    · rintro o σ' H' ⟨zs, x3, x4, x5, x6, rfl, e2, h2, ht⟩
      have lx : (xkv X).length = X.length := by unfold xkv; simp
      rw [lx, List.take_length] at ht
      have npx : p ≠ dx := fun z => by subst z; rw [hX.hx] at hp; cases hp
      have e3 : Ex H (upd H' dx (.dK (xkv X))) := ex_unlock hX.hx e2
      refine s_ret (ev_var rfl) fun H3 e4 => q p H3 zs hp (e3.trans e4) (e4 _ _ (by rw [upd_ne npx]; exact h2)) ((ht.updO fun l z => ?_).mono e4)
      rw [e2 _ _ upd_same] at z; cases z
end
section
variable {P : Program} {w : World} {K : PySem.W.Frag} {mg : Str → Option Value} {base : Heap}
theorem ok_folded (D : Def K mg "folded" s_folded ["ties"]) (B : Blt mg) (C_both_ways : Cal P w K mg base CX0 "both_ways" 1 ["tie"] sp_both) (C__lowest : Cal P w K mg base CX0 "_lowest" 1 ["joined", "room"] sp_lowest) (C__ties_of : Cal P w K mg base CX0 "_ties_of" 2 ["joined", "exits"] sp_ties_of) : Cal P w K mg base CX0 "folded" 3 ["ties"] (sp_folded K) := by
  refine D.cal sc_folded (fun vs H Q E h => ?_) (fun f cdv A outer s H vs Q E hr h => ⟨_, (pss_cons (ps_set (i := 1) sc_folded.nd rfl (Or.inl rfl) pe_dnewK)
      (pss_cons (ps_set (i := 2) sc_folded.nd rfl (Or.inl rfl) pe_dnewK)
      (pss_cons (ps_setLc2 (i := 3) (own := [("tie", 11), ("link", 12)]) (vs1 := [12]) rfl sc_folded.nd rfl rfl (sw_true rfl rfl rfl (by decide +kernel)) (pi_list (pv 0)) (blkOk_by (own := [("tie", 11), ("link", 12)]) (N := ["ties", "joined", "exits", "waiting", "start", "letter", "end", "known", "low", "high", "moved", "tie", "link", "mark", "room"]) (sc := defScope s_folded) (by decide +kernel)) (by decide) (fun _ _ _ _ _ => (pg_name (i := 11) sc_folded.nd rfl (Or.inl rfl))) (fun _ _ _ _ _ => pts_nil) (fun _ _ _ _ _ => (pi_listB (pe_callC C_both_ways (hr.mono (by decide)) rfl pass0 (pa_cons (pv 11) pa_nil)))) (fun _ _ _ _ _ => (pg_name (i := 12) sc_folded.nd rfl (Or.inl rfl))) (fun _ _ _ _ _ => pts_nil) (fun _ _ _ _ _ => (pv 12)))
      (pss_cons (ps_while PassesOwn.never (pt_truth (pv 3) (by intro _; rfl))
      (pss_cons (ps_asg (pe_bm0 PySem.F.plainAttrs_list PySem.F.slot_list_pop PySem.F.type_list_pop mt_pop (pv 3)) (pg_tup (n := 3) rfl (pgs_cons (pg_name (i := 4) sc_folded.nd rfl (Or.inl rfl)) (pgs_cons (pg_name (i := 5) sc_folded.nd rfl (Or.inl rfl)) (pgs_cons (pg_name (i := 6) sc_folded.nd rfl (Or.inl rfl)) pgs_nil)))))
      (pss_cons (ps_par (i := 4) (j := 6) (by rfl) sc_folded.nd rfl rfl (by decide) rfl rfl (pa_cons (pe_callC C__lowest (hr.mono (by decide)) rfl pass0 (pa_cons (pv 1) (pa_cons (pv 4) pa_nil))) (pa_cons (pe_callC C__lowest (hr.mono (by decide)) rfl pass0 (pa_cons (pv 1) (pa_cons (pv 6) pa_nil))) pa_nil)) (by rfl))
      (pss_cons (ps_set (i := 7) sc_folded.nd rfl (Or.inl rfl) (pe_callC C__lowest (hr.mono (by decide)) rfl pass0 (pa_cons (pv 1) (pa_cons (pe_dsetd (pe_dsetd (pv 2) (pv 4) pe_dnewK ⟨rfl, rfl, rfl, rfl⟩) (pv 5) (pv 6) ⟨rfl, rfl, rfl, rfl⟩) pa_nil))))
      (pss_one (ps_if (pt_cmpR op_ne (pv 7) (pv 6) (nomark _))
      (pss_cons (ps_asg (pe_tup (pa_cons (pe_callB (call_min2 rfl) (by rfl) B.z_min (by decide +kernel) (pa_cons (pv 7) (pa_cons (pv 6) pa_nil))) (pa_cons (pe_callB (call_max2 rfl) (by rfl) B.z_max (by decide +kernel) (pa_cons (pv 7) (pa_cons (pv 6) pa_nil))) pa_nil))) (pg_tup (n := 2) rfl (pgs_cons (pg_name (i := 8) sc_folded.nd rfl (Or.inr rfl)) (pgs_cons (pg_name (i := 9) sc_folded.nd rfl (Or.inl rfl)) pgs_nil))))
      (pss_cons (ps_dput (hu_of hr) (pv 1) (pv 9) (pv 8) rfl)
      (pss_cons (ps_set (i := 10) sc_folded.nd rfl (Or.inl rfl) (pe_dpop2 (pv 2) (pv 9) pe_dnewK ⟨rfl, rfl, rfl, rfl⟩))
      (pss_one (ps_expr (pe_bm PySem.F.plainAttrs_list PySem.F.slot_list_extend PySem.F.type_list_extend mt_extend (pv 3) (pa_cons (pe_lock (pe_lc (own := [("mark", 13), ("room", 14)]) rfl sc_folded.nd (pi_items (pv 10)) (blkOk_by (own := [("mark", 13), ("room", 14)]) (N := ["ties", "joined", "exits", "waiting", "start", "letter", "end", "known", "low", "high", "moved", "tie", "link", "mark", "room"]) (sc := defScope s_folded) (by decide +kernel)) (fun _ _ _ _ _ => (pg_tupB (n := 2) rfl (pgs_cons (pg_name (i := 13) sc_folded.nd rfl (Or.inl rfl)) (pgs_cons (pg_name (i := 14) sc_folded.nd rfl (Or.inl rfl)) pgs_nil)))) (fun _ _ _ _ _ => pts_nil) (fun _ _ _ _ _ => (pe_tup (pa_cons (pv 8) (pa_cons (pv 13) (pa_cons (pv 14) pa_nil))))))) pa_nil)))))))
      pss_nil))))))
      (pss_one (ps_ret (pe_callC C__ties_of (hr.mono (by decide)) rfl pass0 (pa_cons (pv 1) (pa_cons (pv 2) pa_nil))))))))), ?_⟩)
  · obtain ⟨a, R, N, rfl, _⟩ := h; rfl
  · obtain ⟨a, R, N, rfl, ⟨xs, hs, hT⟩, sm, hz, hN, hN2, q⟩ := h
    refine q_newK fun dj hdj => ?_
    refine q_newK fun dx hdx => ?_
    have e1 : Ex H (upd H dj (.dK [])) := Ex.new hdj
    have e2 : Ex (upd H dj (.dK [])) (upd (upd H dj (.dK [])) dx (.dK [])) := Ex.new hdx
    have j1 : (upd H dj (.dK [])) dj = some (.dK []) := upd_same
    have nxj : dj ≠ dx := fun z => by subst z; rw [j1] at hdx; cases hdx
    have j2 := e2 _ _ j1
    have x2 : (upd (upd H dj (.dK [])) dx (.dK [])) dx = some (.dK []) := upd_same
    have E2 := e1.trans e2
    have fdx := fresh_back e1 hdx
    generalize upd (upd H dj (.dK [])) dx (.dK []) = H2 at *
    refine q_asgQ (Φ := fun dw H3 => ∃ ys, H2 dw = none ∧ Ex H2 H3 ∧ H3 dw = some (.lst ys) ∧ Ties H3 ys (links R)) (fun Q1 q1 => wp_links (K := K) (σ := [some (.ref a), some (.ref dj), some (.ref dx), none, none, none, none, none, none, none, none, none, none, none, none]) (i1 := 11) (i2 := 12) rfl (ex_l E2 hs) (hT.mono E2) (by omega) sm (fun x => rfl) (fun x => rfl) (fun x y => rfl) (fun x y => rfl) Q1 fun dw H3 ys hdw e3 h3 hT3 => q1 dw H3 ⟨ys, hdw, e3, h3, hT3⟩) fun dw H3 ⟨ys, hdw, e3, h3, hT3⟩ => ?_
    have E3 := E2.trans e3
    have fdw := fresh_back E2 hdw
    have F0 : FH H H3 dj dx dw [] [] (links R) := ⟨E3, hdj, fdx, fdw, ⟨e3 _ _ j2, e3 _ _ x2, fun p hp => (by cases hp), nxj, fun p hp => (by cases hp)⟩, fun p hp => (by cases hp), List.nodup_nil, List.nodup_nil, fun p hp => (by cases hp), ys, h3, hT3⟩
    have D0 : Fd R (lk []) (xOf []) (links R) := fd_start fun s c e => mem_links sm
    refine q_while (fun m σ' H' => Turn K H R N a dj dx dw m σ' H') (N * (2 * R.length + 1) + 2 * R.length) ⟨⟨[], [], links R, F0, D0, by rw [links_len]; exact Nat.le_of_eq (Nat.zero_add _), List.nodup_nil, fun p hp => (by cases hp), by rw [links_len]; rfl⟩, _, _, _, _, _, _, _, _, _, _, _, rfl⟩ ?_
    rintro m σ' H4 ⟨⟨J, X, Wt, F, I, hc, jn, jb, rfl⟩, x4, x5, x6, x7, x8, x9, x10, x11, x12, x13, x14, rfl⟩
    obtain ⟨ys4, hw4, hT4⟩ := F.hw
    have yl := hT4.length
    have jl := keys_few jn jb
    refine ⟨!ys4.isEmpty, et_truL (ev_var rfl) (sq_of hw4), fun b H5 e5 => ?_, fun b H5 e5 => ?_⟩
    · -- one waits
      refine ⟨fun σ2 H6 => ∃ m', m' < (N - J.length) * (2 * R.length + 1) + Wt.length ∧ Turn K H R N a dj dx dw m' σ2 H6, fun _ _ h => h, ?_⟩
      obtain ⟨Wt0, t, rfl⟩ : ∃ Wt0 t, Wt = Wt0 ++ [t] := by
        cases Wt with
        | nil =>
          have : ys4 = [] := List.eq_nil_of_length_eq_zero yl
          rw [this] at b; cases b
        | cons u l => exact ⟨_, _, (List.dropLast_concat_getLast (by simp)).symm⟩
      obtain ⟨ys0, ta, rfl, hT0, hta⟩ := hT4.unsnoc
      obtain ⟨s0, c, e0⟩ := t
      have F5 := F.mono e5
      obtain ⟨a1, b1, l1, es1, ee1⟩ := I.wt s0 c e0 (List.mem_append.mpr (Or.inr (List.mem_singleton.mpr rfl)))
      have hcL := l1.isL
      rw [List.length_append] at hc ⊢
      simp only [List.length_cons, List.length_nil, Nat.zero_add] at hc ⊢
      have ht5 := (hT0.mono e5).upd (ys := ys0) (e5 _ _ hw4)
      have F6 := F5.wait ht5
      have hta6 : (upd H5 dw (.lst ys0)) ta = some (.tup (tieV (s0, c, e0))) := by
        have := e5 _ _ hta
        rw [upd_ne (ne_of this (e5 _ _ hw4) fun z => by cases z)]; exact this
      refine ⟨.ref dw, rfl, Or.inl ⟨rfl, _, sq_of (e5 _ _ hw4)⟩, dw, ys0 ++ [.ref ta], .ref ta, rfl, rfl, e5 _ _ hw4, by simp, ?_⟩
      rw [List.dropLast_concat]
      generalize upd H5 dw (.lst ys0) = H6 at *
      refine g3 rfl (st_of hta6) ?_
      have jat : ∀ H', Ex H6 H' → JAt H' dj (lk J) := fun H' e' => ⟨jkv J, Or.inl (e' _ _ F6.xat.hj), fun r => valV_j⟩
      show tSeq _ _ _ [some (.ref a), some (.ref dj), some (.ref dx), some (.ref dw), some (.int (s0 : Nat)), some (sgn c), some (.int (e0 : Nat)), x7, x8, x9, x10, x11, x12, x13, x14] H6
      refine q_par (ea_cons (ev_call (ea_cons (ev_var rfl) (ea_cons (ev_var rfl) ea_nil)) (sv_lowest (jat _ (Ex.refl _)) I.dec)) (ea_cons (ev_call (ea_cons (ev_var rfl) (ea_cons (ev_var rfl) ea_nil)) (sv_lowest (jat _ (Ex.refl _)) I.dec)) ea_nil)) fun H7 e7 => ?_
      have F7 := F6.mono e7
      show tSeq (tAsg (tCall sp_lowest [] _ (tCons (tVar 1) (tCons (tDSetd (tDSetd (tVar 2) (tVar 4) tDNewK) (tVar 5) (tVar 6)) tNil))) (gName 7)) _ _ [some (.ref a), some (.ref dj), some (.ref dx), some (.ref dw), some (.int (rep (lk J) s0 : Nat)), some (sgn c), some (.int (rep (lk J) e0 : Nat)), x7, x8, x9, x10, x11, x12, x13, x14] H7
      refine ⟨.ref dj, rfl, wp_setd F7 rfl rfl rfl rfl hcL (by omega) _ fun k X' H8 F8 cond => ?_⟩
      have jat8 : JAt H8 dj (lk J) := ⟨jkv J, Or.inl F8.xat.hj, fun r => valV_j⟩
      refine ⟨dj, lk J, k, rfl, jat8, I.dec, fun H9 e9 => ?_⟩
      have F9 := F8.mono e9
      refine gname_go (nx_go ?_)
      show tIfS _ _ _ _ [some (.ref a), some (.ref dj), some (.ref dx), some (.ref dw), some (.int (rep (lk J) s0 : Nat)), some (sgn c), some (.int (rep (lk J) e0 : Nat)), some (.int (rep (lk J) k : Nat)), x8, x9, x10, x11, x12, x13, x14] H9
      have cX' : cnt X' + Wt0.length ≤ 2 * R.length := by
        rcases cond with ⟨_, rfl⟩ | ⟨_, _, _, h⟩ <;> omega
      refine s_when (et_test (ev_op (ev_var rfl) (ev_var rfl) (rv_ne rfl))) (fun b2 H10 e10 => ?_) (fun b2 H10 e10 => ?_)
      · -- two rooms made one
        have hne : rep (lk J) k ≠ rep (lk J) e0 := fun z => by rw [z] at b2; simp at b2
        obtain ⟨hx, rfl⟩ : xOf X (rep (lk J) s0) c = some k ∧ X' = X := by
          rcases cond with h | ⟨_, h, _⟩
          · exact h
          · exact absurd (by rw [h, rep_rep I.dec]) hne
        have F10 := F9.mono e10
        refine q_asgGU (eu_tup (ea_cons (ev_is (ev_cb (ea_cons (ev_var rfl) (ea_cons (ev_var rfl) ea_nil)) rc_min2) (min_v _ _)) (ea_cons (ev_is (ev_cb (ea_cons (ev_var rfl) (ea_cons (ev_var rfl) ea_nil)) rc_max2) (max_v _ _)) ea_nil)) (by show 2 ≤ 100000; decide)) fun pt H11 hpt e11 h11 => ?_
        refine g2 rfl (st_of h11) ?_
        have F11 := F10.mono e11
        obtain ⟨lo, hlo⟩ : ∃ lo, lo = min (rep (lk J) k) (rep (lk J) e0) := ⟨_, rfl⟩
        obtain ⟨hi, hhi⟩ : ∃ hi, hi = max (rep (lk J) k) (rep (lk J) e0) := ⟨_, rfl⟩
        rw [← hlo, ← hhi]
        have hlt : lo < hi := by omega
        have hk : (lo = rep (lk J) k ∧ hi = rep (lk J) e0) ∨ (lo = rep (lk J) e0 ∧ hi = rep (lk J) k) := by omega
        have jh : lk J hi = none := by
          rcases hk with ⟨_, h⟩ | ⟨_, h⟩ <;> rw [h] <;> exact rep_root I.dec _
        have hiN : hi < N := by
          obtain ⟨a2, b2', l2, _, ee2⟩ := I.xs _ _ _ hx
          have q1 := (hN _ _ _ l1).2
          have q2 := (hN _ _ _ l2).2
          have r1 := rep_le I.dec b1
          have r2 := rep_le I.dec b2'
          rw [ee1] at r1
          rw [ee2] at r2
          omega
        show tSeq (sDPut (tVar 1) (tVar 9) (tVar 8)) _ _ [some (.ref a), some (.ref dj), some (.ref dx), some (.ref dw), some (.int (rep (lk J) s0 : Nat)), some (sgn c), some (.int (rep (lk J) e0 : Nat)), some (.int (rep (lk J) k : Nat)), some (.int (lo : Nat)), some (.int (hi : Nat)), x10, x11, x12, x13, x14] H11
        have jkl : (jkv J).length = J.length := by unfold jkv; simp
        refine ⟨.int (lo : Nat), rfl, .ref dj, rfl, .int (hi : Nat), rfl, dj, _, rfl, DPut.k (k := .inl (hi : Nat)) F11.xat.hj (sz_lt (by omega)), ?_⟩
        rw [putK_new _ (by rw [valV_j, jh]; rfl)]
        have ej : jkv J ++ [((.inl (hi : Nat) : Key), V.int (lo : Nat))] = jkv (J ++ [(hi, lo)]) := by unfold jkv; rw [List.map_append]; rfl
        rw [ej]
        have F12 := F11.joined hi lo
        generalize upd H11 dj (.dK (jkv (J ++ [(hi, lo)]))) = H12 at *
        show tSeq (tAsg (tDPop2 (tVar 2) (tVar 9) tDNewK) (gName 10)) _ _ _ H12
        refine wp_popd F12 rfl rfl _ fun d w X2 H13 F13 hd wn wL hX2 hw2 hc2 => ?_
        show tDrop (tBM K "list" rExtend (tVar 3) (tCons _ tNil)) _ [some (.ref a), some (.ref dj), some (.ref dx), some (.ref dw), some (.int (rep (lk J) s0 : Nat)), some (sgn c), some (.int (rep (lk J) e0 : Nat)), some (.int (rep (lk J) k : Nat)), some (.int (lo : Nat)), some (.int (hi : Nat)), some (.ref d), x11, x12, x13, x14] H13
        obtain ⟨ys13, hw13, hT13⟩ := F13.hw
        have wkl : (wkv w).length = w.length := by unfold wkv; simp
        refine ⟨.ref dw, rfl, Or.inl ⟨rfl, _, sq_of hw13⟩, ?_⟩
        refine wp_itemsTies (T := w.map fun p => (lo, p.1, p.2)) (i := 13) (j := 14) hd (fun H1 => ev_var rfl) (by rw [wkl, List.length_map]) (by rw [List.length_map]; omega) (fun x y => rfl) (fun n kk v t hkv ht H1 => ?_) _ fun pz H14 zs hpz e14 h14 hTz => ?_
        · obtain ⟨⟨c', e'⟩, hp, ee⟩ : ∃ p, w[n]? = some p ∧ (kk, v) = ((.inr (S [p.1]) : Key), V.int (p.2 : Nat)) := by
            unfold wkv at hkv
            rw [List.getElem?_map] at hkv
            cases hq : w[n]? with
            | none => rw [hq] at hkv; cases hkv
            | some pp => rw [hq] at hkv; exact ⟨pp, rfl, (Option.some.inj hkv).symm⟩
          obtain ⟨rfl, rfl⟩ := Prod.mk.inj ee
          rw [List.getElem?_map, hp] at ht
          cases ht
          exact eu_tup (ea_cons (ev_var rfl) (ea_cons (ev_var rfl) (ea_cons (ev_var rfl) ea_nil))) (by show 3 ≤ 100000; decide)
        · have hw14 := e14 _ _ hw13
          have zl := hTz.length
          rw [List.length_map] at zl
          have yl13 := hT13.length
          refine ⟨dw, pz, ys13, zs, rfl, rfl, hw14, h14, sz_of (by omega), ?_⟩
          have T15 := Ties.app ((hT13.mono e14).upd (ys := ys13 ++ zs) hw14) (hTz.upd (ys := ys13 ++ zs) hw14)
          have F15 := (F13.mono e14).wait T15
          have jn' : ((J ++ [(hi, lo)]).map (·.1)).Nodup := by
            rw [List.map_append, List.nodup_append]
            refine ⟨jn, by simp, fun x hx y hy z => ?_⟩
            have : y = hi := by simpa using hy
            subst this; subst z
            exact lk_none jh hx
          have jb' : ∀ p ∈ J ++ [(hi, lo)], p.1 < N := fun p hp => by
            rcases List.mem_append.mp hp with hp | hp
            · exact jb p hp
            · rw [List.mem_singleton] at hp; subst hp; exact hiN
          have jl' := keys_few jn' jb'
          rw [List.length_append] at jl'
          simp only [List.length_cons, List.length_nil, Nat.zero_add] at jl'
          refine ⟨(N - (J ++ [(hi, lo)]).length) * (2 * R.length + 1) + (Wt0 ++ w.map fun p => (lo, p.1, p.2)).length, ?_, ⟨J ++ [(hi, lo)], X2, Wt0 ++ w.map fun p => (lo, p.1, p.2), F15, ?_, by rw [List.length_append, List.length_map]; omega, jn', jb', rfl⟩, _, _, _, _, _, _, _, _, _, _, _, rfl⟩
          · rw [List.length_append, List.length_append, List.length_map]
            simp only [List.length_cons, List.length_nil, Nat.zero_add]
            have : N - J.length = N - (J.length + 1) + 1 := by omega
            rw [this, Nat.add_mul]
            omega
          · rw [jOf_snoc jh, hX2]
            refine I.join hx hlt hk fun s' c' e' => ?_
            constructor
            · intro hm
              obtain ⟨p, hp, e⟩ := List.mem_map.mp hm
              simp only [Prod.mk.injEq] at e
              obtain ⟨rfl, rfl, rfl⟩ := e
              exact ⟨rfl, by rw [hw2]; exact lk_of wn (r := p.1) (b := p.2) hp⟩
            · rintro ⟨rfl, hx2⟩
              rw [hw2] at hx2
              exact List.mem_map.mpr ⟨(c', e'), lk_mem hx2, rfl⟩
      · -- they are one already
        have he : rep (lk J) k = rep (lk J) e0 := by
          by_cases z : rep (lk J) k = rep (lk J) e0
          · exact z
          · have : decide (V.int ((rep (lk J) k : Nat) : Int) = V.int ((rep (lk J) e0 : Nat) : Int)) = false := decide_eq_false fun y => z (by have := V.int.inj y; omega)
            rw [this] at b2; cases b2
        refine ⟨(N - J.length) * (2 * R.length + 1) + Wt0.length, by omega, ⟨J, X', Wt0, F9.mono e10, ?_, cX', jn, jb, rfl⟩, _, _, _, _, _, _, _, _, _, _, _, rfl⟩
        rcases cond with ⟨hx, rfl⟩ | ⟨hx, rfl, hX', _⟩
        · exact I.same hx he
        · rw [hX']; exact I.put hx
    · -- none waits
      have W0 : Wt = [] := by
        have : ys4 = [] := by
          cases ys4 with
          | nil => rfl
          | cons _ _ => cases b
        rw [this] at yl
        exact List.eq_nil_of_length_eq_zero yl.symm
      subst W0
      have F5 := F.mono e5
      have Q0 := I.quot sm (T := tiesX J X) fun r c s => tiesX_mem F.xk fun p hp => (F.wk p hp).1
      have nd : (tiesX J X).Nodup := tiesX_nodup F.xk fun p hp => (F.wk p hp).1
      show tRet (tCall sp_ties_of [] _ (tCons (tVar 1) (tCons (tVar 2) tNil))) _ _ H5
      refine ⟨.ref dj, rfl, .ref dx, rfl, dj, dx, J, X, rfl, F5.xat, I.dec, by omega, fun p H6 zs hp e6 h6 hT6 => ?_⟩
      exact q _ _ Q0 nd p H6 zs (fresh_back F5.base hp) (F5.base.trans e6) h6 hT6
end
end Gw

/-! ## Pn -/
namespace Gw
open PySem PySem.Spec PyProof.Rows L2 Evl
abbrev s_leads_of : Stmt := topS 7
theorem sc_leads_of : FnScope ["ties", "tie", "start", "letter", "end"] ["ties"] (defScope s_leads_of) := ⟨rfl, rfl, rfl, by decide +kernel, rfl, by decide +kernel, by decide +kernel⟩
section
variable {P : Program} {w : World} {K : PySem.W.Frag} {mg : Str → Option Value} {base : Heap}
theorem ok_leads (D : Def K mg "leads_of" s_leads_of ["ties"]) (C_both_ways : Cal P w K mg base CX0 "both_ways" 1 ["tie"] sp_both) : Cal P w K mg base CX0 "leads_of" 2 ["ties"] (sp_leads K) := by
  refine D.cal sc_leads_of (fun vs H Q E h => ?_) (fun f cdv A outer s H vs Q E hr h => ⟨_, (pss_one (ps_ret (pe_dcT (own := [("tie", 1), ("start", 2), ("letter", 3), ("end", 4)]) (vs1 := [2, 3, 4]) (hu_of hr) rfl sc_leads_of.nd (pi_list (pv 0)) (blkOk_by (own := [("tie", 1), ("start", 2), ("letter", 3), ("end", 4)]) (N := ["ties", "tie", "start", "letter", "end"]) (sc := defScope s_leads_of) (by decide +kernel)) (by decide) (fun _ _ _ _ _ => (pg_name (i := 1) sc_leads_of.nd rfl (Or.inl rfl))) (fun _ _ _ _ _ => (pi_listB (pe_callC C_both_ways (hr.mono (by decide)) rfl pass0 (pa_cons (pv 1) pa_nil)))) (fun _ _ _ _ _ => (pg_tupB (n := 3) rfl (pgs_cons (pg_name (i := 2) sc_leads_of.nd rfl (Or.inl rfl)) (pgs_cons (pg_name (i := 3) sc_leads_of.nd rfl (Or.inl rfl)) (pgs_cons (pg_name (i := 4) sc_leads_of.nd rfl (Or.inl rfl)) pgs_nil))))) (fun _ _ _ _ _ => (pe_tup (pa_cons (pv 2) (pa_cons (pv 3) pa_nil)))) (fun _ _ _ _ _ => (pv 4))))), ?_⟩)
  · obtain ⟨a, T, rfl, _⟩ := h; rfl
  · obtain ⟨a, T, rfl, ⟨xs, hs, hT⟩, sm, hz, q⟩ := h
    have xl := hT.length
    show tRet (tDcT (iList K (tVar 0)) (gName 1) (iList K (tCall sp_both [] _ (tCons (tVar 1) tNil))) (gTup K 3 (gCons (gName 2) (gCons (gName 3) (gCons (gName 4) gNil)))) (tTup (tCons (tVar 2) (tCons (tVar 3) tNil))) (tVar 4) [1, 2, 3, 4] [2, 3, 4]) _ [some (.ref a), none, none, none, none] H
    refine ret_go ?_
    refine ew_list (K := K) (te := tVar 0) (σ := [some (.ref a), none, none, none, none]) (ev_var rfl) hs H (Ex.refl _) _ fun J H1 e1 wk Dl hD => ?_
    refine ⟨fun i m H' => m = xs.length - i ∧ i ≤ xs.length ∧ Ex H1 H' ∧ H' Dl = some (.dT (kvOf (links (T.take i)))), ⟨xs.length, rfl, Nat.zero_le _, Ex.new hD, upd_same⟩, ?_⟩
    rintro i m H' ⟨rfl, hi, ex, hl⟩
    have hst := ex_l (e1.trans ex) hs
    by_cases hlt : i < xs.length
    · refine .inr ⟨wk.go i H' hst hlt, fun H'' => Ex H1 H'' ∧ H'' Dl = some (.dT (kvOf (links (T.take (i + 1))))), fun H'' ⟨b, c⟩ => ⟨xs.length - (i + 1), by omega, rfl, hlt, b, c⟩, ?_⟩
      intro x H'' hy
      obtain ⟨rfl, hx⟩ := wk.yld i H' x H'' hst hlt hy
      obtain ⟨t, ta, hti, rfl, hta⟩ := hT.at hx
      have mt := List.mem_of_getElem? hti
      have smt := sm t mt
      refine ⟨rfl, ?_⟩
      show iList K (tCall sp_both [] _ (tCons (tVar 1) tNil)) [some (.ref a), some (.ref ta), none, none, none] H'' _
      refine ⟨.ref ta, rfl, ta, t, rfl, (e1.trans ex) _ _ hta, smt, fun p2 H4 ys hp2 e4 h4 hT4 => ⟨p2, rfl, ⟨ys, sq_of h4⟩, ?_⟩⟩
      have hl4 := e4 _ _ hl
      have nD : p2 ≠ Dl := fun z => by subst z; rw [hl] at hp2; cases hp2
      have yl : ys.length = 2 := hT4.length
      have tk0 : T.take (i + 1) = T.take i ++ [t] := by rw [List.take_add_one, hti]; rfl
      have tk : links (T.take (i + 1)) = links (T.take i) ++ [t, wayBack t] := by
        rw [tk0]; unfold links; rw [List.flatMap_append, List.flatMap_singleton]
      have ll : (links (T.take i)).length ≤ 8000 := by rw [links_len, List.length_take]; omega
      refine ⟨fun j k H5 => k = 2 - j ∧ j ≤ 2 ∧ Ex H1 H5 ∧ H5 p2 = some (.lst ys) ∧ Ties H5 ys [t, wayBack t] ∧ H5 Dl = some (.dT (kvOf (links (T.take i) ++ [t, wayBack t].take j))), ⟨2, rfl, Nat.zero_le _, ex.trans e4, h4, hT4, by rw [List.take_zero, List.append_nil]; exact hl4⟩, ?_⟩
      rintro j k H5 ⟨rfl, hj, ex5, h5, hT5, hl5⟩
      by_cases hjl : j < 2
      · refine .inr ⟨⟨ys, ys[j], sq_of h5, List.getElem?_eq_getElem (by omega)⟩, fun H6 => Ex H1 H6 ∧ H6 p2 = some (.lst ys) ∧ Ties H6 ys [t, wayBack t] ∧ H6 Dl = some (.dT (kvOf (links (T.take i) ++ [t, wayBack t].take (j + 1)))), fun H6 ⟨b1, b2, b3, b4⟩ => ⟨2 - (j + 1), by omega, rfl, hjl, b1, b2, b3, b4⟩, ?_⟩
        intro y H6 hy2
        obtain ⟨rfl, hy3⟩ := hy2
        have hyj := hy3 ys (sq_of h5)
        obtain ⟨u, ua, huj, rfl, hua⟩ := hT5.at hyj
        obtain ⟨ua1, uc, ub⟩ := u
        refine g3 rfl (st_of hua) ⟨rfl, ?_⟩
        show tTup (tCons (tVar 2) (tCons (tVar 3) tNil)) [some (.ref a), some (.ref ta), some (.int (ua1 : Nat)), some (sgn uc), some (.int (ub : Nat))] H6 _
        refine (eu_tup (σ := [some (.ref a), some (.ref ta), some (.int (ua1 : Nat)), some (sgn uc), some (.int (ub : Nat))]) (H := H6) (vs := [.int (ua1 : Nat), sgn uc]) (ea_cons (ev_var (i := 2) rfl) (ea_cons (ev_var (i := 3) rfl) ea_nil)) (by show 2 ≤ 100000; decide)) H6 (Ex.refl _) _ fun pk H7 hpk e7 h7 => ?_
        have hl7 := e7 _ _ hl5
        have h57 := e7 _ _ h5
        have hT7 := hT5.mono e7
        have kl := kvOf_len (links (T.take i) ++ [t, wayBack t].take j)
        rw [List.length_append] at kl
        have k2 : ([t, wayBack t].take j).length ≤ 2 := by rw [List.length_take]; exact Nat.min_le_right _ _
        refine ⟨.int (ub : Nat), rfl, kvOf (links (T.take i) ++ [t, wayBack t].take j), key ua1 uc, pk, rfl, by rw [h7]; rfl, hl7, sz_lt (by omega), Ex.mut (ex5.trans e7) hD, ?_, ?_, ?_⟩
        · rw [upd_ne nD]; exact h57
        · exact ties_dk hT7 fun l z => by rw [hl7] at z; cases z
        · have tk2 : [t, wayBack t].take (j + 1) = [t, wayBack t].take j ++ [(ua1, uc, ub)] := by rw [List.take_add_one, huj]; rfl
          rw [tk2, ← List.append_assoc, kvOf_snoc, upd_same]
      · have : j = 2 := by omega
        subst this
        refine .inl ⟨⟨ys, sq_of h5, by omega⟩, ex5, ?_⟩
        rw [tk]; exact hl5
    · have hi2 : i = xs.length := by omega
      refine .inl ⟨wk.stop i H' hst (by omega), q Dl H' (fresh_back e1 hD) (e1.trans ex) ?_⟩
      rw [hi2, xl, List.take_length] at hl; exact hl
end
end Gw

/-! ## Pm -/
namespace Gw
open PySem PySem.Spec PyProof.Rows L2 Evl
abbrev s_findings : Stmt := topS 8
theorem sc_findings : FnScope ["ties", "leads", "used", "letters", "known", "rooms", "steps", "at", "letter", "end", "first", "second"] ["ties"] (defScope s_findings) := ⟨rfl, rfl, rfl, by decide +kernel, rfl, by decide +kernel, by decide +kernel⟩
section
variable {P : Program} {w : World} {K : PySem.W.Frag} {mg : Str → Option Value} {base : Heap}
theorem ok_findings (D : Def K mg "findings" s_findings ["ties"]) (B : Blt mg) (C_leads_of : Cal P w K mg base CX0 "leads_of" 2 ["ties"] (sp_leads K)) : Cal P w K mg base CX0 "findings" 7 ["ties"] (sp_findings K) := by
  refine D.calC sc_findings (fun vs H Q E h => ?_) (fun f cdv A outer s H vs Q E hcd hr h => ⟨_, (pss_cons (ps_set (i := 1) sc_findings.nd rfl (Or.inl rfl) (pe_callC C_leads_of (hr.mono (by decide)) rfl pass0 (pa_cons (pv 0) pa_nil)))
      (pss_cons (ps_set (i := 2) sc_findings.nd rfl (Or.inl rfl) (pe_callB (cr_sortSS rfl) (by rfl) B.z_sorted (by decide +kernel) (pa_cons (pe_scS (own := [("first", 10), ("letter", 8), ("second", 11)]) rfl sc_findings.nd (pi_list (pv 0)) (blkOk_by (own := [("first", 10), ("letter", 8), ("second", 11)]) (N := ["ties", "leads", "used", "letters", "known", "rooms", "steps", "at", "letter", "end", "first", "second"]) (sc := defScope s_findings) (by decide +kernel)) (fun _ _ _ _ _ => (pg_tupB (n := 3) rfl (pgs_cons (pg_name (i := 10) sc_findings.nd rfl (Or.inl rfl)) (pgs_cons (pg_name (i := 8) sc_findings.nd rfl (Or.inl rfl)) (pgs_cons (pg_name (i := 11) sc_findings.nd rfl (Or.inl rfl)) pgs_nil))))) (fun _ _ _ _ _ => (pv 8))) pa_nil)))
      (pss_cons (ps_set (i := 3) sc_findings.nd rfl (Or.inl rfl) (pe_join pe_str (pe_lc (own := [("letter", 8)]) (g := (gName 8)) rfl sc_findings.nd (pi_list (pv 2)) (blkOk_by (own := [("letter", 8)]) (N := ["ties", "leads", "used", "letters", "known", "rooms", "steps", "at", "letter", "end", "first", "second"]) (sc := defScope s_findings) (by decide +kernel)) (fun _ _ _ _ _ => (pg_name (i := 8) sc_findings.nd rfl (Or.inl rfl))) (fun _ _ _ _ _ => pts_nil) (fun _ _ _ _ _ => (pe_op op_add_str (pv 8) (pe_upper (pv 8)))))))
      (pss_cons (ps_set (i := 4) sc_findings.nd rfl (Or.inl rfl) (pe_setC hcd))
      (pss_cons (ps_set (i := 5) sc_findings.nd rfl (Or.inl rfl) (pe_lst (pa_cons pe_int pa_nil)))
      (pss_cons (ps_set (i := 6) sc_findings.nd rfl (Or.inl rfl) (pe_lst pa_nil))
      (pss_cons (ps_set (i := 7) sc_findings.nd rfl (Or.inl rfl) pe_int)
      (pss_cons (ps_while PassesOwn.never (pt_cmpR op_lt (pv 7) (pe_callB call_len_seq (by rfl) B.z_len (by decide +kernel) (pa_cons (pv 5) pa_nil)) (nomark _))
      (pss_cons (ps_for PassesOwn.never rfl (pi_str (pv 3)) (pg_name (i := 8) sc_findings.nd rfl (Or.inl rfl))
      (pss_cons (ps_set (i := 9) sc_findings.nd rfl (Or.inl rfl) (pe_dget1 (hu_of hr) (pv 1) (pe_tup (pa_cons (pe_ix ix_list (pv 5) (pv 7) (fun _ _ => rfl)) (pa_cons (pv 8) pa_nil))) ⟨rfl, rfl, rfl, rfl⟩))
      (pss_one (ps_if (PW.pt (pw_and (pt_cmpR op_notN (pv 9) pe_non (nomark _)) (pw_and1 (pt_cmpR or_snotinI (pv 9) (pv 4) rfl))))
      (pss_cons (ps_expr (pe_saddI (pv 4) (pa_cons (pv 9) pa_nil)))
      (pss_cons (ps_expr (pe_bm PySem.F.plainAttrs_list PySem.F.slot_list_append PySem.F.type_list_append mt_append (pv 5) (pa_cons (pv 9) pa_nil)))
      (pss_one (ps_expr (pe_bm PySem.F.plainAttrs_list PySem.F.slot_list_append PySem.F.type_list_append mt_append (pv 6) (pa_cons (pe_tup (pa_cons (pe_ix ix_list (pv 5) (pv 7) (fun _ _ => rfl)) (pa_cons (pv 8) (pa_cons (pv 9) pa_nil)))) pa_nil))))))
      pss_nil))))
      (pss_one (ps_aug (i := 7) sc_findings.nd rfl (Or.inl rfl) pe_int ip_add))))
      (pss_one (ps_ret (pv 6))))))))))), ?_⟩)
  · obtain ⟨a, T, rfl, _⟩ := h; rfl
  · obtain ⟨a, T, rfl, hw, sm, fo, nd, hz, q⟩ := h
    refine q_asgQ (Φ := fun d H1 => H d = none ∧ Ex H H1 ∧ LeadsAt H1 d T) (fun Q1 q1 => wp_call1 ⟨.ref a, rfl, a, T, rfl, hw, sm, by omega, fun d H1 hd e1 LA => q1 d H1 ⟨hd, e1, Or.inl LA⟩⟩) ?_
    rintro d H1 ⟨hd, e1, LA⟩
    obtain ⟨xs, hs, hT⟩ := hw.mono e1
    have xl := hT.length
    refine q_asgQ (Φ := fun pu H2 => ∃ U : List Nat, Ex H1 H2 ∧ H2 pu = some (.lst (U.map sgn)) ∧ U.Pairwise (· < ·) ∧ (∀ c, c ∈ U ↔ ∃ t ∈ T, t.2.1 = c) ∧ U.length ≤ 26) (fun Q1 q1 => wp_cb1 ?_) ?_
    · refine ew_list (K := K) (te := tVar 0) (σ := [some (.ref a), some (.ref d), none, none, none, none, none, none, none, none, none, none]) (ev_var rfl) hs H1 (Ex.refl _) _ fun J H2 e2 wk Dl hD => ?_
      refine ⟨fun i m H' => m = xs.length - i ∧ i ≤ xs.length ∧ Ex H2 H' ∧ H' Dl = some (SetSO P w Dl ((csetL ((T.take i).map fun t => t.2.1)).map fun c => Gw.S [c])), ⟨xs.length, rfl, Nat.zero_le _, Ex.new hD, upd_same⟩, ?_⟩
      rintro i m H' ⟨rfl, hi, ex, hl⟩
      have hst := ex_l (e2.trans ex) hs
      by_cases hlt : i < xs.length
      · refine .inr ⟨wk.go i H' hst hlt, fun H'' => Ex H2 H'' ∧ H'' Dl = some (SetSO P w Dl ((csetL ((T.take (i + 1)).map fun t => t.2.1)).map fun c => Gw.S [c])), fun H'' ⟨b, c⟩ => ⟨xs.length - (i + 1), by omega, rfl, hlt, b, c⟩, ?_⟩
        intro x H'' hy
        obtain ⟨rfl, hx⟩ := wk.yld i H' x H'' hst hlt hy
        obtain ⟨t, ta, hti, rfl, hta⟩ := hT.at hx
        refine g3 rfl (st_of ((e2.trans ex) _ _ hta)) ⟨rfl, ?_⟩
        have few := cset_few sm i
        refine ⟨sgn t.2.1, rfl, Gw.S [t.2.1], _, rfl, hl, by rw [List.length_map]; exact Nat.lt_of_le_of_lt (Nat.succ_le_succ few) (by decide), Ex.mut ex hD, ?_⟩
        have tk : T.take (i + 1) = T.take i ++ [t] := by rw [List.take_add_one, hti]; rfl
        rw [upd_same, addS_map, tk, List.map_append, List.map_singleton, csetL_snoc]
        rfl
      · have hi2 : i = xs.length := by omega
        refine .inl ⟨wk.stop i H' hst (by omega), Dl, _, rfl, hl, by rw [List.length_map]; have := cset_few sm i; omega, fun ys p so pm hp => ?_⟩
        rw [hi2, xl, List.take_length] at pm
        obtain ⟨U, rfl, pU⟩ := perm_map_back pm
        have nU := pU.nodup_iff.mpr (csetL_nodup (T.map fun t => t.2.1))
        refine q1 p _ ⟨U, (e2.trans ex).trans (Ex.new hp), ?_, sorted_one so nU, fun c => ?_, ?_⟩
        · rw [upd_same, List.map_map]; rfl
        · rw [pU.mem_iff, mem_csetL, List.mem_map]
        · rw [pU.length_eq]
          have := cset_few sm T.length
          rwa [List.take_length] at this
    rintro pu H2 ⟨U, e2, h2, so, mU, lU⟩
    have smU : ∀ c ∈ U, 97 ≤ c ∧ c ≤ 122 := fun c hc => by
      obtain ⟨t, ht, rfl⟩ := (mU c).mp hc
      exact sm t ht
    have LsL : ∀ c ∈ (U.flatMap fun c => [c, c - 32]), isL c = true := fun c hc => by
      obtain ⟨b, hb, hc⟩ := List.mem_flatMap.mp hc
      have := smU b hb
      rw [isL_iff]
      rcases List.mem_cons.mp hc with rfl | hc
      · omega
      · rw [List.mem_singleton] at hc; omega
    have LsLen : (U.flatMap fun c => [c, c - 32]).length ≤ 52 := by
      have : ∀ U : List Nat, (U.flatMap fun c => [c, c - 32]).length = 2 * U.length := fun U => by
        induction U with
        | nil => rfl
        | cons c U ih => rw [List.flatMap_cons, List.length_append, ih, List.length_cons]; simp; omega
      rw [this]; omega
    refine q_asg (v := .str (Gw.S (U.flatMap fun c => [c, c - 32]))) (ev_is (ev_joinN (a := Gw.S []) (ys := (U.map fun c => [c, c - 32]).map Gw.S) ev_c (el_lcA (fun x => match x with | .str z => .str (z ++ Txt.upper z) | _ => .non) (ew_list (ev_var rfl) (sq_of h2)) (sq_of h2) kp_list (by rw [List.length_map]; omega) (fun x => rfl) fun x hx H3 e3 => ?_) ?_ ?_) ?_) fun H3 e3 => ?_
    · obtain ⟨c, hc, rfl⟩ := List.mem_map.mp hx
      have hb := smU c hc
      refine ev_op (ev_var rfl) (ev_mS (C := fun a => a.length ≤ 5592405) (g := fun a => .str (Txt.upper a)) (ev_var rfl) (by show (Gw.S [c]).length ≤ _; rw [S_len]; simp)) (rv_addS ?_)
      show (Gw.S [c]).length + (Txt.upper (Gw.S [c])).length ≤ _
      rw [upper_one (isL_iff.mpr (Or.inl hb)), S_len, S_len]
      exact sz_of (by show 1 + 1 ≤ 100000; decide)
    · rw [List.map_map, List.map_map, List.map_map]
      refine List.map_congr_left fun c hc => ?_
      have hb := smU c hc
      show V.str (Gw.S [c] ++ Txt.upper (Gw.S [c])) = V.str (Gw.S [c, c - 32])
      rw [upper_one (isL_iff.mpr (Or.inl hb)), if_pos hb.1, S_app]; rfl
    · rw [S_len, List.map_map, List.map_map]
      have : ∀ U : List Nat, (U.map ((fun x : Str => x.length) ∘ Gw.S ∘ fun c => [c, c - 32])).sum = 2 * U.length := fun U => by
        induction U with
        | nil => rfl
        | cons c U ih =>
          rw [List.map_cons, List.sum_cons, ih, List.length_cons]
          show (Gw.S [c, c - 32]).length + _ = _
          rw [S_len]; simp; omega
      have h1 := this U
      have e : (List.length ([] : List Nat)) = 0 := rfl
      rw [e, Nat.mul_zero, Nat.add_zero]
      exact Nat.le_trans (Nat.le_of_eq h1) (by omega)
    · rw [join_parts]; exact congrArg V.str (congrArg Gw.S (List.flatMap_def.symm))
    have nbU : ∀ r, nbc T r = (U.flatMap fun c => [c, c - 32]).flatMap (glc T r) := nbc_used sm so mU
    generalize (U.flatMap fun c => [c, c - 32]) = Ls at LsL LsLen nbU
    have LA3 := LA.mono (e2.trans e3)
    show tSeq (tAsg (tSetC P w 0) (gName 4)) _ _ _ H3
    intro p hp
    have e4 : Ex H3 (upd H3 p (SetI P w p (fun j => decide (j = 0)) 1)) := Ex.new hp
    have h4 : (upd H3 p (SetI P w p (fun j => decide (j = 0)) 1)) p = some (SetI P w p (fun j => decide (j = 0)) 1) := upd_same
    generalize upd H3 p (SetI P w p (fun j => decide (j = 0)) 1) = H4 at *
    refine gname_go (nx_go ?_)
    refine q_asgL (xs := nats [0]) (el_lst (ea_cons ev_c ea_nil) (by decide)) fun l H5 hl e5 h5 => ?_
    refine q_asgL (xs := []) (el_lst ea_nil (by decide)) fun ps H6 hps e6 h6 => ?_
    refine q_asg (v := .int ((0 : Nat) : Int)) ev_c fun H7 e7 => ?_
    have npl : p ≠ l := fun z => by subst z; rw [h4] at hl; cases hl
    have nls : l ≠ ps := fun z => by subst z; rw [h5] at hps; cases hps
    have nps : p ≠ ps := fun z => by subst z; rw [e5 _ _ h4] at hps; cases hps
    have E3 := (e1.trans e2).trans e3
    have fl3 : H3 l = none := fresh_back e4 hl
    have fs3 : H3 ps = none := fresh_back (e4.trans e5) hps
    have fs : H ps = none := fresh_back E3 fs3
    have E37 : Ex H3 H7 := ((e4.trans e5).trans e6).trans e7
    refine q_while (fun m σ' H' => ∃ i, m = 2 * T.length + 2 - i ∧ i ≤ (fnd T i).length ∧ Nb P w a d p l Ls ps i H3 (fns T i) σ' H') (2 * T.length + 2) ⟨0, rfl, Nat.zero_le _, ⟨_, _, _, rfl⟩, E37, ⟨_, _, ((e5.trans e6).trans e7) _ _ h4, fun r => ?_, Nat.le_refl _⟩, (e6.trans e7) _ _ h5, ⟨[], e7 _ _ h6, .nil⟩⟩ ?_
    · by_cases h : r = 0
      · subst h; rfl
      · rw [decide_eq_false (show ¬ ((r : Int) = 0) by omega)]
        exact (decide_eq_false (show ¬ (r ∈ [0]) by simpa using h)).symm
    rintro m σ' H' ⟨i, rfl, hi, ⟨x2, x8, x9, rfl⟩, ex, ⟨f0, n0, hk, kf, kn⟩, hA, ys, hS, hT'⟩
    have bd := fnd_len T i
    have nf := news_fns T i
    rw [nf] at hA kn
    simp only [nf] at kf
    refine ⟨decide (i < (fnd T i).length), et_is (et_test (ev_op (ev_var rfl) (ev_cb (ea_cons (ev_var rfl) ea_nil) (rc_len (sq_of hA))) rv_I0)) ?_, fun b H8 e8 => ?_, fun b H8 e8 => ?_⟩
    · rw [nats_len]
      by_cases h : i < (fnd T i).length
      · rw [decide_eq_true h, decide_eq_true (by omega)]
      · rw [decide_eq_false h, decide_eq_false (by omega)]
    · have hlt : i < (fnd T i).length := of_decide_eq_true b
      obtain ⟨r, hr⟩ : ∃ r, (fnd T i)[i]? = some r := ⟨_, List.getElem?_eq_getElem hlt⟩
      have pre : ∀ l, (news (stpAll r (fns T i) l))[i]? = some r := fun l => by
        rw [news_stpAll, nf]
        obtain ⟨q, hq⟩ := addAll_pre (l.map (·.2)) (fnd T i)
        rw [← hq, List.getElem?_append_left hlt]; exact hr
      have rm : ∀ x ∈ fnd T i, x ∈ rms T := fun x hx => (fnd_rms hx).1
      refine ⟨fun σ2 H9 => Nb P w a d p l Ls ps (i + 1) H3 (fns T (i + 1)) σ2 H9, fun σ2 H9 o => ⟨2 * T.length + 2 - (i + 1), by omega, i + 1, rfl, ?_, o⟩, ?_⟩
      · have := (fnd_pre1 T i).length_le
        by_cases h : (fnd T (i + 1)).length ≤ i
        · omega
        · omega
      refine q_for (ew_str (ev_var rfl)) (fun j σ2 H9 => Nb P w a d p l Ls ps i H3 (stpAll r (fns T i) ((Ls.take j).flatMap (glc T r))) σ2 H9) (fun H9 e9 => ⟨⟨_, _, _, rfl⟩, (ex.trans e8).trans e9, ⟨f0, n0, (e8.trans e9) _ _ hk, fun x => by rw [kf]; show _ = decide (x ∈ news (fns T i)); rw [nf], by show n0 ≤ (news (fns T i)).length; rw [nf]; exact kn⟩, by show H9 l = some (HO.lst (nats (news (fns T i)))); rw [nf]; exact (e8.trans e9) _ _ hA, ⟨ys, (e8.trans e9) _ _ hS, hT'.mono (e8.trans e9)⟩⟩) (fun _ _ _ _ _ => trivial) ?_ ?_
      · rintro j x σ2 H9 hx ⟨⟨y2, y8, y9, rfl⟩, ex9, ⟨f9, n9, hk9, kf9, kn9⟩, hA9, ys9, hS9, hT9⟩
        rw [S_cps] at hx
        obtain ⟨c, hc, rfl⟩ : ∃ c, Ls[j]? = some c ∧ x = sgn c := by
          rw [List.getElem?_map] at hx
          cases hc : Ls[j]? with
          | none => rw [hc] at hx; cases hx
          | some c => rw [hc] at hx; exact ⟨c, rfl, (Option.some.inj hx).symm⟩
        have cL := LsL c (List.mem_of_getElem? hc)
        have tk : Ls.take (j + 1) = Ls.take j ++ [c] := by rw [List.take_add_one, hc]; rfl
        have tk2 : stpAll r (fns T i) ((Ls.take (j + 1)).flatMap (glc T r)) = stpAll r (stpAll r (fns T i) ((Ls.take j).flatMap (glc T r))) (glc T r c) := by
          rw [tk, List.flatMap_append, List.flatMap_singleton]; exact List.foldl_append
        rw [tk2]
        have hpre := pre ((Ls.take j).flatMap (glc T r))
        have sz : (news (stpAll r (fns T i) ((Ls.take j).flatMap (glc T r)))).length ≤ 2 * T.length + 1 := by
          rw [news_stpAll, nf]
          refine addAll_sub (T := T) (A := fnd T i) rm (fun x hx => ?_) (fnd_nodup T i)
          obtain ⟨y, hy, rfl⟩ := List.mem_map.mp hx
          obtain ⟨c2, hc2, hy⟩ := List.mem_flatMap.mp hy
          unfold glc at hy
          obtain ⟨z, hz, rfl⟩ := List.mem_map.mp hy
          exact ((mem_gl (LsL c2 (List.mem_of_mem_take hc2))).mp hz).rms.2
        generalize stpAll r (fns T i) ((Ls.take j).flatMap (glc T r)) = L0 at *
        have l0 : (news L0).length = L0.length + 1 := by unfold news; rw [List.length_cons, List.length_map]
        have y9l : ys9.length = L0.length := hT9.length
        have LA9 : LeadsAt H9 d T := LA3.mono ex9
        obtain ⟨o, ho, hgl, hold⟩ := leads_val sm fo nd (r := r) cL
        rw [nbc_small hgl]
        show tSeq (tAsg (tDGet1 (tVar 1) (tTup (tCons (tOp (rIxL K) (tVar 5) (tVar 7)) (tCons (tVar 8) tNil)))) (gName 9)) _ _ [some (.ref a), some (.ref d), y2, some (.str (Gw.S Ls)), some (.ref p), some (.ref l), some (.ref ps), some (.int (i : Nat)), some (sgn c), y9, none, none] H9
        refine ⟨.ref d, rfl, d, rfl, Or.inr ⟨_, LA9⟩, ?_⟩
        refine eu_tup (vs := [.int (r : Nat), sgn c]) (ea_cons (ev_op (ev_var rfl) (ev_var rfl) (rv_ixL (sq_of hA9) (atI_nat (nats_at hpre)))) (ea_cons (ev_var rfl) ea_nil)) (by show 2 ≤ 100000; decide) H9 (Ex.refl _) _ fun pk H10 hpk e10 h10 => ?_
        refine ⟨valV (kvOf (links T)) (key r c), Or.inr ⟨_, key r c, pk, ex_rd e10 LA9, rfl, by rw [h10]; rfl, rfl⟩, ?_⟩
        rw [ho]
        refine gname_go (nx_go ?_)
        have hk10 := e10 _ _ hk9
        have hA10 := e10 _ _ hA9
        have hS10 := e10 _ _ hS9
        have hT10 := hT9.mono e10
        cases o with
        | none =>
          show tIfS _ _ _ _ [some (.ref a), some (.ref d), y2, some (.str (Gw.S Ls)), some (.ref p), some (.ref l), some (.ref ps), some (.int (i : Nat)), some (sgn c), some .non, none, none] H10
          exact s_when (et_is (et_and (b := true) (et_is (et_test (ev_op (ev_var rfl) ev_c rv_notN)) (b := false) rfl) (fun z => by cases z)) rfl) (fun z => by cases z) fun _ H11 e11 => ⟨⟨_, _, _, rfl⟩, (ex9.trans e10).trans e11, ⟨f9, n9, e11 _ _ hk10, kf9, kn9⟩, e11 _ _ hA10, ⟨ys9, e11 _ _ hS10, hT10.mono e11⟩⟩
        | some g =>
          show tIfS _ _ _ _ [some (.ref a), some (.ref d), y2, some (.str (Gw.S Ls)), some (.ref p), some (.ref l), some (.ref ps), some (.int (i : Nat)), some (sgn c), some (.int (g : Nat)), none, none] H10
          have ea : stpAll r L0 ((some g).toList.map fun s => (c, s)) = stp1 r L0 (c, g) := rfl
          rw [ea]
          have ms := hold g |>.mp rfl
          refine s_when (b := !decide (g ∈ news L0)) (et_is (et_and (et_is (et_test (ev_op (ev_var rfl) ev_c rv_notN)) (b := true) rfl) (fun _ => et_test (ev_op (ev_var rfl) (ev_var rfl) (z := .bl (!f9 (g : Nat))) fun H11 e11 Q2 q2 => ⟨_, p, f9, n9, rfl, rfl, e11 _ _ hk10, q2 H11 (Ex.refl _)⟩))) ?_) (fun b H11 e11 => ?_) (fun b H11 e11 => ?_)
          · rw [kf9, Bool.true_and]
          · have ni : g ∉ news L0 := fun z => by rw [decide_eq_true z] at b; cases b
            have hk11 := e11 _ _ hk10
            have hA11 := e11 _ _ hA10
            have hS11 := e11 _ _ hS10
            have hT11 := hT10.mono e11
            show tSeq (tDrop (tSAddI P w (tVar 4) (tCons (tVar 9) tNil))) _ _ [some (.ref a), some (.ref d), y2, some (.str (Gw.S Ls)), some (.ref p), some (.ref l), some (.ref ps), some (.int (i : Nat)), some (sgn c), some (.int (g : Nat)), none, none] H11
            refine ⟨.ref p, rfl, ⟨p, f9, n9, rfl, hk11⟩, .int (g : Nat), rfl, p, _, f9, n9, rfl, rfl, hk11, by show _ < 4096; omega, ?_⟩
            have fg : f9 (g : Nat) = false := by rw [kf9]; exact decide_eq_false ni
            rw [fg, if_neg Bool.false_ne_true]
            have ex12 : Ex H3 (upd H11 p (SetI P w p (fun j => f9 j || decide (j = (g : Nat))) (n9 + 1))) := Ex.mut ((ex9.trans e10).trans e11) hp
            have hk12 : (upd H11 p (SetI P w p (fun j => f9 j || decide (j = (g : Nat))) (n9 + 1))) p = some (SetI P w p (fun j => f9 j || decide (j = (g : Nat))) (n9 + 1)) := upd_same
            have hA12 : (upd H11 p (SetI P w p (fun j => f9 j || decide (j = (g : Nat))) (n9 + 1))) l = some (.lst (nats (news L0))) := by rw [upd_ne npl.symm]; exact hA11
            have hS12 : (upd H11 p (SetI P w p (fun j => f9 j || decide (j = (g : Nat))) (n9 + 1))) ps = some (.lst ys9) := by rw [upd_ne nps.symm]; exact hS11
            have hT12 : Ties (upd H11 p (SetI P w p (fun j => f9 j || decide (j = (g : Nat))) (n9 + 1))) ys9 L0 := ties_dk hT11 fun l z => by rw [hk11] at z; cases z
            generalize upd H11 p (SetI P w p (fun j => f9 j || decide (j = (g : Nat))) (n9 + 1)) = H12 at *
            refine q_app hA12 (ev_var rfl) (ev_var rfl) (by rw [nats_len]; omega) fun H13 e13 => ?_
            have ex14 : Ex H3 (upd H13 l (.lst (nats (news L0) ++ [.int (g : Nat)]))) := Ex.mut (ex12.trans e13) fl3
            have hA13 := e13 _ _ hA12
            have hk14 : (upd H13 l (.lst (nats (news L0) ++ [.int (g : Nat)]))) p = some (SetI P w p (fun j => f9 j || decide (j = (g : Nat))) (n9 + 1)) := by rw [upd_ne npl]; exact e13 _ _ hk12
            have hA14 : (upd H13 l (.lst (nats (news L0) ++ [.int (g : Nat)]))) l = some (.lst (nats (news L0 ++ [g]))) := by rw [upd_same]; unfold nats; rw [List.map_append]; rfl
            have hS14 : (upd H13 l (.lst (nats (news L0) ++ [.int (g : Nat)]))) ps = some (.lst ys9) := by rw [upd_ne nls.symm]; exact e13 _ _ hS12
            have hT14 : Ties (upd H13 l (.lst (nats (news L0) ++ [.int (g : Nat)]))) ys9 L0 := ties_dk (hT12.mono e13) fun l2 z => by rw [hA13] at z; cases z
            generalize upd H13 l (.lst (nats (news L0) ++ [.int (g : Nat)])) = H14 at *
            have hpre2 : (news L0 ++ [g])[i]? = some r := by rw [List.getElem?_append_left (by have := (List.getElem?_eq_some_iff.mp hpre).1; exact this)]; exact hpre
            refine s_appU (ys := tieV (r, c, g)) hS14 (ev_var rfl) (eu_tup (ea_cons (ev_op (ev_var rfl) (ev_var rfl) (rv_ixL (sq_of hA14) (atI_nat (nats_at hpre2)))) (ea_cons (ev_var rfl) (ea_cons (ev_var rfl) ea_nil))) (by show 3 ≤ 100000; decide)) (by omega) fun pu H15 hpu e15 h15 => ?_
            have npu : pu ≠ ps := fun z => by subst z; rw [hS14] at hpu; cases hpu
            have hS15 := e15 _ _ hS14
            have en : stp1 r L0 (c, g) = L0 ++ [(r, c, g)] := if_neg ni
            rw [en]
            refine ⟨⟨_, _, _, rfl⟩, Ex.mut (ex14.trans e15) fs3, ⟨fun j => f9 j || decide (j = (g : Nat)), n9 + 1, ?_, fun x => ?_, ?_⟩, ?_, ys9 ++ [.ref pu], upd_same, ?_⟩
            · rw [upd_ne nps]; exact e15 _ _ hk14
            · show (f9 (x : Nat) || decide ((x : Int) = (g : Nat))) = _
              rw [kf9, news_snoc]
              by_cases h1 : x ∈ news L0
              · rw [decide_eq_true h1, decide_eq_true (List.mem_append.mpr (Or.inl h1))]; rfl
              · by_cases h2 : x = g
                · subst h2
                  rw [decide_eq_false h1, decide_eq_true rfl, decide_eq_true (List.mem_append.mpr (Or.inr (List.mem_singleton.mpr rfl)))]; rfl
                · rw [decide_eq_false h1, decide_eq_false (show ¬ ((x : Int) = (g : Nat)) by omega), decide_eq_false fun z => by
                    rcases List.mem_append.mp z with z | z
                    · exact h1 z
                    · exact h2 (List.mem_singleton.mp z)]; rfl
            · rw [news_snoc, List.length_append, List.length_singleton]; omega
            · rw [upd_ne nls, news_snoc]; exact e15 _ _ hA14
            · refine Ties.app ((hT14.mono e15).upd hS15) (.cons ⟨pu, rfl, ?_⟩ .nil)
              rw [upd_ne npu]; exact h15
          · have hi2 : g ∈ news L0 := by
              by_cases h : g ∈ news L0
              · exact h
              · rw [decide_eq_false h] at b; cases b
            have ea2 : stp1 r L0 (c, g) = L0 := if_pos hi2
            rw [ea2]
            exact ⟨⟨_, _, _, rfl⟩, (ex9.trans e10).trans e11, ⟨f9, n9, e11 _ _ hk10, kf9, kn9⟩, e11 _ _ hA10, ⟨ys9, e11 _ _ hS10, hT10.mono e11⟩⟩
      · rintro σ2 H9 ⟨⟨y2, y8, y9, rfl⟩, ex9, ⟨f9, n9, hk9, kf9, kn9⟩, hA9, ys9, hS9, hT9⟩
        rw [List.length_map, S_cps, List.take_length, ← nbU, ← fns_succ hr] at hA9 kn9 hT9
        rw [List.length_map, S_cps, List.take_length, ← nbU, ← fns_succ hr] at kf9
        exact s_aug (f := fun a b => a + b) (b := 1) rfl ev_c fun H10 e10 => ⟨⟨_, _, _, rfl⟩, ex9.trans e10, ⟨f9, n9, e10 _ _ hk9, kf9, kn9⟩, e10 _ _ hA9, ⟨ys9, e10 _ _ hS9, hT9.mono e10⟩⟩
    · have hge : (fnd T i).length ≤ i := by have := of_decide_eq_false b; omega
      rw [fin_of hge] at hT'
      refine s_ret (ev_var rfl) fun H9 e9 => q ps H9 ys fs (((E3.trans ex).trans e8).trans e9) ((e8.trans e9) _ _ hS) (hT'.mono (e8.trans e9))
end
end Gw

/-! ## Pr -/
namespace Gw
open PySem PySem.Spec PyProof.Rows L2 Evl
abbrev s_numbering : Stmt := topS 9
theorem sc_numbering : FnScope ["ties", "numbers", "start", "letter", "end"] ["ties"] (defScope s_numbering) := ⟨rfl, rfl, rfl, by decide +kernel, rfl, by decide +kernel, by decide +kernel⟩
abbrev s_renumbered : Stmt := topS 10
theorem sc_renumbered : FnScope ["ties", "numbers", "first", "letter", "second"] ["ties"] (defScope s_renumbered) := ⟨rfl, rfl, rfl, by decide +kernel, rfl, by decide +kernel, by decide +kernel⟩
section
variable {P : Program} {w : World} {K : PySem.W.Frag} {mg : Str → Option Value} {base : Heap}
theorem ok_numbering (D : Def K mg "numbering" s_numbering ["ties"]) (B : Blt mg) (C_findings : Cal P w K mg base CX0 "findings" 7 ["ties"] (sp_findings K)) : Cal P w K mg base CX0 "numbering" 8 ["ties"] (sp_numbering K) := by
  refine D.cal sc_numbering (fun vs H Q E h => ?_) (fun f cdv A outer s H vs Q E hr h => ⟨_, (pss_cons (ps_set (i := 1) sc_numbering.nd rfl (Or.inl rfl) (pe_disp (pps_cons pe_int pe_int pps_nil) (by rfl) (by rfl) (fun z => by cases z) (by decide)))
      (pss_cons (ps_for PassesOwn.never rfl (pi_list (pe_callC C_findings (hr.mono (by decide)) rfl pass0 (pa_cons (pv 0) pa_nil))) (pg_tup (n := 3) rfl (pgs_cons (pg_name (i := 2) sc_numbering.nd rfl (Or.inl rfl)) (pgs_cons (pg_name (i := 3) sc_numbering.nd rfl (Or.inl rfl)) (pgs_cons (pg_name (i := 4) sc_numbering.nd rfl (Or.inl rfl)) pgs_nil))))
      (pss_one (ps_dput (hu_of hr) (pv 1) (pv 4) (pe_callB call_lenD (by rfl) B.z_len (by decide +kernel) (pa_cons (pv 1) pa_nil)) rfl)))
      (pss_one (ps_ret (pv 1))))), ?_⟩)
  · obtain ⟨a, T, rfl, _⟩ := h; rfl
  · obtain ⟨a, T, rfl, hw, sm, fo, nd, hz, q⟩ := h
    show tSeq (tAsg (tDisp [(tC (.int 0), tC (.int 0))]) (gName 1)) _ _ [some (.ref a), none, none, none, none] H
    intro p hp
    refine ⟨upd_same, [((.inl ((0 : Nat) : Int) : Key), .int ((0 : Nat) : Int))], rfl, by decide, ?_⟩
    have e1 : Ex H (upd (upd H p (.dK [])) p (.dK (mergeK [] [((.inl ((0 : Nat) : Int) : Key), .int ((0 : Nat) : Int))]))) := Ex.mut (Ex.new hp) hp
    have h1 : (upd (upd H p (.dK [])) p (.dK (mergeK [] [((.inl ((0 : Nat) : Int) : Key), .int ((0 : Nat) : Int))]))) p = some (.dK (numKV (news []))) := upd_same
    generalize upd (upd H p (.dK [])) p (.dK (mergeK [] [((.inl ((0 : Nat) : Int) : Key), .int ((0 : Nat) : Int))])) = H1 at *
    refine gname_go (nx_go ?_)
    refine q_forC (wp_call1 ⟨.ref a, rfl, a, T, rfl, hw.mono e1, sm, fo, nd, hz, fun r H2 ys hr2 e2 h2 hT => ?_⟩)
    have npr : p ≠ r := fun z => by subst z; rw [h1] at hr2; cases hr2
    have fr : H r = none := fresh_back e1 hr2
    have S := steps_fin T
    have fl : (news (fin T)).length ≤ 2 * T.length + 1 := by rw [news_fin]; exact fnd_len T _
    refine q_for (ew_list ev_c (sq_of h2)) (fun i σ' H' => ∃ x2 x3 x4, σ' = [some (.ref a), some (.ref p), x2, x3, x4] ∧ Ex H H' ∧ H' r = some (.lst ys) ∧ Ties H' ys (fin T) ∧ H' p = some (.dK (numKV (news ((fin T).take i))))) (fun H3 e3 => ⟨_, _, _, rfl, (e1.trans e2).trans e3, e3 _ _ h2, hT.mono e3, (e2.trans e3) _ _ h1⟩) (fun i σ' H' _ ⟨_, _, _, _, _, e, _⟩ => sq_of e) ?_ ?_
    · rintro i x σ' H' hx ⟨x2, x3, x4, rfl, ex, h3, hT3, hk⟩
      obtain ⟨t, ta, hti, rfl, hta⟩ := hT3.at hx
      have tk : (fin T).take (i + 1) = (fin T).take i ++ [t] := by rw [List.take_add_one, hti]; rfl
      have ne : t.2.2 ∉ news ((fin T).take i) := fun z => by
        have n1 := S.nd
        have : fin T = (fin T).take (i + 1) ++ (fin T).drop (i + 1) := (List.take_append_drop _ _).symm
        rw [this, tk] at n1
        unfold news at n1 z
        rw [List.map_append, List.map_append, ← List.cons_append, ← List.cons_append, List.nodup_append, List.nodup_append] at n1
        exact n1.1.2.2 _ z _ (by simp) rfl
      have ndi : (news ((fin T).take i)).Nodup := by
        have n1 := S.nd
        rw [(List.take_append_drop i (fin T)).symm] at n1
        unfold news at n1 ⊢
        rw [List.map_append, ← List.cons_append, List.nodup_append] at n1
        exact n1.1
      have nl : (numKV (news ((fin T).take i))).length ≤ 2 * T.length + 1 := by
        rw [numKV_len]
        refine Nat.le_trans ?_ fl
        unfold news
        rw [List.length_cons, List.length_cons, List.length_map, List.length_map, List.length_take]
        have := Nat.min_le_right i (fin T).length
        omega
      refine g3 rfl (st_of hta) ?_
      show sDPut (tVar 1) (tVar 4) (tCB _ (tCons (tVar 1) tNil)) _ [some (.ref a), some (.ref p), some (.int (t.1 : Nat)), some (sgn t.2.1), some (.int (t.2.2 : Nat))] H'
      have nkl : (numKV (news ((fin T).take i))).length = (news ((fin T).take i)).length := numKV_len _
      refine ⟨.ref p, rfl, p, _, rfl, hk, .ref p, rfl, .int (t.2.2 : Nat), rfl, p, _, rfl, DPut.k (k := .inl (t.2.2 : Nat)) hk (sz_lt (by omega)), _, _, _, rfl, Ex.mut ex hp, ?_, ?_, ?_⟩
      · rw [upd_ne npr.symm]; exact h3
      · exact ties_dk hT3 fun l z => by rw [hk] at z; cases z
      · rw [upd_same, nkl, numKV_put ndi ne, tk, news_snoc]
    · rintro σ' H' ⟨x2, x3, x4, rfl, ex, h3, hT3, hk⟩
      rw [hT.length, List.take_length, news_fin] at hk
      exact s_ret (ev_var rfl) fun H4 e4 => q p H4 hp (ex.trans e4) (e4 _ _ hk)
theorem ok_renumbered (D : Def K mg "renumbered" s_renumbered ["ties"]) (B : Blt mg) (C_numbering : Cal P w K mg base CX0 "numbering" 8 ["ties"] (sp_numbering K)) : Cal P w K mg base CX0 "renumbered" 9 ["ties"] (sp_renumbered K) := by
  refine D.cal sc_renumbered (fun vs H Q E h => ?_) (fun f cdv A outer s H vs Q E hr h => ⟨_, (pss_cons (ps_set (i := 1) sc_renumbered.nd rfl (Or.inr rfl) (pe_callC C_numbering (hr.mono (by decide)) rfl pass0 (pa_cons (pv 0) pa_nil)))
      (pss_one (ps_ret (pe_callB cr_sorted3 (by rfl) B.z_sorted (by decide +kernel) (pa_cons (pe_lc (own := [("first", 2), ("letter", 3), ("second", 4)]) rfl sc_renumbered.nd (pi_list (pv 0)) (blkOk_by (own := [("first", 2), ("letter", 3), ("second", 4)]) (N := ["ties", "numbers", "first", "letter", "second"]) (sc := defScope s_renumbered) (by decide +kernel)) (fun _ _ _ _ _ => (pg_tupB (n := 3) rfl (pgs_cons (pg_name (i := 2) sc_renumbered.nd rfl (Or.inl rfl)) (pgs_cons (pg_name (i := 3) sc_renumbered.nd rfl (Or.inl rfl)) (pgs_cons (pg_name (i := 4) sc_renumbered.nd rfl (Or.inl rfl)) pgs_nil))))) (fun _ _ _ _ _ => (pts_one (pt_cmp (pc_din (hu_of hr) (pv 2) (pv 1))))) (fun _ _ _ _ _ => (pe_tup (pa_cons (pe_dget (hu_of hr) (pv 1) (pv 2) (fun _ _ => rfl)) (pa_cons (pv 3) (pa_cons (pe_dget (hu_of hr) (pv 1) (pv 4) (fun _ _ => rfl)) pa_nil)))))) pa_nil))))), ?_⟩)
  · obtain ⟨a, T, rfl, _⟩ := h; rfl
  · obtain ⟨a, T, rfl, hw, sm, fo, nd, hz, q⟩ := h
    refine q_asgQ (Φ := fun d H1 => H d = none ∧ Ex H H1 ∧ NumAt H1 d (ord T)) (fun Q1 q1 => wp_call1 ⟨.ref a, rfl, a, T, rfl, hw, sm, fo, nd, hz, fun d H1 hd e1 hN => q1 d H1 ⟨hd, e1, hN⟩⟩) ?_
    rintro d H1 ⟨hd, e1, hN⟩
    obtain ⟨xs, hs, hT⟩ := hw.mono e1
    have N := numKV_num rfl (ord_nodup T)
    show tRet (tCB (rSort3 K) (tCons (tLc (iList K (tVar 0)) (gTup K 3 (gCons (gName 2) (gCons (gName 3) (gCons (gName 4) gNil)))) (tTest (tDIn (tVar 2) (tVar 1))) (tTup (tCons (tDGet (tVar 1) (tVar 2)) (tCons (tVar 3) (tCons (tDGet (tVar 1) (tVar 4)) tNil)))) [2, 3, 4]) tNil)) _ [some (.ref a), some (.ref d), none, none, none] H1
    refine wp_cb1 (wp_tiesTiesF (fun t => decide (t.1 ∈ ord T)) (fun t => (pos T t.1, t.2.1, pos T t.2.2)) (ev_var rfl) hs hT (by omega) (fun x y z => rfl) (fun u hu H5 e5 => ?_) (fun u hu hp H5 e5 => ?_) fun pz H5 ys hpz e5 h5 hT5 => ?_)
    · refine et_is (et_test (ev_dinK (k := .inl (u.1 : Nat)) (ev_var rfl) (ev_var rfl) (Or.inl (e5 _ _ hN)))) ?_
      rw [N.1]
      by_cases h : u.1 ∈ ord T
      · rw [if_pos h, decide_eq_true h]; rfl
      · rw [if_neg h, decide_eq_false h]; rfl
    · have m1 : u.1 ∈ ord T := of_decide_eq_true hp
      have m2 : u.2.2 ∈ ord T := ord_closed m1 (ld_fst sm hu)
      exact eu_tup (ea_cons (ev_dgetK (k := .inl (u.1 : Nat)) (ev_var rfl) (ev_var rfl) (Or.inl (e5 _ _ hN)) (by rw [N.1, if_pos m1]; rfl)) (ea_cons (ev_var rfl) (ea_cons (ev_dgetK (k := .inl (u.2.2 : Nat)) (ev_var rfl) (ev_var rfl) (Or.inl (e5 _ _ hN)) (by rw [N.1, if_pos m2]; rfl)) ea_nil))) (by show 3 ≤ 100000; decide)
    · have cn : (come T).Nodup := nd.filter _
      have cm : ∀ t ∈ come T, t.1 ∈ ord T ∧ t.2.2 ∈ ord T := fun t ht => by
        obtain ⟨h1, h2⟩ := List.mem_filter.mp ht
        have m1 : t.1 ∈ ord T := of_decide_eq_true h2
        exact ⟨m1, ord_closed m1 (ld_fst sm h1)⟩
      have nd2 : (tmap (pos T) (come T)).Nodup := by
        unfold tmap
        refine nodup_map (fun x hx y hy e => ?_) cn
        simp only [Prod.mk.injEq] at e
        exact Prod.ext (pos_inj (cm x hx).1 (cm y hy).1 e.1) (Prod.ext e.2.1 (pos_inj (cm x hx).2 (cm y hy).2 e.2.2))
      refine wp_sort3 (T := tmap (pos T) (come T)) ⟨ys, sq_of h5, hT5⟩ nd2 fun rr H6 ys2 U hrr e6 h6 hT6 so mU lU => ?_
      exact q rr H6 ys2 U (fresh_back (e1.trans e5) hrr) ((e1.trans e5).trans e6) h6 hT6 so mU (by rw [lU]; unfold tmap; rw [List.length_map])
end
end Gw

/-! ## Ph -/
namespace Gw
open PySem PySem.Spec PyProof.Rows L2 Evl
abbrev s_web_of : Stmt := topS 26
theorem sc_web_of : FnScope ["words", "word"] ["words"] (defScope s_web_of) := ⟨rfl, rfl, rfl, by decide +kernel, rfl, by decide +kernel, by decide +kernel⟩
section
variable {P : Program} {w : World} {K : PySem.W.Frag} {mg : Str → Option Value} {base : Heap} {C_GlueError C_BadWord C_BadWeb : Addr}
theorem ok_web_of (D : Def K mg "web_of" s_web_of ["words"]) (C_short : Cal P w K mg base (L2.CX P w) "short" 6 ["word"] (sp_short C_BadWord)) (C_rings : Cal P w K mg base CX0 "rings" 2 ["words"] (sp_rings K)) (C_folded : Cal P w K mg base CX0 "folded" 3 ["ties"] (sp_folded K)) (C_renumbered : Cal P w K mg base CX0 "renumbered" 9 ["ties"] (sp_renumbered K)) : Cal P w K mg base (L2.CX P w) "web_of" 15 ["words"] (sp_web K C_BadWord) := by
  refine D.calX sc_web_of (fun vs H Q E h => ?_) (fun f cdv A outer s H vs Q E hr h => ⟨_, (pss_one (ps_ret (pe_callC C_renumbered (hr.mono (by decide)) rfl pass0 (pa_cons (pe_callC C_folded (hr.mono (by decide)) rfl pass0 (pa_cons (pe_callC C_rings (hr.mono (by decide)) rfl pass0 (pa_cons (pe_lcX (own := [("word", 1)]) (g := (gName 1)) rfl sc_web_of.nd (pi_list (pv 0)) (blkOk_by (own := [("word", 1)]) (N := ["words", "word"]) (sc := defScope s_web_of) (by decide +kernel)) (fun _ _ _ _ _ => (pg_name (i := 1) sc_web_of.nd rfl (Or.inl rfl))) (fun _ _ _ _ _ => pts_nil) (takes_of rfl rfl rfl rfl) (fun _ _ _ _ h => h) rfl rfl (fun _ _ _ _ _ _ hp => (pe_callC C_short (hr.mono (by decide)) rfl hp (pa_cons (pv 1) pa_nil)))) pa_nil)) pa_nil)) pa_nil)))), ?_⟩)
  · obtain ⟨a, xs, rfl, _⟩ := h; rfl
  · obtain ⟨a, xs, rfl, hs, ⟨ws, rfl, W, q⟩ | ⟨u, x, r, rfl, W, hn, hr2, hE⟩⟩ := h
    · have wl := W.len
      have L : EvL (tLc (iList K (tVar 0)) (gName 1) tYes (tCall (sp_short C_BadWord) [] E (tCons (tVar 1) tNil)) [1]) [some (.ref a), none] H (wdsV (ws.map short)) := by
        refine el_is (el_lcA (fun x => match x with | .str z => .str (S (short z.cps.toList)) | _ => .non) (ew_list (ev_var rfl) hs) hs kp_list (by rw [wordsV_len]; omega) (fun x => rfl) fun x hx H1 e1 => ?_) ?_
        · unfold wordsV at hx
          obtain ⟨z, hz, rfl⟩ := List.mem_map.mp hx
          refine ev_is (ev_call (ea_cons (ev_var rfl) ea_nil) (sv_short (l := z) (W.each hz) (W.all z hz))) ?_
          show _ = V.str (Gw.S (short (Gw.S z).cps.toList))
          rw [S_cps]
        · unfold wordsV wdsV
          rw [List.map_map, List.map_map]
          refine List.map_congr_left fun z _ => ?_
          show V.str (Gw.S (short (Gw.S z).cps.toList)) = _
          rw [S_cps]; rfl
      have sum := W.sum
      have sm : (((ws.map short).map List.length).sum) = (ws.map fun w => (short w).length).sum := by rw [List.map_map]; rfl
      have shw : ShW (ws.map short) := ⟨by rw [sm]; exact sum, by rw [List.length_map]; exact wl, fun z hz => by
        obtain ⟨y, hy, rfl⟩ := List.mem_map.mp hz
        exact ⟨Nat.le_trans (short_len (W.all y hy)) (W.each hy), short_isW (W.all y hy)⟩⟩
      have B2 : AllW (ws.map short) := fun z hz => (shw.2.2 z hz).2
      refine ret_go (wp_call1 (wp_call1 (wp_call1 (L H (Ex.refl _) _ fun p H1 hp e1 h1 => ?_))))
      refine ⟨p, ws.map short, rfl, sq_of h1, shw, fun R n rg pr H2 ys hpr e2 h2 hT => ?_⟩
      have G := rg.ring B2 fun z hz => by
        obtain ⟨y, hy, rfl⟩ := List.mem_map.mp hz
        exact short_shrt (W.all y hy)
      have gl := G.len
      have gr := G.rms
      rw [sm] at gl gr
      refine ⟨pr, R, n, rfl, ⟨ys, sq_of h2, hT⟩, G.small, by omega, G.bd, by omega, fun T rp Q0 nd pt H3 zs hpt e3 h3 hT3 => ?_⟩
      have C := Q0.core G nd
      have tl := Q0.len nd
      refine ⟨pt, T, rfl, ⟨zs, sq_of h3, hT3⟩, C.small, C.fold, nd, by omega, fun rr H6 ys2 U hrr e6 h6 hT6 so mU lU => ?_⟩
      rw [come_all C.conn] at mU lU
      exact q rr H6 ys2 U (fresh_back ((e1.trans e2).trans e3) hrr) (((e1.trans e2).trans e3).trans e6) h6 hT6 (web_made W.all rg Q0 nd so mU (by rw [lU]; unfold tmap; rw [List.length_map])).2
    · have ul : (wordsV u).length = u.length := wordsV_len u
      have hlen : u.length < (wordsV u ++ x :: r).length := by rw [List.length_append, ul, List.length_cons]; omega
      have wl := W.len
      refine ret_go (wp_call1 (wp_call1 (wp_call1 (lc_raise (n := u.length) (fun x => match x with | .str z => .str (S (short z.cps.toList)) | _ => .non) (ev_var rfl) hs hlen (by omega) (fun x => rfl) (fun i y hi hy H1 e1 => ?_) (fun y hy H1 e1 Q2 => ?_)))))
      · rw [List.getElem?_append_left (by rw [ul]; exact hi)] at hy
        unfold wordsV at hy
        rw [List.getElem?_map] at hy
        cases hu : u[i]? with
        | none => rw [hu] at hy; cases hy
        | some z =>
          rw [hu] at hy
          cases hy
          have mz := List.mem_of_getElem? hu
          refine ev_is (ev_call (ea_cons (ev_var rfl) ea_nil) (sv_short (l := z) (W.each mz) (W.all z mz))) ?_
          show _ = V.str (Gw.S (short (Gw.S z).cps.toList))
          rw [S_cps]
      · rw [List.getElem?_append_right (by rw [ul]; exact Nat.le_refl _), ul, Nat.sub_self] at hy
        cases hy
        refine ⟨x, rfl, x, rfl, Or.inr ⟨hn.mono e1, fun H' e' => hE H' (e1.trans e')⟩⟩
end
end Gw

/-! ## Pi1 -/
namespace Gw
open PySem PySem.Spec PyProof.Rows L2 Evl
abbrev s_is_small : Stmt := topS 18
theorem sc_is_small : FnScope ["thing"] ["thing"] (defScope s_is_small) := ⟨rfl, rfl, rfl, by decide +kernel, rfl, by decide +kernel, by decide +kernel⟩
abbrev s__is_room : Stmt := topS 29
theorem sc__is_room : FnScope ["thing"] ["thing"] (defScope s__is_room) := ⟨rfl, rfl, rfl, by decide +kernel, rfl, by decide +kernel, by decide +kernel⟩
abbrev s__is_tie : Stmt := topS 28
theorem sc__is_tie : FnScope ["thing", "first", "letter", "second"] ["thing"] (defScope s__is_tie) := ⟨rfl, rfl, rfl, by decide +kernel, rfl, by decide +kernel, by decide +kernel⟩
abbrev s__is_rising : Stmt := topS 30
theorem sc__is_rising : FnScope ["ties", "tie", "after"] ["ties"] (defScope s__is_rising) := ⟨rfl, rfl, rfl, by decide +kernel, rfl, by decide +kernel, by decide +kernel⟩
abbrev s__is_folded : Stmt := topS 31
theorem sc__is_folded : FnScope ["ties"] ["ties"] (defScope s__is_folded) := ⟨rfl, rfl, rfl, by decide +kernel, rfl, by decide +kernel, by decide +kernel⟩
abbrev s__is_numbered : Stmt := topS 32
theorem sc__is_numbered : FnScope ["ties", "numbers", "first", "letter", "second", "room", "number"] ["ties"] (defScope s__is_numbered) := ⟨rfl, rfl, rfl, by decide +kernel, rfl, by decide +kernel, by decide +kernel⟩
abbrev s__has_no_dead_end : Stmt := topS 33
theorem sc__has_no_dead_end : FnScope ["ties", "ends", "first", "letter", "second", "room", "many"] ["ties"] (defScope s__has_no_dead_end) := ⟨rfl, rfl, rfl, by decide +kernel, rfl, by decide +kernel, by decide +kernel⟩
section
variable {P : Program} {w : World} {K : PySem.W.Frag} {mg : Str → Option Value} {base : Heap}
theorem ok_is_small (D : Def K mg "is_small" s_is_small ["thing"]) (B : Blt mg) : Cal P w K mg base CX0 "is_small" 1 ["thing"] sp_is_small := by
  refine D.cal sc_is_small (fun vs H Q E h => ?_) (fun f cdv A outer s H vs Q E hr h => ⟨_, (pss_one (ps_ret (pe_and (pe_cmpR op_eqTy (pe_callTy call_type7 (by rfl) B.z_type (by decide +kernel) (pa_cons (pv 0) pa_nil)) (pe_bltn (v := .ty "str") (by rfl) B.z_str (by decide +kernel) rfl) (nomark _)) (pe_and (pe_cmpR op_eq (pe_callB call_len_str (by rfl) B.z_len (by decide +kernel) (pa_cons (pv 0) pa_nil)) pe_int (nomark _)) (pe_one (pe_chain op_le_str op_le_str pe_str (pv 0) pe_str)))))), ?_⟩)
  · obtain ⟨x, T, rfl, _⟩ := h; rfl
  · obtain ⟨x, T, rfl, ⟨k1, k2⟩, hz, q⟩ := h
    by_cases hT : T = "str"
    · subst hT
      obtain ⟨z, rfl⟩ := ty_str k1 rfl
      have zl := hz z rfl
      refine s_ret (v := .bl (smallB (.str z))) (ev_is (ev_andV (ev_op (ev_cb (ea_cons (ev_var rfl) ea_nil) (rc_type7 k1)) ev_c (rv_eqTy (fun _ => rfl) (fun _ => rfl))) (b := smallB (.str z)) (fun _ => ev_is (ev_andV (b := smallB (.str z)) (ev_op (ev_cb (ea_cons (ev_var rfl) ea_nil) (rc_lenS (sz_of (by omega)))) ev_c (rv_eq rfl)) (fun e1 => ?_)) ?_)) ?_) (fun H1 e => q H1 e)
      · have e2 : z.length = 1 := Int.ofNat.inj (V.int.inj (of_decide_eq_true e1))
        obtain ⟨c, rfl⟩ : ∃ c, z = ⟨#[c]⟩ := by
          obtain ⟨l⟩ := z
          have : l.size = 1 := e2
          obtain ⟨l⟩ := l
          simp at this
          obtain ⟨c, rfl⟩ := List.length_eq_one_iff.mp this
          exact ⟨c, rfl⟩
        refine ev_is (ev_chain ev_c (ev_var rfl) rv_leS ev_c rv_leS) ?_
        rw [lt_lit (k := 97) (by decide +kernel), lt_lit2 (k := 122) (by decide +kernel)]
        rfl
      · by_cases e2 : (z.length : Int) = 1
        · rw [decide_eq_true (show V.int z.length = V.int 1 by rw [e2])]; rfl
        · rw [decide_eq_false (show ¬ V.int z.length = V.int 1 from fun y => e2 (V.int.inj y))]
          have : smallB (.str z) = false := by
            show smallL z.cps.toList = false
            have : z.cps.toList.length ≠ 1 := fun y => e2 (by
              have y2 : z.cps.size = 1 := by simpa using y
              show ((z.cps.size : Nat) : Int) = 1
              rw [y2]; rfl)
            generalize z.cps.toList = l at this
            match l with
            | [] => rfl
            | [c] => exact absurd rfl this
            | _ :: _ :: _ => rfl
          rw [this]; rfl
      · rw [decide_eq_true rfl]; rfl
    · have e : smallB x = false := by
        cases x <;> try rfl
        rename_i z
        exfalso
        exact hT (ty_of_str k1)
      rw [e] at q
      exact s_ret (ev_is (ev_andV (ev_op (ev_cb (ea_cons (ev_var rfl) ea_nil) (rc_type7 k1)) ev_c (rv_eqTy k2 (fun _ => rfl))) (b := true) (fun z => absurd (of_decide_eq_true z) hT)) (by rw [decide_eq_false hT]; rfl)) (fun H1 e => q H1 e)
theorem ok_is_room (D : Def K mg "_is_room" s__is_room ["thing"]) (B : Blt mg) : Cal P w K mg base CX0 "_is_room" 1 ["thing"] sp_is_room := by
  refine D.cal sc__is_room (fun vs H Q E h => ?_) (fun f cdv A outer s H vs Q E hr h => ⟨_, (pss_one (ps_ret (pe_and (pe_cmpR op_eqTy (pe_callTy call_type7 (by rfl) B.z_type (by decide +kernel) (pa_cons (pv 0) pa_nil)) (pe_bltn (v := .ty "int") (by rfl) B.z_int (by decide +kernel) rfl) (nomark _)) (pe_one (pe_cmpR op_ge (pv 0) pe_int (nomark _)))))), ?_⟩)
  · obtain ⟨x, T, rfl, _⟩ := h; rfl
  · obtain ⟨x, T, rfl, ⟨k1, k2⟩, q⟩ := h
    by_cases hT : T = "int"
    · subst hT
      obtain ⟨i, rfl⟩ := ty_int k1 rfl
      exact s_ret (v := .bl (roomB (.int i))) (ev_is (ev_andV (ev_op (ev_cb (ea_cons (ev_var rfl) ea_nil) (rc_type7 k1)) ev_c (rv_eqTy (fun _ => rfl) (fun _ => rfl))) (fun _ => ev_op (ev_var rfl) ev_c rv_I0)) (by rw [decide_eq_true rfl]; rfl)) (fun H1 e => q H1 e)
    · have e : roomB x = false := by
        cases x <;> try rfl
        rename_i z
        exfalso
        exact hT (ty_of_int k1)
      rw [e] at q
      exact s_ret (ev_is (ev_andV (ev_op (ev_cb (ea_cons (ev_var rfl) ea_nil) (rc_type7 k1)) ev_c (rv_eqTy k2 (fun _ => rfl))) (b := true) (fun z => absurd (of_decide_eq_true z) hT)) (by rw [decide_eq_false hT]; rfl)) (fun H1 e => q H1 e)
theorem ok_is_tie1 (D : Def K mg "_is_tie" s__is_tie ["thing"]) (B : Blt mg) (C_is_small : Cal P w K mg base CX0 "is_small" 1 ["thing"] sp_is_small) (C__is_room : Cal P w K mg base CX0 "_is_room" 1 ["thing"] sp_is_room) : Cal P w K mg base CX0 "_is_tie" 2 ["thing"] sp_is_tie1 := by
  refine D.cal sc__is_tie (fun vs H Q E h => ?_) (fun f cdv A outer s H vs Q E hr h => ⟨_, (pss_cons (ps_if (PW.pt (pw_or (pt_cmpR op_neTy (pe_callTy call_type7 (by rfl) B.z_type (by decide +kernel) (pa_cons (pv 0) pa_nil)) (pe_bltn (v := .ty "tuple") (by rfl) B.z_tuple (by decide +kernel) rfl) (nomark _)) (pw_or1 (pt_cmpR op_ne (pe_callB call_len_seq (by rfl) B.z_len (by decide +kernel) (pa_cons (pv 0) pa_nil)) pe_int (nomark _)))))
      (pss_one (ps_ret pe_bl))
      pss_nil)
      (pss_cons (ps_asg (pv 0) (pg_tup (n := 3) rfl (pgs_cons (pg_name (i := 1) sc__is_tie.nd rfl (Or.inl rfl)) (pgs_cons (pg_name (i := 2) sc__is_tie.nd rfl (Or.inl rfl)) (pgs_cons (pg_name (i := 3) sc__is_tie.nd rfl (Or.inl rfl)) pgs_nil)))))
      (pss_one (ps_ret (pe_and (pe_callC C__is_room (hr.mono (by decide)) rfl pass0 (pa_cons (pv 1) pa_nil)) (pe_and (pe_callC C_is_small (hr.mono (by decide)) rfl pass0 (pa_cons (pv 2) pa_nil)) (pe_one (pe_callC C__is_room (hr.mono (by decide)) rfl pass0 (pa_cons (pv 3) pa_nil))))))))), ?_⟩)
  · obtain ⟨x, b, rfl, _⟩ := h; rfl
  · obtain ⟨x, b, rfl, t, q⟩ := h
    cases t with
    | @tup a u v w A B C h hu hv hw hz =>
      refine q_skip (et_or0 (et_is (et_test (ev_op (ev_cb (ea_cons (ev_var rfl) ea_nil) (rc_type7 (kn_tup h).1)) ev_c (rv_neTy (fun _ => rfl) (fun _ => rfl)))) rfl) (et_is (et_test (ev_op (ev_cb (ea_cons (ev_var rfl) ea_nil) (rc_lenT (st_of h))) ev_c (rv_ne rfl))) rfl)) fun H1 e1 => ?_
      refine q_asgG (ev_var rfl) fun H2 e2 => ?_
      have E2 := e1.trans e2
      refine g3 rfl (st_of (E2 _ _ h)) ?_
      refine s_ret (ev_andV (ev_call (ea_cons (ev_var rfl) ea_nil) (sv_is_room (hu.mono E2))) (fun _ => ev_andV (ev_call (ea_cons (ev_var rfl) ea_nil) (sv_is_small (hv.mono E2) hz)) (fun _ => ev_call (ea_cons (ev_var rfl) ea_nil) (sv_is_room (hw.mono E2))))) fun H3 e3 => q H3 (E2.trans e3)
    | @few a xs h hl =>
      refine q_when (b := true) (et_is (et_or (b := true) (et_is (et_test (ev_op (ev_cb (ea_cons (ev_var rfl) ea_nil) (rc_type7 (kn_tup h).1)) ev_c (rv_neTy (fun _ => rfl) (fun _ => rfl)))) rfl) (fun _ => et_is (et_test (ev_op (ev_cb (ea_cons (ev_var rfl) ea_nil) (rc_lenT (st_of h))) ev_c (rv_ne rfl))) ?_)) rfl) (fun _ H1 e1 => s_ret ev_c fun H2 e2 => q H2 (e1.trans e2)) (fun z => by cases z)
      have : ¬ V.int (xs.length : Nat) = V.int 3 := fun z => hl (by have := V.int.inj z; omega)
      rw [decide_eq_false this]; rfl
    | @oth x T h ht =>
      refine q_when (b := true) (et_is (et_or (a := true) (b := true) (et_is (et_test (ev_op (ev_cb (ea_cons (ev_var rfl) ea_nil) (rc_type7 h.1)) ev_c (rv_neTy h.2 (fun _ => rfl)))) ?_) (fun z => by cases z)) rfl) (fun _ H1 e1 => s_ret ev_c fun H2 e2 => q H2 (e1.trans e2)) (fun z => by cases z)
      rw [decide_eq_false ht]; rfl
end
end Gw

/-! ## Pi2 -/
namespace Gw
open PySem PySem.Spec PyProof.Rows L2 Evl
section
variable {P : Program} {w : World} {K : PySem.W.Frag} {mg : Str → Option Value} {base : Heap}
theorem ok_is_rising (D : Def K mg "_is_rising" s__is_rising ["ties"]) (B : Blt mg) : Cal P w K mg base CX0 "_is_rising" 1 ["ties"] (sp_rising K) := by
  refine D.cal sc__is_rising (fun vs H Q E h => ?_) (fun f cdv A outer s H vs Q E hr h => ⟨_, (pss_one (ps_ret (pe_callB (cr_all rfl) (by rfl) B.z_all (by decide +kernel) (pa_cons (pe_lc (own := [("tie", 1), ("after", 2)]) rfl sc__is_rising.nd (pi_zip (by rfl) B.z_zip (pa_cons (pv 0) (pa_cons (pe_slice sl_list (pv 0) (po_some pe_int) po_none) pa_nil))) (blkOk_by (own := [("tie", 1), ("after", 2)]) (N := ["ties", "tie", "after"]) (sc := defScope s__is_rising) (by decide +kernel)) (fun _ _ _ _ _ => (pg_tupB (n := 2) rfl (pgs_cons (pg_name (i := 1) sc__is_rising.nd rfl (Or.inl rfl)) (pgs_cons (pg_name (i := 2) sc__is_rising.nd rfl (Or.inl rfl)) pgs_nil)))) (fun _ _ _ _ _ => pts_nil) (fun _ _ _ _ _ => (pe_cmpR (op_ltDB hr.units) (pv 1) (pv 2) (nomark _)))) pa_nil)))), ?_⟩)
  · obtain ⟨T, ⟨a, rfl, _⟩, _⟩ := h; rfl
  · obtain ⟨T, ⟨a, rfl, ⟨xs, hs, hT⟩, sm, hz⟩, q⟩ := h
    have xl := hT.length
    have mp := hT.maps
    refine s_ret (v := .bl (ris T)) (ev_is (ev_allN (bs := (T.zip (T.drop 1)).map fun p => lt3 (k3 p.1) (k3 p.2)) (el_zip (ys := xs.drop 1) (fun x y => .bl (lt3 (k3 (tieAt H x)) (k3 (tieAt H y)))) (fun H1 e1 Q1 q1 => ?_) hs (by omega) (fun x y => rfl) fun n x y hx hy H1 e1 => ?_) ?_) ?_) (fun H1 e => q H1 e)
    · refine ⟨.ref a, rfl, ?_⟩
      refine el_sl (ev_var rfl) (eo_some ev_c) eo_none (ex_l e1 hs) H1 (Ex.refl _) _ fun p H2 hp e2 h2 => q1 p H2 e2 ?_
      rw [h2]
      unfold cutV
      rw [HT.sIx_none]
      have e : HT.sIx xs.length 0 (some 1) = min 1 xs.length := (show HT.sIx xs.length 0 (some ((1 : Nat) : Int)) = _ from HT.sIx_nat _ _ _)
      rw [e]
      by_cases h : 1 ≤ xs.length
      · rw [Nat.min_eq_left h, List.take_of_length_le (by rw [List.length_drop]; exact Nat.le_refl _)]
      · rw [List.drop_eq_nil_of_le (by omega), List.drop_eq_nil_of_le (by omega), List.take_nil]
    · rw [List.getElem?_drop] at hy
      obtain ⟨t, b, ht, rfl, hb⟩ := hT.at hx
      obtain ⟨u, c, hu, rfl, hc⟩ := hT.at hy
      have st := sm t (List.mem_of_getElem? ht)
      have su := sm u (List.mem_of_getElem? hu)
      rw [tieAt_of hb, tieAt_of hc]
      refine ev_op (ev_var rfl) (ev_var rfl) fun H2 e2 Q2 q2 => ⟨tieD t, tieD u, dp_tie ((e1.trans e2) _ _ hb), dp_tie ((e1.trans e2) _ _ hc), alike_tie t u, (by intro z; cases z), ?_, ?_⟩
      · rw [depth_tie, depth_tie]; decide
      · rw [lt_tie]; exact q2 H2 (Ex.refl _)
    · rw [← mp, ← List.map_drop, List.zip_map, List.map_map, List.map_map]; rfl
    · rw [all_map_id]; rfl
theorem ok_is_folded (D : Def K mg "_is_folded" s__is_folded ["ties"]) (B : Blt mg) (C_leads_of : Cal P w K mg base CX0 "leads_of" 2 ["ties"] (sp_leads K)) : Cal P w K mg base CX0 "_is_folded" 3 ["ties"] (sp_isfold K) := by
  refine D.cal sc__is_folded (fun vs H Q E h => ?_) (fun f cdv A outer s H vs Q E hr h => ⟨_, (pss_one (ps_ret (pe_cmpR op_eq (pe_callB call_len_dT (by rfl) B.z_len (by decide +kernel) (pa_cons (pe_callC C_leads_of (hr.mono (by decide)) rfl pass0 (pa_cons (pv 0) pa_nil)) pa_nil)) (pe_op op_mul pe_int (pe_callB call_len_seq (by rfl) B.z_len (by decide +kernel) (pa_cons (pv 0) pa_nil))) (nomark _)))), ?_⟩)
  · obtain ⟨T, b, ⟨a, rfl, _⟩, _⟩ := h; rfl
  · obtain ⟨T, b, ⟨a, rfl, ⟨xs, hs, hT⟩, sm, hz⟩, hb, q⟩ := h
    have xl := hT.length
    refine s_ret (v := .bl b) (ev_is (ev_op (x := .int ((kvOf (links T)).length : Nat)) (fun H1 e1 Q1 q1 => wp_cb1 (wp_call1 ⟨.ref a, rfl, a, T, rfl, ⟨xs, ex_l e1 hs, hT.mono e1⟩, sm, by omega, fun d H2 hd e2 hk => ⟨d, _, rfl, hk, q1 H2 e2⟩⟩)) (ev_op ev_c (ev_cb (ea_cons (ev_var rfl) ea_nil) (rc_len hs)) (rv_I (.inl ⟨by decide, by decide⟩))) (rv_eq rfl)) ?_) (fun H1 e => q H1 e)
    have kf := kvOf_folded sm
    rw [xl]
    by_cases h : (kvOf (links T)).length = 2 * T.length
    · rw [h]
      have : b = true := hb.mpr (kf.mp h)
      rw [this, decide_eq_true (by congr 1)]
    · have : b = false := by
        cases b with
        | false => rfl
        | true => exact absurd (kf.mpr (hb.mp rfl)) h
      rw [this, decide_eq_false fun z => h (by have z2 := V.int.inj z; omega)]
theorem ok_is_numbered (D : Def K mg "_is_numbered" s__is_numbered ["ties"]) (B : Blt mg) (C_numbering : Cal P w K mg base CX0 "numbering" 8 ["ties"] (sp_numbering K)) : Cal P w K mg base CX0 "_is_numbered" 9 ["ties"] (sp_isnum K) := by
  refine D.cal sc__is_numbered (fun vs H Q E h => ?_) (fun f cdv A outer s H vs Q E hr h => ⟨_, (pss_cons (ps_set (i := 1) sc__is_numbered.nd rfl (Or.inr rfl) (pe_callC C_numbering (hr.mono (by decide)) rfl pass0 (pa_cons (pv 0) pa_nil)))
      (pss_cons (ps_if (pt_not (pt_val (pe_callB (cr_all rfl) (by rfl) B.z_all (by decide +kernel) (pa_cons (pe_lc (own := [("first", 2), ("letter", 3), ("second", 4)]) rfl sc__is_numbered.nd (pi_list (pv 0)) (blkOk_by (own := [("first", 2), ("letter", 3), ("second", 4)]) (N := ["ties", "numbers", "first", "letter", "second", "room", "number"]) (sc := defScope s__is_numbered) (by decide +kernel)) (fun _ _ _ _ _ => (pg_tupB (n := 3) rfl (pgs_cons (pg_name (i := 2) sc__is_numbered.nd rfl (Or.inl rfl)) (pgs_cons (pg_name (i := 3) sc__is_numbered.nd rfl (Or.inl rfl)) (pgs_cons (pg_name (i := 4) sc__is_numbered.nd rfl (Or.inl rfl)) pgs_nil))))) (fun _ _ _ _ _ => pts_nil) (fun _ _ _ _ _ => (pe_cmp (pc_din (hu_of hr) (pv 2) (pv 1)) rfl))) pa_nil))))
      (pss_one (ps_ret pe_bl))
      pss_nil)
      (pss_one (ps_ret (pe_callB (cr_all rfl) (by rfl) B.z_all (by decide +kernel) (pa_cons (pe_lock (pe_lc (own := [("room", 5), ("number", 6)]) rfl sc__is_numbered.nd (pi_items (pv 1)) (blkOk_by (own := [("room", 5), ("number", 6)]) (N := ["ties", "numbers", "first", "letter", "second", "room", "number"]) (sc := defScope s__is_numbered) (by decide +kernel)) (fun _ _ _ _ _ => (pg_tupB (n := 2) rfl (pgs_cons (pg_name (i := 5) sc__is_numbered.nd rfl (Or.inl rfl)) (pgs_cons (pg_name (i := 6) sc__is_numbered.nd rfl (Or.inl rfl)) pgs_nil)))) (fun _ _ _ _ _ => pts_nil) (fun _ _ _ _ _ => (pe_cmpR op_eq (pv 5) (pv 6) (nomark _))))) pa_nil)))))), ?_⟩)
  · obtain ⟨T, b, ⟨a, rfl, _⟩, _⟩ := h; rfl
  · obtain ⟨T, b, ⟨a, rfl, hw, sm, hz⟩, fo, nd, hb, q⟩ := h
    refine q_asgQ (Φ := fun d H1 => H d = none ∧ Ex H H1 ∧ NumAt H1 d (ord T)) (fun Q1 q1 => wp_call1 ⟨.ref a, rfl, a, T, rfl, hw, sm, fo, nd, hz, fun d H1 hd e1 hN => q1 d H1 ⟨hd, e1, hN⟩⟩) ?_
    rintro d H1 ⟨hd, e1, hN⟩
    obtain ⟨xs, hs, hT⟩ := hw.mono e1
    have xl := hT.length
    have N := numKV_num rfl (ord_nodup T)
    have ol := ord_len T
    have L : EvL (tLc (iList K (tVar 0)) (gTup K 3 (gCons (gName 2) (gCons (gName 3) (gCons (gName 4) gNil)))) tYes (tDIn (tVar 2) (tVar 1)) [2, 3, 4]) [some (.ref a), some (.ref d), none, none, none, none, none] H1 (T.map fun t => V.bl (decide (t.1 ∈ ord T))) := by
      refine el_lcTies (ev_var rfl) hs hT (by omega) (fun x y z => rfl) fun u hu H2 e2 => ?_
      refine ev_is (ev_dinK (k := .inl (u.1 : Nat)) (ev_var rfl) (ev_var rfl) (Or.inl (e2 _ _ hN))) ?_
      rw [N.1]
      by_cases h : u.1 ∈ ord T
      · rw [if_pos h, decide_eq_true h]; rfl
      · rw [if_neg h, decide_eq_false h]; rfl
    have al : ((T.map fun t => decide (t.1 ∈ ord T)).all id) = true ↔ ∀ t ∈ T, t.1 ∈ ord T := by
      rw [all_map_id, List.all_eq_true]
      exact ⟨fun h t ht => of_decide_eq_true (h t ht), fun h t ht => decide_eq_true (h t ht)⟩
    refine q_when (b := !((T.map fun t => decide (t.1 ∈ ord T)).all id)) (et_not (et_B (ev_allN (bs := T.map fun t => decide (t.1 ∈ ord T)) L (by rw [List.map_map]; rfl)))) (fun c H2 e2 => ?_) (fun c H2 e2 => ?_)
    · have : b = false := by
        cases b with
        | false => rfl
        | true =>
          have := al.mpr (hb.mp rfl).1
          rw [this] at c; cases c
      rw [this] at q
      exact s_ret ev_c fun H3 e3 => q H3 ((e1.trans e2).trans e3)
    · have c1 : ((T.map fun t => decide (t.1 ∈ ord T)).all id) = true := by simpa using c
      have cn := al.mp c1
      have hN2 : H2 d = some (.dK (numKV (ord T))) := e2 _ _ hN
      refine s_ret (v := .bl b) (ev_is (ev_allN (bs := (numKV (ord T)).map fun kv => decide (kV kv.1 = kv.2)) (el_is (el_items (p := fun _ => true) (fun kv => .bl (decide (kV kv.1 = kv.2))) hN2 (fun H3 => ev_var rfl) (by rw [numKV_len]; omega) (fun x y => rfl) (fun kv hkv o H3 e3 => et_yes) (fun kv hkv _ o H3 e3 => ?_)) (by rw [List.filter_eq_self.mpr fun _ _ => rfl])) (by rw [List.map_map]; rfl)) ?_) fun H3 e3 => q H3 ((e1.trans e2).trans e3)
      · refine ev_op (ev_var rfl) (ev_var rfl) (rv_eq ?_)
        unfold numKV at hkv
        obtain ⟨p, _, rfl⟩ := List.mem_map.mp hkv
        rfl
      · have e : ((numKV (ord T)).map fun kv => decide (kV kv.1 = kv.2)).all id = (numKV (ord T)).all fun kv => decide (kV kv.1 = kv.2) := all_map_id _ _
        rw [e]
        have ns := numKV_same (F := ord T)
        congr 1
        cases hb1 : b with
        | true => exact ns.mpr (hb.mp hb1).2
        | false =>
          rw [Bool.eq_false_iff]
          intro z
          have := hb.mpr ⟨cn, ns.mp z⟩
          rw [hb1] at this; cases this
end
end Gw

/-! ## Pi3 -/
namespace Gw
open PySem PySem.Spec PyProof.Rows L2 Evl
abbrev s_is_web : Stmt := topS 24
theorem sc_is_web : FnScope ["thing", "part"] ["thing"] (defScope s_is_web) := ⟨rfl, rfl, rfl, by decide +kernel, rfl, by decide +kernel, by decide +kernel⟩
section
variable {P : Program} {w : World} {K : PySem.W.Frag} {mg : Str → Option Value} {base : Heap}
theorem ok_nodead (D : Def K mg "_has_no_dead_end" s__has_no_dead_end ["ties"]) (B : Blt mg) : Cal P w K mg base CX0 "_has_no_dead_end" 1 ["ties"] (sp_nodead K) := by
  refine D.cal sc__has_no_dead_end (fun vs H Q E h => ?_) (fun f cdv A outer s H vs Q E hr h => ⟨_, (pss_cons (ps_set (i := 1) sc__has_no_dead_end.nd rfl (Or.inl rfl) pe_dnewK)
      (pss_cons (ps_for PassesOwn.never rfl (pi_list (pv 0)) (pg_tup (n := 3) rfl (pgs_cons (pg_name (i := 2) sc__has_no_dead_end.nd rfl (Or.inl rfl)) (pgs_cons (pg_name (i := 3) sc__has_no_dead_end.nd rfl (Or.inl rfl)) (pgs_cons (pg_name (i := 4) sc__has_no_dead_end.nd rfl (Or.inl rfl)) pgs_nil))))
      (pss_cons (ps_dput (hu_of hr) (pv 1) (pv 2) (pe_op op_add (pe_dget2 (hu_of hr) (pv 1) (pv 2) pe_int ⟨rfl, rfl, rfl, rfl⟩) pe_int) rfl)
      (pss_one (ps_dput (hu_of hr) (pv 1) (pv 4) (pe_op op_add (pe_dget2 (hu_of hr) (pv 1) (pv 4) pe_int ⟨rfl, rfl, rfl, rfl⟩) pe_int) rfl))))
      (pss_one (ps_ret (pe_callB (cr_all rfl) (by rfl) B.z_all (by decide +kernel) (pa_cons (pe_lock (pe_lc (own := [("room", 5), ("many", 6)]) rfl sc__has_no_dead_end.nd (pi_items (pv 1)) (blkOk_by (own := [("room", 5), ("many", 6)]) (N := ["ties", "ends", "first", "letter", "second", "room", "many"]) (sc := defScope s__has_no_dead_end) (by decide +kernel)) (fun _ _ _ _ _ => (pg_tupB (n := 2) rfl (pgs_cons (pg_name (i := 5) sc__has_no_dead_end.nd rfl (Or.inl rfl)) (pgs_cons (pg_name (i := 6) sc__has_no_dead_end.nd rfl (Or.inl rfl)) pgs_nil)))) (fun _ _ _ _ _ => (pts_one (pt_cmpR op_ne (pv 5) pe_int (nomark _)))) (fun _ _ _ _ _ => (pe_cmpR op_gt (pv 6) pe_int (nomark _))))) pa_nil)))))), ?_⟩)
  · obtain ⟨T, b, ⟨a, rfl, _⟩, _⟩ := h; rfl
  · obtain ⟨T, b, ⟨a, rfl, ⟨xs, hs, hT⟩, sm, hz⟩, hb, q⟩ := h
    have xl := hT.length
    refine q_newK fun d hd => ?_
    have e1 : Ex H (upd H d (.dK [])) := Ex.new hd
    have h1 : (upd H d (.dK [])) d = some (.dK []) := upd_same
    generalize upd H d (.dK []) = H1 at *
    refine q_for (ew_list (ev_var rfl) (ex_l e1 hs)) (fun i σ' H' => ∃ x2 x3 x4, σ' = [some (.ref a), some (.ref d), x2, x3, x4, none, none] ∧ Ex H H' ∧ ∃ kvs, H' d = some (.dK kvs) ∧ CntD kvs (cntR (T.take i)) ∧ kvs.length ≤ 2 * i) (fun H3 e3 => ⟨_, _, _, rfl, e1.trans e3, [], e3 _ _ h1, cntD_nil, Nat.le_refl _⟩) (fun i σ' H' _ ⟨_, _, _, _, e, _⟩ => ex_l e hs) ?_ ?_
    · rintro i x σ' H' hx ⟨x2, x3, x4, rfl, ex, kvs, hk, C, kl⟩
      obtain ⟨t, ta, hti, rfl, hta⟩ := hT.at hx
      have il : i < xs.length := (List.getElem?_eq_some_iff.mp hx).1
      have tk : T.take (i + 1) = T.take i ++ [t] := by rw [List.take_add_one, hti]; rfl
      refine g3 rfl (st_of (ex _ _ hta)) ?_
      show tSeq (sDPut (tVar 1) (tVar 2) (tOp (rI0 fun i j => .int (i + j)) (tDGet2 (tVar 1) (tVar 2) (tC (.int 0))) (tC (.int 1)))) _ _ [some (.ref a), some (.ref d), some (.int (t.1 : Nat)), some (sgn t.2.1), some (.int (t.2.2 : Nat)), none, none] H'
      refine ⟨.ref d, rfl, d, rfl, Or.inl ⟨kvs, Or.inl hk⟩, .int (t.1 : Nat), rfl, valV kvs (.inl (t.1 : Nat)), Or.inl ⟨kvs, .inl (t.1 : Nat), Or.inl hk, rfl, rfl⟩, ?_⟩
      rw [C.val]
      refine ⟨_, _, rfl, rfl, .ref d, rfl, .int (t.1 : Nat), rfl, d, _, rfl, DPut.k (k := .inl (t.1 : Nat)) hk (sz_lt (by omega)), ?_⟩
      have C1 := C.put t.1
      have kl1 := length_putK kvs (.inl (t.1 : Nat)) (.int ((cntR (T.take i) t.1 + 1 : Nat)))
      have e2 : Ex H (upd H' d (.dK (putK kvs (.inl (t.1 : Nat)) (.int ((cntR (T.take i) t.1 + 1 : Nat)))))) := Ex.mut ex hd
      have hk1 : (upd H' d (.dK (putK kvs (.inl (t.1 : Nat)) (.int ((cntR (T.take i) t.1 + 1 : Nat)))))) d = some (.dK (putK kvs (.inl (t.1 : Nat)) (.int ((cntR (T.take i) t.1 + 1 : Nat))))) := upd_same
      show sDPut (tVar 1) (tVar 4) (tOp (rI0 fun i j => .int (i + j)) (tDGet2 (tVar 1) (tVar 4) (tC (.int 0))) (tC (.int 1))) _ [some (.ref a), some (.ref d), some (.int (t.1 : Nat)), some (sgn t.2.1), some (.int (t.2.2 : Nat)), none, none] (upd H' d (.dK (putK kvs (.inl (t.1 : Nat)) (.int ((cntR (T.take i) t.1 + 1 : Nat))))))
      generalize upd H' d (.dK (putK kvs (.inl (t.1 : Nat)) (.int ((cntR (T.take i) t.1 + 1 : Nat))))) = H2 at *
      generalize putK kvs (.inl (t.1 : Nat)) (.int ((cntR (T.take i) t.1 + 1 : Nat))) = kvs1 at *
      refine ⟨.ref d, rfl, d, rfl, Or.inl ⟨kvs1, Or.inl hk1⟩, .int (t.2.2 : Nat), rfl, valV kvs1 (.inl (t.2.2 : Nat)), Or.inl ⟨kvs1, .inl (t.2.2 : Nat), Or.inl hk1, rfl, rfl⟩, ?_⟩
      rw [C1.val]
      have C2 := C1.put t.2.2
      have kl2 := length_putK kvs1 (.inl (t.2.2 : Nat)) (.int ((inc (cntR (T.take i)) t.1 t.2.2 + 1 : Nat)))
      refine ⟨_, _, rfl, rfl, .ref d, rfl, .int (t.2.2 : Nat), rfl, d, _, rfl, DPut.k (k := .inl (t.2.2 : Nat)) hk1 (sz_lt (by omega)), _, _, _, rfl, Ex.mut e2 hd, _, upd_same, ?_, ?_⟩
      · rw [tk, cntR_snoc]; exact C2
      · exact Nat.le_trans (length_putK _ _ _) (by omega)
    · rintro σ' H' ⟨x2, x3, x4, rfl, ex, kvs, hk, C, kl⟩
      rw [xl, List.take_length] at C
      refine s_ret (v := .bl b) (ev_is (ev_allN (bs := (kvs.filter fun kv => decide (kV kv.1 ≠ .int 0)).map fun kv => (match kv.2 with | .int n => decide (n > 1) | _ => false)) (el_items (p := fun kv => decide (kV kv.1 ≠ .int 0)) (fun kv => .bl (match kv.2 with | .int n => decide (n > 1) | _ => false)) hk (fun H3 => ev_var rfl) (by omega) (fun x y => rfl) (fun kv hkv o H3 e3 => ?_) (fun kv hkv _ o H3 e3 => ?_)) (by rw [List.map_map]; rfl)) ?_) fun H3 e3 => q H3 (ex.trans e3)
      · obtain ⟨r, rfl, _⟩ := C.2.1 kv hkv
        refine et_is (et_test (ev_op (ev_var rfl) ev_c (rv_ne rfl))) ?_
        exact decide_not.symm
      · obtain ⟨r, rfl, _⟩ := C.2.1 kv hkv
        exact ev_op (ev_var rfl) ev_c rv_I0
      · congr 1
        rw [all_map_id]
        have key : (kvs.filter fun kv => decide (kV kv.1 ≠ .int 0)).all (fun kv => (match kv.2 with | .int n => decide (n > 1) | _ => false)) = true ↔ ∀ r ∈ rms T, r ≠ 0 → 2 ≤ (rooms T).count (r : Int) := by
          rw [List.all_eq_true]
          constructor
          · intro h r hr h0
            have c0 := cntR_of hr h0
            have v := C.1 r
            rw [if_neg c0] at v
            have m := mem_of_valV v
            have := h _ (List.mem_filter.mpr ⟨m, decide_eq_true (show V.int (r : Nat) ≠ V.int 0 from fun z => h0 (by have := V.int.inj z; omega))⟩)
            have : ((cntR T r : Nat) : Int) > 1 := of_decide_eq_true this
            rw [count_split]
            show 2 ≤ cntR T r
            omega
          · intro h kv hkv
            obtain ⟨m, z⟩ := List.mem_filter.mp hkv
            obtain ⟨r, rfl, c0⟩ := C.2.1 kv m
            have z := of_decide_eq_true z
            have h0 : r ≠ 0 := fun e => z (by rw [e]; rfl)
            have := h r (cntR_pos c0) h0
            rw [count_split] at this
            have : 2 ≤ cntR T r := this
            exact decide_eq_true (show ((cntR T r : Nat) : Int) > 1 by omega)
        cases hb1 : b with
        | true => exact key.mpr (hb.mp hb1)
        | false =>
          rw [Bool.eq_false_iff]
          intro z
          have := hb.mpr (key.mp z)
          rw [hb1] at this; cases this
theorem ok_isweb (D : Def K mg "is_web" s_is_web ["thing"]) (B : Blt mg) (C__is_tie : Cal P w K mg base CX0 "_is_tie" 2 ["thing"] sp_is_tie1) (C__is_rising : Cal P w K mg base CX0 "_is_rising" 1 ["ties"] (sp_rising K)) (C__is_folded : Cal P w K mg base CX0 "_is_folded" 3 ["ties"] (sp_isfold K)) (C__is_numbered : Cal P w K mg base CX0 "_is_numbered" 9 ["ties"] (sp_isnum K)) (C__has_no_dead_end : Cal P w K mg base CX0 "_has_no_dead_end" 1 ["ties"] (sp_nodead K)) : Cal P w K mg base CX0 "is_web" 10 ["thing"] (sp_isweb K) := by
  refine D.cal sc_is_web (fun vs H Q E h => ?_) (fun f cdv A outer s H vs Q E hr h => ⟨_, (pss_cons (ps_if (PW.pt (pw_or (pt_cmpR op_neTy (pe_callTy call_type7 (by rfl) B.z_type (by decide +kernel) (pa_cons (pv 0) pa_nil)) (pe_bltn (v := .ty "list") (by rfl) B.z_list (by decide +kernel) rfl) (nomark _)) (pw_or1 (pt_not (pt_val (pe_callB (cr_all rfl) (by rfl) B.z_all (by decide +kernel) (pa_cons (pe_lc (own := [("part", 1)]) (g := (gName 1)) rfl sc_is_web.nd (pi_list (pv 0)) (blkOk_by (own := [("part", 1)]) (N := ["thing", "part"]) (sc := defScope s_is_web) (by decide +kernel)) (fun _ _ _ _ _ => (pg_name (i := 1) sc_is_web.nd rfl (Or.inl rfl))) (fun _ _ _ _ _ => pts_nil) (fun _ _ _ _ _ => (pe_callC C__is_tie (hr.mono (by decide)) rfl pass0 (pa_cons (pv 1) pa_nil)))) pa_nil)))))))
      (pss_one (ps_ret pe_bl))
      pss_nil)
      (pss_one (ps_ret (pe_and (pe_callC C__is_rising (hr.mono (by decide)) rfl pass0 (pa_cons (pv 0) pa_nil)) (pe_and (pe_callC C__is_folded (hr.mono (by decide)) rfl pass0 (pa_cons (pv 0) pa_nil)) (pe_and (pe_callC C__is_numbered (hr.mono (by decide)) rfl pass0 (pa_cons (pv 0) pa_nil)) (pe_one (pe_callC C__has_no_dead_end (hr.mono (by decide)) rfl pass0 (pa_cons (pv 0) pa_nil))))))))), ?_⟩)
  · obtain ⟨x, b, rfl, _⟩ := h; rfl
  · obtain ⟨x, b, rfl, q, h⟩ := h
    have items : ∀ {a : Addr} {xs : List V} {bs : List Bool} {E1 : XK}, H a = some (.lst xs) → Paired (TieQ H) xs bs → xs.length ≤ 2000 → ∀ {H1 : Hp}, Ex H H1 → EvT (tNot (tB (tCB (rAll K) (tCons (tLc (iList K (tVar 0)) (gName 1) tYes (tCall sp_is_tie1 [] E1 (tCons (tVar 1) tNil)) [1]) tNil)))) [some (.ref a), none] H1 (!bs.all id) := fun {a xs bs E1} ha hp hz {H1} e1 => by
      have pl := hp.length
      refine et_not (et_B (ev_allN (bs := bs) (el_is (el_lcL (fun _ => true) (fun n => .bl (bs.getD n false)) (ev_var rfl) (sq_of (e1 _ _ ha)) (by omega) (fun x => rfl) (fun i x H2 e2 hx => et_yes) (fun i x H2 e2 hx _ => ?_)) (by rw [pl]; exact given_all bs)) rfl))
      obtain ⟨b1, hb1, t⟩ := paired_get hp hx
      have : bs.getD i false = b1 := by rw [List.getD_eq_getElem?_getD, hb1]; rfl
      rw [this]
      exact ev_call (ea_cons (ev_var rfl) ea_nil) (sv_is_tie1 (t.mono (e1.trans e2)))
    rcases h with ⟨a, xs, T, rfl, ha, hT, sm, hz, hb⟩ | ⟨T, ⟨k1, k2⟩, hT, rfl⟩ | ⟨a, xs, bs, rfl, ha, hp, hz, hb, rfl⟩
    · have xl := hT.length
      have al := all_true T
      refine q_skip (et_or0 (et_is (et_test (ev_op (ev_cb (ea_cons (ev_var rfl) ea_nil) (rc_type7 (kn_lst ha).1)) ev_c (rv_neTy (fun _ => rfl) (fun _ => rfl)))) rfl) (et_is (items ha (paired_ties hT sm) (by omega) (Ex.refl _)) (by rw [al]; rfl))) fun H1 e1 => ?_
      have go := good_of sm
      have ta : ∀ {H2}, Ex H1 H2 → TiesAt K [.ref a] H2 T := fun e2 => ⟨a, rfl, ⟨xs, sq_of ((e1.trans e2) _ _ ha), hT.mono (e1.trans e2)⟩, sm, hz⟩
      obtain ⟨b2, hb2⟩ : ∃ b : Bool, b = true ↔ Folded T ∧ T.Nodup := ⟨@decide _ (Classical.propDecidable _), @decide_eq_true_iff _ (Classical.propDecidable _)⟩
      obtain ⟨b3, hb3⟩ : ∃ b : Bool, b = true ↔ (∀ t ∈ T, t.1 ∈ ord T) ∧ Num T := ⟨@decide _ (Classical.propDecidable _), @decide_eq_true_iff _ (Classical.propDecidable _)⟩
      obtain ⟨b4, hb4⟩ : ∃ b : Bool, b = true ↔ ∀ r ∈ rms T, r ≠ 0 → 2 ≤ (rooms T).count (r : Int) := ⟨@decide _ (Classical.propDecidable _), @decide_eq_true_iff _ (Classical.propDecidable _)⟩
      refine s_ret (v := .bl b) (ev_is (ev_andV (ev_call (ea_cons (ev_var rfl) ea_nil) (fun H2 e2 Q2 q2 E2 => ⟨T, ta e2, q2⟩)) (fun _ => ev_andV (ev_call (ea_cons (ev_var rfl) ea_nil) (fun H2 e2 Q2 q2 E2 => ⟨T, b2, ta e2, hb2, q2⟩)) (fun c2 => ev_andV (ev_call (ea_cons (ev_var rfl) ea_nil) (fun H2 e2 Q2 q2 E2 => ⟨T, b3, ta e2, (hb2.mp c2).1, (hb2.mp c2).2, hb3, q2⟩)) (fun _ => ev_call (ea_cons (ev_var rfl) ea_nil) (fun H2 e2 Q2 q2 E2 => ⟨T, b4, ta e2, hb4, q2⟩))))) ?_) fun H2 e2 => q H2 (e1.trans e2)
      congr 1
      rw [← go, ← hb2, ← hb3, ← hb4, ← ris_iff] at hb
      cases hb1 : b with
      | true =>
        obtain ⟨h1, h2, h3, h4⟩ := hb.mp hb1
        rw [h1, h2, h3, h4]; rfl
      | false =>
        rw [Bool.eq_false_iff]
        intro z
        simp only [Bool.and_eq_true] at z
        have := hb.mpr z
        rw [hb1] at this; cases this
    · refine q_when (b := true) (et_is (et_or (a := true) (b := true) (et_is (et_test (ev_op (ev_cb (ea_cons (ev_var rfl) ea_nil) (rc_type7 k1)) ev_c (rv_neTy k2 (fun _ => rfl)))) (by rw [decide_eq_false hT]; rfl)) (fun z => by cases z)) rfl) (fun _ H1 e1 => s_ret ev_c fun H2 e2 => q H2 (e1.trans e2)) (fun z => by cases z)
    · refine q_when (b := true) (et_is (et_or (b := true) (et_is (et_test (ev_op (ev_cb (ea_cons (ev_var rfl) ea_nil) (rc_type7 (kn_lst ha).1)) ev_c (rv_neTy (fun _ => rfl) (fun _ => rfl)))) rfl) (fun _ => et_is (items ha hp hz (Ex.refl _)) (by rw [hb]; rfl))) rfl) (fun _ H1 e1 => s_ret ev_c fun H2 e2 => q H2 (e1.trans e2)) (fun z => by cases z)
end
end Gw

/-! ## Pc -/
namespace Gw
open PySem PySem.Spec PyProof.Rows L2 Evl
abbrev s_check_web : Stmt := topS 25
theorem sc_check_web : FnScope ["thing"] ["thing"] (defScope s_check_web) := ⟨rfl, rfl, rfl, by decide +kernel, rfl, by decide +kernel, by decide +kernel⟩
abbrev s_reads : Stmt := topS 27
theorem sc_reads : FnScope ["web", "word", "leads", "room", "letter"] ["web", "word"] (defScope s_reads) := ⟨rfl, rfl, rfl, by decide +kernel, rfl, by decide +kernel, by decide +kernel⟩
section
variable {P : Program} {w : World} {K : PySem.W.Frag} {mg : Str → Option Value} {base : Heap} {C_GlueError C_BadWord C_BadWeb : Addr}
theorem ok_checkweb (D : Def K mg "check_web" s_check_web ["thing"]) (T : Exn K mg C_GlueError C_BadWord C_BadWeb) (C_is_web : Cal P w K mg base CX0 "is_web" 10 ["thing"] (sp_isweb K)) : Cal P w K mg base (L2.CX P w) "check_web" 11 ["thing"] (sp_checkweb C_BadWeb) := by
  refine D.calX sc_check_web (fun vs H Q E h => ?_) (fun f cdv A outer s H vs Q E hr h => ⟨_, (pss_one (ps_if (pt_not (pt_val (pe_callC C_is_web (hr.mono (by decide)) rfl pass0 (pa_cons (pv 0) pa_nil))))
      (pss_one (ps_raise rfl (takes_of rfl rfl rfl rfl) (pmk_own PySem.F.excBase_ValueError T.x_BadWeb T.g_BadWeb T.k_BadWeb (raises_own T.b_BadWeb T.t_BadWeb) rfl)))
      pss_nil)), ?_⟩)
  · obtain ⟨x, rfl, _⟩ := h; rfl
  · obtain ⟨x, rfl, ⟨a, U, rfl, g, q⟩ | ⟨hn, hE⟩⟩ := h
    · exact s_if (et_not (et_B (ev_call (ea_cons (ev_var rfl) ea_nil) (sv_isweb1 g)))) (fun z => by cases z) (fun _ H1 e => q H1 e)
    · exact s_if (et_not (et_B (ev_call (ea_cons (ev_var rfl) ea_nil) (sv_isweb0 hn)))) (fun _ H1 e => hE H1 e) (fun z => by cases z)
theorem ok_reads (D : Def K mg "reads" s_reads ["web", "word"]) (C_check_web : Cal P w K mg base (L2.CX P w) "check_web" 11 ["thing"] (sp_checkweb C_BadWeb)) (C_leads_of : Cal P w K mg base CX0 "leads_of" 2 ["ties"] (sp_leads K)) (C_short : Cal P w K mg base (L2.CX P w) "short" 6 ["word"] (sp_short C_BadWord)) : Cal P w K mg base (L2.CX P w) "reads" 12 ["web", "word"] (sp_reads C_BadWeb C_BadWord) := by
  refine D.calX sc_reads (fun vs H Q E h => ?_) (fun f cdv A outer s H vs Q E hr h => ⟨_, (pss_cons (ps_expr (pe_callC C_check_web (hr.mono (by decide)) rfl (passes_call (takes_of rfl rfl rfl rfl) (fun _ _ _ _ h => h)) (pa_cons (pv 0) pa_nil)))
      (pss_cons (ps_set (i := 2) sc_reads.nd rfl (Or.inl rfl) (pe_callC C_leads_of (hr.mono (by decide)) rfl pass0 (pa_cons (pv 0) pa_nil)))
      (pss_cons (ps_set (i := 3) sc_reads.nd rfl (Or.inl rfl) pe_int)
      (pss_cons (ps_for (passes_of rfl) rfl (pi_str (pe_callC C_short (hr.mono (by decide)) rfl (passes_call (takes_of rfl rfl rfl rfl) (fun _ _ _ _ h => h)) (pa_cons (pv 1) pa_nil))) (pg_name (i := 4) sc_reads.nd rfl (Or.inl rfl))
      (pss_one (ps_set (i := 3) sc_reads.nd rfl (Or.inl rfl) (pe_dget1N (hu_of hr) (pv 2) (pe_tup (pa_cons (pv 3) (pa_cons (pv 4) pa_nil))) ⟨rfl, rfl, rfl, rfl⟩))))
      (pss_one (ps_ret (pe_cmpR op_eq (pv 3) pe_int (nomark _)))))))), ?_⟩)
  · obtain ⟨x, y, rfl, _⟩ := h; rfl
  · obtain ⟨x, y, rfl, ⟨hn, hE⟩ | ⟨a, T, rfl, g, h⟩⟩ := h
    · exact q_badweb (ev_var rfl) hn hE
    · refine q_checkweb (ev_var rfl) g fun H1 e1 => ?_
      have gd := g
      obtain ⟨xs, ha, hT, G, hz⟩ := gd
      have fo := G.core.fold
      have nd := G.core.nd
      have sm := G.core.small
      refine q_asgQ (Φ := fun d H2 => H1 d = none ∧ Ex H1 H2 ∧ LeadsAt H2 d T) (fun Q1 q1 => wp_call1 ⟨.ref a, rfl, a, T, rfl, (g.mono e1).web, sm, by omega, fun d H2 hd e2 LA => q1 d H2 ⟨hd, e2, Or.inl LA⟩⟩) ?_
      rintro d H2 ⟨hd, e2, LA⟩
      refine q_asg (v := .int ((0 : Nat) : Int)) ev_c fun H3 e3 => ?_
      have E3 := (e1.trans e2).trans e3
      rcases h with ⟨hn, hE⟩ | ⟨l, b, rfl, hl, hw, hb, q⟩
      · refine ⟨y, rfl, y, rfl, Or.inr ⟨hn.mono E3, fun H' e' => hE H' (E3.trans e')⟩⟩
      · have wS := short_isW hw
        have sl := short_len hw
        refine q_for (items := (short l).map sgn) (St := fun _ => True) ?_ (fun i σ' H' => ∃ x4, σ' = [some (.ref a), some (.str (S l)), some (.ref d), some (oV (ledO T (some 0) ((short l).take i))), x4] ∧ Ex H H' ∧ LeadsAt H' d T) (fun H4 e4 => ⟨_, rfl, E3.trans e4, LA.mono (e3.trans e4)⟩) (fun _ _ _ _ _ => trivial) ?_ ?_
        · have := ew_str (σ := [some (.ref a), some (.str (S l)), some (.ref d), some (.int ((0 : Nat) : Int)), none]) (H := H3) (ev_call (E := E) (dvs := []) (ea_cons (ev_var (i := 1) rfl) ea_nil) (sv_short (CW := C_BadWord) hl hw))
          rw [S_cps] at this
          exact this
        · rintro i x σ' H' hx ⟨x4, rfl, ex, LA'⟩
          obtain ⟨c, hc, rfl⟩ : ∃ c, (short l)[i]? = some c ∧ x = sgn c := by
            rw [List.getElem?_map] at hx
            cases hc : (short l)[i]? with
            | none => rw [hc] at hx; cases hx
            | some c => rw [hc] at hx; exact ⟨c, rfl, (Option.some.inj hx).symm⟩
          have cL : isL c = true := List.all_eq_true.mp wS c (List.mem_of_getElem? hc)
          have tk : (short l).take (i + 1) = (short l).take i ++ [c] := by rw [List.take_add_one, hc]; rfl
          rw [tk, ledO_snoc]
          generalize ledO T (some 0) ((short l).take i) = o at *
          show tAsg (tDGet1N K (tVar 2) (tTup (tCons (tVar 3) (tCons (tVar 4) tNil)))) (gName 3) _ [some (.ref a), some (.str (S l)), some (.ref d), some (oV o), some (sgn c)] H'
          refine ⟨.ref d, rfl, d, rfl, Or.inr ⟨_, LA'⟩, ?_⟩
          refine eu_tup (vs := [oV o, sgn c]) (ea_cons (ev_var rfl) (ea_cons (ev_var rfl) ea_nil)) (by show 2 ≤ 100000; decide) H' (Ex.refl _) _ fun pk H5 hpk e5 h5 => ?_
          cases o with
          | none => exact Or.inr ⟨_, pk, S [c], LA'.mono e5, rfl, h5, gname_go ⟨_, rfl, ex.trans e5, LA'.mono e5⟩⟩
          | some r =>
            obtain ⟨o2, ho, hgl, hold⟩ := leads_val sm fo nd (r := r) cL
            refine Or.inl ⟨o2.map (fun s => V.int (s : Nat)), Or.inr ⟨_, key r c, pk, LA'.mono e5, rfl, by rw [h5]; rfl, ho.symm⟩, ?_⟩
            refine gname_go ⟨some (sgn c), ?_, ex.trans e5, LA'.mono e5⟩
            have : (some r).bind (fun r => (gl T r c).head?) = o2 := by
              show (gl T r c).head? = o2
              rw [hgl]; cases o2 <;> rfl
            rw [this]
            cases o2 <;> rfl
        · rintro σ' H' ⟨x4, rfl, ex, LA'⟩
          rw [List.length_map, List.take_length]
          refine s_ret (v := .bl b) (ev_is (ev_op (ev_var rfl) ev_c (rv_eq ?_)) ?_) fun H4 e4 => q H4 (ex.trans e4)
          · cases ledO T (some 0) (short l) <;> rfl
          · have key : ledO T (some 0) (short l) = some 0 ↔ Rds T l := ledO_iff fo nd wS
            congr 1
            cases hb1 : b with
            | true =>
              have := key.mpr (hb.mp hb1)
              rw [this]; rfl
            | false =>
              refine decide_eq_false fun z => ?_
              have : ledO T (some 0) (short l) = some 0 := by
                cases q : ledO T (some 0) (short l) with
                | none => rw [q] at z; cases z
                | some r =>
                  rw [q] at z
                  have z2 : ((r : Nat) : Int) = 0 := V.int.inj z
                  congr 1; omega
              have := hb.mpr (key.mp this)
              rw [hb1] at this; cases this
end
end Gw

/-! ## Ps -/
namespace Gw
open PySem PySem.Spec PyProof.Rows L2 Evl
abbrev s__check_letters : Stmt := topS 36
theorem sc__check_letters : FnScope ["letters", "web", "letter", "first", "second"] ["letters", "web"] (defScope s__check_letters) := ⟨rfl, rfl, rfl, by decide +kernel, rfl, by decide +kernel, by decide +kernel⟩
abbrev s_sides : Stmt := topS 35
theorem sc_sides : FnScope ["web", "letters", "rooms", "leads", "marks", "whole", "room", "mark"] ["web", "letters"] (defScope s_sides) := ⟨rfl, rfl, rfl, by decide +kernel, rfl, by decide +kernel, by decide +kernel⟩
section
variable {P : Program} {w : World} {K : PySem.W.Frag} {mg : Str → Option Value} {base : Heap} {C_GlueError C_BadWord C_BadWeb : Addr}
theorem ok_checkl (D : Def K mg "_check_letters" s__check_letters ["letters", "web"]) (B : Blt mg) (T : Exn K mg C_GlueError C_BadWord C_BadWeb) (C_is_small : Cal P w K mg base CX0 "is_small" 1 ["thing"] sp_is_small) : Cal P w K mg base (L2.CX P w) "_check_letters" 2 ["letters", "web"] (sp_checkl K C_BadWord) := by
  refine D.calX sc__check_letters (fun vs H Q E h => ?_) (fun f cdv A outer s H vs Q E hr h => ⟨_, (pss_cons (ps_if (PW.pt (pw_or (pt_cmpR op_neTy (pe_callTy call_type7 (by rfl) B.z_type (by decide +kernel) (pa_cons (pv 0) pa_nil)) (pe_bltn (v := .ty "str") (by rfl) B.z_str (by decide +kernel) rfl) (nomark _)) (pw_or1 (pt_not (pt_val (pe_callB (cr_all rfl) (by rfl) B.z_all (by decide +kernel) (pa_cons (pe_lc (own := [("letter", 2)]) (g := (gName 2)) rfl sc__check_letters.nd (pi_str (pv 0)) (blkOk_by (own := [("letter", 2)]) (N := ["letters", "web", "letter", "first", "second"]) (sc := defScope s__check_letters) (by decide +kernel)) (fun _ _ _ _ _ => (pg_name (i := 2) sc__check_letters.nd rfl (Or.inl rfl))) (fun _ _ _ _ _ => pts_nil) (fun _ _ _ _ _ => (pe_callC C_is_small (hr.mono (by decide)) rfl pass0 (pa_cons (pv 2) pa_nil)))) pa_nil)))))))
      (pss_one (ps_raise rfl (takes_of rfl rfl rfl rfl) (pmk_own PySem.F.excBase_ValueError T.x_BadWord T.g_BadWord T.k_BadWord (raises_own T.b_BadWord T.t_BadWord) rfl)))
      pss_nil)
      (pss_cons (ps_if (pt_cmpR op_ne (pe_callB cr_lenSS (by rfl) B.z_len (by decide +kernel) (pa_cons (pe_callTy (cr_setOfT rfl) (by rfl) B.z_set (by decide +kernel) (pa_cons (pv 0) pa_nil)) pa_nil)) (pe_callB call_len_str (by rfl) B.z_len (by decide +kernel) (pa_cons (pv 0) pa_nil)) (nomark _))
      (pss_one (ps_raise rfl (takes_of rfl rfl rfl rfl) (pmk_own PySem.F.excBase_ValueError T.x_BadWord T.g_BadWord T.k_BadWord (raises_own T.b_BadWord T.t_BadWord) rfl)))
      pss_nil)
      (pss_one (ps_if (pt_not (pt_val (pe_callB (cr_all rfl) (by rfl) B.z_all (by decide +kernel) (pa_cons (pe_lc (own := [("first", 3), ("letter", 2), ("second", 4)]) rfl sc__check_letters.nd (pi_list (pv 1)) (blkOk_by (own := [("first", 3), ("letter", 2), ("second", 4)]) (N := ["letters", "web", "letter", "first", "second"]) (sc := defScope s__check_letters) (by decide +kernel)) (fun _ _ _ _ _ => (pg_tupB (n := 3) rfl (pgs_cons (pg_name (i := 3) sc__check_letters.nd rfl (Or.inl rfl)) (pgs_cons (pg_name (i := 2) sc__check_letters.nd rfl (Or.inl rfl)) (pgs_cons (pg_name (i := 4) sc__check_letters.nd rfl (Or.inl rfl)) pgs_nil))))) (fun _ _ _ _ _ => pts_nil) (fun _ _ _ _ _ => (pe_cmpR op_in_sign (pv 2) (pv 0) rfl))) pa_nil))))
      (pss_one (ps_raise rfl (takes_of rfl rfl rfl rfl) (pmk_own PySem.F.excBase_ValueError T.x_BadWord T.g_BadWord T.k_BadWord (raises_own T.b_BadWord T.t_BadWord) rfl)))
      pss_nil)))), ?_⟩)
  · obtain ⟨y, a, xs, T, rfl, _⟩ := h; rfl
  · obtain ⟨y, a, xs, T, rfl, ha, hT, sm, hz, h⟩ := h
    by_cases ty : ∃ U, Kn H y U ∧ U ≠ "str"
    · obtain ⟨U, k, nU⟩ := ty
      rcases h with ⟨l, rfl, _⟩ | ⟨_, hE⟩
      · exact absurd (ty_of_str k.1) nU
      · refine q_when (b := true) (et_is (et_or (b := true) (et_test (ev_op (ev_cb (ea_cons (ev_var rfl) ea_nil) (rc_type7 k.1)) ev_c (rv_neTy (b := "str") k.2 (fun _ => rfl)))) (fun z => by rw [decide_eq_false nU] at z; cases z)) (by rw [decide_eq_false nU]; rfl)) (fun _ H1 e1 => hE H1 e1) (fun z => by cases z)
    · obtain ⟨z, rfl, hzz, h⟩ : ∃ z : Str, y = .str z ∧ z.cps.size ≤ 1000 ∧ ((OkL z.cps.toList T ∧ RetV .non H Q) ∨ (¬ OkL z.cps.toList T ∧ ∀ H', Ex H H' → E (.ref C_BadWord) none H')) := by
        rcases h with ⟨l, rfl, ok, q⟩ | ⟨b | ⟨z, rfl, hzz, no⟩, hE⟩
        · have := ok.len
          exact ⟨S l, rfl, by show l.toArray.size ≤ 1000; rw [List.size_toArray]; omega, Or.inl ⟨by rw [S_cps]; exact ok, q⟩⟩
        · exact (ty b).elim
        · exact ⟨z, rfl, hzz, Or.inr ⟨no, hE⟩⟩
      have ks := Kn.mono (Ex.refl H) (kn_str (H := H) (z := z))
      refine q_when (b := !(z.cps.toList.map fun c => smallL [c]).all id) (et_is (et_or (et_test (ev_op (ev_cb (ea_cons (ev_var rfl) ea_nil) (rc_type7 ks.1)) ev_c (rv_neTy (b := "str") ks.2 (fun _ => rfl)))) fun _ => et_not (et_B (ev_allN (bs := z.cps.toList.map fun c => smallL [c]) (el_lcA (fun x => .bl (smallB x)) (ew_str (ev_var rfl)) trivial kp_true (by rw [List.length_map, Array.length_toList]; omega) (fun x => rfl) fun x hx H2 e2 => ?_) (by rw [List.map_map, List.map_map]; rfl)))) (by rw [decide_eq_true rfl]; rfl)) (fun b H1 e1 => ?_) (fun b H1 e1 => ?_)
      · obtain ⟨c, _, rfl⟩ := List.mem_map.mp hx
        exact ev_call (ea_cons (ev_var rfl) ea_nil) (sv_is_small kn_str (fun z e => by cases e; exact (by decide : 1 ≤ 1000)))
      · rcases h with ⟨ok, _⟩ | ⟨_, hE⟩
        · exfalso
          have : (z.cps.toList.map fun c => smallL [c]).all id = true := by
            rw [all_map_id, List.all_eq_true]
            exact fun c hc => smallL_one (ok.1 c hc)
          rw [this] at b; cases b
        · exact hE H1 e1
      · have p1 : ∀ c ∈ z.cps.toList, 97 ≤ c ∧ c ≤ 122 := fun c hc => by
          have b2 : (z.cps.toList.map fun c => smallL [c]).all id = true := by simpa using b
          rw [all_map_id, List.all_eq_true] at b2
          have := b2 c hc
          have : (decide (97 ≤ c) && decide (c ≤ 122)) = true := this
          simpa using this
        refine q_when (et_test (ev_op (ev_lenSet (ev_var rfl) (by omega)) (ev_cb (ea_cons (ev_var rfl) ea_nil) (rc_lenS (by show z.cps.size ≤ sizeLine; exact Nat.le_trans hzz (by decide)))) (rv_ne rfl))) (fun b H2 e2 => ?_) (fun b H2 e2 => ?_)
        · rcases h with ⟨ok, _⟩ | ⟨_, hE⟩
          · exfalso
            have l := csetL_len_iff.mpr ok.2.1
            rw [l] at b
            have : V.int ((z.cps.toList.length : Nat) : Int) = V.int ((z.length : Nat) : Int) := by rw [Array.length_toList]; rfl
            rw [this] at b
            simp at b
          · exact hE H2 (e1.trans e2)
        · have p2 : z.cps.toList.Nodup := by
            refine csetL_len_iff.mp ?_
            have b2 : decide (V.int ((csetL z.cps.toList).length : Nat) = V.int ((z.length : Nat) : Int)) = true := by simpa using b
            have := V.int.inj (of_decide_eq_true b2)
            have e : z.cps.toList.length = z.length := Array.length_toList
            rw [e]
            exact Int.ofNat.inj this
          have e2' := e1.trans e2
          refine s_if (et_not (et_B (ev_allN (bs := T.map fun t => decide (t.2.1 ∈ z.cps.toList)) (el_lcTies (f := fun t => .bl (decide (t.2.1 ∈ z.cps.toList))) (ev_var rfl) (sq_of (e2' _ _ ha)) (hT.mono e2') (by omega) (fun x y w => rfl) fun u hu H3 e3 => ev_inZ (ev_var rfl) (ev_var rfl)) (by rw [List.map_map]; rfl)))) (fun b H3 e3 => ?_) (fun b H3 e3 => ?_)
          · rcases h with ⟨ok, _⟩ | ⟨_, hE⟩
            · exfalso
              have : (T.map fun t => decide (t.2.1 ∈ z.cps.toList)).all id = true := by
                rw [all_map_id, List.all_eq_true]
                exact fun t ht => decide_eq_true (ok.2.2 t ht)
              rw [this] at b; cases b
            · exact hE H3 (e2'.trans e3)
          · rcases h with ⟨_, q⟩ | ⟨no, _⟩
            · exact q H3 (e2'.trans e3)
            · refine (no ⟨p1, p2, fun t ht => ?_⟩).elim
              have b2 : (T.map fun t => decide (t.2.1 ∈ z.cps.toList)).all id = true := by simpa using b
              rw [all_map_id, List.all_eq_true] at b2
              exact of_decide_eq_true (b2 t ht)
theorem ok_sides (D : Def K mg "sides" s_sides ["web", "letters"]) (B : Blt mg) (C_check_web : Cal P w K mg base (L2.CX P w) "check_web" 11 ["thing"] (sp_checkweb C_BadWeb)) (C__check_letters : Cal P w K mg base (L2.CX P w) "_check_letters" 2 ["letters", "web"] (sp_checkl K C_BadWord)) (C_numbering : Cal P w K mg base CX0 "numbering" 8 ["ties"] (sp_numbering K)) (C_leads_of : Cal P w K mg base CX0 "leads_of" 2 ["ties"] (sp_leads K)) : Cal P w K mg base (L2.CX P w) "sides" 12 ["web", "letters"] (sp_sides C_BadWeb C_BadWord) := by
  refine D.calX sc_sides (fun vs H Q E h => ?_) (fun f cdv A outer s H vs Q E hr h => ⟨_, (pss_cons (ps_expr (pe_callC C_check_web (hr.mono (by decide)) rfl (passes_call (takes_of rfl rfl rfl rfl) (fun _ _ _ _ h => h)) (pa_cons (pv 0) pa_nil)))
      (pss_cons (ps_expr (pe_callC C__check_letters (hr.mono (by decide)) rfl (passes_call (takes_of rfl rfl rfl rfl) (fun _ _ _ _ h => h)) (pa_cons (pv 1) (pa_cons (pv 0) pa_nil))))
      (pss_cons (ps_set (i := 2) sc_sides.nd rfl (Or.inl rfl) (pe_callB call_lenD (by rfl) B.z_len (by decide +kernel) (pa_cons (pe_callC C_numbering (hr.mono (by decide)) rfl pass0 (pa_cons (pv 0) pa_nil)) pa_nil)))
      (pss_cons (ps_set (i := 3) sc_sides.nd rfl (Or.inr rfl) (pe_callC C_leads_of (hr.mono (by decide)) rfl pass0 (pa_cons (pv 0) pa_nil)))
      (pss_cons (ps_set (i := 4) sc_sides.nd rfl (Or.inr rfl) (pe_op op_add_str (pv 1) (pe_upper (pv 1))))
      (pss_cons (ps_set (i := 5) sc_sides.nd rfl (Or.inl rfl) (pe_callB (cr_all rfl) (by rfl) B.z_all (by decide +kernel) (pa_cons (pe_lc2 (own := [("room", 6), ("mark", 7)]) (vs1 := [7]) rfl sc_sides.nd (pi_range1 rfl B.z_range (pa_cons (pv 2) pa_nil)) (blkOk_by (own := [("room", 6), ("mark", 7)]) (N := ["web", "letters", "rooms", "leads", "marks", "whole", "room", "mark"]) (sc := defScope s_sides) (by decide +kernel)) (by decide) (fun _ _ _ _ _ => (pg_name (i := 6) sc_sides.nd rfl (Or.inl rfl))) (fun _ _ _ _ _ => pts_nil) (fun _ _ _ _ _ => (pi_str (pv 4))) (fun _ _ _ _ _ => (pg_name (i := 7) sc_sides.nd rfl (Or.inl rfl))) (fun _ _ _ _ _ => pts_nil) (fun _ _ _ _ _ => (pe_cmp (pc_din (hu_of hr) (pe_tup (pa_cons (pv 6) (pa_cons (pv 7) pa_nil))) (pv 3)) rfl))) pa_nil)))
      (pss_one (ps_ret (pe_ifExp (pt_val (pv 5)) (pv 2) pe_non))))))))), ?_⟩)
  · obtain ⟨x, y, rfl, _⟩ := h; rfl
  · obtain ⟨x, y, rfl, ⟨hn, hE⟩ | ⟨a, T, rfl, g, h⟩⟩ := h
    · exact q_badweb (ev_var rfl) hn hE
    · refine q_checkweb (ev_var rfl) g fun H1 e1 => ?_
      have gd := g
      obtain ⟨xs, ha, hT, G, hz⟩ := gd
      have fo := G.core.fold
      have nd := G.core.nd
      have sm := G.core.small
      rcases h with ⟨bad, hE⟩ | ⟨l, rfl, ok, q⟩
      · exact ⟨_, rfl, _, rfl, _, a, xs, T, rfl, e1 _ _ ha, hT.mono e1, sm, hz, Or.inr ⟨bad.mono e1, fun H' e' => hE H' (e1.trans e')⟩⟩
      · refine ⟨_, rfl, _, rfl, _, a, xs, T, rfl, e1 _ _ ha, hT.mono e1, sm, hz, Or.inl ⟨l, rfl, ok, fun H2 e2 => ?_⟩⟩
        have E2 := e1.trans e2
        have ll := ok.len
        refine nx_go ?_
        show tSeq (tAsg (tCB _ (tCons (tCall (sp_numbering K) [] _ (tCons (tVar 0) tNil)) tNil)) (gName 2)) _ _ [some (.ref a), some (.str (S l)), none, none, none, none, none, none] H2
        refine q_asg (v := .int ((ord T).length : Nat)) (fun H3 e3 Q1 q1 => wp_cb1 (wp_call1 ⟨.ref a, rfl, a, T, rfl, (g.mono (E2.trans e3)).web, sm, fo, nd, hz, fun d H4 hd e4 NA => ?_⟩)) fun H3 e3 => ?_
        · have := rc_lenK NA
          rw [numKV_len] at this
          exact this H4 (Ex.refl _) _ fun H5 e5 => q1 H5 (e4.trans e5)
        have E3 := E2.trans e3
        refine q_asgQ (Φ := fun d H4 => H3 d = none ∧ Ex H3 H4 ∧ LeadsAt H4 d T) (fun Q1 q1 => wp_call1 ⟨.ref a, rfl, a, T, rfl, (g.mono E3).web, sm, by omega, fun d H4 hd e4 LA => q1 d H4 ⟨hd, e4, Or.inl LA⟩⟩) ?_
        rintro d H4 ⟨hd, e4, LA⟩
        refine q_asg (v := .str (S (l ++ l.map (· - 32)))) (ev_is (ev_op (ev_var rfl) (ev_mS (C := fun a => a.length ≤ 5592405) (g := fun a => .str (Txt.upper a)) (ev_var rfl) (by show (S l).length ≤ _; rw [S_len]; omega)) (rv_addS (i := S l) (j := Txt.upper (S l)) (by rw [upper_many ok.1, S_len, S_len, List.length_map]; exact sz_of (by omega)))) (by rw [upper_many ok.1, S_app])) fun H5 e5 => ?_
        have LA5 := LA.mono e5
        have mk : ∀ c ∈ l ++ l.map (· - 32), isL c = true := fun c hc => by
          rcases List.mem_append.mp hc with hc | hc
          · exact isL_iff.mpr (Or.inl (ok.1 c hc))
          · obtain ⟨d, hd, rfl⟩ := List.mem_map.mp hc
            have := ok.1 d hd
            exact isL_iff.mpr (Or.inr (by omega))
        have ol : (ord T).length ≤ 2 * T.length + 1 := by
          rw [← rms_len]
          exact nodup_le' (ord_nodup T) fun x hx => G.core.ords.mp hx
        have ml : (l ++ l.map (· - 32)).length ≤ 52 := by rw [List.length_append, List.length_map]; omega
        unfold wholeB at q
        generalize l ++ l.map (· - 32) = ms at mk ml q ⊢
        have flen : ∀ (n : Nat) (f : Nat → List V), (∀ r, (f r).length = ms.length) → ((List.range n).flatMap f).length = n * ms.length := fun n f hf => by
          induction n with
          | zero => simp
          | succ n ih => rw [List.range_succ, List.flatMap_append, List.length_append, ih, List.flatMap_singleton, hf, Nat.succ_mul]
        have hle : ((((List.range (ord T).length).map fun i => V.int (i : Nat))).flatMap fun _ => ms.map sgn).length ≤ 1000000 := by
          rw [List.flatMap_map, flen _ _ fun r => List.length_map _]
          have : (ord T).length * ms.length ≤ 4001 * 52 := Nat.mul_le_mul (by omega) ml
          omega
        refine q_asg (v := .bl ((List.range (ord T).length).all fun r => ms.all fun c => !(gl T r c).isEmpty)) (ev_is (ev_allN (bs := (List.range (ord T).length).flatMap fun r => ms.map fun c => !(gl T r c).isEmpty) (el_lc2 (inner := fun _ => ms.map sgn) (fun x y => match x, y with | .int i, .str z => .bl (!(gl T i.toNat (z.cps.getD 0 0)).isEmpty) | _, _ => .non) (ew_rng1 (n := ((ord T).length : Nat)) (ea_cons (ev_var rfl) ea_nil) (by omega)) trivial kp_true hle (fun x => rfl) (fun x y => rfl) (fun x hx H6 e6 => ?_) (fun x hx y hy H6 e6 => ?_)) ?_) ?_) fun H6 e6 => ?_
        · have := ew_str (H := H6) (ev_var (i := 4) (v := .str (S ms)) (σ := (wipe [some (.ref a), some (.str (S l)), some (.int ((ord T).length : Nat)), some (.ref d), some (.str (S ms)), none, none, none] [6, 7]).set 6 (some x)) rfl)
          rw [S_cps] at this
          exact this
        · obtain ⟨r, hr, rfl⟩ := List.mem_map.mp hx
          obtain ⟨c, hc, rfl⟩ := List.mem_map.mp hy
          obtain ⟨o, ho, hgl, _⟩ := leads_val sm fo nd (r := r) (mk c hc)
          refine ev_is (ev_dinT (k := key r c) (by rw [key_v]; exact eu_tup (ea_cons (ev_var rfl) (ea_cons (ev_var rfl) ea_nil)) (by show 2 ≤ 100000; decide)) (fun H7 e7 => ev_var rfl) (LA5.mono e6)) ?_
          show _ = V.bl (!(gl T ((r : Nat) : Int).toNat c).isEmpty)
          rw [ho, show ((r : Nat) : Int).toNat = r from rfl, hgl]
          cases o <;> rfl
        · rw [List.flatMap_map, List.map_flatMap]
          refine congrArg (fun f => List.flatMap f _) (funext fun r => ?_)
          rw [List.map_map, List.map_map]; rfl
        · rw [List.all_flatMap]
          refine congrArg V.bl (congrArg (fun f => List.all _ f) (funext fun r => ?_))
          show ((ms.map _).all id) = _
          rw [all_map_id]
        · generalize ((List.range (ord T).length).all fun r => ms.all fun c => !(gl T r c).isEmpty) = b at q ⊢
          exact s_ret (v := if b = true then .int ((ord T).length : Nat) else .non) (ev_tif (et_B (ev_var rfl)) (fun hb H7 e7 => by rw [if_pos hb]; exact ev_var rfl) (fun hb H7 e7 => by rw [if_neg (by rw [hb]; decide)]; exact ev_c)) fun H7 e7 => q H7 ((((E3.trans e4).trans e5).trans e6).trans e7)
end
end Gw

/-! ## Pbk -/
namespace Gw
open PySem PySem.Spec PyProof.Rows L2 Evl
abbrev s_back : Stmt := topS 21
theorem sc_back : FnScope ["word", "letter"] ["word"] (defScope s_back) := ⟨rfl, rfl, rfl, by decide +kernel, rfl, by decide +kernel, by decide +kernel⟩
section
variable {P : Program} {w : World} {K : PySem.W.Frag} {mg : Str → Option Value} {base : Heap} {C_GlueError C_BadWord C_BadWeb : Addr}
theorem ok_back (D : Def K mg "back" s_back ["word"]) (C_check_word : Cal P w K mg base (L2.CX P w) "check_word" 5 ["thing"] (sp_check C_BadWord)) (C_short : Cal P w K mg base (L2.CX P w) "short" 6 ["word"] (sp_short C_BadWord)) : Cal P w K mg base (L2.CX P w) "back" 7 ["word"] (sp_back C_BadWord) := by
  refine D.calX sc_back (fun vs H Q E h => ?_) (fun f cdv A outer s H vs Q E hr h => ⟨_, (pss_cons (ps_expr (pe_callC C_check_word (hr.mono (by decide)) rfl (passes_call (takes_of rfl rfl rfl rfl) (fun _ _ _ _ h => h)) (pa_cons (pv 0) pa_nil)))
      (pss_one (ps_ret (pe_callC C_short (hr.mono (by decide)) rfl (passes_call (takes_of rfl rfl rfl rfl) (fun _ _ _ _ h => h)) (pa_cons (pe_join pe_str (pe_lc (own := [("letter", 1)]) (g := (gName 1)) rfl sc_back.nd (pi_str (pe_revS (pv 0))) (blkOk_by (own := [("letter", 1)]) (N := ["word", "letter"]) (sc := defScope s_back) (by decide +kernel)) (fun _ _ _ _ _ => (pg_name (i := 1) sc_back.nd rfl (Or.inl rfl))) (fun _ _ _ _ _ => pts_nil) (fun _ _ _ _ _ => (pe_m0 PySem.F.slot_str_swapcase PySem.F.type_str_swapcase mt_swapcase (pv 1))))) pa_nil))))), ?_⟩)
  · obtain ⟨x, rfl, _⟩ := h; rfl
  · obtain ⟨x, rfl, ⟨l, rfl, hz, hw, q⟩ | ⟨hn, hE⟩⟩ := h
    · refine q_check (ev_var rfl) hz hw fun H1 e1 => ?_
      refine s_ret (ev_call (ea_cons (ev_is (ev_joinN (a := S []) (ys := (inv l).map fun c => S [c]) ev_c (el_lcA (fun x => match x with | .str z => .str (Txt.swapcase z) | _ => .non) (ew_str (ev_revS (ev_var rfl) (S_sz (by omega)))) trivial kp_true ?_ (fun x => rfl) ?_) ?_ ?_) (w := .str (S (inv l))) ?_) ea_nil) (sv_short (by rw [inv_len]; omega) (isW_inv hw))) fun H2 e2 => q H2 (e1.trans e2)
      · rw [List.length_map]; show (S l).cps.toList.reverse.toArray.toList.length ≤ _; simp [S_cps]; omega
      · intro x hx H2 e2
        obtain ⟨c, hc, rfl⟩ := List.mem_map.mp hx
        refine ev_mS (C := fun a => a.length ≤ 5592405) (g := fun a => .str (Txt.swapcase a)) (ev_var rfl) ?_
        show (S [c]).length ≤ _
        rw [S_len]; simp
      · have : (revS (S l)).cps.toList = l.reverse := by show (S l).cps.toList.reverse.toArray.toList = _; simp [S_cps]
        rw [this]
        unfold inv
        rw [List.map_map, List.map_map, List.map_map]
        refine List.map_congr_left fun c hc => ?_
        show V.str (Txt.swapcase (S [c])) = V.str (S [bk c])
        rw [swap_one (List.all_eq_true.mp hw c (List.mem_reverse.mp hc))]
      · rw [ones_size, inv_len]; omega
      · rw [join_ones]
    · exact ⟨_, rfl, _, rfl, Or.inr ⟨hn, hE⟩⟩
end
end Gw

/-! ## Pfew -/
namespace Gw
open PySem PySem.Spec PyProof.Rows L2 Evl
abbrev s_few : Stmt := topS 38
theorem sc_few : FnScope ["web", "ways", "finding", "start", "letter", "end", "first", "second"] ["web"] (defScope s_few) := ⟨rfl, rfl, rfl, by decide +kernel, rfl, by decide +kernel, by decide +kernel⟩
section
variable {P : Program} {w : World} {K : PySem.W.Frag} {mg : Str → Option Value} {base : Heap} {C_GlueError C_BadWord C_BadWeb : Addr}
theorem ok_few (D : Def K mg "few" s_few ["web"]) (C_check_web : Cal P w K mg base (L2.CX P w) "check_web" 11 ["thing"] (sp_checkweb C_BadWeb)) (C_findings : Cal P w K mg base CX0 "findings" 7 ["ties"] (sp_findings K)) (C_tie_of : Cal P w K mg base CX0 "tie_of" 1 ["here", "letter", "there"] sp_tie) (C_back : Cal P w K mg base (L2.CX P w) "back" 7 ["word"] (sp_back C_BadWord)) : Cal P w K mg base (L2.CX P w) "few" 12 ["web"] (sp_few C_BadWeb) := by
  refine D.calX sc_few (fun vs H Q E h => ?_) (fun f cdv A outer s H vs Q E hr h => ⟨_, (pss_cons (ps_expr (pe_callC C_check_web (hr.mono (by decide)) rfl (passes_call (takes_of rfl rfl rfl rfl) (fun _ _ _ _ h => h)) (pa_cons (pv 0) pa_nil)))
      (pss_cons (ps_set (i := 1) sc_few.nd rfl (Or.inr rfl) (pe_disp (pps_cons pe_int pe_str pps_nil) (by rfl) (by rfl) (fun z => by cases z) (by decide)))
      (pss_cons (ps_set (i := 2) sc_few.nd rfl (Or.inr rfl) pe_dnewT)
      (pss_cons (ps_for (passes_of rfl) rfl (pi_list (pe_callC C_findings (hr.mono (by decide)) rfl pass0 (pa_cons (pv 0) pa_nil))) (pg_tup (n := 3) rfl (pgs_cons (pg_name (i := 3) sc_few.nd rfl (Or.inl rfl)) (pgs_cons (pg_name (i := 4) sc_few.nd rfl (Or.inl rfl)) (pgs_cons (pg_name (i := 5) sc_few.nd rfl (Or.inl rfl)) pgs_nil))))
      (pss_cons (ps_dput (hu_of hr) (pv 1) (pv 5) (pe_op op_add_str (pe_dget (hu_of hr) (pv 1) (pv 3) (fun _ _ => rfl)) (pv 4)) rfl)
      (pss_one (ps_dput (hu_of hr) (pv 2) (pe_callC C_tie_of (hr.mono (by decide)) rfl pass0 (pa_cons (pv 3) (pa_cons (pv 4) (pa_cons (pv 5) pa_nil)))) pe_bl rfl))))
      (pss_one (ps_ret (pe_lcX (own := [("first", 6), ("letter", 4), ("second", 7)]) rfl sc_few.nd (pi_list (pv 0)) (blkOk_by (own := [("first", 6), ("letter", 4), ("second", 7)]) (N := ["web", "ways", "finding", "start", "letter", "end", "first", "second"]) (sc := defScope s_few) (by decide +kernel)) (fun _ _ _ _ _ => (pg_tupB (n := 3) rfl (pgs_cons (pg_name (i := 6) sc_few.nd rfl (Or.inl rfl)) (pgs_cons (pg_name (i := 4) sc_few.nd rfl (Or.inl rfl)) (pgs_cons (pg_name (i := 7) sc_few.nd rfl (Or.inl rfl)) pgs_nil))))) (fun _ _ _ _ _ => (pts_one (pt_cmp (pc_dnotin (hu_of hr) (pe_tup (pa_cons (pv 6) (pa_cons (pv 4) (pa_cons (pv 7) pa_nil)))) (pv 2))))) (takes_of rfl rfl rfl rfl) (fun _ _ _ _ h => h) rfl rfl (fun _ _ _ _ _ _ hp => (pe_op op_add_str (pe_op op_add_str (pe_dget (hu_of hr) (pv 1) (pv 6) (fun _ _ => rfl)) (pv 4)) (pe_callC C_back (hr.mono (by decide)) rfl hp (pa_cons (pe_dget (hu_of hr) (pv 1) (pv 7) (fun _ _ => rfl)) pa_nil))))))))))), ?_⟩)
  · obtain ⟨x, rfl, _⟩ := h; rfl
  · obtain ⟨x, rfl, ⟨hn, hE⟩ | ⟨a, T, rfl, g, hz4, q⟩⟩ := h
    · exact q_badweb (ev_var rfl) hn hE
    · refine q_checkweb (ev_var rfl) g fun H1 e1 => ?_
      have gd := g
      obtain ⟨xs, ha, hT, G, hz⟩ := gd
      have fo := G.core.fold
      have nd := G.core.nd
      have sm := G.core.small
      have C := G.core
      have xl := hT.length
      have W := ways_fin T
      -- two dicts
      show tSeq (tAsg (tDisp [(tC (.int 0), tC (.str ""))]) (gName 1)) _ _ [some (.ref a), none, none, none, none, none, none, none] H1
      intro p hp
      refine ⟨upd_same, [((.inl ((0 : Nat) : Int) : Key), .str (S []))], rfl, by decide, ?_⟩
      have e2 : Ex H1 (upd (upd H1 p (.dK [])) p (.dK (mergeK [] [((.inl ((0 : Nat) : Int) : Key), .str (S []))]))) := Ex.mut (Ex.new hp) hp
      have h2 : (upd (upd H1 p (.dK [])) p (.dK (mergeK [] [((.inl ((0 : Nat) : Int) : Key), .str (S []))]))) p = some (.dK [((.inl ((0 : Nat) : Int) : Key), .str (S []))]) := upd_same
      generalize upd (upd H1 p (.dK [])) p (.dK (mergeK [] [((.inl ((0 : Nat) : Int) : Key), .str (S []))])) = H2 at *
      refine gname_go (nx_go ?_)
      show tSeq (tAsg tDNewT (gName 2)) _ _ _ H2
      intro d hd
      have e3 : Ex H2 (upd H2 d (.dT [])) := Ex.new hd
      have h3 : (upd H2 d (.dT [])) d = some (.dT []) := upd_same
      generalize upd H2 d (.dT []) = H3 at *
      refine gname_go (nx_go ?_)
      have npd : p ≠ d := fun z => by subst z; rw [h2] at hd; cases hd
      have fp : H p = none := fresh_back e1 hp
      have fd0 : H d = none := fresh_back (e1.trans e2) hd
      have E3 := (e1.trans e2).trans e3
      refine q_forC (wp_call1 ⟨.ref a, rfl, a, T, rfl, (g.mono E3).web, sm, fo, nd, hz, fun r H4 ys hr2 e4 h4 hF => ?_⟩)
      have fr : H r = none := fresh_back E3 hr2
      have npr : p ≠ r := fun z => by subst z; rw [e3 _ _ h2] at hr2; cases hr2
      have ndr : d ≠ r := fun z => by subst z; rw [h3] at hr2; cases hr2
      have S0 := steps_fin T
      have fl : (fin T).length ≤ T.length := by have h2 := fin_len T; have h3 := idle_len nd; omega
      refine q_for (ew_list ev_c (sq_of h4)) (fun i σ' H' => ∃ x3 x4 x5, σ' = [some (.ref a), some (.ref p), some (.ref d), x3, x4, x5, none, none] ∧ Ex H H' ∧ H' r = some (.lst ys) ∧ Ties H' ys (fin T) ∧ (∃ kvs, H' p = some (.dK kvs) ∧ WayD kvs ((fin T).take i)) ∧ ∃ fvs, H' d = some (.dT fvs) ∧ FndD fvs (((fin T).take i).map tieS))
        (fun H5 e5 => ⟨_, _, _, rfl, (E3.trans e4).trans e5, e5 _ _ h4, hF.mono e5, ⟨_, ((e3.trans e4).trans e5) _ _ h2, wayD_start⟩, _, (e4.trans e5) _ _ h3, fun t => by rw [if_neg (by simp)]; rfl, Nat.le_refl _⟩) (fun i σ' H' _ ⟨_, _, _, _, _, e, _⟩ => sq_of e) ?_ ?_
      · rintro i x σ' H' hx ⟨x3, x4, x5, rfl, ex, h5, hF5, ⟨kvs, hk, WD⟩, fvs, hf, FD⟩
        obtain ⟨t, ta, hti, rfl, hta⟩ := hF5.at hx
        have mt := List.mem_of_getElem? hti
        obtain ⟨m1, m2, lt⟩ := fin_mem mt
        have cL := lt.isL
        have tk : (fin T).take (i + 1) = (fin T).take i ++ [t] := by rw [List.take_add_one, hti]; rfl
        have SL : Steps T ((fin T).take (i + 1)) := by
          have h := S0
          rw [(List.take_append_drop (i + 1) (fin T)).symm] at h
          exact Steps.left h
        rw [tk] at SL
        have ka := SL.last.2
        have na := SL.last.1
        have il : i < (fin T).length := (List.getElem?_eq_some_iff.mp hti).1
        have tl : ((fin T).take i).length = i := by rw [List.length_take]; omega
        have wl := wayL_len tl t.1
        refine g3 rfl (st_of hta) ?_
        show tSeq (sDPut (tVar 1) (tVar 5) (tOp _ (tDGet (tVar 1) (tVar 3)) (tVar 4))) _ _ [some (.ref a), some (.ref p), some (.ref d), some (.int (t.1 : Nat)), some (sgn t.2.1), some (.int (t.2.2 : Nat)), none, none] H'
        have wdl := WD.2
        have fdl := FD.2
        rw [List.length_map] at fdl
        have rv := rv_addS (H := H') (i := S (wayL ((fin T).take i) t.1)) (j := S [t.2.1]) (by rw [S_len, S_len]; exact sz_of (by simp; omega))
        rw [S_app] at rv
        refine q_dputK (k := .inl (t.2.2 : Nat)) hk (ev_op (ev_dgetK (k := .inl (t.1 : Nat)) (ev_var rfl) (ev_var rfl) (Or.inl hk) (WD.1 _ ka)) (ev_var rfl) rv) (ev_var rfl) (ev_var rfl) (by omega) fun H6 e6 hk6 => ?_
        have WD2 := WD.put ka na
        have hk7 : (upd H6 p (.dK (putK kvs (.inl (t.2.2 : Nat)) (.str (S (wayL ((fin T).take i) t.1 ++ [t.2.1])))))) p = some (.dK (putK kvs (.inl (t.2.2 : Nat)) (.str (S (wayL ((fin T).take i) t.1 ++ [t.2.1]))))) := upd_same
        have e7 : Ex H (upd H6 p (.dK (putK kvs (.inl (t.2.2 : Nat)) (.str (S (wayL ((fin T).take i) t.1 ++ [t.2.1])))))) := Ex.mut (ex.trans e6) fp
        have h57 : (upd H6 p (.dK (putK kvs (.inl (t.2.2 : Nat)) (.str (S (wayL ((fin T).take i) t.1 ++ [t.2.1])))))) r = some (.lst ys) := by rw [upd_ne npr.symm]; exact e6 _ _ h5
        have hF7 : Ties (upd H6 p (.dK (putK kvs (.inl (t.2.2 : Nat)) (.str (S (wayL ((fin T).take i) t.1 ++ [t.2.1])))))) ys (fin T) := ties_dk (hF5.mono e6) fun l z => by rw [hk6] at z; cases z
        have hf7 : (upd H6 p (.dK (putK kvs (.inl (t.2.2 : Nat)) (.str (S (wayL ((fin T).take i) t.1 ++ [t.2.1])))))) d = some (.dT fvs) := by rw [upd_ne npd.symm]; exact e6 _ _ hf
        generalize upd H6 p (.dK (putK kvs (.inl (t.2.2 : Nat)) (.str (S (wayL ((fin T).take i) t.1 ++ [t.2.1]))))) = H7 at *
        generalize putK kvs (.inl (t.2.2 : Nat)) (.str (S (wayL ((fin T).take i) t.1 ++ [t.2.1]))) = kvs2 at *
        show sDPut (tVar 2) (tCall sp_tie [] _ (tCons (tVar 3) (tCons (tVar 4) (tCons (tVar 5) tNil)))) (tC (.bl true)) _ [some (.ref a), some (.ref p), some (.ref d), some (.int (t.1 : Nat)), some (sgn t.2.1), some (.int (t.2.2 : Nat)), none, none] H7
        refine ⟨.ref d, rfl, .int (t.1 : Nat), rfl, sgn t.2.1, rfl, .int (t.2.2 : Nat), rfl, t.1, t.2.1, t.2.2, rfl, cL, fun b H8 hb e8 h8 => ?_⟩
        have hf8 := e8 _ _ hf7
        refine ⟨d, _, rfl, DPut.t (k := key3 (tieS t)) hf8 (by rw [key3_v]; exact h8) (sz_lt (by omega)), _, _, _, rfl, Ex.mut (e7.trans e8) fd0, ?_, ?_, ⟨kvs2, ?_, ?_⟩, _, upd_same, ?_⟩
        · rw [upd_ne ndr.symm]; exact e8 _ _ h57
        · exact ties_dk (hF7.mono e8) fun l z => by rw [hf8] at z; cases z
        · rw [upd_ne npd]; exact e8 _ _ hk7
        · rw [tk]; exact WD2
        · rw [tk, List.map_append]; exact FD.put (tieS t)
      · rintro σ' H' ⟨x3, x4, x5, rfl, ex, h5, hF5, ⟨kvs, hk, WD⟩, fvs, hf, FD⟩
        rw [hF.length, List.take_length] at WD FD
        refine s_retL (el_is (el_lcTiesF (fun t => decide (t ∉ used T)) (fun t => .str (S (fw T t))) (ev_var rfl) (sq_of (ex _ _ ha)) (hT.mono ex) (by omega) (fun x y z => rfl) (fun u hu H6 e6 => ?_) (fun u hu hpu H6 e6 => ?_)) ?_) fun r2 H6 hr6 e6 h6 => q r2 H6 (fresh_back ex hr6) (ex.trans e6) h6
        · refine et_is (et_test (ev_dninT (k := key3 u) (by rw [key3_v]; exact eu_tup (ea_cons (ev_var rfl) (ea_cons (ev_var rfl) (ea_cons (ev_var rfl) ea_nil))) (by show 3 ≤ 100000; decide)) (fun H7 e7 => ev_var rfl) (Or.inl (e6 _ _ hf)))) ?_
          rw [FD.1 u]
          show (!(if u ∈ used T then some (V.bl true) else none).isSome) = _
          by_cases m : u ∈ used T
          · rw [if_pos m, decide_eq_false fun z => z m]; rfl
          · rw [if_neg m, decide_eq_true m]; rfl
        · have m1 : u.1 ∈ news (fin T) := by rw [news_fin]; exact C.conn _ (mem_rms.mpr (Or.inr ⟨u, hu, Or.inl rfl⟩))
          have m2 : u.2.2 ∈ news (fin T) := by rw [news_fin]; exact C.conn _ (mem_rms.mpr (Or.inr ⟨u, hu, Or.inr rfl⟩))
          have w2 : Wlk T 0 (way T u.2.2) u.2.2 := W.wlk (by rw [← news_fin]; exact m2)
          have l1 := way_len nd u.1
          have l2 := way_len nd u.2.2
          have sh : short (inv (way T u.2.2)) = inv (way T u.2.2) := short_of_shrt (isW_inv w2.isW) (shrt_inv w2.isW (W.sh fo (by rw [← news_fin]; exact m2)))
          have hk6 := e6 _ _ hk
          refine ev_op (ev_op (z := .str (S (way T u.1 ++ [u.2.1]))) (ev_dgetK (k := .inl (u.1 : Nat)) (ev_var rfl) (ev_var rfl) (Or.inl hk6) (WD.1 _ m1)) (ev_var rfl) ?_) (ev_call (ea_cons (ev_dgetK (k := .inl (u.2.2 : Nat)) (ev_var rfl) (ev_var rfl) (Or.inl hk6) (WD.1 _ m2)) ea_nil) (sv_back (by show (way T u.2.2).length ≤ 1000; omega) w2.isW)) ?_
          · have := rv_addS (H := H6) (i := S (way T u.1)) (j := S [u.2.1]) (by rw [S_len, S_len]; exact sz_of (by simp; omega))
            rw [S_app] at this
            exact this
          · have := rv_addS (H := H6) (i := S (way T u.1 ++ [u.2.1])) (j := S (short (inv (way T u.2.2)))) (by rw [S_len, S_len, sh, inv_len]; exact sz_of (by simp; omega))
            have e : S (way T u.1 ++ [u.2.1]) ++ S (short (inv (way T u.2.2))) = S (fw T u) := by
              rw [sh, S_app, List.append_assoc]; rfl
            rw [e] at this
            exact this
        · unfold few idle wordsV
          rw [List.map_map]; rfl
end
end Gw

/-! ## La -/
namespace Gw
open PySem PySem.Spec PyProof.Rows L2 Evl
abbrev s__law_cell : Stmt := topS 41
theorem sc__law_cell : FnScope ["_law_script", "_law_k"] ["_law_script", "_law_k"] (defScope s__law_cell) := ⟨rfl, rfl, rfl, by decide +kernel, rfl, by decide +kernel, by decide +kernel⟩
abbrev s__law_mixed : Stmt := topS 42
theorem sc__law_mixed : FnScope ["_law_cell_here", "_law_k", "_law_number"] ["_law_cell_here", "_law_k"] (defScope s__law_mixed) := ⟨rfl, rfl, rfl, by decide +kernel, rfl, by decide +kernel, by decide +kernel⟩
abbrev s__law_letters : Stmt := topS 43
theorem sc__law_letters : FnScope ["_law_cell_here", "_law_some", "_law_step", "_law_many", "_law_k"] ["_law_cell_here"] (defScope s__law_letters) := ⟨rfl, rfl, rfl, by decide +kernel, rfl, by decide +kernel, by decide +kernel⟩
abbrev s__law_back : Stmt := topS 44
theorem sc__law_back : FnScope ["_law_letter"] ["_law_letter"] (defScope s__law_back) := ⟨rfl, rfl, rfl, by decide +kernel, rfl, by decide +kernel, by decide +kernel⟩
abbrev s__law_word : Stmt := topS 45
theorem sc__law_word : FnScope ["_law_cell_here", "_law_letters_here", "_law_size", "_law_word_here", "_law_k", "_law_number", "_law_letter"] ["_law_cell_here", "_law_letters_here", "_law_size"] (defScope s__law_word) := ⟨rfl, rfl, rfl, by decide +kernel, rfl, by decide +kernel, by decide +kernel⟩
abbrev s__law_turned : Stmt := topS 47
theorem sc__law_turned : FnScope ["_law_word_here", "_law_letter"] ["_law_word_here"] (defScope s__law_turned) := ⟨rfl, rfl, rfl, by decide +kernel, rfl, by decide +kernel, by decide +kernel⟩
section
variable {P : Program} {w : World} {K : PySem.W.Frag} {mg : Str → Option Value} {base : Heap} {C_GlueError C_BadWord C_BadWeb : Addr}
theorem ok_cell (D : Def K mg "_law_cell" s__law_cell ["_law_script", "_law_k"]) (B : Blt mg) : Cal P w K mg base CX0 "_law_cell" 1 ["_law_script", "_law_k"] (sp_cell K) := by
  refine D.cal sc__law_cell (fun vs H Q E h => ?_) (fun f cdv A outer s H vs Q E hr h => ⟨_, (pss_cons (ps_if (pt_cmpR op_lt (pv 1) (pe_callB call_len_seq (by rfl) B.z_len (by decide +kernel) (pa_cons (pv 0) pa_nil)) (nomark _))
      (pss_one (ps_ret (pe_ix ix_list (pv 0) (pv 1) (fun _ _ => rfl))))
      pss_nil)
      (pss_one (ps_ret pe_int))), ?_⟩)
  · obtain ⟨a, ns, k, rfl, _⟩ := h; rfl
  · obtain ⟨a, ns, k, rfl, hs, q⟩ := h
    refine q_when (et_test (ev_op (ev_var rfl) (ev_cb (ea_cons (ev_var rfl) ea_nil) (rc_len hs)) rv_I0)) (fun b H1 e1 => ?_) (fun b H1 e1 => ?_)
    · have hk : k < ns.length := by have := of_decide_eq_true b; rw [List.length_map] at this; omega
      refine s_ret (ev_op (ev_var rfl) (ev_var rfl) (rv_ixL (ex_l e1 hs) (v := .int (cell ns k)) (atI_nat ?_))) fun H2 e2 => q H2 (e1.trans e2)
      rw [List.getElem?_map, List.getElem?_eq_getElem hk]
      unfold cell
      rw [List.getD_eq_getElem?_getD, List.getElem?_eq_getElem hk]; rfl
    · have hk : ¬ k < ns.length := by have := of_decide_eq_false b; rw [List.length_map] at this; omega
      refine s_ret (ev_is ev_c ?_) fun H2 e2 => q H2 (e1.trans e2)
      unfold cell
      rw [List.getD_eq_getElem?_getD, List.getElem?_eq_none (by omega)]; rfl
theorem ok_mixed (D : Def K mg "_law_mixed" s__law_mixed ["_law_cell_here", "_law_k"]) : Cal P w K mg base CX0 "_law_mixed" 1 ["_law_cell_here", "_law_k"] sp_mixed := by
  refine D.cal sc__law_mixed (fun vs H Q E h => ?_) (fun f cdv A outer s H vs Q E hr h => ⟨_, (pss_cons (ps_set (i := 2) sc__law_mixed.nd rfl (Or.inl rfl) (pe_op op_mod (pe_op op_mul (pe_op op_add (pe_op op_add (pe_op op_mod (pv 0) pe_int) (pe_op op_mul (pe_op op_mul pe_int (pv 1)) (pv 1))) (pe_op op_mul pe_int (pv 1))) pe_int) pe_int))
      (pss_one (ps_ret (pe_op op_mod (pe_op op_mul (pv 2) (pe_op op_add pe_int (pe_op op_mul pe_int (pv 1)))) pe_int)))), ?_⟩)
  · obtain ⟨c, k, rfl, _⟩ := h; rfl
  · obtain ⟨c, k, rfl, hk, q⟩ := h
    have b1 : 0 ≤ c % 2147483647 := Int.emod_nonneg _ (by decide)
    have b2 : c % 2147483647 < 2147483647 := Int.emod_lt_of_pos _ (by decide)
    refine q_asg (ev_op (ev_op (ev_op (ev_op (ev_op (ev_var rfl) ev_c (rv_I (by decide))) (ev_op (ev_op ev_c (ev_var rfl) (rv_I (.inl (by decide)))) (ev_var rfl) (rv_I (.inr (by omega)))) rv_I0) (ev_op ev_c (ev_var rfl) (rv_I (.inl (by decide)))) rv_I0) ev_c (rv_I (.inr (by decide)))) ev_c (rv_I (by decide))) fun H1 e1 => ?_
    refine s_ret (ev_op (ev_op (ev_var rfl) (ev_op ev_c (ev_op ev_c (ev_var rfl) (rv_I (.inl (by decide)))) rv_I0) (rv_I (.inr (by omega)))) ev_c (rv_I (by decide))) fun H2 e2 => q H2 (e1.trans e2)
theorem ok_letters (D : Def K mg "_law_letters" s__law_letters ["_law_cell_here"]) (B : Blt mg) : Cal P w K mg base CX0 "_law_letters" 1 ["_law_cell_here"] sp_letters := by
  refine D.cal sc__law_letters (fun vs H Q E h => ?_) (fun f cdv A outer s H vs Q E hr h => ⟨_, (pss_cons (ps_set (i := 1) sc__law_letters.nd rfl (Or.inr rfl) pe_str)
      (pss_cons (ps_set (i := 2) sc__law_letters.nd rfl (Or.inr rfl) (pe_ix ix_list (pe_lst (pa_cons pe_int (pa_cons pe_int (pa_cons pe_int (pa_cons pe_int (pa_cons pe_int (pa_cons pe_int (pa_cons pe_int (pa_cons pe_int pa_nil))))))))) (pe_op op_mod (pe_op op_fdiv (pv 0) pe_int) pe_int) (fun _ _ => rfl)))
      (pss_cons (ps_set (i := 3) sc__law_letters.nd rfl (Or.inl rfl) (pe_ix ix_list (pe_lst (pa_cons pe_int (pa_cons pe_int (pa_cons pe_int (pa_cons pe_int (pa_cons (pe_op op_add pe_int (pe_op op_mod (pe_op op_fdiv (pv 0) pe_int) pe_int)) (pa_cons pe_int (pa_cons pe_int (pa_cons pe_int pa_nil))))))))) (pe_op op_mod (pe_op op_fdiv (pv 0) pe_int) pe_int) (fun _ _ => rfl)))
      (pss_one (ps_ret (pe_lc (own := [("_law_k", 4)]) (g := (gName 4)) rfl sc__law_letters.nd (pi_range1 rfl B.z_range (pa_cons (pv 3) pa_nil)) (blkOk_by (own := [("_law_k", 4)]) (N := ["_law_cell_here", "_law_some", "_law_step", "_law_many", "_law_k"]) (sc := defScope s__law_letters) (by decide +kernel)) (fun _ _ _ _ _ => (pg_name (i := 4) sc__law_letters.nd rfl (Or.inl rfl))) (fun _ _ _ _ _ => pts_nil) (fun _ _ _ _ _ => (pe_ix ix_str (pv 1) (pe_op op_mod (pe_op op_add (pv 0) (pe_op op_mul (pv 4) (pv 2))) pe_int) (fun _ _ => rfl))))))))), ?_⟩)
  · obtain ⟨c, rfl, _⟩ := h; rfl
  · obtain ⟨c, rfl, q⟩ := h
    have d1 : 0 ≤ c / 26 % 8 := Int.emod_nonneg _ (by decide)
    have d2 : c / 26 % 8 < 8 := Int.emod_lt_of_pos _ (by decide)
    have m1 : 0 ≤ c / 208 % 8 := Int.emod_nonneg _ (by decide)
    have m2 : c / 208 % 8 < 8 := Int.emod_lt_of_pos _ (by decide)
    have mb := manyOf_bd c
    have sb := stepOf_bd c
    refine q_asg ev_c fun H1 e1 => ?_
    refine q_asg (ev_ixN (v := .int (stepOf c)) (el_lst (ea_cons ev_c (ea_cons ev_c (ea_cons ev_c (ea_cons ev_c (ea_cons ev_c (ea_cons ev_c (ea_cons ev_c (ea_cons ev_c ea_nil)))))))) (by simp)) (ev_op (ev_op (ev_var rfl) ev_c (rv_I ⟨by decide, by decide⟩)) ev_c (rv_I (by decide))) (ix_pick d1 ?_)) fun H2 e2 => ?_
    · unfold stepOf
      generalize c / 26 % 8 = m at *
      have : m.toNat = 0 ∨ m.toNat = 1 ∨ m.toNat = 2 ∨ m.toNat = 3 ∨ m.toNat = 4 ∨ m.toNat = 5 ∨ m.toNat = 6 ∨ m.toNat = 7 := by omega
      rcases this with e | e | e | e | e | e | e | e <;> rw [e] <;> rfl
    refine q_asg (ev_ixN (v := .int (manyOf c)) (el_lst (ea_cons ev_c (ea_cons ev_c (ea_cons ev_c (ea_cons ev_c (ea_cons (ev_op ev_c (ev_op (ev_op (ev_var rfl) ev_c (rv_I ⟨by decide, by decide⟩)) ev_c (rv_I (by decide))) rv_I0) (ea_cons ev_c (ea_cons ev_c (ea_cons ev_c ea_nil)))))))) (by simp)) (ev_op (ev_op (ev_var rfl) ev_c (rv_I ⟨by decide, by decide⟩)) ev_c (rv_I (by decide))) (ix_pick m1 ?_)) fun H3 e3 => ?_
    · unfold manyOf
      generalize c / 208 % 8 = m at *
      have : m.toNat = 0 ∨ m.toNat = 1 ∨ m.toNat = 2 ∨ m.toNat = 3 ∨ m.toNat = 4 ∨ m.toNat = 5 ∨ m.toNat = 6 ∨ m.toNat = 7 := by omega
      rcases this with e | e | e | e | e | e | e | e <;> rw [e] <;> rfl
    have E := el_lcA (te := tOp rIxS (tVar 1) (tOp (rI (fun _ j => 0 < j) fun i j => .int (i % j)) (tOp (rI0 fun i j => .int (i + j)) (tVar 0) (tOp (rI CMul fun i j => .int (i * j)) (tVar 4) (tVar 2))) (tC (.int 26)))) (σ := [some (.int c), some (.str "abcdefghijklmnopqrstuvwxyz"), some (.int (stepOf c)), some (.int (manyOf c)), none]) (H := H3) (j := 4) (vs := [4])
      (fun x => match x with | .int i => sgn (97 + ((c + i * stepOf c) % 26).toNat) | _ => .non) (ew_rng1 (n := manyOf c) (ea_cons (ev_var (i := 3) rfl) ea_nil) (by omega)) trivial kp_true (by rw [List.length_map, List.length_range]; omega) (fun x => rfl) (fun x hx H4 e4 => by
        obtain ⟨k, hk, rfl⟩ := List.mem_map.mp hx
        have hk' := List.mem_range.mp hk
        have x1 : 0 ≤ (c + (k : Int) * stepOf c) % 26 := Int.emod_nonneg _ (by decide)
        have x2 : (c + (k : Int) * stepOf c) % 26 < 26 := Int.emod_lt_of_pos _ (by decide)
        refine ev_op (ev_var rfl) (ev_op (ev_op (ev_var rfl) (ev_op (ev_var rfl) (ev_var rfl) (rv_I (.inl (by omega)))) rv_I0) ev_c (rv_I (by decide))) (rv_ixS (by decide +kernel) ?_)
        generalize (c + (k : Int) * stepOf c) % 26 = m at *
        obtain ⟨n, rfl⟩ := Int.eq_ofNat_of_zero_le x1
        have hn : n < 26 := by omega
        refine atI_nat ?_
        have tab : ∀ n, n < 26 → ("abcdefghijklmnopqrstuvwxyz" : Str).cps.toList[n]? = some (97 + n) := by decide +kernel
        have := tab n hn
        simpa using this)
    refine s_retL (xs := (lettersOf c).map sgn) ?_ fun p H4 hp e4 h4 => q p H4 (fresh_back ((e1.trans e2).trans e3) hp) (((e1.trans e2).trans e3).trans e4) h4
    have e : (lettersOf c).map sgn = ((List.range (manyOf c).toNat).map fun i => V.int (i : Nat)).map (fun x => match x with | .int i => sgn (97 + ((c + i * stepOf c) % 26).toNat) | _ => .non) := by
      unfold lettersOf
      rw [List.map_map, List.map_map]; rfl
    rw [e]
    exact E
theorem ok_bk (D : Def K mg "_law_back" s__law_back ["_law_letter"]) : Cal P w K mg base CX0 "_law_back" 1 ["_law_letter"] sp_bk := by
  refine D.cal sc__law_back (fun vs H Q E h => ?_) (fun f cdv A outer s H vs Q E hr h => ⟨_, (pss_cons (ps_if (pt_cmpR op_eq (pv 0) (pe_lower (pv 0)) (nomark _))
      (pss_one (ps_ret (pe_upper (pv 0))))
      pss_nil)
      (pss_one (ps_ret (pe_lower (pv 0))))), ?_⟩)
  · obtain ⟨c, rfl, _⟩ := h; rfl
  · obtain ⟨c, rfl, hc, q⟩ := h
    have sz : (S [c]).length ≤ 5592405 := by rw [S_len]; simp
    refine q_when (b := decide (97 ≤ c)) (et_is (et_test (ev_op (ev_var rfl) (ev_mS (C := fun a => a.length ≤ 5592405) (g := fun a => .str (Txt.lower a)) (ev_var rfl) sz) (rv_eq rfl))) ?_) (fun b H1 e1 => ?_) (fun b H1 e1 => ?_)
    · show decide (V.str (S [c]) = V.str (Txt.lower (S [c]))) = _
      rw [lower_one hc]
      by_cases h : 97 ≤ c
      · rw [if_pos h]; simp [h]
      · rw [if_neg h, decide_eq_false h, decide_eq_false fun z => by have := S_inj (V.str.inj z); simp at this]
    · have h : 97 ≤ c := of_decide_eq_true b
      refine s_ret (ev_is (ev_mS (C := fun a => a.length ≤ 5592405) (g := fun a => .str (Txt.upper a)) (ev_var rfl) sz) ?_) fun H2 e2 => q H2 (e1.trans e2)
      show V.str (Txt.upper (S [c])) = V.str (S [bk c])
      rw [upper_one hc]; unfold bk; rw [if_pos h, if_pos h]
    · have h : ¬ 97 ≤ c := of_decide_eq_false b
      refine s_ret (ev_is (ev_mS (C := fun a => a.length ≤ 5592405) (g := fun a => .str (Txt.lower a)) (ev_var rfl) sz) ?_) fun H2 e2 => q H2 (e1.trans e2)
      show V.str (Txt.lower (S [c])) = V.str (S [bk c])
      rw [lower_one hc]; unfold bk; rw [if_neg h, if_neg h]
theorem ok_word (D : Def K mg "_law_word" s__law_word ["_law_cell_here", "_law_letters_here", "_law_size"]) (B : Blt mg) (C__law_mixed : Cal P w K mg base CX0 "_law_mixed" 1 ["_law_cell_here", "_law_k"] sp_mixed) : Cal P w K mg base CX0 "_law_word" 2 ["_law_cell_here", "_law_letters_here", "_law_size"] (sp_word K) := by
  refine D.cal sc__law_word (fun vs H Q E h => ?_) (fun f cdv A outer s H vs Q E hr h => ⟨_, (pss_cons (ps_set (i := 3) sc__law_word.nd rfl (Or.inl rfl) pe_str)
      (pss_cons (ps_for PassesOwn.never rfl (pi_range1 rfl B.z_range (pa_cons (pv 2) pa_nil)) (pg_name (i := 4) sc__law_word.nd rfl (Or.inl rfl))
      (pss_cons (ps_set (i := 5) sc__law_word.nd rfl (Or.inl rfl) (pe_op op_fdiv (pe_callC C__law_mixed (hr.mono (by decide)) rfl pass0 (pa_cons (pv 0) (pa_cons (pv 4) pa_nil))) pe_int))
      (pss_cons (ps_set (i := 6) sc__law_word.nd rfl (Or.inl rfl) (pe_ix ix_list (pv 1) (pe_op op_mod (pv 5) (pe_callB call_len_seq (by rfl) B.z_len (by decide +kernel) (pa_cons (pv 1) pa_nil))) (fun _ _ => rfl)))
      (pss_one (ps_set (i := 3) sc__law_word.nd rfl (Or.inl rfl) (pe_op op_add_str (pv 3) (pe_ix ix_list (pe_lst (pa_cons (pv 6) (pa_cons (pe_upper (pv 6)) pa_nil))) (pe_op op_mod (pe_op op_fdiv (pv 5) pe_int) pe_int) (fun _ _ => rfl))))))))
      (pss_one (ps_ret (pv 3))))), ?_⟩)
  · obtain ⟨c, a, ls, n, rfl, _⟩ := h; rfl
  · obtain ⟨c, a, ls, n, rfl, hs, hl, hn, q⟩ := h
    refine q_asg ev_c fun H1 e1 => ?_
    refine q_for (ew_rng1 (ea_cons (ev_var rfl) ea_nil) (by omega)) (fun i σ' H' => ∃ x y z, σ' = [some (.int c), some (.ref a), some (.int n), some (.str (S (wordOf c ls i))), x, y, z] ∧ Ex H1 H') (fun H2 e2 => ⟨none, none, none, rfl, e2⟩) (fun _ _ _ _ _ => trivial) ?_ ?_
    · rintro i x σ' H' hx ⟨x1, y1, z1, rfl, e2⟩
      obtain ⟨hi, rfl⟩ : i < n.toNat ∧ x = .int (i : Nat) := by
        rw [List.getElem?_map] at hx
        by_cases hi : i < n.toNat
        · rw [List.getElem?_range hi] at hx; exact ⟨hi, (Option.some.inj hx).symm⟩
        · rw [List.getElem?_eq_none (by rw [List.length_range]; omega)] at hx; cases hx
      have l1 := hl.1
      have x1 : 0 ≤ mixed c i / 7 % ls.length := Int.emod_nonneg _ (by omega)
      have x2 : mixed c i / 7 % ls.length < ls.length := Int.emod_lt_of_pos _ (by omega)
      have w1 : 0 ≤ mixed c i / 7 / 16 % 2 := Int.emod_nonneg _ (by decide)
      have w2 : mixed c i / 7 / 16 % 2 < 2 := Int.emod_lt_of_pos _ (by decide)
      have hj : (mixed c i / 7 % ls.length).toNat < ls.length := by omega
      have gl : ls.getD (mixed c i / 7 % ls.length).toNat 0 = ls[(mixed c i / 7 % ls.length).toNat] := by rw [List.getD_eq_getElem?_getD, List.getElem?_eq_getElem hj]; rfl
      have bl := hl.2.2 _ (List.getElem_mem hj)
      rw [← gl] at bl
      show tSeq _ _ _ [some (.int c), some (.ref a), some (.int n), some (.str (S (wordOf c ls i))), some (.int i), y1, z1] H'
      refine q_asg (ev_op (ev_call (ea_cons (ev_var rfl) (ea_cons (ev_var rfl) ea_nil)) (sv_mixed (c := c) (k := i) (by omega))) ev_c (rv_I ⟨by decide, by decide⟩)) fun H2 e3 => ?_
      have hs2 := ex_l ((e1.trans e2).trans e3) hs
      refine q_asg (v := sgn (ls.getD (mixed c i / 7 % ls.length).toNat 0)) (ev_op (ev_var rfl) (ev_op (ev_var rfl) (ev_cb (ea_cons (ev_var rfl) ea_nil) (rc_len hs2)) (rv_I (by rw [List.length_map]; omega))) (rv_ixL hs2 (ix_pick (by rw [List.length_map]; exact x1) ?_))) fun H3 e4 => ?_
      · rw [List.length_map, List.getElem?_map, List.getElem?_eq_getElem hj, gl]; rfl
      refine s_asg (v := .str (S (wordOf c ls (i + 1)))) (ev_is (ev_op (ev_var rfl) (ev_ixN (v := .str (S [wordLet c ls i])) (el_lst (ea_cons (ev_var rfl) (ea_cons (ev_mS (C := fun a => a.length ≤ 5592405) (g := fun a => .str (Txt.upper a)) (ev_var rfl) (by show (S [_]).length ≤ _; rw [S_len]; simp)) ea_nil)) (by simp)) (ev_op (ev_op (ev_var rfl) ev_c (rv_I ⟨by decide, by decide⟩)) ev_c (rv_I (by decide))) (ix_pick w1 ?_)) (rv_addS (by rw [S_len, S_len, wordOf_len]; exact sz_of (by simp; omega)))) ?_) fun H4 e5 => ⟨_, _, _, rfl, ((e2.trans e3).trans e4).trans e5⟩
      · have lt : wordLet c ls i = if mixed c i / 7 / 16 % 2 = 0 then ls.getD (mixed c i / 7 % ls.length).toNat 0 else ls.getD (mixed c i / 7 % ls.length).toNat 0 - 32 := rfl
        rw [lt]
        generalize ls.getD (mixed c i / 7 % ls.length).toNat 0 = x at *
        generalize mixed c i / 7 / 16 % 2 = m at *
        have : m = 0 ∨ m = 1 := by omega
        rcases this with e | e
        · subst e; rfl
        · subst e
          show some (V.str (Txt.upper (S [x]))) = _
          rw [upper_one (isL_iff.mpr (Or.inl bl)), if_pos bl.1]; rfl
      · rw [S_app, wordOf_succ]
    · rintro σ' H' ⟨x1, y1, z1, rfl, e2⟩
      rw [List.length_map, List.length_range]
      exact s_ret (ev_var rfl) fun H2 e3 => q H2 ((e1.trans e2).trans e3)
theorem ok_turned (D : Def K mg "_law_turned" s__law_turned ["_law_word_here"]) (B : Blt mg) (C__law_back : Cal P w K mg base CX0 "_law_back" 1 ["_law_letter"] sp_bk) : Cal P w K mg base CX0 "_law_turned" 2 ["_law_word_here"] sp_turned := by
  refine D.cal sc__law_turned (fun vs H Q E h => ?_) (fun f cdv A outer s H vs Q E hr h => ⟨_, (pss_one (ps_ret (pe_join pe_str (pe_lc (own := [("_law_letter", 1)]) (g := (gName 1)) rfl sc__law_turned.nd (pi_revS rfl B.z_reversed (pv 0)) (blkOk_by (own := [("_law_letter", 1)]) (N := ["_law_word_here", "_law_letter"]) (sc := defScope s__law_turned) (by decide +kernel)) (fun _ _ _ _ _ => (pg_name (i := 1) sc__law_turned.nd rfl (Or.inl rfl))) (fun _ _ _ _ _ => pts_nil) (fun _ _ _ _ _ => (pe_callC C__law_back (hr.mono (by decide)) rfl pass0 (pa_cons (pv 1) pa_nil))))))), ?_⟩)
  · obtain ⟨l, rfl, _⟩ := h; rfl
  · obtain ⟨l, rfl, hz, hw, q⟩ := h
    refine s_ret (v := .str (S (inv l))) (ev_is (ev_joinN (a := S []) (ys := (inv l).map fun c => S [c]) ev_c (el_lcA (fun x => match x with | .str z => sgn (bk (z.cps.getD 0 0)) | _ => .non) (ew_revS (ev_var rfl) (S_sz (by omega))) trivial kp_true ?_ (fun x => rfl) ?_) ?_ ?_) ?_) fun H1 e1 => q H1 e1
    · rw [List.length_map, List.length_reverse, S_cps]; omega
    · intro x hx H2 e2
      obtain ⟨c, hc, rfl⟩ := List.mem_map.mp hx
      rw [S_cps] at hc
      exact ev_call (ea_cons (ev_var rfl) ea_nil) (sv_bk (List.all_eq_true.mp hw c (List.mem_reverse.mp hc)))
    · rw [S_cps]
      unfold inv
      rw [List.map_map, List.map_map, List.map_map]; rfl
    · rw [ones_size, inv_len]; omega
    · rw [join_ones]
end
end Gw

/-! ## Lsh -/
namespace Gw
open PySem PySem.Spec PyProof.Rows L2 Evl
abbrev s__law_short : Stmt := topS 46
theorem sc__law_short : FnScope ["_law_word_here", "_law_kept", "_law_letter"] ["_law_word_here"] (defScope s__law_short) := ⟨rfl, rfl, rfl, by decide +kernel, rfl, by decide +kernel, by decide +kernel⟩
section
variable {P : Program} {w : World} {K : PySem.W.Frag} {mg : Str → Option Value} {base : Heap}
theorem ok_lshort (D : Def K mg "_law_short" s__law_short ["_law_word_here"]) (C__law_back : Cal P w K mg base CX0 "_law_back" 1 ["_law_letter"] sp_bk) : Cal P w K mg base CX0 "_law_short" 2 ["_law_word_here"] sp_lshort := by
  refine D.cal sc__law_short (fun vs H Q E h => ?_) (fun f cdv A outer s H vs Q E hr h => ⟨_, (pss_cons (ps_set (i := 1) sc__law_short.nd rfl (Or.inl rfl) pe_str)
      (pss_cons (ps_for PassesOwn.never rfl (pi_str (pv 0)) (pg_name (i := 2) sc__law_short.nd rfl (Or.inl rfl))
      (pss_one (ps_if (pt_cmpR op_eq (pe_slice sl_str (pv 1) (po_some (pe_un un_neg pe_int)) po_none) (pe_callC C__law_back (hr.mono (by decide)) rfl pass0 (pa_cons (pv 2) pa_nil)) (nomark _))
      (pss_one (ps_set (i := 1) sc__law_short.nd rfl (Or.inl rfl) (pe_slice sl_str (pv 1) po_none (po_some (pe_un un_neg pe_int)))))
      (pss_one (ps_set (i := 1) sc__law_short.nd rfl (Or.inl rfl) (pe_op op_add_str (pv 1) (pv 2)))))))
      (pss_one (ps_ret (pv 1))))), ?_⟩)
  · obtain ⟨l, rfl, _⟩ := h; rfl
  · obtain ⟨l, rfl, hz, hw, q⟩ := h
    refine q_asg (v := .str (S [])) ev_c fun H1 e1 => ?_
    refine q_for (ew_str (ev_var rfl)) (fun i σ' H' => ∃ v, σ' = [some (.str (S l)), some (.str (S (stk [] (l.take i)).reverse)), v] ∧ Ex H1 H') (fun H3 e3 => ⟨none, rfl, e3⟩) (fun _ _ _ _ _ => trivial) ?_ ?_
    · rintro i x σ' H' hx ⟨v, rfl, e3⟩
      rw [S_cps] at hx
      obtain ⟨c, hc, rfl⟩ : ∃ c, l[i]? = some c ∧ x = sgn c := by
        rw [List.getElem?_map] at hx
        cases hc : l[i]? with
        | none => rw [hc] at hx; cases hx
        | some c => rw [hc] at hx; exact ⟨c, rfl, (Option.some.inj hx).symm⟩
      have hL : isL c = true := List.all_eq_true.mp hw c (List.mem_of_getElem? hc)
      have st := rev_take hc
      have sl : (stk [] (l.take i)).length ≤ 1000 := by
        have w2 : isW (l.take i) = true := List.all_eq_true.mpr fun x hx => List.all_eq_true.mp hw x (List.mem_of_mem_take hx)
        have := short_len w2
        unfold short at this
        rw [List.length_reverse, List.length_take] at this
        omega
      generalize stk [] (l.take i) = s at st sl
      show tIfS _ _ _ _ [some (.str (S l)), some (.str (S s.reverse)), some (sgn c)] H'
      have szs : (S s.reverse).length ≤ sizeLine := by rw [S_len, List.length_reverse]; exact sz_of (by omega)
      have tst : EvT (tTest (tOp rEq (tSl rSlS (tVar 1) (tPart (tUn (rU fun i => .int (-i)) (tC (.int 1)))) tNoPart) (tCall sp_bk [] (fun _ _ _ => False) (tCons (tVar 2) tNil)))) [some (.str (S l)), some (.str (S s.reverse)), some (sgn c)] H' (decide (s.head? = some (bk c))) := by
        refine et_is (et_test (ev_op (ev_slS (ev_var rfl) (eo_some (ev_un ev_c ru_neg)) eo_none szs) (ev_call (ea_cons (ev_var rfl) ea_nil) (sv_bk hL)) (rv_eq rfl))) ?_
        cases s with
        | nil =>
          show decide (V.str (cutS (S []) (some (-1)) none) = sgn (bk c)) = _
          rw [cut_last0, decide_eq_false (p := [].head? = some (bk c)) (fun z => by cases z), decide_eq_false fun z => by have := S_inj (V.str.inj z); simp at this]
        | cons t r =>
          show decide (V.str (cutS (S (t :: r).reverse) (some (-1)) none) = sgn (bk c)) = _
          rw [List.reverse_cons, cut_last]
          by_cases e : t = bk c
          · subst e; rw [decide_eq_true (p := (bk c :: r).head? = some (bk c)) rfl]; exact decide_eq_true rfl
          · rw [decide_eq_false (p := (t :: r).head? = some (bk c)) (fun z => e (Option.some.inj z)), decide_eq_false fun z => e (by have := S_inj (V.str.inj z); simpa using this)]
      refine s_if tst (fun b H4 e4 => ?_) (fun b H4 e4 => ?_)
      · obtain ⟨r, rfl⟩ : ∃ r, s = bk c :: r := by
          have b := of_decide_eq_true b
          cases s with
          | nil => cases b
          | cons t r => exact ⟨r, by rw [Option.some.inj b]⟩
        refine s_asg (v := .str (S r.reverse)) (ev_is (ev_slS (ev_var rfl) eo_none (eo_some (ev_un ev_c ru_neg)) szs) (by rw [List.reverse_cons]; exact congrArg V.str (cut_init _ _))) fun H5 e5 => ⟨some (sgn c), ?_, (e3.trans e4).trans e5⟩
        rw [st]
        have : push (bk c :: r) c = r := if_pos rfl
        rw [this]; rfl
      · have nb : push s c = c :: s := by
          cases s with
          | nil => rfl
          | cons t r => exact if_neg fun z => of_decide_eq_false b (by rw [z]; rfl)
        refine s_asg (v := .str (S (c :: s).reverse)) (ev_is (ev_op (ev_var rfl) (ev_var rfl) (rv_addS (i := S s.reverse) (j := S [c]) (by rw [S_len, S_len, List.length_reverse]; exact sz_of (by simp; omega)))) (by rw [S_app, List.reverse_cons])) fun H5 e5 => ⟨some (sgn c), ?_, (e3.trans e4).trans e5⟩
        rw [st, nb]; rfl
    · rintro σ' H' ⟨v, rfl, e3⟩
      rw [List.length_map, S_cps, List.take_length]
      exact s_ret (ev_var rfl) fun H4 e4 => q H4 ((e1.trans e3).trans e4)
end
end Gw

/-! ## Lled -/
namespace Gw
open PySem PySem.Spec PyProof.Rows L2 Evl
abbrev s__law_led : Stmt := topS 48
theorem sc__law_led : FnScope ["_law_web", "_law_word_here", "_law_steps", "_law_room", "_law_letter", "_law_goal"] ["_law_web", "_law_word_here"] (defScope s__law_led) := ⟨rfl, rfl, rfl, by decide +kernel, rfl, by decide +kernel, by decide +kernel⟩
section
variable {P : Program} {w : World} {K : PySem.W.Frag} {mg : Str → Option Value} {base : Heap}
theorem ok_led (D : Def K mg "_law_led" s__law_led ["_law_web", "_law_word_here"]) (B : Blt mg) : Cal P w K mg base CX0 "_law_led" 1 ["_law_web", "_law_word_here"] (sp_led K) := by
  refine D.cal sc__law_led (fun vs H Q E h => ?_) (fun f cdv A outer s H vs Q E hr h => ⟨_, (pss_cons (ps_set (i := 2) sc__law_led.nd rfl (Or.inl rfl) pe_dnewT)
      (pss_cons (ps_for PassesOwn.never rfl (pi_list (pv 0)) (pg_tup (n := 3) rfl (pgs_cons (pg_name (i := 3) sc__law_led.nd rfl (Or.inl rfl)) (pgs_cons (pg_name (i := 4) sc__law_led.nd rfl (Or.inl rfl)) (pgs_cons (pg_name (i := 5) sc__law_led.nd rfl (Or.inl rfl)) pgs_nil))))
      (pss_cons (ps_dput (hu_of hr) (pv 2) (pe_tup (pa_cons (pv 3) (pa_cons (pv 4) pa_nil))) (pv 5) rfl)
      (pss_one (ps_dput (hu_of hr) (pv 2) (pe_tup (pa_cons (pv 5) (pa_cons (pe_upper (pv 4)) pa_nil))) (pv 3) rfl))))
      (pss_cons (ps_set (i := 3) sc__law_led.nd rfl (Or.inl rfl) pe_int)
      (pss_cons (ps_for PassesOwn.never rfl (pi_str (pv 1)) (pg_name (i := 4) sc__law_led.nd rfl (Or.inl rfl))
      (pss_one (ps_if (pt_cmpR op_notN (pv 3) pe_non (nomark _))
      (pss_one (ps_set (i := 3) sc__law_led.nd rfl (Or.inl rfl) (pe_dget1 (hu_of hr) (pv 2) (pe_tup (pa_cons (pv 3) (pa_cons (pv 4) pa_nil))) ⟨rfl, rfl, rfl, rfl⟩)))
      pss_nil)))
      (pss_one (ps_ret (pv 3))))))), ?_⟩)
  · obtain ⟨a, xs, T, l, rfl, _⟩ := h; rfl
  · obtain ⟨a, xs, T, l, rfl, ha, hT, sm, fo, nd, hz, hw, hl, q⟩ := h
    have xl := hT.length
    show tSeq (tAsg tDNewT (gName 2)) _ _ _ H
    intro d hd
    have e1 : Ex H (upd H d (.dT [])) := Ex.new hd
    have h1 : (upd H d (.dT [])) d = some (.dT []) := upd_same
    generalize upd H d (.dT []) = H1 at *
    refine gname_go (nx_go ?_)
    have nda : ∀ {z o}, H z = some o → z ≠ d := fun h => fun e => by subst e; rw [h] at hd; cases hd
    refine q_for (ew_list (ev_var rfl) (sq_of (e1 _ _ ha))) (fun i σ' H' => (∃ x3 x4 x5, σ' = [some (.ref a), some (.str (S l)), some (.ref d), x3, x4, x5]) ∧ Ex H H' ∧ H' d = some (.dT (kvOf (links (T.take i))))) (fun H2 e2 => ⟨⟨_, _, _, rfl⟩, e1.trans e2, e2 _ _ h1⟩) (fun i σ' H' _ ⟨_, ex, _⟩ => sq_of (ex _ _ ha)) ?_ ?_
    · rintro i x σ' H' hx ⟨⟨y3, y4, y5, rfl⟩, ex, h2⟩
      obtain ⟨t, ta, hti, rfl, hta⟩ := hT.at hx
      have smt := sm t (List.mem_of_getElem? hti)
      have cL : isL t.2.1 = true := isL_iff.mpr (Or.inl smt)
      have il : i < T.length := (List.getElem?_eq_some_iff.mp hti).1
      have k1 := kvOf_len (links (T.take i))
      rw [links_len, List.length_take] at k1
      have k2 := kvOf_len (links (T.take i) ++ [t])
      rw [List.length_append, links_len, List.length_take, List.length_singleton] at k2
      have tk : links (T.take (i + 1)) = links (T.take i) ++ [t] ++ [wayBack t] := by
        have : T.take (i + 1) = T.take i ++ [t] := by rw [List.take_add_one, hti]; rfl
        rw [this]; unfold links; rw [List.flatMap_append, List.flatMap_singleton, List.append_assoc]; rfl
      refine g3 rfl (st_of (ex _ _ hta)) ?_
      refine q_dputT (k := key t.1 t.2.1) (v := .int (t.2.2 : Nat)) h2 (ev_var rfl) (ev_var rfl) (by rw [key_v]; exact eu_tup (ea_cons (ev_var rfl) (ea_cons (ev_var rfl) ea_nil)) (by show 2 ≤ 100000; decide)) (by omega) fun H3 e3 h3 => ?_
      have e4 : Ex H (upd H3 d (.dT (putK (kvOf (links (T.take i))) (key t.1 t.2.1) (.int (t.2.2 : Nat))))) := Ex.mut (ex.trans e3) hd
      have h4 : (upd H3 d (.dT (putK (kvOf (links (T.take i))) (key t.1 t.2.1) (.int (t.2.2 : Nat))))) d = some (.dT (kvOf (links (T.take i) ++ [t]))) := by rw [upd_same, kvOf_snoc]
      generalize upd H3 d (.dT (putK (kvOf (links (T.take i))) (key t.1 t.2.1) (.int (t.2.2 : Nat)))) = H4 at *
      refine s_dputT (k := key t.2.2 (t.2.1 - 32)) (v := .int (t.1 : Nat)) h4 (ev_var rfl) (ev_var rfl) (by rw [key_v]; exact eu_tup (ea_cons (ev_var rfl) (ea_cons (ev_is (ev_mS (C := fun a => a.length ≤ 5592405) (g := fun a => .str (Txt.upper a)) (ev_var rfl) (by show (S [t.2.1]).length ≤ _; rw [S_len]; simp)) (by show V.str (Txt.upper (S [t.2.1])) = _; rw [upper_one cL, if_pos smt.1]; rfl)) ea_nil)) (by show 2 ≤ 100000; decide)) (by omega) fun H5 e5 h5 => ⟨⟨_, _, _, rfl⟩, Ex.mut (e4.trans e5) hd, ?_⟩
      rw [upd_same, tk, kvOf_snoc (links (T.take i) ++ [t])]
      rfl
    · rintro σ' H' ⟨⟨y3, y4, y5, rfl⟩, ex, h2⟩
      rw [xl, List.take_length] at h2
      have LA : LeadsAt H' d T := Or.inl h2
      refine q_asg (v := .int ((0 : Nat) : Int)) ev_c fun H3 e3 => ?_
      have LA3 := LA.mono e3
      have E3 := ex.trans e3
      refine q_for (items := l.map sgn) (St := fun _ => True) (by have := ew_str (H := H3) (σ := [some (.ref a), some (.str (S l)), some (.ref d), some (.int ((0 : Nat) : Int)), y4, y5]) (ev_var (i := 1) (v := .str (S l)) rfl); rw [S_cps] at this; exact this) (fun i σ' H' => (∃ x4 x5, σ' = [some (.ref a), some (.str (S l)), some (.ref d), some (oV (ledO T (some 0) (l.take i))), x4, x5]) ∧ Ex H3 H') (fun H4 e4 => ⟨⟨_, _, rfl⟩, e4⟩) (fun _ _ _ _ _ => trivial) ?_ ?_
      · rintro i x σ' H4 hx ⟨⟨z4, z5, rfl⟩, e4⟩
        obtain ⟨c, hc, rfl⟩ : ∃ c, l[i]? = some c ∧ x = sgn c := by
          rw [List.getElem?_map] at hx
          cases hc : l[i]? with
          | none => rw [hc] at hx; cases hx
          | some c => rw [hc] at hx; exact ⟨c, rfl, (Option.some.inj hx).symm⟩
        have cL : isL c = true := List.all_eq_true.mp hw c (List.mem_of_getElem? hc)
        have tk : l.take (i + 1) = l.take i ++ [c] := by rw [List.take_add_one, hc]; rfl
        rw [tk, ledO_snoc]
        generalize ledO T (some 0) (l.take i) = o at *
        refine gname_go ?_
        cases o with
        | none => exact s_if (b := false) (et_test (ev_is (ev_op (ev_var rfl) ev_c (rv_notN)) rfl)) (fun z => by cases z) fun _ H5 e5 => ⟨⟨_, _, rfl⟩, e4.trans e5⟩
        | some r =>
          refine s_if (b := true) (et_test (ev_is (ev_op (ev_var rfl) ev_c (rv_notN)) rfl)) (fun _ H5 e5 => ?_) (fun z => by cases z)
          obtain ⟨o2, ho, hgl, hold⟩ := leads_val sm fo nd (r := r) cL
          refine s_asg (ev_is (ev_dget1T (k := key r c) (ev_var rfl) (by rw [key_v]; exact eu_tup (ea_cons (ev_var rfl) (ea_cons (ev_var rfl) ea_nil)) (by show 2 ≤ 100000; decide)) (LA3.mono (e4.trans e5)) ho) ?_) fun H6 e6 => ⟨⟨_, _, rfl⟩, (e4.trans e5).trans e6⟩
          show _ = oV ((gl T r c).head?)
          rw [hgl]
          cases o2 <;> rfl
      · rintro σ' H4 ⟨⟨z4, z5, rfl⟩, e4⟩
        rw [List.length_map, List.take_length]
        exact s_ret (ev_var rfl) fun H5 e5 => q H5 ((E3.trans e4).trans e5)
end
end Gw

/-! ## Lnum -/
namespace Gw
open PySem PySem.Spec PyProof.Rows L2 Evl
abbrev s__law_numbered : Stmt := topS 49
theorem sc__law_numbered : FnScope ["_law_ties", "_law_order_here", "_law_at", "_law_letter", "_law_tie", "_law_some"] ["_law_ties"] (defScope s__law_numbered) := ⟨rfl, rfl, rfl, by decide +kernel, rfl, by decide +kernel, by decide +kernel⟩
abbrev s__law_order : Stmt := topS 50
theorem sc__law_order : FnScope ["_law_cell_here", "_law_many", "_law_left", "_law_order_here", "_law_k"] ["_law_cell_here", "_law_many"] (defScope s__law_order) := ⟨rfl, rfl, rfl, by decide +kernel, rfl, by decide +kernel, by decide +kernel⟩
section
variable {P : Program} {w : World} {K : PySem.W.Frag} {mg : Str → Option Value} {base : Heap}
theorem ok_numb (D : Def K mg "_law_numbered" s__law_numbered ["_law_ties"]) (B : Blt mg) : Cal P w K mg base CX0 "_law_numbered" 1 ["_law_ties"] sp_numb := by
  refine D.cal sc__law_numbered (fun vs H Q E h => ?_) (fun f cdv A outer s H vs Q E hr h => ⟨_, (pss_cons (ps_set (i := 1) sc__law_numbered.nd rfl (Or.inr rfl) (pe_lst (pa_cons pe_int pa_nil)))
      (pss_cons (ps_set (i := 2) sc__law_numbered.nd rfl (Or.inl rfl) pe_int)
      (pss_cons (ps_while PassesOwn.never (pt_cmpR op_lt (pv 2) (pe_callB call_len_seq (by rfl) B.z_len (by decide +kernel) (pa_cons (pv 1) pa_nil)) (nomark _))
      (pss_cons (ps_for PassesOwn.never rfl (pi_list (pe_callB (cr_sortSS rfl) (by rfl) B.z_sorted (by decide +kernel) (pa_cons (pe_callTy (cr_setOfS rfl) (by rfl) B.z_set (by decide +kernel) (pa_cons (pe_lc (own := [("_law_tie", 4)]) (g := (gName 4)) rfl sc__law_numbered.nd (pi_list (pv 0)) (blkOk_by (own := [("_law_tie", 4)]) (N := ["_law_ties", "_law_order_here", "_law_at", "_law_letter", "_law_tie", "_law_some"]) (sc := defScope s__law_numbered) (by decide +kernel)) (fun _ _ _ _ _ => (pg_name (i := 4) sc__law_numbered.nd rfl (Or.inl rfl))) (fun _ _ _ _ _ => pts_nil) (fun _ _ _ _ _ => (pe_ix ix_tupB (pv 4) pe_int (fun _ _ => rfl)))) pa_nil)) pa_nil))) (pg_name (i := 3) sc__law_numbered.nd rfl (Or.inl rfl))
      (pss_cons (ps_for PassesOwn.never rfl (pi_list (pv 0)) (pg_name (i := 4) sc__law_numbered.nd rfl (Or.inl rfl))
      (pss_one (ps_if (PW.pt (pw_and (pt_cmpR op_eq (pe_ix ix_tup (pv 4) pe_int (fun _ _ => rfl)) (pe_ix ix_list (pv 1) (pv 2) (fun _ _ => rfl)) (nomark _)) (pw_and (pt_cmpR op_eq (pe_ix ix_tup (pv 4) pe_int (fun _ _ => rfl)) (pv 3) (nomark _)) (pw_and1 (pt_cmpR op_notIn_seq (pe_ix ix_tup (pv 4) pe_int (fun _ _ => rfl)) (pv 1) rfl)))))
      (pss_one (ps_expr (pe_bm PySem.F.plainAttrs_list PySem.F.slot_list_append PySem.F.type_list_append mt_append (pv 1) (pa_cons (pe_ix ix_tup (pv 4) pe_int (fun _ _ => rfl)) pa_nil))))
      pss_nil)))
      (pss_one (ps_for PassesOwn.never rfl (pi_list (pv 0)) (pg_name (i := 4) sc__law_numbered.nd rfl (Or.inl rfl))
      (pss_one (ps_if (PW.pt (pw_and (pt_cmpR op_eq (pe_ix ix_tup (pv 4) pe_int (fun _ _ => rfl)) (pe_ix ix_list (pv 1) (pv 2) (fun _ _ => rfl)) (nomark _)) (pw_and (pt_cmpR op_eq (pe_ix ix_tup (pv 4) pe_int (fun _ _ => rfl)) (pv 3) (nomark _)) (pw_and1 (pt_cmpR op_notIn_seq (pe_ix ix_tup (pv 4) pe_int (fun _ _ => rfl)) (pv 1) rfl)))))
      (pss_one (ps_expr (pe_bm PySem.F.plainAttrs_list PySem.F.slot_list_append PySem.F.type_list_append mt_append (pv 1) (pa_cons (pe_ix ix_tup (pv 4) pe_int (fun _ _ => rfl)) pa_nil))))
      pss_nil))))))
      (pss_one (ps_set (i := 2) sc__law_numbered.nd rfl (Or.inl rfl) (pe_op op_add (pv 2) pe_int)))))
      (pss_cons (ps_setLc (i := 5) (own := [("_law_tie", 4)]) (g := (gName 4)) rfl sc__law_numbered.nd rfl rfl (sw_true rfl rfl rfl (by decide +kernel)) (pi_list (pv 0)) (blkOk_by (own := [("_law_tie", 4)]) (N := ["_law_ties", "_law_order_here", "_law_at", "_law_letter", "_law_tie", "_law_some"]) (sc := defScope s__law_numbered) (by decide +kernel)) (fun _ _ _ _ _ => (pg_name (i := 4) sc__law_numbered.nd rfl (Or.inl rfl))) (fun _ _ _ _ _ => (pts_one (pt_cmpR op_in_seqB (pe_ix ix_tupB (pv 4) pe_int (fun _ _ => rfl)) (pv 1) rfl))) (fun _ _ _ _ _ => (pv 4)))
      (pss_one (ps_ret (pe_callB cr_sorted3 (by rfl) B.z_sorted (by decide +kernel) (pa_cons (pe_lc (own := [("_law_tie", 4)]) (g := (gName 4)) rfl sc__law_numbered.nd (pi_list (pv 5)) (blkOk_by (own := [("_law_tie", 4)]) (N := ["_law_ties", "_law_order_here", "_law_at", "_law_letter", "_law_tie", "_law_some"]) (sc := defScope s__law_numbered) (by decide +kernel)) (fun _ _ _ _ _ => (pg_name (i := 4) sc__law_numbered.nd rfl (Or.inl rfl))) (fun _ _ _ _ _ => pts_nil) (fun _ _ _ _ _ => (pe_tup (pa_cons (pe_bmB PySem.F.plainAttrs_list PySem.F.slot_list_index PySem.F.type_list_index (mt_indexDB hr.units65) (pv 1) (pa_cons (pe_ix ix_tupB (pv 4) pe_int (fun _ _ => rfl)) pa_nil)) (pa_cons (pe_ix ix_tupB (pv 4) pe_int (fun _ _ => rfl)) (pa_cons (pe_bmB PySem.F.plainAttrs_list PySem.F.slot_list_index PySem.F.type_list_index (mt_indexDB hr.units65) (pv 1) (pa_cons (pe_ix ix_tupB (pv 4) pe_int (fun _ _ => rfl)) pa_nil)) pa_nil)))))) pa_nil)))))))), ?_⟩)
  · obtain ⟨a, xs, T, rfl, _⟩ := h; rfl
  · obtain ⟨a, xs, T, rfl, ha, hT, sm, fo, nd, hz, q⟩ := h
    have xl := hT.length
    refine q_asgL (xs := nats [0]) (el_lst (ea_cons ev_c ea_nil) (by decide)) fun l H1 hl e1 h1 => ?_
    refine q_asg (v := .int ((0 : Nat) : Int)) ev_c fun H2 e2 => ?_
    have E2 := e1.trans e2
    refine q_while (fun m σ' H' => ∃ i, m = 2 * T.length + 2 - i ∧ i ≤ (fnd T i).length ∧ (∃ x3 x4, σ' = [some (.ref a), some (.ref l), some (.int (i : Nat)), x3, x4, none]) ∧ Ex H H' ∧ H' l = some (.lst (nats (fnd T i)))) (2 * T.length + 2) ⟨0, rfl, Nat.zero_le _, ⟨_, _, rfl⟩, E2, e2 _ _ h1⟩ ?_
    rintro m σ' H' ⟨i, rfl, hi, ⟨x3, x4, rfl⟩, ex, od⟩
    have bd := fnd_len T i
    refine ⟨decide (i < (fnd T i).length), et_is (et_test (ev_op (ev_var rfl) (ev_cb (ea_cons (ev_var rfl) ea_nil) (rc_len (sq_of od))) rv_I0)) ?_, fun b H5 e5 => ?_, fun b H5 e5 => ?_⟩
    · rw [nats_len]
      by_cases h : i < (fnd T i).length
      · rw [decide_eq_true h, decide_eq_true (by omega)]
      · rw [decide_eq_false h, decide_eq_false (by omega)]
    · have hlt : i < (fnd T i).length := of_decide_eq_true b
      obtain ⟨r, hr⟩ : ∃ r, (fnd T i)[i]? = some r := ⟨_, List.getElem?_eq_getElem hlt⟩
      have at_ : ∀ m, (addAll (fnd T i) m)[i]? = some r := fun m => by
        obtain ⟨s, hs⟩ := addAll_pre m (fnd T i)
        rw [← hs, List.getElem?_append_left hlt]; exact hr
      have bound : ∀ l : List Nat, (∀ x ∈ l, x ∈ rms T) → (addAll (fnd T i) l).length ≤ 2 * T.length + 1 := fun l hl => addAll_sub (fun x hx => (fnd_rms hx).1) hl (fnd_nodup T i)
      refine ⟨fun σ2 H8 => (∃ x3 x4, σ2 = [some (.ref a), some (.ref l), some (.int ((i + 1 : Nat))), x3, x4, none]) ∧ Ex H H8 ∧ H8 l = some (.lst (nats (fnd T (i + 1)))), fun σ2 H8 ⟨o1, o2, o3⟩ => ⟨2 * T.length + 2 - (i + 1), by omega, i + 1, rfl, ?_, o1, o2, o3⟩, ?_⟩
      · have := (fnd_pre1 T i).length_le
        omega
      have od5 := e5 _ _ od
      have E5 := ex.trans e5
      refine q_forC (wp_letters (ls := T.map fun t => t.2.1) (el_lets (ev_var rfl) (sq_of (E5 _ _ ha)) (hT.mono E5) (by omega) (fun x => rfl) (fun x => rfl)) (by rw [List.length_map]; omega) (fun c hc => by obtain ⟨t, ht, rfl⟩ := List.mem_map.mp hc; exact sm t ht) fun pu H8 U hpu e8 h8 so mU lU => ?_)
      have np : pu ≠ l := fun z => by subst z; rw [od5] at hpu; cases hpu
      have mUc : ∀ c ∈ U, 97 ≤ c ∧ c ≤ 122 := fun c hc => by
        obtain ⟨t, ht, rfl⟩ := List.mem_map.mp ((mU c).mp hc)
        exact sm t ht
      have nbU : nb T r = U.flatMap fun c => gl T r c ++ gl T r (c - 32) := by
        rw [nb_used sm so (fun c => (mU c).trans (by rw [List.mem_map])) r, flatMap_flatMap']
        refine congrArg (fun f => U.flatMap f) (funext fun c => ?_)
        show gl T r c ++ (gl T r (c - 32) ++ []) = _
        rw [List.append_nil]
      have gr : ∀ {n d x}, x ∈ gl (T.take n) r d → x ∈ rms T := fun {n d x} hx => by
        unfold gl at hx
        obtain ⟨t, ht, hy⟩ := List.mem_filterMap.mp hx
        have mt := List.mem_of_mem_take ht
        split at hy
        · split at hy
          · cases hy; exact mem_rms.mpr (Or.inr ⟨t, mt, Or.inr rfl⟩)
          · cases hy
        · split at hy
          · cases hy; exact mem_rms.mpr (Or.inr ⟨t, mt, Or.inl rfl⟩)
          · cases hy
      have grT : ∀ {d x}, x ∈ gl T r d → x ∈ rms T := fun {d x} hx => gr (n := T.length) (by rw [List.take_length]; exact hx)
      have gfl : ∀ {n x}, x ∈ ((U.take n).flatMap fun c => gl T r c ++ gl T r (c - 32)) → x ∈ rms T := fun {n x} hx => by
        obtain ⟨c, _, hx⟩ := List.mem_flatMap.mp hx
        rcases List.mem_append.mp hx with hx | hx
        · exact grT hx
        · exact grT hx
      have tkn : ∀ {n : Nat} {t : Tie}, T[n]? = some t → T.take (n + 1) = T.take n ++ [t] := fun {n t} h => by rw [List.take_add_one, h]; rfl
      refine q_for (ew_list ev_c (sq_of h8)) (fun j σ' H' => (∃ x3 x4, σ' = [some (.ref a), some (.ref l), some (.int (i : Nat)), x3, x4, none]) ∧ Ex H H' ∧ H' pu = some (.lst (U.map sgn)) ∧ H' l = some (.lst (nats (addAll (fnd T i) ((U.take j).flatMap fun c => gl T r c ++ gl T r (c - 32)))))) (fun H9 e9 => ⟨⟨_, _, rfl⟩, (E5.trans e8).trans e9, e9 _ _ h8, (e8.trans e9) _ _ od5⟩) (fun j σ' H' _ ⟨_, _, h, _⟩ => sq_of h) ?_ ?_
      · rintro j x σ' H9 hx ⟨⟨y3, y4, rfl⟩, ex9, hp9, ol9⟩
        obtain ⟨c, hc, rfl⟩ : ∃ c, U[j]? = some c ∧ x = sgn c := by
          rw [List.getElem?_map] at hx
          cases hc : U[j]? with
          | none => rw [hc] at hx; cases hx
          | some c => rw [hc] at hx; exact ⟨c, rfl, (Option.some.inj hx).symm⟩
        have cb := mUc c (List.mem_of_getElem? hc)
        have tkU : U.take (j + 1) = U.take j ++ [c] := by rw [List.take_add_one, hc]; rfl
        rw [tkU, List.flatMap_append, List.flatMap_singleton]
        have mP : ∀ x ∈ ((U.take j).flatMap fun c => gl T r c ++ gl T r (c - 32)), x ∈ rms T := fun x hx => gfl hx
        generalize ((U.take j).flatMap fun c => gl T r c ++ gl T r (c - 32)) = P0 at *
        refine gname_go ?_
        refine q_for (ew_list (ev_var rfl) (sq_of (ex9 _ _ ha))) (fun n σ' H' => (∃ x4, σ' = [some (.ref a), some (.ref l), some (.int (i : Nat)), some (sgn c), x4, none]) ∧ Ex H H' ∧ H' pu = some (.lst (U.map sgn)) ∧ H' l = some (.lst (nats (addAll (fnd T i) (P0 ++ gl (T.take n) r c))))) (fun H10 e10 => ⟨⟨_, rfl⟩, ex9.trans e10, e10 _ _ hp9, by rw [show gl (T.take 0) r c = [] by rw [List.take_zero]; unfold gl; rfl, List.append_nil]; exact e10 _ _ ol9⟩) (fun n σ' H' _ ⟨_, e, _⟩ => sq_of (e _ _ ha)) ?_ ?_
        · rintro n x σ2 H10 hx ⟨⟨y4, rfl⟩, ex10, hp10, ol10⟩
          obtain ⟨t, ta, htn, rfl, hta⟩ := hT.at hx
          have b1 := bound (P0 ++ gl (T.take n) r c) fun x hx => by
            rcases List.mem_append.mp hx with hx | hx
            · exact mP x hx
            · exact gr hx
          refine gname_go ?_
          refine s_ordIf (k0 := 0) (k2 := 2) (x0 := t.1) (x2 := t.2.2) ol10 (by omega) (at_ _) rfl rfl rfl rfl (ex10 _ _ hta) (atI_nat (j := 0) rfl) (atI_nat (j := 1) rfl) (atI_nat (j := 2) rfl) fun H2 kp h2 => ⟨⟨_, rfl⟩, ?_, kp _ _ np hp10, ?_⟩
          · intro z o hz
            refine kp _ _ (fun e => ?_) (ex10 _ _ hz)
            subst e
            rw [hl] at hz; cases hz
          · rw [h2, tkn htn, gl_snoc, if_pos cb.1, ← List.append_assoc, addAll_app _ (P0 ++ gl (T.take n) r c)]
        · rintro σ2 H10 ⟨⟨y4, rfl⟩, ex10, hp10, ol10⟩
          rw [xl, List.take_length] at ol10
          refine s_for (ew_list (ev_var rfl) (sq_of (ex10 _ _ ha))) (fun n σ' H' => (∃ x4, σ' = [some (.ref a), some (.ref l), some (.int (i : Nat)), some (sgn c), x4, none]) ∧ Ex H H' ∧ H' pu = some (.lst (U.map sgn)) ∧ H' l = some (.lst (nats (addAll (fnd T i) (P0 ++ gl T r c ++ gl (T.take n) r (c - 32)))))) (fun H11 e11 => ⟨⟨_, rfl⟩, ex10.trans e11, e11 _ _ hp10, by rw [show gl (T.take 0) r (c - 32) = [] by rw [List.take_zero]; unfold gl; rfl, List.append_nil]; exact e11 _ _ ol10⟩) (fun n σ' H' _ ⟨_, e, _⟩ => sq_of (e _ _ ha)) ?_ ?_
          · rintro n x σ2 H11 hx ⟨⟨z4, rfl⟩, ex11, hp11, ol11⟩
            obtain ⟨t, ta, htn, rfl, hta⟩ := hT.at hx
            have st := sm t (List.mem_of_getElem? htn)
            have b1 := bound (P0 ++ gl T r c ++ gl (T.take n) r (c - 32)) fun x hx => by
              rcases List.mem_append.mp hx with hx | hx
              · rcases List.mem_append.mp hx with hx | hx
                · exact mP x hx
                · exact grT hx
              · exact gr hx
            refine gname_go ?_
            refine s_ordIf (k0 := 2) (k2 := 0) (x0 := t.2.2) (x2 := t.1) ol11 (by omega) (at_ _) rfl rfl rfl rfl (ex11 _ _ hta) (atI_nat (j := 2) rfl) (atI_nat (j := 1) rfl) (atI_nat (j := 0) rfl) fun H2 kp h2 => ⟨⟨_, rfl⟩, ?_, kp _ _ np hp11, ?_⟩
            · intro z o hz
              refine kp _ _ (fun e => ?_) (ex11 _ _ hz)
              subst e
              rw [hl] at hz; cases hz
            · rw [h2, tkn htn, gl_snoc, if_neg (show ¬ 97 ≤ c - 32 by omega), show c - 32 + 32 = c by omega, ← List.append_assoc, addAll_app _ (P0 ++ gl T r c ++ gl (T.take n) r (c - 32))]
          · rintro σ2 H11 ⟨⟨z4, rfl⟩, ex11, hp11, ol11⟩
            rw [xl, List.take_length, List.append_assoc] at ol11
            exact ⟨⟨_, _, rfl⟩, ex11, hp11, ol11⟩
      · rintro σ2 H9 ⟨⟨y3, y4, rfl⟩, ex9, hp9, ol9⟩
        rw [List.length_map, List.take_length, ← nbU, ← fnd_succ hr] at ol9
        exact s_asg (ev_op (ev_var rfl) ev_c rv_I0) fun H10 e10 => ⟨⟨_, _, rfl⟩, ex9.trans e10, e10 _ _ ol9⟩
    · have hge : (fnd T i).length ≤ i := by have := of_decide_eq_false b; omega
      have eo : fnd T i = ord T := by
        rcases Nat.le_total i (2 * T.length + 1) with h | h
        · exact (fnd_stop hge h).symm
        · have := fnd_stop (T := T) (i := 2 * T.length + 1) (fnd_len T _) h
          exact this
      rw [eo] at od
      have od5 := e5 _ _ od
      have E5 := ex.trans e5
      have hT5 := hT.mono E5
      refine q_asgL (el_is (el_lc (fun x => decide ((tieAt H5 x).1 ∈ ord T)) (fun x => x) (ew_list (ev_var rfl) (sq_of (E5 _ _ ha))) (sq_of (E5 _ _ ha)) kp_list (by omega) (fun x => rfl) (fun x hx H6 e6 => ?_) (fun x hx _ H6 e6 => ev_var rfl)) (List.map_id _)) fun ps H6 hps e6 h6 => ?_
      · obtain ⟨b, rfl, hb⟩ := hT5.each x hx
        refine et_is (et_test (ev_op (ev_op (ev_var rfl) ev_c (rv_ixT (st_of (e6 _ _ hb)) (v := .int ((tieAt H5 (.ref b)).1 : Nat)) rfl)) (ev_var rfl) (rv_inL (sq_of (e6 _ _ od5)) rfl (nats_flat _)))) ?_
        rw [in_nats]; rfl
      have hTs := hT5.pick fun t => decide (t.1 ∈ ord T)
      have cm : ∀ t ∈ come T, t.1 ∈ ord T ∧ t.2.2 ∈ ord T := fun t ht => by
        obtain ⟨h1, h2⟩ := List.mem_filter.mp ht
        have m1 : t.1 ∈ ord T := of_decide_eq_true h2
        exact ⟨m1, ord_closed m1 (ld_fst sm h1)⟩
      have cl : (come T).length ≤ T.length := List.length_filter_le _ _
      show tRet (tCB (rSort3 K) (tCons (tLc (iList K (tVar 5)) (gName 4) tYes (tTup _) [4]) tNil)) _ _ H6
      refine wp_cb1 (wp_tiesN (T := come T) (fun t => (pos T t.1, t.2.1, pos T t.2.2)) (ev_var rfl) (sq_of h6) (hTs.mono e6) (by omega) (fun x => rfl) (fun u hu b hb H7 e7 => ?_) fun pz H7 ys hpz e7 h7 hT7 => ?_)
      · obtain ⟨m1, m2⟩ := cm u hu
        have od7 := (e6.trans e7) _ _ od5
        have hb7 := e7 _ _ hb
        exact eu_tup (ea_cons (ev_index (ev_var rfl) (ev_op (ev_var rfl) ev_c (rv_ixT (st_of hb7) (v := .int (u.1 : Nat)) rfl)) (sq_of od7) m1) (ea_cons (ev_op (ev_var rfl) ev_c (rv_ixT (st_of hb7) (v := sgn u.2.1) rfl)) (ea_cons (ev_index (ev_var rfl) (ev_op (ev_var rfl) ev_c (rv_ixT (st_of hb7) (v := .int (u.2.2 : Nat)) rfl)) (sq_of od7) m2) ea_nil))) (by show 3 ≤ 100000; decide)
      · have cn : (come T).Nodup := nd.filter _
        have nd2 : (tmap (pos T) (come T)).Nodup := by
          unfold tmap
          refine nodup_map (fun x hx y hy e => ?_) cn
          simp only [Prod.mk.injEq] at e
          exact Prod.ext (pos_inj (cm x hx).1 (cm y hy).1 e.1) (Prod.ext e.2.1 (pos_inj (cm x hx).2 (cm y hy).2 e.2.2))
        refine wp_sort3 (T := tmap (pos T) (come T)) ⟨ys, sq_of h7, hT7⟩ nd2 fun rr H8 ys2 U hrr e8 h8 hT8 so mU lU => ?_
        exact q rr H8 ys2 U (fresh_back ((E5.trans e6).trans e7) hrr) (((E5.trans e6).trans e7).trans e8) h8 hT8 so mU (by rw [lU]; unfold tmap; rw [List.length_map])
theorem ok_order10 (D : Def K mg "_law_order" s__law_order ["_law_cell_here", "_law_many"]) (B : Blt mg) (C__law_mixed : Cal P w K mg base CX0 "_law_mixed" 1 ["_law_cell_here", "_law_k"] sp_mixed) : Cal P w K mg base CX0 "_law_order" 2 ["_law_cell_here", "_law_many"] sp_order10 := by
  refine D.cal sc__law_order (fun vs H Q E h => ?_) (fun f cdv A outer s H vs Q E hr h => ⟨_, (pss_cons (ps_set (i := 2) sc__law_order.nd rfl (Or.inl rfl) (pe_listRg rfl (by rfl) B.z_list (prg_1 (by rfl) B.z_range (pv 1))))
      (pss_cons (ps_set (i := 3) sc__law_order.nd rfl (Or.inl rfl) (pe_lst pa_nil))
      (pss_cons (ps_for PassesOwn.never rfl (pi_range1 rfl B.z_range (pa_cons (pv 1) pa_nil)) (pg_name (i := 4) sc__law_order.nd rfl (Or.inl rfl))
      (pss_one (ps_expr (pe_bm PySem.F.plainAttrs_list PySem.F.slot_list_append PySem.F.type_list_append mt_append (pv 3) (pa_cons (pe_bm PySem.F.plainAttrs_list PySem.F.slot_list_pop PySem.F.type_list_pop mt_popAt (pv 2) (pa_cons (pe_op op_mod (pe_op op_fdiv (pe_callC C__law_mixed (hr.mono (by decide)) rfl pass0 (pa_cons (pv 0) (pa_cons (pv 4) pa_nil))) pe_int) (pe_callB call_len_seq (by rfl) B.z_len (by decide +kernel) (pa_cons (pv 2) pa_nil))) pa_nil)) pa_nil)))))
      (pss_one (ps_ret (pv 3)))))), ?_⟩)
  · obtain ⟨c, n, rfl, _⟩ := h; rfl
  · obtain ⟨c, n, rfl, hn, q⟩ := h
    refine q_asgL (xs := nats (List.range n)) (el_rg1 (ev_var rfl) (by omega)) fun l H1 hl e1 h1 => ?_
    refine q_asgL (xs := nats []) (el_lst ea_nil (Nat.zero_le _)) fun p H2 hp e2 h2 => ?_
    have npl : p ≠ l := fun z => by subst z; rw [h1] at hp; cases hp
    have fp := fresh_back e1 hp
    refine q_for (ew_rng1 (n := (n : Nat)) (ea_cons (ev_var rfl) ea_nil) (by omega)) (fun i σ' H' => (∃ x4, σ' = [some (.int c), some (.int (n : Nat)), some (.ref l), some (.ref p), x4]) ∧ Ex H H' ∧ ∃ got rem, H' p = some (.lst (nats got)) ∧ H' l = some (.lst (nats rem)) ∧ (got ++ rem).Perm (List.range n) ∧ rem.length + i = n) (fun H3 e3 => ⟨⟨_, rfl⟩, (e1.trans e2).trans e3, [], List.range n, e3 _ _ h2, (e2.trans e3) _ _ h1, List.Perm.refl _, by rw [List.length_range]; rfl⟩) (fun _ _ _ _ _ => trivial) ?_ ?_
    · rintro i x σ' H' hx ⟨⟨y4, rfl⟩, ex, got, rem, hg, hr', pm, ln⟩
      have il : i < n := by
        have := (List.getElem?_eq_some_iff.mp hx).1
        rw [List.length_map, List.length_range] at this
        omega
      have ei : x = .int (i : Nat) := by
        rw [List.getElem?_map, List.getElem?_range (by omega)] at hx
        exact (Option.some.inj hx).symm
      subst ei
      have k0 : 0 ≤ mixed c (i : Nat) / 7 % (rem.length : Nat) := Int.emod_nonneg _ (by omega)
      have k1 : mixed c (i : Nat) / 7 % (rem.length : Nat) < (rem.length : Nat) := Int.emod_lt_of_pos _ (by omega)
      obtain ⟨k, hk⟩ := Int.eq_ofNat_of_zero_le k0
      rw [hk] at k1
      have kl : k < rem.length := by omega
      refine gname_go ?_
      show tDrop (tBM K "list" rAppend (tVar 3) (tCons (tBM K "list" rPopAt (tVar 2) (tCons _ tNil)) tNil)) _ [some (.int c), some (.int (n : Nat)), some (.ref l), some (.ref p), some (.int (i : Nat))] H'
      refine ⟨.ref p, rfl, Or.inl ⟨rfl, _, sq_of hg⟩, .ref l, rfl, Or.inl ⟨rfl, _, sq_of hr'⟩, ?_⟩
      refine ev_op (ev_op (ev_call (ea_cons (ev_var rfl) (ea_cons (ev_var rfl) ea_nil)) (sv_mixed (c := c) (k := i) (by omega))) ev_c (rv_I ⟨by decide, by decide⟩)) (ev_is (ev_cb (ea_cons (ev_var rfl) ea_nil) (rc_len (sq_of hr'))) (by rw [nats_len])) (rv_I (by omega)) H' (Ex.refl _) _ fun H3 e3 => ?_
      have hg3 := e3 _ _ hg
      have hr3 := e3 _ _ hr'
      refine ⟨l, nats rem, (k : Nat), k, .int (rem[k] : Nat), rfl, by rw [hk], hr3, by omega, by omega, by rw [nats_len]; exact seqIx kl, nats_at (List.getElem?_eq_getElem kl), ?_⟩
      refine ⟨p, nats got, _, rfl, rfl, by rw [upd_ne npl]; exact hg3, sz_lt (by rw [nats_len]; have := pm.length_eq; rw [List.length_append, List.length_range] at this; omega), ?_⟩
      refine ⟨⟨_, rfl⟩, Ex.mut (Ex.mut (ex.trans e3) hl) fp, got ++ [rem[k]], rem.eraseIdx k, ?_, ?_, ?_, ?_⟩
      · rw [upd_same]; unfold nats; rw [List.map_append]; rfl
      · rw [upd_ne npl.symm, upd_same]
        unfold nats
        rw [eraseIdx_mapN]
      · refine List.Perm.trans ?_ pm
        rw [List.append_assoc]
        refine List.Perm.append_left _ ?_
        exact (cons_erase_perm kl)
      · rw [List.length_eraseIdx_of_lt kl]; omega
    · rintro σ' H' ⟨⟨y4, rfl⟩, ex, got, rem, hg, hr', pm, ln⟩
      rw [List.length_map, List.length_range] at ln
      have : rem = [] := List.eq_nil_of_length_eq_zero (by omega)
      subst this
      rw [List.append_nil] at pm
      exact s_ret (ev_var rfl) fun H5 e5 => q got pm p H5 fp (ex.trans e5) (e5 _ _ hg)
end
end Gw

/-! ## K10 -/
namespace Gw
open PySem PySem.Spec PyProof.Rows L2 Evl
abbrev s_law : Stmt := topS 51
theorem sc_law : FnScope ["_law_script", "_law_letters_here", "_law_many", "_law_ties", "_law_k", "_law_order_here", "_law_web", "_law_rooms", "_law_told", "_law_more", "_law_words", "_law_one", "_law_other", "_law_due", "_law_at", "_law_less", "_law_room", "_law_letter"] ["_law_script"] (defScope s_law) := ⟨rfl, rfl, rfl, by decide +kernel, rfl, by decide +kernel, by decide +kernel⟩
section
variable {P : Program} {w : World} {K : PySem.W.Frag} {mg : Str → Option Value} {base : Heap} {C_GlueError C_BadWord C_BadWeb : Addr}
theorem ok_law (D : Def K mg "law" s_law ["_law_script"]) (B : Blt mg) (C_web_of : Cal P w K mg base (L2.CX P w) "web_of" 15 ["words"] (sp_web K C_BadWord)) (C_few : Cal P w K mg base (L2.CX P w) "few" 12 ["web"] (sp_few C_BadWeb)) (C_reads : Cal P w K mg base (L2.CX P w) "reads" 12 ["web", "word"] (sp_reads C_BadWeb C_BadWord)) (C_is_web : Cal P w K mg base CX0 "is_web" 10 ["thing"] (sp_isweb K)) (C_sides : Cal P w K mg base (L2.CX P w) "sides" 12 ["web", "letters"] (sp_sides C_BadWeb C_BadWord)) (C__law_cell : Cal P w K mg base CX0 "_law_cell" 1 ["_law_script", "_law_k"] (sp_cell K)) (C__law_letters : Cal P w K mg base CX0 "_law_letters" 1 ["_law_cell_here"] sp_letters)
    (C__law_word : Cal P w K mg base CX0 "_law_word" 2 ["_law_cell_here", "_law_letters_here", "_law_size"] (sp_word K)) (C__law_short : Cal P w K mg base CX0 "_law_short" 2 ["_law_word_here"] sp_lshort) (C__law_turned : Cal P w K mg base CX0 "_law_turned" 2 ["_law_word_here"] sp_turned) (C__law_led : Cal P w K mg base CX0 "_law_led" 1 ["_law_web", "_law_word_here"] (sp_led K)) (C__law_numbered : Cal P w K mg base CX0 "_law_numbered" 1 ["_law_ties"] sp_numb) (C__law_order : Cal P w K mg base CX0 "_law_order" 2 ["_law_cell_here", "_law_many"] sp_order10) : Cal P w K mg base CX0 "law" 17 ["_law_script"] (sp_law K) := by
  refine D.cal sc_law (fun vs H Q E h => ?_) (fun f cdv A outer s H vs Q E hr h => ⟨_, (pss_cons (ps_set (i := 1) sc_law.nd rfl (Or.inr rfl) (pe_callC C__law_letters (hr.mono (by decide)) rfl pass0 (pa_cons (pe_callC C__law_cell (hr.mono (by decide)) rfl pass0 (pa_cons (pv 0) (pa_cons pe_int pa_nil))) pa_nil)))
      (pss_cons (ps_set (i := 2) sc_law.nd rfl (Or.inl rfl) (pe_op op_add pe_int (pe_op op_mod (pe_callC C__law_cell (hr.mono (by decide)) rfl pass0 (pa_cons (pv 0) (pa_cons pe_int pa_nil))) pe_int)))
      (pss_cons (ps_if (pt_cmpR op_gt (pe_callB call_len_seq (by rfl) B.z_len (by decide +kernel) (pa_cons (pv 1) pa_nil)) pe_int (nomark _))
      (pss_one (ps_set (i := 2) sc_law.nd rfl (Or.inl rfl) (pe_op op_add pe_int (pe_op op_mod (pe_callC C__law_cell (hr.mono (by decide)) rfl pass0 (pa_cons (pv 0) (pa_cons pe_int pa_nil))) pe_int))))
      pss_nil)
      (pss_cons (ps_set (i := 3) sc_law.nd rfl (Or.inl rfl) (pe_lst pa_nil))
      (pss_cons (ps_for PassesOwn.never rfl (pi_range1 rfl B.z_range (pa_cons (pe_callB call_len_seq (by rfl) B.z_len (by decide +kernel) (pa_cons (pv 1) pa_nil)) pa_nil)) (pg_name (i := 4) sc_law.nd rfl (Or.inr rfl))
      (pss_cons (ps_set (i := 5) sc_law.nd rfl (Or.inr rfl) (pe_callC C__law_order (hr.mono (by decide)) rfl pass0 (pa_cons (pe_op op_add (pe_callC C__law_cell (hr.mono (by decide)) rfl pass0 (pa_cons (pv 0) (pa_cons (pe_op op_add pe_int (pe_op op_mod (pv 4) pe_int)) pa_nil))) (pe_op op_mul pe_int (pe_op op_fdiv (pv 4) pe_int))) (pa_cons (pv 2) pa_nil))))
      (pss_one (ps_set (i := 3) sc_law.nd rfl (Or.inl rfl) (pe_op op_cat (pv 3) (pe_lc (own := [("_law_room", 16)]) (g := (gName 16)) rfl sc_law.nd (pi_range1 rfl B.z_range (pa_cons (pv 2) pa_nil)) (blkOk_by (own := [("_law_room", 16)]) (N := ["_law_script", "_law_letters_here", "_law_many", "_law_ties", "_law_k", "_law_order_here", "_law_web", "_law_rooms", "_law_told", "_law_more", "_law_words", "_law_one", "_law_other", "_law_due", "_law_at", "_law_less", "_law_room", "_law_letter"]) (sc := defScope s_law) (by decide +kernel)) (fun _ _ _ _ _ => (pg_name (i := 16) sc_law.nd rfl (Or.inl rfl))) (fun _ _ _ _ _ => pts_nil) (fun _ _ _ _ _ => (pe_tup (pa_cons (pv 16) (pa_cons (pe_ix ix_listB (pv 1) (pv 4) (fun _ _ => rfl)) (pa_cons (pe_ix ix_listB (pv 5) (pv 16) (fun _ _ => rfl)) pa_nil)))))))))))
      (pss_cons (ps_set (i := 6) sc_law.nd rfl (Or.inr rfl) (pe_callC C__law_numbered (hr.mono (by decide)) rfl pass0 (pa_cons (pv 3) pa_nil)))
      (pss_cons (ps_set (i := 7) sc_law.nd rfl (Or.inl rfl) (pe_op op_fdiv (pe_callB call_len_seq (by rfl) B.z_len (by decide +kernel) (pa_cons (pv 6) pa_nil)) (pe_callB call_len_seq (by rfl) B.z_len (by decide +kernel) (pa_cons (pv 1) pa_nil))))
      (pss_cons (ps_set (i := 8) sc_law.nd rfl (Or.inl rfl) (pe_join pe_str (pv 1)))
      (pss_cons (ps_if (PW.pt (pw_or (pt_cmpR op_notBl (pe_callC C_is_web (hr.mono (by decide)) rfl pass0 (pa_cons (pe_callTy call_list_of (by rfl) B.z_list (by decide +kernel) (pa_cons (pv 6) pa_nil)) pa_nil)) pe_bl (nomark _)) (pw_or (pt_cmpR op_ne (pe_callC C_sides (hr.mono (by decide)) rfl passL (pa_cons (pv 6) (pa_cons (pv 8) pa_nil))) (pv 7) (nomark _)) (pw_or1 (pt_val (pe_callB call_isi (by rfl) B.z_isinstance (by decide +kernel) (pa_cons (pe_callC C_sides (hr.mono (by decide)) rfl passL (pa_cons (pv 6) (pa_cons (pv 8) pa_nil))) (pa_cons (pe_bltn (v := .ty "bool") (by rfl) B.z_bool (by decide +kernel) rfl) pa_nil))))))))
      (pss_one (ps_ret pe_bl))
      pss_nil)
      (pss_cons (ps_if (PW.pt (pw_or (pt_cmpR op_ne (pe_callB call_len_seq (by rfl) B.z_len (by decide +kernel) (pa_cons (pe_callC C_few (hr.mono (by decide)) rfl passL (pa_cons (pv 6) pa_nil)) pa_nil)) (pe_op op_add pe_int (pe_op op_mul (pv 7) (pe_op op_sub (pe_callB call_len_seq (by rfl) B.z_len (by decide +kernel) (pa_cons (pv 1) pa_nil)) pe_int))) (nomark _)) (pw_or1 (pt_cmpR (op_neD hr.units) (pe_callC C_web_of (hr.mono (by decide)) rfl passL (pa_cons (pe_callC C_few (hr.mono (by decide)) rfl passL (pa_cons (pv 6) pa_nil)) pa_nil)) (pv 6) (nomark _)))))
      (pss_one (ps_ret pe_bl))
      pss_nil)
      (pss_cons (ps_set (i := 9) sc_law.nd rfl (Or.inl rfl) (pe_ix ix_list (pe_lc (own := [("_law_letter", 17)]) (g := (gName 17)) rfl sc_law.nd (pi_str pe_str) (blkOk_by (own := [("_law_letter", 17)]) (N := ["_law_script", "_law_letters_here", "_law_many", "_law_ties", "_law_k", "_law_order_here", "_law_web", "_law_rooms", "_law_told", "_law_more", "_law_words", "_law_one", "_law_other", "_law_due", "_law_at", "_law_less", "_law_room", "_law_letter"]) (sc := defScope s_law) (by decide +kernel)) (fun _ _ _ _ _ => (pg_name (i := 17) sc_law.nd rfl (Or.inl rfl))) (fun _ _ _ _ _ => (pts_one (pt_cmpR op_notIn_seqB (pv 17) (pv 1) rfl))) (fun _ _ _ _ _ => (pv 17))) pe_int (fun _ _ => rfl)))
      (pss_cons (ps_if (PW.pt (pw_or (pt_cmpR op_notN (pe_callC C_sides (hr.mono (by decide)) rfl passL (pa_cons (pv 6) (pa_cons (pe_op op_add_str (pv 8) (pv 9)) pa_nil))) pe_non (nomark _)) (pw_or (pt_cmpR op_ne (pe_callC C_sides (hr.mono (by decide)) rfl passL (pa_cons (pe_lst pa_nil) (pa_cons pe_str pa_nil))) pe_int (nomark _)) (pw_or1 (pt_cmpR op_notN (pe_callC C_sides (hr.mono (by decide)) rfl passL (pa_cons (pe_lst pa_nil) (pa_cons (pv 9) pa_nil))) pe_non (nomark _))))))
      (pss_one (ps_ret pe_bl))
      pss_nil)
      (pss_cons (ps_setLc (i := 10) (own := [("_law_k", 4)]) (g := (gName 4)) rfl sc_law.nd rfl rfl (sw_true rfl rfl rfl (by decide +kernel)) (pi_range1 rfl B.z_range (pa_cons pe_int pa_nil)) (blkOk_by (own := [("_law_k", 4)]) (N := ["_law_script", "_law_letters_here", "_law_many", "_law_ties", "_law_k", "_law_order_here", "_law_web", "_law_rooms", "_law_told", "_law_more", "_law_words", "_law_one", "_law_other", "_law_due", "_law_at", "_law_less", "_law_room", "_law_letter"]) (sc := defScope s_law) (by decide +kernel)) (fun _ _ _ _ _ => (pg_name (i := 4) sc_law.nd rfl (Or.inl rfl))) (fun _ _ _ _ _ => pts_nil) (fun _ _ _ _ _ => (pe_callC C__law_word (hr.mono (by decide)) rfl pass0 (pa_cons (pe_callC C__law_cell (hr.mono (by decide)) rfl pass0 (pa_cons (pv 0) (pa_cons (pe_op op_add pe_int (pv 4)) pa_nil))) (pa_cons (pv 1) (pa_cons (pe_op op_mod (pe_op op_fdiv (pe_callC C__law_cell (hr.mono (by decide)) rfl pass0 (pa_cons (pv 0) (pa_cons pe_int pa_nil))) pe_int) pe_int) pa_nil))))))
      (pss_cons (ps_for PassesOwn.never rfl (pi_list (pv 10)) (pg_name (i := 11) sc_law.nd rfl (Or.inr rfl))
      (pss_cons (ps_if (pt_cmpR (op_eqD hr.units) (pe_lc (own := [("_law_k", 4)]) (g := (gName 4)) rfl sc_law.nd (pi_range2 rfl B.z_range (pa_cons pe_int (pa_cons (pe_op op_add (pv 7) pe_int) pa_nil))) (blkOk_by (own := [("_law_k", 4)]) (N := ["_law_script", "_law_letters_here", "_law_many", "_law_ties", "_law_k", "_law_order_here", "_law_web", "_law_rooms", "_law_told", "_law_more", "_law_words", "_law_one", "_law_other", "_law_due", "_law_at", "_law_less", "_law_room", "_law_letter"]) (sc := defScope s_law) (by decide +kernel)) (fun _ _ _ _ _ => (pg_name (i := 4) sc_law.nd rfl (Or.inl rfl))) (fun _ _ _ _ _ => (pts_one (pt_val (pe_callC C_reads (hr.mono (by decide)) rfl passL (pa_cons (pv 6) (pa_cons (pe_op op_mulS (pv 11) (pv 4)) pa_nil)))))) (fun _ _ _ _ _ => (pv 4))) (pe_lst pa_nil) (nomark _))
      (pss_one (ps_ret pe_bl))
      pss_nil)
      (pss_one (ps_for PassesOwn.never rfl (pi_list (pv 10)) (pg_name (i := 12) sc_law.nd rfl (Or.inl rfl))
      (pss_cons (ps_set (i := 13) sc_law.nd rfl (Or.inl rfl) (pe_cmpR (op_eqD hr.units) (pe_callC C__law_led (hr.mono (by decide)) rfl pass0 (pa_cons (pv 6) (pa_cons (pe_callC C__law_short (hr.mono (by decide)) rfl pass0 (pa_cons (pv 11) pa_nil)) pa_nil))) (pe_callC C__law_led (hr.mono (by decide)) rfl pass0 (pa_cons (pv 6) (pa_cons (pe_callC C__law_short (hr.mono (by decide)) rfl pass0 (pa_cons (pv 12) pa_nil)) pa_nil))) (nomark _)))
      (pss_one (ps_if (pt_cmpR op_ne (pe_callC C_reads (hr.mono (by decide)) rfl passL (pa_cons (pv 6) (pa_cons (pe_op op_add_str (pv 11) (pe_callC C__law_turned (hr.mono (by decide)) rfl pass0 (pa_cons (pv 12) pa_nil))) pa_nil))) (pv 13) (nomark _))
      (pss_one (ps_ret pe_bl))
      pss_nil)))))))
      (pss_cons (ps_set (i := 14) sc_law.nd rfl (Or.inl rfl) (pe_op op_mod (pe_callC C__law_cell (hr.mono (by decide)) rfl pass0 (pa_cons (pv 0) (pa_cons pe_int pa_nil))) (pe_callB call_len_seq (by rfl) B.z_len (by decide +kernel) (pa_cons (pv 6) pa_nil))))
      (pss_cons (ps_set (i := 15) sc_law.nd rfl (Or.inl rfl) (pe_op op_cat (pe_slice sl_list (pv 6) po_none (po_some (pv 14))) (pe_slice sl_list (pv 6) (po_some (pe_op op_add (pv 14) pe_int)) po_none)))
      (pss_cons (ps_if (pt_not (pt_val (pe_callC C_is_web (hr.mono (by decide)) rfl pass0 (pa_cons (pv 15) pa_nil))))
      (pss_one (ps_ret pe_bl))
      pss_nil)
      (pss_one (ps_ret (pe_and (pe_cmpR op_isN (pe_callC C_sides (hr.mono (by decide)) rfl passL (pa_cons (pv 15) (pa_cons (pv 8) pa_nil))) pe_non (nomark _)) (pe_one (pe_cmpR op_eq (pe_callB call_len_seq (by rfl) B.z_len (by decide +kernel) (pa_cons (pe_callC C_few (hr.mono (by decide)) rfl passL (pa_cons (pv 15) pa_nil)) pa_nil)) (pe_op op_sub (pe_callB call_len_seq (by rfl) B.z_len (by decide +kernel) (pa_cons (pe_callC C_few (hr.mono (by decide)) rfl passL (pa_cons (pv 6) pa_nil)) pa_nil)) pe_int) (nomark _))))))))))))))))))))))), ?_⟩)
  · obtain ⟨a, ns, rfl, _⟩ := h; rfl
  · obtain ⟨a, ns, rfl, hs, q⟩ := h
    have ce : ∀ {σ : L2.St} {H' : Hp} {E : XK} (k : Int), Ex H H' → σ[0]? = some (some (V.ref a)) → 0 ≤ k → Ev (tCall (sp_cell K) [] E (tCons (tVar 0) (tCons (tC (.int k)) tNil))) σ H' (.int (cell ns k.toNat)) := fun k e h0 hk =>
      ev_call (ea_cons (ev_var h0) (ea_cons ev_c ea_nil)) (sv_cell (ex_l e hs) hk)
    refine q_asgL (el_call (ea_cons (ce 0 (Ex.refl _) rfl (by decide)) ea_nil) sl_letters) fun pl H1 hpl e1 h1 => ?_
    have lo := lettersOf_ok (cell ns (0 : Int).toNat)
    have lnd := lettersOf_nodup (cell ns (0 : Int).toNat)
    generalize lettersOf (cell ns (0 : Int).toNat) = ls at lo lnd h1
    obtain ⟨l1, l8, lsm⟩ := lo
    have ll : (ls.map sgn).length = ls.length := List.length_map _
    have m5 : 0 ≤ cell ns (1 : Int).toNat % 5 := Int.emod_nonneg _ (by decide)
    have m5' : cell ns (1 : Int).toNat % 5 < 5 := Int.emod_lt_of_pos _ (by decide)
    have m2 : 0 ≤ cell ns (1 : Int).toNat % 2 := Int.emod_nonneg _ (by decide)
    have m2' : cell ns (1 : Int).toNat % 2 < 2 := Int.emod_lt_of_pos _ (by decide)
    refine q_asg (v := .int (1 + cell ns (1 : Int).toNat % 5)) (ev_op ev_c (ev_op (ce 1 e1 rfl (by decide)) ev_c (rv_I (by decide))) rv_I0) fun H2 e2 => ?_
    have E2 := e1.trans e2
    have h12 := e2 _ _ h1
    refine q_whenK (N := fun σ' H' => Ex H2 H' ∧ ∃ n : Nat, 1 ≤ n ∧ n ≤ 5 ∧ n * ls.length ≤ 16 ∧ σ' = [some (.ref a), some (.ref pl), some (.int (n : Nat)), none, none, none, none, none, none, none, none, none, none, none, none, none, none, none]) (et_test (ev_op (ev_cb (ea_cons (ev_var rfl) ea_nil) (rc_len (sq_of h12))) ev_c rv_I0)) ?_ (fun b H3 e3 D' k => ?_) (fun b H3 e3 => ?_)
    rotate_left
    · refine s_asg (v := .int (1 + cell ns (1 : Int).toNat % 2)) (ev_op ev_c (ev_op (ce 1 (E2.trans e3) rfl (by decide)) ev_c (rv_I (by decide))) rv_I0) fun H4 e4 => k _ _ ⟨e3.trans e4, (1 + cell ns (1 : Int).toNat % 2).toNat, by omega, by omega, ?_, ?_⟩
      · have : (1 + cell ns (1 : Int).toNat % 2).toNat ≤ 2 := by omega
        have := Nat.mul_le_mul this l8
        omega
      · show [some (V.ref a), some (V.ref pl), some (V.int (1 + cell ns (1 : Int).toNat % 2)), none, none, none, none, none, none, none, none, none, none, none, none, none, none, none] = _
        rw [Int.toNat_of_nonneg (by omega)]
    · refine ⟨e3, (1 + cell ns (1 : Int).toNat % 5).toNat, by omega, by omega, ?_, ?_⟩
      · have b2 : ¬ (ls.length : Int) > 3 := by
          have := of_decide_eq_false b
          rw [ll] at this
          exact this
        have h1 : (1 + cell ns (1 : Int).toNat % 5).toNat ≤ 5 := by omega
        have h2 : ls.length ≤ 3 := by omega
        have := Nat.mul_le_mul h1 h2
        omega
      · show [some (V.ref a), some (V.ref pl), some (V.int (1 + cell ns (1 : Int).toNat % 5)), none, none, none, none, none, none, none, none, none, none, none, none, none, none, none] = _
        rw [Int.toNat_of_nonneg (by omega)]
    rintro σ' H3 ⟨e3, n, n1, n5, n16, rfl⟩
    have h13 := e3 _ _ h12
    have E3 := E2.trans e3
    refine q_asgL (xs := []) (el_lst ea_nil (Nat.zero_le _)) fun pt H4 hpt e4 h4 => ?_
    have h14 := e4 _ _ h13
    have E4 := E3.trans e4
    refine q_for (ew_rng1 (n := (ls.length : Nat)) (ea_cons (ev_is (ev_cb (ea_cons (ev_var rfl) ea_nil) (rc_len (sq_of h14))) (by rw [ll])) ea_nil) (by omega)) (fun k σ' H' => ∃ p x4 x5 xs T, σ' = [some (.ref a), some (.ref pl), some (.int (n : Nat)), some (.ref p), x4, x5, none, none, none, none, none, none, none, none, none, none, none, none] ∧ Ex H4 H' ∧ H' p = some (.lst xs) ∧ Ties H' xs T ∧ PermT n (ls.take k) T) (fun H5 e5 => ⟨pt, _, _, [], [], rfl, e5, e5 _ _ h4, .nil, by rw [List.take_zero]; exact .nil⟩) (fun _ _ _ _ _ => trivial) ?_ ?_
    · rintro k x σ' H5 hx ⟨p, y4, y5, xs, T, rfl, e5, hp, hT, PT⟩
      have kl : k < ls.length := by
        have := (List.getElem?_eq_some_iff.mp hx).1
        rw [List.length_map, List.length_range] at this
        omega
      have ex : x = .int (k : Nat) := by
        rw [List.getElem?_map, List.getElem?_range (by omega)] at hx
        exact (Option.some.inj hx).symm
      subst ex
      have E5 := E4.trans e5
      refine gname_go ?_
      have d3 : 0 ≤ (k : Int) % 3 := Int.emod_nonneg _ (by decide)
      refine q_asgQ (Φ := fun po H6 => H5 po = none ∧ Ex H5 H6 ∧ ∃ pm : List Nat, pm.Perm (List.range n) ∧ H6 po = some (.lst (nats pm))) (fun Q1 q1 => ?_) ?_
      · show tCall sp_order10 [] _ (tCons (tOp _ _ _) (tCons (tVar 2) tNil)) _ H5 Q1
        refine ev_op (z := .int (cell ns (2 + (k : Int) % 3).toNat + 977 * ((k : Int) / 3))) (ev_call (ea_cons (ev_var rfl) (ea_cons (ev_op ev_c (ev_op (ev_var rfl) ev_c (rv_I (by decide))) rv_I0) ea_nil)) (sv_cell (ex_l E5 hs) (by omega))) (ev_op ev_c (ev_op (ev_var rfl) ev_c (rv_I ⟨by decide, by decide⟩)) (rv_I (.inl (by decide)))) rv_I0 H5 (Ex.refl _) _ fun H6 e6 => ?_
        exact ⟨_, rfl, _, n, rfl, by omega, fun pm hpm po H7 hpo e7 h7 => q1 po H7 ⟨fresh_back e6 hpo, e6.trans e7, pm, hpm, h7⟩⟩
      rintro po H6 ⟨hpo, e6, pm, hpm, h6⟩
      have pml : pm.length = n := by rw [hpm.length_eq, List.length_range]
      have h16 := (e5.trans e6) _ _ h14
      show tAsg (tOp rCat (tVar 3) (tLc (iRng1 (tCons (tVar 2) tNil)) (gName 16) tYes (tTup _) [16])) (gName 3) _ [some (.ref a), some (.ref pl), some (.int (n : Nat)), some (.ref p), some (.int (k : Nat)), some (.ref po), none, none, none, none, none, none, none, none, none, none, none, none] H6
      have hc : ls[k]? = some ls[k] := List.getElem?_eq_getElem kl
      refine ⟨.ref p, rfl, ?_⟩
      refine wp_tiesW (fun x => match x with | .int r => (r.toNat, ls[k], pm.getD r.toNat 0) | _ => (0, 0, 0)) (ew_rng1 (n := (n : Nat)) (ea_cons (ev_var rfl) ea_nil) (by omega)) trivial kp_true (by rw [List.length_map, List.length_range]; omega) (fun x => rfl) (fun x hx H7 e7 => ?_) fun p2 H7 zs hp2 e7 h7 hT7 => ?_
      · obtain ⟨r, hr, rfl⟩ := List.mem_map.mp hx
        have rl := List.mem_range.mp hr
        have rl : r < n := by omega
        have e : pm.getD r 0 = pm[r] := by rw [List.getD_eq_getElem?_getD, List.getElem?_eq_getElem (by omega)]; rfl
        show EvU _ _ H7 (tieV (r, ls[k], pm.getD r 0))
        rw [e]
        exact eu_tup (ea_cons (ev_var rfl) (ea_cons (ev_op (ev_var rfl) (ev_var rfl) (rv_ixL (sq_of (e7 _ _ h16)) (atI_nat (by rw [List.getElem?_map, hc]; rfl)))) (ea_cons (ev_op (ev_var rfl) (ev_var rfl) (rv_ixL (sq_of (e7 _ _ h6)) (atI_nat (nats_at (List.getElem?_eq_getElem (by omega)))))) ea_nil))) (by show 3 ≤ 100000; decide)
      · have xl := hT.length
        have PTl := PT.len
        have tkl : (ls.take k).length ≤ 8 := by rw [List.length_take]; omega
        have Tl : T.length ≤ 40 := by rw [PTl]; exact Nat.le_trans (Nat.mul_le_mul n5 tkl) (by decide)
        refine ⟨p, p2, xs, zs, rfl, rfl, (e6.trans e7) _ _ hp, h7, sz_of (by rw [xl, hT7.length, List.length_map, List.length_map, List.length_range]; omega), fun s hsn => ?_⟩
        refine ⟨s, _, _, xs ++ zs, T ++ (List.range n).map fun r => (r, ls[k], pm.getD r 0), rfl, ((e5.trans e6).trans e7).trans (Ex.new hsn), upd_same, ?_, ?_⟩
        · refine Ties.app ((hT.mono (e6.trans e7)).mono (Ex.new hsn)) ?_
          have := hT7.mono (Ex.new (o := .lst (xs ++ zs)) hsn)
          rw [List.map_map] at this
          exact this
        · rw [List.take_add_one, hc]
          refine PT.snoc (fun z => ?_) (lsm _ (List.getElem_mem kl)) hpm
          obtain ⟨i, hi⟩ := List.getElem?_of_mem z
          rw [List.getElem?_take] at hi
          split at hi
          · have := nodup_at lnd hi hc
            omega
          · cases hi
    · rintro σ' H5 ⟨p, y4, y5, xs, T, rfl, e5, hp, hT, PT⟩
      rw [List.length_map, List.length_range, show ((ls.length : Nat) : Int).toNat = ls.length from rfl, List.take_length] at PT
      have E5 := E4.trans e5
      have PTl := PT.len
      have Tl : T.length ≤ 16 := by rw [PTl]; exact n16
      have lne : ls ≠ [] := fun z => by subst z; cases l1
      have h15 := e5 _ _ h14
      refine q_asgQ (Φ := fun pw H6 => H5 pw = none ∧ Ex H5 H6 ∧ ∃ ys U, H6 pw = some (.lst ys) ∧ Ties H6 ys U ∧ Srt U ∧ (∀ t, t ∈ U ↔ t ∈ tmap (pos T) (come T)) ∧ U.length = (come T).length) (fun Q1 q1 => ?_) ?_
      · show tCall sp_numb [] _ (tCons (tVar 3) tNil) _ H5 Q1
        exact ⟨.ref p, rfl, p, xs, T, rfl, hp, hT, PT.small, PT.fold, PT.nodup, by omega, fun pw H6 ys U hpw e6 h6 hU so mU lU => q1 pw H6 ⟨hpw, e6, ys, U, h6, hU, so, mU, lU⟩⟩
      rintro pw H6 ⟨hpw, e6, ys, U, h6, hU, so, mU, lU⟩
      have W := PT.whl n1 lne so mU lU
      have mle : (ord T).length ≤ 5 := by
        have := nodup_le' (ord_nodup T) (m := List.range n) fun r hr => List.mem_range.mpr (PT.ord_lt n1 r hr)
        rw [List.length_range] at this
        omega
      have mpos := ord_pos T
      generalize (ord T).length = m at W mle mpos
      have G := W.good
      have C := G.core
      have Ul : U.length ≤ 16 := by rw [lU]; exact Nat.le_trans (List.length_filter_le _ _) Tl
      have Ulm := W.len
      have yl := hU.length
      have E6 := E5.trans e6
      have h16 := e6 _ _ h15
      have g6 : GoodAt H6 pw U := ⟨ys, h6, hU, G, by omega⟩
      clear mU lU so PT PTl
      refine q_asg (v := .int (m : Nat)) (ev_is (ev_op (ev_cb (ea_cons (ev_var rfl) ea_nil) (rc_len (sq_of h6))) (ev_cb (ea_cons (ev_var rfl) ea_nil) (rc_len (sq_of h16))) (rv_I ⟨by omega, by omega⟩)) ?_) fun H7 e7 => ?_
      · rw [yl, Ulm, ll, Int.natCast_mul, Int.mul_ediv_cancel _ (by omega)]
      refine q_asg (v := .str (S ls)) (ev_is (ev_join (a := S []) (ys := ls.map fun c => S [c]) ev_c (ev_var rfl) (sq_of (((e6.trans e7) _ _ h15).trans (by rw [sgn_map]))) (by rw [ones_size]; omega)) (by rw [join_many])) fun H8 e8 => ?_
      have e68 := e7.trans e8
      have g8 := g6.mono e68
      have ok := W.ok lsm lnd
      have wB := W.whole lsm
      have rU := W.rooms
      have si : ∀ {H9 : Hp} {σ : L2.St} {E : XK}, Ex H8 H9 → σ[6]? = some (some (.ref pw)) → σ[8]? = some (some (.str (S ls))) → Ev (tCall (sp_sides C_BadWeb C_BadWord) [] E (tCons (tVar 6) (tCons (tVar 8) tNil))) σ H9 (.int (m : Nat)) := fun {H9} {σ} {E2} e s6 s8 => by
        have := ev_sides (E := E2) (CB := C_BadWeb) (CW := C_BadWord) (ev_var s6) (g8.mono e) (ev_var s8) ok
        rw [if_pos wB, rU] at this
        exact this
      have h68 := e68 _ _ h6
      have hU8 := hU.mono e68
      refine q_skip (et_or0 (et_test (ev_is (ev_op (ev_isweb1L (el_list (ev_var rfl) (sq_of h68)) hU8 G (by omega)) ev_c rv_notBl) rfl)) (et_or0 (et_test (ev_is (ev_op (si (Ex.refl _) rfl rfl) (ev_var rfl) (rv_ne rfl)) (by simp))) (et_B (ev_cb (ea_cons (si (Ex.refl _) rfl rfl) (ea_cons ev_c ea_nil)) (rc_isi tx_int (kit_ib _)))))) fun H9 e9 => ?_
      have g9 := g8.mono e9
      have h19 := (e68.trans e9) _ _ h16
      have hA := few_allW C
      have fl := W.few_len l1
      have fl2 : (idle U).length ≤ 17 := by have := idle_len C.nd; omega
      have fWs : Ws (few U) := fws_ws16 C Ul (fun t h => h) fl2
      refine q_skip (et_or0 (et_test (ev_is (ev_op (ev_lenL (el_few (ev_var rfl) g9 (by omega))) (ev_op ev_c (ev_op (ev_var rfl) (ev_op (ev_cb (ea_cons (ev_var rfl) ea_nil) (rc_len (sq_of h19))) ev_c rv_I0) (rv_I (.inl (by omega)))) rv_I0) (rv_ne rfl)) ?_)) (et_test (ev_neWebOf (es_l (el_few (ev_var rfl) g9 (by omega))) fWs (ev_var rfl) g9.web C.small fun V WV => web_few G WV))) fun H10 e10 => ?_
      · rw [wordsV_len, ll, fl]; simp
      obtain ⟨d, rest, hD, nd', dsm⟩ := more_letter l8
      have h1a := e10 _ _ h19
      refine q_asg (v := sgn d) (ev_ixN (xs := (d :: rest).map sgn) (el_is (el_lc (fun x => !inV x (ls.map sgn)) (fun x => x) (ew_str (z := "abcdefghi") ev_c) trivial kp_true (by decide +kernel) (fun x => rfl) (fun x hx H11 e11 => ?_) (fun x hx _ H11 e11 => ev_var rfl)) ?_) ev_c (atI_nat (j := 0) rfl)) fun H11 e11 => ?_
      · refine et_test (ev_is (ev_op (ev_var rfl) (ev_var rfl) (rv_niL (sq_of (e11 _ _ h1a)) ?_ (sgns_flat _))) rfl)
        obtain ⟨c, _, rfl⟩ := List.mem_map.mp hx
        rfl
      · have key : ∀ D : List Nat, ((D.map sgn).filter fun x => !inV x (ls.map sgn)) = (D.filter fun c => decide (c ∉ ls)).map sgn := fun D => by
          rw [List.filter_map]
          congr 1
          refine List.filter_congr fun c _ => ?_
          show (!inV (sgn c) (ls.map sgn)) = _
          rw [inV_sgn]
          by_cases m : c ∈ ls
          · rw [decide_eq_true m, decide_eq_false fun z => z m]; rfl
          · rw [decide_eq_false m, decide_eq_true m]; rfl
        rw [List.map_id'', abc9_str, S_cps, key, hD]
        intro x; rfl
      have e811 := (e9.trans e10).trans e11
      have g11 := g8.mono e811
      obtain ⟨okM, whM⟩ := W.okMore lsm lnd nd' dsm
      obtain ⟨okD, whD⟩ := okOne dsm
      obtain ⟨okN, whN⟩ := okNone
      refine q_skip (et_or0 (et_test (ev_is (ev_op (ev_sidesN (ev_var rfl) g11 (ev_is (ev_op (ev_var rfl) (ev_var rfl) (rv_addS (i := S ls) (j := S [d]) (by rw [S_len, S_len]; exact sz_of (by simp; omega)))) (by rw [S_app])) okM whM) ev_c rv_notN) rfl)) (et_or0 (et_test (ev_is (ev_op (ev_sides0Y (l := []) (el_lst ea_nil (Nat.zero_le _)) ev_c okN whN) ev_c (rv_ne rfl)) rfl)) (et_test (ev_is (ev_op (ev_sides0N (l := [d]) (el_lst ea_nil (Nat.zero_le _)) (ev_var rfl) okD whD) ev_c rv_notN) rfl)))) fun H12 e12 => ?_
      have g12 := g11.mono e12
      have e812 := e811.trans e12
      have E12 := (E6.trans e68).trans e812
      have h1c := (e11.trans e12) _ _ h1a
      have c8 : 0 ≤ cell ns (5 : Int).toNat / 8 % 8 := Int.emod_nonneg _ (by decide)
      have c8' : cell ns (5 : Int).toNat / 8 % 8 < 8 := Int.emod_lt_of_pos _ (by decide)
      have loK : Lts ls := ⟨l1, l8, lsm⟩
      refine q_asgL (xs := wordsV [wordOf (cell ns (6 : Int).toNat) ls (cell ns (5 : Int).toNat / 8 % 8).toNat, wordOf (cell ns (7 : Int).toNat) ls (cell ns (5 : Int).toNat / 8 % 8).toNat]) (el_is (el_lcA (fun x => match x with | .int k => .str (S (wordOf (cell ns (6 + k).toNat) ls (cell ns (5 : Int).toNat / 8 % 8).toNat)) | _ => .non) (ew_rng1 (n := 2) (ea_cons ev_c ea_nil) (by decide)) trivial kp_true (by decide) (fun x => rfl) fun x hx H13 e13 => ?_) rfl) fun pws H13 hpws e13 h13 => ?_
      · obtain ⟨k, hk, rfl⟩ := List.mem_map.mp hx
        have kl := List.mem_range.mp hk
        exact ev_call (ea_cons (ev_call (ea_cons (ev_var rfl) (ea_cons (ev_op ev_c (ev_var rfl) rv_I0) ea_nil)) (sv_cell (ex_l (E12.trans e13) hs) (by omega))) (ea_cons (ev_var rfl) (ea_cons (ev_op (ev_op (ce 5 (E12.trans e13) rfl (by decide)) ev_c (rv_I ⟨by decide, by decide⟩)) ev_c (rv_I (by decide))) ea_nil))) (sv_word (sq_of (e13 _ _ h1c)) loK (by omega))
      have hW : ∀ w ∈ [wordOf (cell ns (6 : Int).toNat) ls (cell ns (5 : Int).toNat / 8 % 8).toNat, wordOf (cell ns (7 : Int).toNat) ls (cell ns (5 : Int).toNat / 8 % 8).toNat], isW w = true ∧ InL ls w ∧ w.length ≤ 7 := fun w hw => by
        rcases List.mem_cons.mp hw with rfl | hw
        · exact ⟨wordOf_ok loK _ _, InL.word loK _ _, by rw [wordOf_len]; omega⟩
        · rw [List.mem_singleton] at hw
          subst hw
          exact ⟨wordOf_ok loK _ _, InL.word loK _ _, by rw [wordOf_len]; omega⟩
      have w2 : [wordOf (cell ns (6 : Int).toNat) ls (cell ns (5 : Int).toNat / 8 % 8).toNat, wordOf (cell ns (7 : Int).toNat) ls (cell ns (5 : Int).toNat / 8 % 8).toNat].length ≤ 2 := Nat.le_refl _
      generalize [wordOf (cell ns (6 : Int).toNat) ls (cell ns (5 : Int).toNat / 8 % 8).toNat, wordOf (cell ns (7 : Int).toNat) ls (cell ns (5 : Int).toNat / 8 % 8).toNat] = ws at hW w2 h13
      have hL : ∀ w ∈ ws, ∀ c ∈ w, isL c = true ∧ lowOf c ∈ ls := fun w hw c hc => ⟨List.all_eq_true.mp (hW w hw).1 c hc, (hW w hw).2.1 c hc⟩
      have g13 := g12.mono e13
      refine q_for (ew_list (ev_var rfl) (sq_of h13)) (fun i σ' H' => (∃ x4 x11 x12 x13, σ' = [some (.ref a), some (.ref pl), some (.int (n : Nat)), some (.ref p), x4, y5, some (.ref pw), some (.int (m : Nat)), some (.str (S ls)), some (sgn d), some (.ref pws), x11, x12, x13, none, none, none, none]) ∧ Ex H13 H') (fun H14 e14 => ⟨⟨_, _, _, _, rfl⟩, e14⟩) (fun i σ' H' _ ⟨_, e⟩ => sq_of (e _ _ h13)) ?_ ?_
      · rintro i x σ' H14 hx ⟨⟨x4, x11, x12, x13, rfl⟩, e14⟩
        obtain ⟨w, hw, rfl⟩ : ∃ w ∈ ws, x = .str (S w) := by
          unfold wordsV at hx
          rw [List.getElem?_map] at hx
          cases q : ws[i]? with
          | none => rw [q] at hx; cases hx
          | some w => rw [q] at hx; exact ⟨w, List.mem_of_getElem? q, (Option.some.inj hx).symm⟩
        obtain ⟨iw, inl, wl⟩ := hW w hw
        have g14 := g13.mono e14
        obtain ⟨k0, k1, k2, kw⟩ := W.power (hL w hw)
        have rep : ∀ k, (List.replicate k w).flatten.length = k * w.length := fun k => PyProof.Rows.lm_len_rep_flat ..
        have irep : ∀ k, isW (List.replicate k w).flatten = true := fun k => by
          induction k with
          | zero => rfl
          | succ k ih => rw [List.replicate_succ, List.flatten_cons]; exact isW_app.mpr ⟨iw, ih⟩
        refine gname_go (q_skip (et_test (ev_is (ev_opLL (el_lc (fun x => match x with | .int i => rdsB U (List.replicate i.toNat w).flatten | _ => false) (fun x => x) (ew_rng2 (i := 1) (j := (m : Nat) + 1) (ea_cons ev_c (ea_cons (ev_op (ev_var rfl) ev_c rv_I0) ea_nil)) (by decide) (by omega)) trivial kp_true (by rw [List.length_map, List.length_range]; omega) (fun x => rfl) (fun x hx H15 e15 => ?_) (fun x hx _ H15 e15 => ev_var rfl)) (el_lst ea_nil (Nat.zero_le _)) fun p' q' H15 hp' hq' e15 => rv_eqNil (sq_of hp') (sq_of hq') ?_) ?_)) fun H15 e15 => ?_)
        · obtain ⟨k, hk, rfl⟩ := List.mem_map.mp hx
          have kl := List.mem_range.mp hk
          have ek : (1 : Int) + (k : Nat) = ((k + 1 : Nat) : Int) := by omega
          rw [ek]
          have := Nat.mul_le_mul (show k + 1 ≤ 5 by omega) wl
          exact et_B (ev_reads (l := (List.replicate (k + 1) w).flatten) (ev_var rfl) (g14.mono e15) (ev_mulS (ev_var rfl) (ev_var rfl) (by omega) (by omega)) (by rw [rep]; omega) (irep _) rdsB_iff)
        · rw [List.map_id'' (fun x => rfl), List.all_eq_true]
          intro x hx
          obtain ⟨hx, _⟩ := List.mem_filter.mp hx
          obtain ⟨k, _, rfl⟩ := List.mem_map.mp hx
          rfl
        · have mem : V.int ((1 : Int) + ((k0 - 1 : Nat) : Int)) ∈ (((List.range (((m : Nat) : Int) + 1 - 1).toNat).map fun k => V.int (1 + (k : Nat))).filter fun x => match x with | .int i => rdsB U (List.replicate i.toNat w).flatten | _ => false) := by
            refine List.mem_filter.mpr ⟨List.mem_map.mpr ⟨k0 - 1, List.mem_range.mpr (by omega), rfl⟩, ?_⟩
            show rdsB U (List.replicate ((1 : Int) + ((k0 - 1 : Nat) : Int)).toNat w).flatten = true
            rw [show ((1 : Int) + ((k0 - 1 : Nat) : Int)).toNat = k0 by omega]
            exact rdsB_iff.mpr (rds_of C.fold kw)
          rw [List.map_id'' (fun x => rfl)]
          cases q : (((List.range (((m : Nat) : Int) + 1 - 1).toNat).map fun k => V.int (1 + (k : Nat))).filter fun x => match x with | .int i => rdsB U (List.replicate i.toNat w).flatten | _ => false) with
          | nil => rw [q] at mem; cases mem
          | cons _ _ => rfl
        have h135 := (e14.trans e15) _ _ h13
        refine s_for (ew_list (ev_var rfl) (sq_of h135)) (fun i σ' H' => (∃ x12 x13, σ' = [some (.ref a), some (.ref pl), some (.int (n : Nat)), some (.ref p), x4, y5, some (.ref pw), some (.int (m : Nat)), some (.str (S ls)), some (sgn d), some (.ref pws), some (.str (S w)), x12, x13, none, none, none, none]) ∧ Ex H15 H') (fun H16 e16 => ⟨⟨_, _, rfl⟩, e16⟩) (fun i σ' H' _ ⟨_, e⟩ => sq_of (e _ _ h135)) ?_ ?_
        · rintro j x σ' H16 hx ⟨⟨z12, z13, rfl⟩, e16⟩
          obtain ⟨v, hv, rfl⟩ : ∃ v ∈ ws, x = .str (S v) := by
            unfold wordsV at hx
            rw [List.getElem?_map] at hx
            cases q : ws[j]? with
            | none => rw [q] at hx; cases hx
            | some v => rw [q] at hx; exact ⟨v, List.mem_of_getElem? q, (Option.some.inj hx).symm⟩
          obtain ⟨iv, inv', vl⟩ := hW v hv
          have g16 := g14.mono (e15.trans e16)
          obtain ⟨r, hr⟩ := W.walk (mem_ord_zero U) (hL w hw)
          obtain ⟨s', hs'⟩ := W.walk (mem_ord_zero U) (hL v hv)
          have lr : ledO U (some 0) (short w) = some r := (ledO_iff C.fold C.nd (short_isW iw)).mpr (hr.red C.fold (red_short iw))
          have ls' : ledO U (some 0) (short v) = some s' := (ledO_iff C.fold C.nd (short_isW iv)).mpr (hs'.red C.fold (red_short iv))
          have slw := short_len iw
          have slv := short_len iv
          refine gname_go ?_
          refine q_asg (v := .bl (decide (((r : Nat) : Int) = ((s' : Nat) : Int)))) (ev_op (ev_is (ev_call (ea_cons (ev_var rfl) (ea_cons (ev_call (ea_cons (ev_var rfl) ea_nil) (sv_lshort (l := w) (by omega) iw)) ea_nil)) (sv_led g16 (short_isW iw) (by omega))) (by rw [lr]; rfl)) (ev_is (ev_call (ea_cons (ev_var rfl) (ea_cons (ev_call (ea_cons (ev_var rfl) ea_nil) (sv_lshort (l := v) (by omega) iv)) ea_nil)) (sv_led g16 (short_isW iv) (by omega))) (by rw [ls']; rfl)) rv_eqDI) fun H17 e17 => ?_
          have iu : isW (w ++ inv v) = true := isW_app.mpr ⟨iw, isW_inv iv⟩
          refine s_if (b := false) (et_test (ev_is (ev_op (ev_reads (l := w ++ inv v) (ev_var rfl) (g16.mono e17) (ev_is (ev_op (ev_var rfl) (ev_call (ea_cons (ev_var rfl) ea_nil) (sv_turned (l := v) (by omega) iv)) (rv_addS (i := S w) (j := S (inv v)) (by rw [S_len, S_len, inv_len]; exact sz_of (by omega)))) (by rw [S_app])) (by rw [List.length_append, inv_len]; omega) iu rdsB_iff) (ev_var rfl) (rv_ne rfl)) ?_)) (fun z => by cases z) fun _ H18 e18 => ⟨⟨_, _, rfl⟩, (e16.trans e17).trans e18⟩
          have same := W.same hr hs'
          have : rdsB U (w ++ inv v) = decide (((r : Nat) : Int) = ((s' : Nat) : Int)) := by
            by_cases h : r = s'
            · rw [rdsB_iff.mpr (same.mpr h), decide_eq_true (by rw [h])]
            · rw [decide_eq_false (by omega)]
              cases q : rdsB U (w ++ inv v) with
              | false => rfl
              | true => exact (h (same.mp (rdsB_iff.mp q))).elim
          rw [this]; simp
        · rintro σ' H16 ⟨⟨z12, z13, rfl⟩, e16⟩
          exact ⟨⟨_, _, _, _, rfl⟩, (e14.trans e15).trans e16⟩
      · rintro σ' H14 ⟨⟨x4, x11, x12, x13, rfl⟩, e14⟩
        have Up : 1 ≤ U.length := by
          rw [Ulm]
          exact Nat.mul_le_mul mpos l1
        have g14 := g13.mono e14
        have E14 := (E12.trans e13).trans e14
        have h614 := ((e812.trans e13).trans e14) _ _ h68
        have hU14 := hU8.mono ((e812.trans e13).trans e14)
        have k0 : 0 ≤ cell ns (9 : Int).toNat % (U.length : Nat) := Int.emod_nonneg _ (by omega)
        have k1 : cell ns (9 : Int).toNat % (U.length : Nat) < (U.length : Nat) := Int.emod_lt_of_pos _ (by omega)
        refine q_asg (v := .int (cell ns (9 : Int).toNat % (U.length : Nat))) (ev_op (ce 9 E14 rfl (by decide)) (ev_is (ev_cb (ea_cons (ev_var rfl) ea_nil) (rc_len (sq_of h614))) (by rw [yl])) (rv_I (by omega))) fun H15 e15 => ?_
        obtain ⟨k, hk⟩ := Int.eq_ofNat_of_zero_le k0
        rw [hk] at k1 ⊢
        have kl : k < U.length := by omega
        have h615 := e15 _ _ h614
        refine q_asgL (xs := ys.take k ++ ys.drop (k + 1)) (el_is (el_cat (el_sl (ev_var rfl) eo_none (eo_some (ev_var rfl)) (sq_of h615)) (el_sl (ev_var rfl) (eo_some (ev_is (ev_op (ev_var rfl) ev_c rv_I0) (show V.int ((k : Nat) + 1) = V.int ((k + 1 : Nat) : Int) from rfl))) eo_none (sq_of h615)) (by rw [cutX_to (by omega), cutX_from (by omega), List.length_take, List.length_drop]; omega)) (by rw [cutX_to (by omega), cutX_from (by omega)])) fun pv' H16 hpv e16 h16' => ?_
        have e1416 := e15.trans e16
        have hV : Ties H16 (ys.take k ++ ys.drop (k + 1)) (U.take k ++ U.drop (k + 1)) := ((hU14.mono e1416).take k).app ((hU14.mono e1416).drop (k + 1))
        obtain ⟨t, ht⟩ : ∃ t, U[k]? = some t := ⟨_, List.getElem?_eq_getElem kl⟩
        have mt := List.mem_of_getElem? ht
        have Vsub : ∀ x, x ∈ U.take k ++ U.drop (k + 1) ↔ x ∈ U ∧ x ≠ t := fun x => by
          have sp : U = U.take k ++ t :: U.drop (k + 1) := by
            have e : U[k] = t := (List.getElem?_eq_some_iff.mp ht).2
            rw [← e, List.getElem_cons_drop, List.take_append_drop]
          have nd := C.nd
          rw [sp, List.nodup_append, List.nodup_cons] at nd
          obtain ⟨_, ⟨n2, _⟩, n4⟩ := nd
          constructor
          · intro hx
            rcases List.mem_append.mp hx with hx | hx
            · exact ⟨List.mem_of_mem_take hx, fun e => n4 x hx t List.mem_cons_self e⟩
            · exact ⟨List.mem_of_mem_drop hx, fun e => n2 (e ▸ hx)⟩
          · rintro ⟨hx, ne⟩
            rw [sp] at hx
            rcases List.mem_append.mp hx with hx | hx
            · exact List.mem_append.mpr (Or.inl hx)
            · rcases List.mem_cons.mp hx with e | hx
              · exact (ne e).elim
              · exact List.mem_append.mpr (Or.inr hx)
        have lV : (U.take k ++ U.drop (k + 1)).length + 1 = U.length := by rw [List.length_append, List.length_take, List.length_drop]; omega
        generalize U.take k ++ U.drop (k + 1) = V' at hV Vsub lV
        have sV : ∀ x ∈ V', 97 ≤ x.2.1 ∧ x.2.1 ≤ 122 := fun x hx => C.small x ((Vsub x).mp hx).1
        refine q_when (et_not (et_B (ev_call (ea_cons (ev_var rfl) ea_nil) (sv_isweb h16' hV sV (by omega))))) (fun b H17 e17 => s_ret (v := .bl true) ev_c fun H18 e18 => q H18 (E14.trans (e1416.trans (e17.trans e18)))) (fun b H17 e17 => ?_)
        have GV : Good V' := goodB_iff.mp (by simpa using b)
        obtain ⟨oV', nV⟩ := W.less mt Vsub lV GV
        have gV : GoodAt H17 pv' V' := ⟨_, e17 _ _ h16', hV.mono e17, GV, by omega⟩
        have g17 := g14.mono (e1416.trans e17)
        have okV : OkL ls V' := ⟨lsm, lnd, fun x hx => W.lets x ((Vsub x).mp hx).1⟩
        have tb := C.small t mt
        have t1 : t.1 ∈ ord V' := by
          have h1 := nodup_le' (ord_nodup V') (m := ord U) fun r hr => C.conn _ (by
            rcases mem_rms.mp (GV.core.ords.mp hr) with rfl | ⟨x, hx, e⟩
            · exact mem_rms.mpr (Or.inl rfl)
            · exact mem_rms.mpr (Or.inr ⟨x, ((Vsub x).mp hx).1, e⟩))
          refine mem_of_full (ord_nodup V') (fun r hr => C.conn _ (by
            rcases mem_rms.mp (GV.core.ords.mp hr) with rfl | ⟨x, hx, e⟩
            · exact mem_rms.mpr (Or.inl rfl)
            · exact mem_rms.mpr (Or.inr ⟨x, ((Vsub x).mp hx).1, e⟩))) (by omega) t.1 (C.conn _ (ld_fst C.small mt).rms.1)
        have t1l : t.1 < (ord V').length := by
          have N : ord V' = List.range (ord V').length := GV.num
          rw [N] at t1
          exact List.mem_range.mp t1
        have whV := wholeB_no t1l (W.lets t mt) tb nV
        refine s_ret (v := .bl true) (ev_andV (ev_is (ev_op (ev_sidesN (ev_var rfl) gV (ev_var rfl) okV whV) ev_c rv_isN) rfl) fun _ => ev_is (ev_op (ev_lenL (el_few (ev_var rfl) gV (by omega))) (ev_op (ev_lenL (el_few (ev_var rfl) g17 (by omega))) ev_c rv_I0) (rv_eq rfl)) ?_) fun H18 e18 => q H18 (E14.trans (e1416.trans (e17.trans e18)))
        have i1 := idle_len GV.core.nd
        have i2 := idle_len C.nd
        rw [wordsV_len, wordsV_len, few_length, few_length]
        refine congrArg V.bl (decide_eq_true ?_)
        refine congrArg V.int ?_
        omega
end
end Gw

namespace Gw
open PySem PySem.Spec PyProof.Rows L2 Evl
theorem all_mk {l : PySem.W.OpenLaw} {w : World} {K : PySem.W.Frag} {h : Heap} {mg : Str → Option Value} {fa C_GlueError C_BadWord C_BadWeb : Addr} (X : K.In h) (G : h.Ns mainGlobals mg) (hfa : mg "law" = some (.ref fa))
    {f0 : Addr} {od0 an0 : Option Addr} {sl0 : Array (Option Value)} {oc0 kV0 dc0 pm0 cd0 ct0 : Value}
    (a0 : PySem.W.nsIn K mainGlobals "both_ways" = some (some (.ref f0))) (l0 : K.lookup f0 = some ⟨oc0, od0, .func (PySem.W.fnOf "both_ways" "both_ways" (defArgs s_both_ways) (defBody s_both_ways) (defScope s_both_ways) .none kV0 dc0 pm0 an0 cd0 ct0), sl0⟩) (c0 : PySem.W.codeIn K cd0 "both_ways" = true) (k0 : PySem.W.keepIn K (.ref f0) = true)
    {f1 : Addr} {od1 an1 : Option Addr} {sl1 : Array (Option Value)} {oc1 kV1 dc1 pm1 cd1 ct1 : Value}
    (a1 : PySem.W.nsIn K mainGlobals "tie_of" = some (some (.ref f1))) (l1 : K.lookup f1 = some ⟨oc1, od1, .func (PySem.W.fnOf "tie_of" "tie_of" (defArgs s_tie_of) (defBody s_tie_of) (defScope s_tie_of) .none kV1 dc1 pm1 an1 cd1 ct1), sl1⟩) (c1 : PySem.W.codeIn K cd1 "tie_of" = true) (k1 : PySem.W.keepIn K (.ref f1) = true)
    {f2 : Addr} {od2 an2 : Option Addr} {sl2 : Array (Option Value)} {oc2 kV2 dc2 pm2 cd2 ct2 : Value}
    (a2 : PySem.W.nsIn K mainGlobals "leads_of" = some (some (.ref f2))) (l2 : K.lookup f2 = some ⟨oc2, od2, .func (PySem.W.fnOf "leads_of" "leads_of" (defArgs s_leads_of) (defBody s_leads_of) (defScope s_leads_of) .none kV2 dc2 pm2 an2 cd2 ct2), sl2⟩) (c2 : PySem.W.codeIn K cd2 "leads_of" = true) (k2 : PySem.W.keepIn K (.ref f2) = true)
    {f3 : Addr} {od3 an3 : Option Addr} {sl3 : Array (Option Value)} {oc3 kV3 dc3 pm3 cd3 ct3 : Value}
    (a3 : PySem.W.nsIn K mainGlobals "findings" = some (some (.ref f3))) (l3 : K.lookup f3 = some ⟨oc3, od3, .func (PySem.W.fnOf "findings" "findings" (defArgs s_findings) (defBody s_findings) (defScope s_findings) .none kV3 dc3 pm3 an3 cd3 ct3), sl3⟩) (c3 : PySem.W.codeIn K cd3 "findings" = true) (k3 : PySem.W.keepIn K (.ref f3) = true)
    {f4 : Addr} {od4 an4 : Option Addr} {sl4 : Array (Option Value)} {oc4 kV4 dc4 pm4 cd4 ct4 : Value}
    (a4 : PySem.W.nsIn K mainGlobals "numbering" = some (some (.ref f4))) (l4 : K.lookup f4 = some ⟨oc4, od4, .func (PySem.W.fnOf "numbering" "numbering" (defArgs s_numbering) (defBody s_numbering) (defScope s_numbering) .none kV4 dc4 pm4 an4 cd4 ct4), sl4⟩) (c4 : PySem.W.codeIn K cd4 "numbering" = true) (k4 : PySem.W.keepIn K (.ref f4) = true)
    {f5 : Addr} {od5 an5 : Option Addr} {sl5 : Array (Option Value)} {oc5 kV5 dc5 pm5 cd5 ct5 : Value}
    (a5 : PySem.W.nsIn K mainGlobals "renumbered" = some (some (.ref f5))) (l5 : K.lookup f5 = some ⟨oc5, od5, .func (PySem.W.fnOf "renumbered" "renumbered" (defArgs s_renumbered) (defBody s_renumbered) (defScope s_renumbered) .none kV5 dc5 pm5 an5 cd5 ct5), sl5⟩) (c5 : PySem.W.codeIn K cd5 "renumbered" = true) (k5 : PySem.W.keepIn K (.ref f5) = true)
    {f6 : Addr} {od6 an6 : Option Addr} {sl6 : Array (Option Value)} {oc6 kV6 dc6 pm6 cd6 ct6 : Value}
    (a6 : PySem.W.nsIn K mainGlobals "rings" = some (some (.ref f6))) (l6 : K.lookup f6 = some ⟨oc6, od6, .func (PySem.W.fnOf "rings" "rings" (defArgs s_rings) (defBody s_rings) (defScope s_rings) .none kV6 dc6 pm6 an6 cd6 ct6), sl6⟩) (c6 : PySem.W.codeIn K cd6 "rings" = true) (k6 : PySem.W.keepIn K (.ref f6) = true)
    {f7 : Addr} {od7 an7 : Option Addr} {sl7 : Array (Option Value)} {oc7 kV7 dc7 pm7 cd7 ct7 : Value}
    (a7 : PySem.W.nsIn K mainGlobals "folded" = some (some (.ref f7))) (l7 : K.lookup f7 = some ⟨oc7, od7, .func (PySem.W.fnOf "folded" "folded" (defArgs s_folded) (defBody s_folded) (defScope s_folded) .none kV7 dc7 pm7 an7 cd7 ct7), sl7⟩) (c7 : PySem.W.codeIn K cd7 "folded" = true) (k7 : PySem.W.keepIn K (.ref f7) = true)
    {f8 : Addr} {od8 an8 : Option Addr} {sl8 : Array (Option Value)} {oc8 kV8 dc8 pm8 cd8 ct8 : Value}
    (a8 : PySem.W.nsIn K mainGlobals "_lowest" = some (some (.ref f8))) (l8 : K.lookup f8 = some ⟨oc8, od8, .func (PySem.W.fnOf "_lowest" "_lowest" (defArgs s__lowest) (defBody s__lowest) (defScope s__lowest) .none kV8 dc8 pm8 an8 cd8 ct8), sl8⟩) (c8 : PySem.W.codeIn K cd8 "_lowest" = true) (k8 : PySem.W.keepIn K (.ref f8) = true)
    {f9 : Addr} {od9 an9 : Option Addr} {sl9 : Array (Option Value)} {oc9 kV9 dc9 pm9 cd9 ct9 : Value}
    (a9 : PySem.W.nsIn K mainGlobals "_ties_of" = some (some (.ref f9))) (l9 : K.lookup f9 = some ⟨oc9, od9, .func (PySem.W.fnOf "_ties_of" "_ties_of" (defArgs s__ties_of) (defBody s__ties_of) (defScope s__ties_of) .none kV9 dc9 pm9 an9 cd9 ct9), sl9⟩) (c9 : PySem.W.codeIn K cd9 "_ties_of" = true) (k9 : PySem.W.keepIn K (.ref f9) = true)
    {f10 : Addr} {od10 an10 : Option Addr} {sl10 : Array (Option Value)} {oc10 kV10 dc10 pm10 cd10 ct10 : Value}
    (a10 : PySem.W.nsIn K mainGlobals "is_word" = some (some (.ref f10))) (l10 : K.lookup f10 = some ⟨oc10, od10, .func (PySem.W.fnOf "is_word" "is_word" (defArgs s_is_word) (defBody s_is_word) (defScope s_is_word) .none kV10 dc10 pm10 an10 cd10 ct10), sl10⟩) (c10 : PySem.W.codeIn K cd10 "is_word" = true) (k10 : PySem.W.keepIn K (.ref f10) = true)
    {f11 : Addr} {od11 an11 : Option Addr} {sl11 : Array (Option Value)} {oc11 kV11 dc11 pm11 cd11 ct11 : Value}
    (a11 : PySem.W.nsIn K mainGlobals "is_small" = some (some (.ref f11))) (l11 : K.lookup f11 = some ⟨oc11, od11, .func (PySem.W.fnOf "is_small" "is_small" (defArgs s_is_small) (defBody s_is_small) (defScope s_is_small) .none kV11 dc11 pm11 an11 cd11 ct11), sl11⟩) (c11 : PySem.W.codeIn K cd11 "is_small" = true) (k11 : PySem.W.keepIn K (.ref f11) = true)
    {f12 : Addr} {od12 an12 : Option Addr} {sl12 : Array (Option Value)} {oc12 kV12 dc12 pm12 cd12 ct12 : Value}
    (a12 : PySem.W.nsIn K mainGlobals "check_word" = some (some (.ref f12))) (l12 : K.lookup f12 = some ⟨oc12, od12, .func (PySem.W.fnOf "check_word" "check_word" (defArgs s_check_word) (defBody s_check_word) (defScope s_check_word) .none kV12 dc12 pm12 an12 cd12 ct12), sl12⟩) (c12 : PySem.W.codeIn K cd12 "check_word" = true) (k12 : PySem.W.keepIn K (.ref f12) = true)
    {f13 : Addr} {od13 an13 : Option Addr} {sl13 : Array (Option Value)} {oc13 kV13 dc13 pm13 cd13 ct13 : Value}
    (a13 : PySem.W.nsIn K mainGlobals "short" = some (some (.ref f13))) (l13 : K.lookup f13 = some ⟨oc13, od13, .func (PySem.W.fnOf "short" "short" (defArgs s_short) (defBody s_short) (defScope s_short) .none kV13 dc13 pm13 an13 cd13 ct13), sl13⟩) (c13 : PySem.W.codeIn K cd13 "short" = true) (k13 : PySem.W.keepIn K (.ref f13) = true)
    {f14 : Addr} {od14 an14 : Option Addr} {sl14 : Array (Option Value)} {oc14 kV14 dc14 pm14 cd14 ct14 : Value}
    (a14 : PySem.W.nsIn K mainGlobals "back" = some (some (.ref f14))) (l14 : K.lookup f14 = some ⟨oc14, od14, .func (PySem.W.fnOf "back" "back" (defArgs s_back) (defBody s_back) (defScope s_back) .none kV14 dc14 pm14 an14 cd14 ct14), sl14⟩) (c14 : PySem.W.codeIn K cd14 "back" = true) (k14 : PySem.W.keepIn K (.ref f14) = true)
    {f15 : Addr} {od15 an15 : Option Addr} {sl15 : Array (Option Value)} {oc15 kV15 dc15 pm15 cd15 ct15 : Value}
    (a15 : PySem.W.nsIn K mainGlobals "_is_letter" = some (some (.ref f15))) (l15 : K.lookup f15 = some ⟨oc15, od15, .func (PySem.W.fnOf "_is_letter" "_is_letter" (defArgs s__is_letter) (defBody s__is_letter) (defScope s__is_letter) .none kV15 dc15 pm15 an15 cd15 ct15), sl15⟩) (c15 : PySem.W.codeIn K cd15 "_is_letter" = true) (k15 : PySem.W.keepIn K (.ref f15) = true)
    {f16 : Addr} {od16 an16 : Option Addr} {sl16 : Array (Option Value)} {oc16 kV16 dc16 pm16 cd16 ct16 : Value}
    (a16 : PySem.W.nsIn K mainGlobals "is_web" = some (some (.ref f16))) (l16 : K.lookup f16 = some ⟨oc16, od16, .func (PySem.W.fnOf "is_web" "is_web" (defArgs s_is_web) (defBody s_is_web) (defScope s_is_web) .none kV16 dc16 pm16 an16 cd16 ct16), sl16⟩) (c16 : PySem.W.codeIn K cd16 "is_web" = true) (k16 : PySem.W.keepIn K (.ref f16) = true)
    {f17 : Addr} {od17 an17 : Option Addr} {sl17 : Array (Option Value)} {oc17 kV17 dc17 pm17 cd17 ct17 : Value}
    (a17 : PySem.W.nsIn K mainGlobals "check_web" = some (some (.ref f17))) (l17 : K.lookup f17 = some ⟨oc17, od17, .func (PySem.W.fnOf "check_web" "check_web" (defArgs s_check_web) (defBody s_check_web) (defScope s_check_web) .none kV17 dc17 pm17 an17 cd17 ct17), sl17⟩) (c17 : PySem.W.codeIn K cd17 "check_web" = true) (k17 : PySem.W.keepIn K (.ref f17) = true)
    {f18 : Addr} {od18 an18 : Option Addr} {sl18 : Array (Option Value)} {oc18 kV18 dc18 pm18 cd18 ct18 : Value}
    (a18 : PySem.W.nsIn K mainGlobals "web_of" = some (some (.ref f18))) (l18 : K.lookup f18 = some ⟨oc18, od18, .func (PySem.W.fnOf "web_of" "web_of" (defArgs s_web_of) (defBody s_web_of) (defScope s_web_of) .none kV18 dc18 pm18 an18 cd18 ct18), sl18⟩) (c18 : PySem.W.codeIn K cd18 "web_of" = true) (k18 : PySem.W.keepIn K (.ref f18) = true)
    {f19 : Addr} {od19 an19 : Option Addr} {sl19 : Array (Option Value)} {oc19 kV19 dc19 pm19 cd19 ct19 : Value}
    (a19 : PySem.W.nsIn K mainGlobals "reads" = some (some (.ref f19))) (l19 : K.lookup f19 = some ⟨oc19, od19, .func (PySem.W.fnOf "reads" "reads" (defArgs s_reads) (defBody s_reads) (defScope s_reads) .none kV19 dc19 pm19 an19 cd19 ct19), sl19⟩) (c19 : PySem.W.codeIn K cd19 "reads" = true) (k19 : PySem.W.keepIn K (.ref f19) = true)
    {f20 : Addr} {od20 an20 : Option Addr} {sl20 : Array (Option Value)} {oc20 kV20 dc20 pm20 cd20 ct20 : Value}
    (a20 : PySem.W.nsIn K mainGlobals "_is_tie" = some (some (.ref f20))) (l20 : K.lookup f20 = some ⟨oc20, od20, .func (PySem.W.fnOf "_is_tie" "_is_tie" (defArgs s__is_tie) (defBody s__is_tie) (defScope s__is_tie) .none kV20 dc20 pm20 an20 cd20 ct20), sl20⟩) (c20 : PySem.W.codeIn K cd20 "_is_tie" = true) (k20 : PySem.W.keepIn K (.ref f20) = true)
    {f21 : Addr} {od21 an21 : Option Addr} {sl21 : Array (Option Value)} {oc21 kV21 dc21 pm21 cd21 ct21 : Value}
    (a21 : PySem.W.nsIn K mainGlobals "_is_room" = some (some (.ref f21))) (l21 : K.lookup f21 = some ⟨oc21, od21, .func (PySem.W.fnOf "_is_room" "_is_room" (defArgs s__is_room) (defBody s__is_room) (defScope s__is_room) .none kV21 dc21 pm21 an21 cd21 ct21), sl21⟩) (c21 : PySem.W.codeIn K cd21 "_is_room" = true) (k21 : PySem.W.keepIn K (.ref f21) = true)
    {f22 : Addr} {od22 an22 : Option Addr} {sl22 : Array (Option Value)} {oc22 kV22 dc22 pm22 cd22 ct22 : Value}
    (a22 : PySem.W.nsIn K mainGlobals "_is_rising" = some (some (.ref f22))) (l22 : K.lookup f22 = some ⟨oc22, od22, .func (PySem.W.fnOf "_is_rising" "_is_rising" (defArgs s__is_rising) (defBody s__is_rising) (defScope s__is_rising) .none kV22 dc22 pm22 an22 cd22 ct22), sl22⟩) (c22 : PySem.W.codeIn K cd22 "_is_rising" = true) (k22 : PySem.W.keepIn K (.ref f22) = true)
    {f23 : Addr} {od23 an23 : Option Addr} {sl23 : Array (Option Value)} {oc23 kV23 dc23 pm23 cd23 ct23 : Value}
    (a23 : PySem.W.nsIn K mainGlobals "_is_folded" = some (some (.ref f23))) (l23 : K.lookup f23 = some ⟨oc23, od23, .func (PySem.W.fnOf "_is_folded" "_is_folded" (defArgs s__is_folded) (defBody s__is_folded) (defScope s__is_folded) .none kV23 dc23 pm23 an23 cd23 ct23), sl23⟩) (c23 : PySem.W.codeIn K cd23 "_is_folded" = true) (k23 : PySem.W.keepIn K (.ref f23) = true)
    {f24 : Addr} {od24 an24 : Option Addr} {sl24 : Array (Option Value)} {oc24 kV24 dc24 pm24 cd24 ct24 : Value}
    (a24 : PySem.W.nsIn K mainGlobals "_is_numbered" = some (some (.ref f24))) (l24 : K.lookup f24 = some ⟨oc24, od24, .func (PySem.W.fnOf "_is_numbered" "_is_numbered" (defArgs s__is_numbered) (defBody s__is_numbered) (defScope s__is_numbered) .none kV24 dc24 pm24 an24 cd24 ct24), sl24⟩) (c24 : PySem.W.codeIn K cd24 "_is_numbered" = true) (k24 : PySem.W.keepIn K (.ref f24) = true)
    {f25 : Addr} {od25 an25 : Option Addr} {sl25 : Array (Option Value)} {oc25 kV25 dc25 pm25 cd25 ct25 : Value}
    (a25 : PySem.W.nsIn K mainGlobals "_has_no_dead_end" = some (some (.ref f25))) (l25 : K.lookup f25 = some ⟨oc25, od25, .func (PySem.W.fnOf "_has_no_dead_end" "_has_no_dead_end" (defArgs s__has_no_dead_end) (defBody s__has_no_dead_end) (defScope s__has_no_dead_end) .none kV25 dc25 pm25 an25 cd25 ct25), sl25⟩) (c25 : PySem.W.codeIn K cd25 "_has_no_dead_end" = true) (k25 : PySem.W.keepIn K (.ref f25) = true)
    {f26 : Addr} {od26 an26 : Option Addr} {sl26 : Array (Option Value)} {oc26 kV26 dc26 pm26 cd26 ct26 : Value}
    (a26 : PySem.W.nsIn K mainGlobals "sides" = some (some (.ref f26))) (l26 : K.lookup f26 = some ⟨oc26, od26, .func (PySem.W.fnOf "sides" "sides" (defArgs s_sides) (defBody s_sides) (defScope s_sides) .none kV26 dc26 pm26 an26 cd26 ct26), sl26⟩) (c26 : PySem.W.codeIn K cd26 "sides" = true) (k26 : PySem.W.keepIn K (.ref f26) = true)
    {f27 : Addr} {od27 an27 : Option Addr} {sl27 : Array (Option Value)} {oc27 kV27 dc27 pm27 cd27 ct27 : Value}
    (a27 : PySem.W.nsIn K mainGlobals "_check_letters" = some (some (.ref f27))) (l27 : K.lookup f27 = some ⟨oc27, od27, .func (PySem.W.fnOf "_check_letters" "_check_letters" (defArgs s__check_letters) (defBody s__check_letters) (defScope s__check_letters) .none kV27 dc27 pm27 an27 cd27 ct27), sl27⟩) (c27 : PySem.W.codeIn K cd27 "_check_letters" = true) (k27 : PySem.W.keepIn K (.ref f27) = true)
    {f28 : Addr} {od28 an28 : Option Addr} {sl28 : Array (Option Value)} {oc28 kV28 dc28 pm28 cd28 ct28 : Value}
    (a28 : PySem.W.nsIn K mainGlobals "few" = some (some (.ref f28))) (l28 : K.lookup f28 = some ⟨oc28, od28, .func (PySem.W.fnOf "few" "few" (defArgs s_few) (defBody s_few) (defScope s_few) .none kV28 dc28 pm28 an28 cd28 ct28), sl28⟩) (c28 : PySem.W.codeIn K cd28 "few" = true) (k28 : PySem.W.keepIn K (.ref f28) = true)
    {f29 : Addr} {od29 an29 : Option Addr} {sl29 : Array (Option Value)} {oc29 kV29 dc29 pm29 cd29 ct29 : Value}
    (a29 : PySem.W.nsIn K mainGlobals "_law_cell" = some (some (.ref f29))) (l29 : K.lookup f29 = some ⟨oc29, od29, .func (PySem.W.fnOf "_law_cell" "_law_cell" (defArgs s__law_cell) (defBody s__law_cell) (defScope s__law_cell) .none kV29 dc29 pm29 an29 cd29 ct29), sl29⟩) (c29 : PySem.W.codeIn K cd29 "_law_cell" = true) (k29 : PySem.W.keepIn K (.ref f29) = true)
    {f30 : Addr} {od30 an30 : Option Addr} {sl30 : Array (Option Value)} {oc30 kV30 dc30 pm30 cd30 ct30 : Value}
    (a30 : PySem.W.nsIn K mainGlobals "_law_mixed" = some (some (.ref f30))) (l30 : K.lookup f30 = some ⟨oc30, od30, .func (PySem.W.fnOf "_law_mixed" "_law_mixed" (defArgs s__law_mixed) (defBody s__law_mixed) (defScope s__law_mixed) .none kV30 dc30 pm30 an30 cd30 ct30), sl30⟩) (c30 : PySem.W.codeIn K cd30 "_law_mixed" = true) (k30 : PySem.W.keepIn K (.ref f30) = true)
    {f31 : Addr} {od31 an31 : Option Addr} {sl31 : Array (Option Value)} {oc31 kV31 dc31 pm31 cd31 ct31 : Value}
    (a31 : PySem.W.nsIn K mainGlobals "_law_letters" = some (some (.ref f31))) (l31 : K.lookup f31 = some ⟨oc31, od31, .func (PySem.W.fnOf "_law_letters" "_law_letters" (defArgs s__law_letters) (defBody s__law_letters) (defScope s__law_letters) .none kV31 dc31 pm31 an31 cd31 ct31), sl31⟩) (c31 : PySem.W.codeIn K cd31 "_law_letters" = true) (k31 : PySem.W.keepIn K (.ref f31) = true)
    {f32 : Addr} {od32 an32 : Option Addr} {sl32 : Array (Option Value)} {oc32 kV32 dc32 pm32 cd32 ct32 : Value}
    (a32 : PySem.W.nsIn K mainGlobals "_law_back" = some (some (.ref f32))) (l32 : K.lookup f32 = some ⟨oc32, od32, .func (PySem.W.fnOf "_law_back" "_law_back" (defArgs s__law_back) (defBody s__law_back) (defScope s__law_back) .none kV32 dc32 pm32 an32 cd32 ct32), sl32⟩) (c32 : PySem.W.codeIn K cd32 "_law_back" = true) (k32 : PySem.W.keepIn K (.ref f32) = true)
    {f33 : Addr} {od33 an33 : Option Addr} {sl33 : Array (Option Value)} {oc33 kV33 dc33 pm33 cd33 ct33 : Value}
    (a33 : PySem.W.nsIn K mainGlobals "_law_word" = some (some (.ref f33))) (l33 : K.lookup f33 = some ⟨oc33, od33, .func (PySem.W.fnOf "_law_word" "_law_word" (defArgs s__law_word) (defBody s__law_word) (defScope s__law_word) .none kV33 dc33 pm33 an33 cd33 ct33), sl33⟩) (c33 : PySem.W.codeIn K cd33 "_law_word" = true) (k33 : PySem.W.keepIn K (.ref f33) = true)
    {f34 : Addr} {od34 an34 : Option Addr} {sl34 : Array (Option Value)} {oc34 kV34 dc34 pm34 cd34 ct34 : Value}
    (a34 : PySem.W.nsIn K mainGlobals "_law_short" = some (some (.ref f34))) (l34 : K.lookup f34 = some ⟨oc34, od34, .func (PySem.W.fnOf "_law_short" "_law_short" (defArgs s__law_short) (defBody s__law_short) (defScope s__law_short) .none kV34 dc34 pm34 an34 cd34 ct34), sl34⟩) (c34 : PySem.W.codeIn K cd34 "_law_short" = true) (k34 : PySem.W.keepIn K (.ref f34) = true)
    {f35 : Addr} {od35 an35 : Option Addr} {sl35 : Array (Option Value)} {oc35 kV35 dc35 pm35 cd35 ct35 : Value}
    (a35 : PySem.W.nsIn K mainGlobals "_law_turned" = some (some (.ref f35))) (l35 : K.lookup f35 = some ⟨oc35, od35, .func (PySem.W.fnOf "_law_turned" "_law_turned" (defArgs s__law_turned) (defBody s__law_turned) (defScope s__law_turned) .none kV35 dc35 pm35 an35 cd35 ct35), sl35⟩) (c35 : PySem.W.codeIn K cd35 "_law_turned" = true) (k35 : PySem.W.keepIn K (.ref f35) = true)
    {f36 : Addr} {od36 an36 : Option Addr} {sl36 : Array (Option Value)} {oc36 kV36 dc36 pm36 cd36 ct36 : Value}
    (a36 : PySem.W.nsIn K mainGlobals "_law_led" = some (some (.ref f36))) (l36 : K.lookup f36 = some ⟨oc36, od36, .func (PySem.W.fnOf "_law_led" "_law_led" (defArgs s__law_led) (defBody s__law_led) (defScope s__law_led) .none kV36 dc36 pm36 an36 cd36 ct36), sl36⟩) (c36 : PySem.W.codeIn K cd36 "_law_led" = true) (k36 : PySem.W.keepIn K (.ref f36) = true)
    {f37 : Addr} {od37 an37 : Option Addr} {sl37 : Array (Option Value)} {oc37 kV37 dc37 pm37 cd37 ct37 : Value}
    (a37 : PySem.W.nsIn K mainGlobals "_law_numbered" = some (some (.ref f37))) (l37 : K.lookup f37 = some ⟨oc37, od37, .func (PySem.W.fnOf "_law_numbered" "_law_numbered" (defArgs s__law_numbered) (defBody s__law_numbered) (defScope s__law_numbered) .none kV37 dc37 pm37 an37 cd37 ct37), sl37⟩) (c37 : PySem.W.codeIn K cd37 "_law_numbered" = true) (k37 : PySem.W.keepIn K (.ref f37) = true)
    {f38 : Addr} {od38 an38 : Option Addr} {sl38 : Array (Option Value)} {oc38 kV38 dc38 pm38 cd38 ct38 : Value}
    (a38 : PySem.W.nsIn K mainGlobals "_law_order" = some (some (.ref f38))) (l38 : K.lookup f38 = some ⟨oc38, od38, .func (PySem.W.fnOf "_law_order" "_law_order" (defArgs s__law_order) (defBody s__law_order) (defScope s__law_order) .none kV38 dc38 pm38 an38 cd38 ct38), sl38⟩) (c38 : PySem.W.codeIn K cd38 "_law_order" = true) (k38 : PySem.W.keepIn K (.ref f38) = true)
    {f39 : Addr} {od39 an39 : Option Addr} {sl39 : Array (Option Value)} {oc39 kV39 dc39 pm39 cd39 ct39 : Value}
    (a39 : PySem.W.nsIn K mainGlobals "law" = some (some (.ref f39))) (l39 : K.lookup f39 = some ⟨oc39, od39, .func (PySem.W.fnOf "law" "law" (defArgs s_law) (defBody s_law) (defScope s_law) .none kV39 dc39 pm39 an39 cd39 ct39), sl39⟩) (c39 : PySem.W.codeIn K cd39 "law" = true) (k39 : PySem.W.keepIn K (.ref f39) = true)
    (z_type : PySem.W.nsIn K mainGlobals "type" = some none)
    (z_str : PySem.W.nsIn K mainGlobals "str" = some none)
    (z_all : PySem.W.nsIn K mainGlobals "all" = some none)
    (z_len : PySem.W.nsIn K mainGlobals "len" = some none)
    (z_range : PySem.W.nsIn K mainGlobals "range" = some none)
    (z_reversed : PySem.W.nsIn K mainGlobals "reversed" = some none)
    (z_isinstance : PySem.W.nsIn K mainGlobals "isinstance" = some none)
    (z_ValueError : PySem.W.nsIn K mainGlobals "ValueError" = some none)
    (z_sorted : PySem.W.nsIn K mainGlobals "sorted" = some none)
    (z_sum : PySem.W.nsIn K mainGlobals "sum" = some none)
    (z_list : PySem.W.nsIn K mainGlobals "list" = some none)
    (z_int : PySem.W.nsIn K mainGlobals "int" = some none)
    (z_bool : PySem.W.nsIn K mainGlobals "bool" = some none)
    (z_tuple : PySem.W.nsIn K mainGlobals "tuple" = some none)
    (z_min : PySem.W.nsIn K mainGlobals "min" = some none)
    (z_max : PySem.W.nsIn K mainGlobals "max" = some none)
    (z_set : PySem.W.nsIn K mainGlobals "set" = some none)
    (z_zip : PySem.W.nsIn K mainGlobals "zip" = some none)
    (z_enumerate : PySem.W.nsIn K mainGlobals "enumerate" = some none)
    (z_abs : PySem.W.nsIn K mainGlobals "abs" = some none)
    (z_any : PySem.W.nsIn K mainGlobals "any" = some none)
    (z_dict : PySem.W.nsIn K mainGlobals "dict" = some none)
    (g_GlueError : PySem.W.nsIn K mainGlobals "GlueError" = some (some (.ref C_GlueError)))
    (g_BadWord : PySem.W.nsIn K mainGlobals "BadWord" = some (some (.ref C_BadWord)))
    (g_BadWeb : PySem.W.nsIn K mainGlobals "BadWeb" = some (some (.ref C_BadWeb)))
    (x1 : PySem.W.excIn K C_BadWord [.type "ValueError", .type "Exception", .type "BaseException", .type "object"] "ValueError.__new__" = true)
    (x2 : PySem.W.keepIn K (.ref C_BadWord) = true)
    (x3 : PySem.W.subIn K (.ref C_BadWord) (.type "BaseException") = some true)
    (x4 : PySem.W.typeIn K (.ref C_BadWord) = some (.type "type"))
    (x8 : PySem.W.subIn K (.ref C_BadWord) (.ref C_GlueError) = some true)
    (y1 : PySem.W.findIn K (.ref C_BadWord) "__getattribute__" = some (some (.builtin "BaseException.__getattribute__")))
    (y2 : PySem.W.findIn K (.ref C_BadWord) "__getattr__" = some none)
    (y3 : PySem.W.hasDictIn K C_BadWord = true)
    (y4 : PySem.W.findIn K (.ref C_BadWord) "__class__" = some (some (.builtin "object.__class__")))
    (y7 : PySem.W.mroIn K C_BadWord (.type "object") = some true)
    (i2 : PySem.W.subIn K (.ref C_BadWord) (.type "ValueError") = some true)
    (j1 : PySem.W.subIn K (.ref C_BadWord) (.ref C_BadWeb) = some false)
    (j2 : PySem.W.subIn K (.ref C_BadWord) (.ref C_BadWord) = some true)
    (vx1 : PySem.W.excIn K C_BadWeb [.type "ValueError", .type "Exception", .type "BaseException", .type "object"] "ValueError.__new__" = true)
    (vx2 : PySem.W.keepIn K (.ref C_BadWeb) = true)
    (vx3 : PySem.W.subIn K (.ref C_BadWeb) (.type "BaseException") = some true)
    (vx4 : PySem.W.typeIn K (.ref C_BadWeb) = some (.type "type"))
    (vx8 : PySem.W.subIn K (.ref C_BadWeb) (.ref C_GlueError) = some true)
    (vy1 : PySem.W.findIn K (.ref C_BadWeb) "__getattribute__" = some (some (.builtin "BaseException.__getattribute__")))
    (vy2 : PySem.W.findIn K (.ref C_BadWeb) "__getattr__" = some none)
    (vy3 : PySem.W.hasDictIn K C_BadWeb = true)
    (vy4 : PySem.W.findIn K (.ref C_BadWeb) "__class__" = some (some (.builtin "object.__class__")))
    (vy7 : PySem.W.mroIn K C_BadWeb (.type "object") = some true)
    (vi2 : PySem.W.subIn K (.ref C_BadWeb) (.type "ValueError") = some true)
    (vj1 : PySem.W.subIn K (.ref C_BadWeb) (.ref C_BadWord) = some false)
    (vj2 : PySem.W.subIn K (.ref C_BadWeb) (.ref C_BadWeb) = some true)
    (x5 : PySem.W.subIn K (.ref C_GlueError) (.type "BaseException") = some true)
    (x6 : PySem.W.hasDictIn K C_GlueError = true)
    (x7 : PySem.W.typeIn K (.ref C_GlueError) = some (.type "type"))
    (y5 : PySem.W.specialIn K (.builtin "object.__class__") "__get__" = some (some (.builtin "getset_descriptor.__get__")))
    (y6 : PySem.W.takesIn K (.builtin "object.__class__") = some true)
    : ∃ fd : FuncData, (∀ (s : Shared) (v : Value), BindsTo s fd ⟨[v], []⟩ [("_law_script", v)]) ∧ ∀ base : Heap, K.In base → base.Ns mainGlobals mg → FnOk l.prog w K mg base CX0 17 fa fd ["_law_script"] (sp_law K) := by
  have e := hfa.symm.trans (PySem.W.mg_of X G a39)
  cases e
  have B : Blt mg := ⟨PySem.W.mg_none_of X G z_type, PySem.W.mg_none_of X G z_str, PySem.W.mg_none_of X G z_all, PySem.W.mg_none_of X G z_len, PySem.W.mg_none_of X G z_range, PySem.W.mg_none_of X G z_reversed, PySem.W.mg_none_of X G z_isinstance, PySem.W.mg_none_of X G z_ValueError, PySem.W.mg_none_of X G z_sorted, PySem.W.mg_none_of X G z_sum, PySem.W.mg_none_of X G z_list, PySem.W.mg_none_of X G z_int, PySem.W.mg_none_of X G z_bool, PySem.W.mg_none_of X G z_tuple, PySem.W.mg_none_of X G z_min, PySem.W.mg_none_of X G z_max, PySem.W.mg_none_of X G z_set, PySem.W.mg_none_of X G z_zip, PySem.W.mg_none_of X G z_enumerate, PySem.W.mg_none_of X G z_abs, PySem.W.mg_none_of X G z_any, PySem.W.mg_none_of X G z_dict⟩
  have T : Exn K mg C_GlueError C_BadWord C_BadWeb := ⟨PySem.W.mg_of X G g_GlueError, PySem.W.mg_of X G g_BadWord, PySem.W.mg_of X G g_BadWeb, x1, x2, x3, x4, PySem.W.exm_ref x5 x6 x7 x8, ⟨y1, y2, x3, y3, y4, y5, y6, y7⟩, kit_self, kit_type (by decide +kernel) i2, kit_other j2 j1 vy3 vx4, vx1, vx2, vx3, vx4, PySem.W.exm_ref x5 x6 x7 vx8, ⟨vy1, vy2, vx3, vy3, vy4, y5, y6, vy7⟩, kit_self, kit_type (by decide +kernel) vi2, kit_other vj2 vj1 y3 x4⟩
  have D_both_ways : Def K mg "both_ways" s_both_ways ["tie"] := def_mk X G a0 l0 c0 k0 fun _ _ _ _ _ _ us hl => match us, hl with | [_], _ => rfl
  have D_tie_of : Def K mg "tie_of" s_tie_of ["here", "letter", "there"] := def_mk X G a1 l1 c1 k1 fun _ _ _ _ _ _ us hl => match us, hl with | [_, _, _], _ => rfl
  have D_leads_of : Def K mg "leads_of" s_leads_of ["ties"] := def_mk X G a2 l2 c2 k2 fun _ _ _ _ _ _ us hl => match us, hl with | [_], _ => rfl
  have D_findings : Def K mg "findings" s_findings ["ties"] := def_mk X G a3 l3 c3 k3 fun _ _ _ _ _ _ us hl => match us, hl with | [_], _ => rfl
  have D_numbering : Def K mg "numbering" s_numbering ["ties"] := def_mk X G a4 l4 c4 k4 fun _ _ _ _ _ _ us hl => match us, hl with | [_], _ => rfl
  have D_renumbered : Def K mg "renumbered" s_renumbered ["ties"] := def_mk X G a5 l5 c5 k5 fun _ _ _ _ _ _ us hl => match us, hl with | [_], _ => rfl
  have D_rings : Def K mg "rings" s_rings ["words"] := def_mk X G a6 l6 c6 k6 fun _ _ _ _ _ _ us hl => match us, hl with | [_], _ => rfl
  have D_folded : Def K mg "folded" s_folded ["ties"] := def_mk X G a7 l7 c7 k7 fun _ _ _ _ _ _ us hl => match us, hl with | [_], _ => rfl
  have D__lowest : Def K mg "_lowest" s__lowest ["joined", "room"] := def_mk X G a8 l8 c8 k8 fun _ _ _ _ _ _ us hl => match us, hl with | [_, _], _ => rfl
  have D__ties_of : Def K mg "_ties_of" s__ties_of ["joined", "exits"] := def_mk X G a9 l9 c9 k9 fun _ _ _ _ _ _ us hl => match us, hl with | [_, _], _ => rfl
  have D_is_word : Def K mg "is_word" s_is_word ["thing"] := def_mk X G a10 l10 c10 k10 fun _ _ _ _ _ _ us hl => match us, hl with | [_], _ => rfl
  have D_is_small : Def K mg "is_small" s_is_small ["thing"] := def_mk X G a11 l11 c11 k11 fun _ _ _ _ _ _ us hl => match us, hl with | [_], _ => rfl
  have D_check_word : Def K mg "check_word" s_check_word ["thing"] := def_mk X G a12 l12 c12 k12 fun _ _ _ _ _ _ us hl => match us, hl with | [_], _ => rfl
  have D_short : Def K mg "short" s_short ["word"] := def_mk X G a13 l13 c13 k13 fun _ _ _ _ _ _ us hl => match us, hl with | [_], _ => rfl
  have D_back : Def K mg "back" s_back ["word"] := def_mk X G a14 l14 c14 k14 fun _ _ _ _ _ _ us hl => match us, hl with | [_], _ => rfl
  have D__is_letter : Def K mg "_is_letter" s__is_letter ["sign"] := def_mk X G a15 l15 c15 k15 fun _ _ _ _ _ _ us hl => match us, hl with | [_], _ => rfl
  have D_is_web : Def K mg "is_web" s_is_web ["thing"] := def_mk X G a16 l16 c16 k16 fun _ _ _ _ _ _ us hl => match us, hl with | [_], _ => rfl
  have D_check_web : Def K mg "check_web" s_check_web ["thing"] := def_mk X G a17 l17 c17 k17 fun _ _ _ _ _ _ us hl => match us, hl with | [_], _ => rfl
  have D_web_of : Def K mg "web_of" s_web_of ["words"] := def_mk X G a18 l18 c18 k18 fun _ _ _ _ _ _ us hl => match us, hl with | [_], _ => rfl
  have D_reads : Def K mg "reads" s_reads ["web", "word"] := def_mk X G a19 l19 c19 k19 fun _ _ _ _ _ _ us hl => match us, hl with | [_, _], _ => rfl
  have D__is_tie : Def K mg "_is_tie" s__is_tie ["thing"] := def_mk X G a20 l20 c20 k20 fun _ _ _ _ _ _ us hl => match us, hl with | [_], _ => rfl
  have D__is_room : Def K mg "_is_room" s__is_room ["thing"] := def_mk X G a21 l21 c21 k21 fun _ _ _ _ _ _ us hl => match us, hl with | [_], _ => rfl
  have D__is_rising : Def K mg "_is_rising" s__is_rising ["ties"] := def_mk X G a22 l22 c22 k22 fun _ _ _ _ _ _ us hl => match us, hl with | [_], _ => rfl
  have D__is_folded : Def K mg "_is_folded" s__is_folded ["ties"] := def_mk X G a23 l23 c23 k23 fun _ _ _ _ _ _ us hl => match us, hl with | [_], _ => rfl
  have D__is_numbered : Def K mg "_is_numbered" s__is_numbered ["ties"] := def_mk X G a24 l24 c24 k24 fun _ _ _ _ _ _ us hl => match us, hl with | [_], _ => rfl
  have D__has_no_dead_end : Def K mg "_has_no_dead_end" s__has_no_dead_end ["ties"] := def_mk X G a25 l25 c25 k25 fun _ _ _ _ _ _ us hl => match us, hl with | [_], _ => rfl
  have D_sides : Def K mg "sides" s_sides ["web", "letters"] := def_mk X G a26 l26 c26 k26 fun _ _ _ _ _ _ us hl => match us, hl with | [_, _], _ => rfl
  have D__check_letters : Def K mg "_check_letters" s__check_letters ["letters", "web"] := def_mk X G a27 l27 c27 k27 fun _ _ _ _ _ _ us hl => match us, hl with | [_, _], _ => rfl
  have D_few : Def K mg "few" s_few ["web"] := def_mk X G a28 l28 c28 k28 fun _ _ _ _ _ _ us hl => match us, hl with | [_], _ => rfl
  have D__law_cell : Def K mg "_law_cell" s__law_cell ["_law_script", "_law_k"] := def_mk X G a29 l29 c29 k29 fun _ _ _ _ _ _ us hl => match us, hl with | [_, _], _ => rfl
  have D__law_mixed : Def K mg "_law_mixed" s__law_mixed ["_law_cell_here", "_law_k"] := def_mk X G a30 l30 c30 k30 fun _ _ _ _ _ _ us hl => match us, hl with | [_, _], _ => rfl
  have D__law_letters : Def K mg "_law_letters" s__law_letters ["_law_cell_here"] := def_mk X G a31 l31 c31 k31 fun _ _ _ _ _ _ us hl => match us, hl with | [_], _ => rfl
  have D__law_back : Def K mg "_law_back" s__law_back ["_law_letter"] := def_mk X G a32 l32 c32 k32 fun _ _ _ _ _ _ us hl => match us, hl with | [_], _ => rfl
  have D__law_word : Def K mg "_law_word" s__law_word ["_law_cell_here", "_law_letters_here", "_law_size"] := def_mk X G a33 l33 c33 k33 fun _ _ _ _ _ _ us hl => match us, hl with | [_, _, _], _ => rfl
  have D__law_short : Def K mg "_law_short" s__law_short ["_law_word_here"] := def_mk X G a34 l34 c34 k34 fun _ _ _ _ _ _ us hl => match us, hl with | [_], _ => rfl
  have D__law_turned : Def K mg "_law_turned" s__law_turned ["_law_word_here"] := def_mk X G a35 l35 c35 k35 fun _ _ _ _ _ _ us hl => match us, hl with | [_], _ => rfl
  have D__law_led : Def K mg "_law_led" s__law_led ["_law_web", "_law_word_here"] := def_mk X G a36 l36 c36 k36 fun _ _ _ _ _ _ us hl => match us, hl with | [_, _], _ => rfl
  have D__law_numbered : Def K mg "_law_numbered" s__law_numbered ["_law_ties"] := def_mk X G a37 l37 c37 k37 fun _ _ _ _ _ _ us hl => match us, hl with | [_], _ => rfl
  have D__law_order : Def K mg "_law_order" s__law_order ["_law_cell_here", "_law_many"] := def_mk X G a38 l38 c38 k38 fun _ _ _ _ _ _ us hl => match us, hl with | [_, _], _ => rfl
  have D_law : Def K mg "law" s_law ["_law_script"] := def_mk X G a39 l39 c39 k39 fun _ _ _ _ _ _ us hl => match us, hl with | [_], _ => rfl
  refine ⟨PySem.W.fnOf "law" "law" (defArgs s_law) (defBody s_law) (defScope s_law) .none kV39 dc39 pm39 an39 cd39 ct39, fun s v => .of_eq rfl, fun base _ _ => ?_⟩
  have C__is_letter := ok__is_letter (P := l.prog) (w := w) (base := base) D__is_letter 
  have C_is_word := ok_is_word (P := l.prog) (w := w) (base := base) D_is_word B C__is_letter
  have C_check_word := ok_check (P := l.prog) (w := w) (base := base) D_check_word T C_is_word
  have C_short := ok_short (P := l.prog) (w := w) (base := base) D_short C_check_word
  have C_tie_of := ok_tie_of (P := l.prog) (w := w) (base := base) D_tie_of 
  have C_both_ways := ok_both (P := l.prog) (w := w) (base := base) D_both_ways 
  have C__lowest := ok_lowest (P := l.prog) (w := w) (base := base) D__lowest 
  have C_rings := ok_rings (P := l.prog) (w := w) (base := base) D_rings C_tie_of
  have C__ties_of := ok_ties_of (P := l.prog) (w := w) (base := base) D__ties_of C__lowest
  have C_folded := ok_folded (P := l.prog) (w := w) (base := base) D_folded B C_both_ways C__lowest C__ties_of
  have C_leads_of := ok_leads (P := l.prog) (w := w) (base := base) D_leads_of C_both_ways
  have C_findings := ok_findings (P := l.prog) (w := w) (base := base) D_findings B C_leads_of
  have C_numbering := ok_numbering (P := l.prog) (w := w) (base := base) D_numbering B C_findings
  have C_renumbered := ok_renumbered (P := l.prog) (w := w) (base := base) D_renumbered B C_numbering
  have C_web_of := ok_web_of (P := l.prog) (w := w) (base := base) D_web_of C_short C_rings C_folded C_renumbered
  have C_is_small := ok_is_small (P := l.prog) (w := w) (base := base) D_is_small B
  have C__is_room := ok_is_room (P := l.prog) (w := w) (base := base) D__is_room B
  have C__is_tie := ok_is_tie1 (P := l.prog) (w := w) (base := base) D__is_tie B C_is_small C__is_room
  have C__is_rising := ok_is_rising (P := l.prog) (w := w) (base := base) D__is_rising B
  have C__is_folded := ok_is_folded (P := l.prog) (w := w) (base := base) D__is_folded B C_leads_of
  have C__is_numbered := ok_is_numbered (P := l.prog) (w := w) (base := base) D__is_numbered B C_numbering
  have C__has_no_dead_end := ok_nodead (P := l.prog) (w := w) (base := base) D__has_no_dead_end B
  have C_is_web := ok_isweb (P := l.prog) (w := w) (base := base) D_is_web B C__is_tie C__is_rising C__is_folded C__is_numbered C__has_no_dead_end
  have C_check_web := ok_checkweb (P := l.prog) (w := w) (base := base) D_check_web T C_is_web
  have C_reads := ok_reads (P := l.prog) (w := w) (base := base) D_reads C_check_web C_leads_of C_short
  have C__check_letters := ok_checkl (P := l.prog) (w := w) (base := base) D__check_letters B T C_is_small
  have C_sides := ok_sides (P := l.prog) (w := w) (base := base) D_sides B C_check_web C__check_letters C_numbering C_leads_of
  have C_back := ok_back (P := l.prog) (w := w) (base := base) D_back C_check_word C_short
  have C_few := ok_few (P := l.prog) (w := w) (base := base) D_few C_check_web C_findings C_tie_of C_back
  have C__law_cell := ok_cell (P := l.prog) (w := w) (base := base) D__law_cell B
  have C__law_mixed := ok_mixed (P := l.prog) (w := w) (base := base) D__law_mixed 
  have C__law_letters := ok_letters (P := l.prog) (w := w) (base := base) D__law_letters B
  have C__law_back := ok_bk (P := l.prog) (w := w) (base := base) D__law_back 
  have C__law_word := ok_word (P := l.prog) (w := w) (base := base) D__law_word B C__law_mixed
  have C__law_turned := ok_turned (P := l.prog) (w := w) (base := base) D__law_turned B C__law_back
  have C__law_short := ok_lshort (P := l.prog) (w := w) (base := base) D__law_short C__law_back
  have C__law_led := ok_led (P := l.prog) (w := w) (base := base) D__law_led B
  have C__law_numbered := ok_numb (P := l.prog) (w := w) (base := base) D__law_numbered B
  have C__law_order := ok_order10 (P := l.prog) (w := w) (base := base) D__law_order B C__law_mixed
  exact (Cal.at (ok_law (P := l.prog) (w := w) (base := base) D_law B C_web_of C_few C_reads C_is_web C_sides C__law_cell C__law_letters C__law_word C__law_short C__law_turned C__law_led C__law_numbered C__law_order) (PySem.W.mg_of X G a39) (fun_mk (st := s_law) l39 c39 k39))
end Gw
open PySem PySem.W PyProof.Rows
set_option maxRecDepth 100000 in
set_option maxHeartbeats 0 in
theorem PySem.Challenge.cw_gluewords_k10_whole_sides_holds : PySem.Challenge.rw_gluewords_k10_whole_sides.Holds := by
  w_on; o_law; k_head; (case hw => w_witness2)
  k_fill
  refine L2.walk_of (l := PySem.Challenge.rw_gluewords_k10_whole_sides) (n := 63) (k := 17) (x := "_law_script") (CX := fun _ => L2.CX0) (sp := fun w => Gw.sp_law _) rfl (by decide) rfl ⟨rfl, by decide, by decide⟩ (fun w h Y => PySem.W.kIn_of Y) ?F (fun _ _ a ns hl _ hS => ⟨a, ns, rfl, hS, fun _ _ => rfl⟩) (fun _ _ _ _ _ h => h)
  case F =>
    intro w mg fa h KX G hmg
    refine' Gw.all_mk KX G hmg ?a0 ?l0 ?c0 ?k0 ?a1 ?l1 ?c1 ?k1 ?a2 ?l2 ?c2 ?k2 ?a3 ?l3 ?c3 ?k3 ?a4 ?l4 ?c4 ?k4 ?a5 ?l5 ?c5 ?k5 ?a6 ?l6 ?c6 ?k6 ?a7 ?l7 ?c7 ?k7 ?a8 ?l8 ?c8 ?k8 ?a9 ?l9 ?c9 ?k9 ?a10 ?l10 ?c10 ?k10 ?a11 ?l11 ?c11 ?k11 ?a12 ?l12 ?c12 ?k12 ?a13 ?l13 ?c13 ?k13 ?a14 ?l14 ?c14 ?k14 ?a15 ?l15 ?c15 ?k15 ?a16 ?l16 ?c16 ?k16 ?a17 ?l17 ?c17 ?k17 ?a18 ?l18 ?c18 ?k18 ?a19 ?l19 ?c19 ?k19 ?a20 ?l20 ?c20 ?k20 ?a21 ?l21 ?c21 ?k21 ?a22 ?l22 ?c22 ?k22 ?a23 ?l23 ?c23 ?k23 ?a24 ?l24 ?c24 ?k24 ?a25 ?l25 ?c25 ?k25 ?a26 ?l26 ?c26 ?k26 ?a27 ?l27 ?c27 ?k27 ?a28 ?l28 ?c28 ?k28 ?a29 ?l29 ?c29 ?k29 ?a30 ?l30 ?c30 ?k30 ?a31 ?l31 ?c31 ?k31 ?a32 ?l32 ?c32 ?k32 ?a33 ?l33 ?c33 ?k33 ?a34 ?l34 ?c34 ?k34 ?a35 ?l35 ?c35 ?k35 ?a36 ?l36 ?c36 ?k36 ?a37 ?l37 ?c37 ?k37 ?a38 ?l38 ?c38 ?k38 ?a39 ?l39 ?c39 ?k39 ?z_type ?z_str ?z_all ?z_len ?z_range ?z_reversed ?z_isinstance ?z_ValueError ?z_sorted ?z_sum ?z_list ?z_int ?z_bool ?z_tuple ?z_min ?z_max ?z_set ?z_zip ?z_enumerate ?z_abs ?z_any ?z_dict ?g_GlueError ?g_BadWord ?g_BadWeb ?x1 ?x2 ?x3 ?x4 ?x8 ?y1 ?y2 ?y3 ?y4 ?y7 ?i2 ?j1 ?j2 ?vx1 ?vx2 ?vx3 ?vx4 ?vx8 ?vy1 ?vy2 ?vy3 ?vy4 ?vy7 ?vi2 ?vj1 ?vj2 ?x5 ?x6 ?x7 ?y5 ?y6
    (case a0 => k_is)
    (case l0 => k_is)
    (case c0 => k_is)
    (case k0 => k_is)
    (case a1 => k_is)
    (case l1 => k_is)
    (case c1 => k_is)
    (case k1 => k_is)
    (case a2 => k_is)
    (case l2 => k_is)
    (case c2 => k_is)
    (case k2 => k_is)
    (case a3 => k_is)
    (case l3 => k_is)
    (case c3 => k_is)
    (case k3 => k_is)
    (case a4 => k_is)
    (case l4 => k_is)
    (case c4 => k_is)
    (case k4 => k_is)
    (case a5 => k_is)
    (case l5 => k_is)
    (case c5 => k_is)
    (case k5 => k_is)
    (case a6 => k_is)
    (case l6 => k_is)
    (case c6 => k_is)
    (case k6 => k_is)
    (case a7 => k_is)
    (case l7 => k_is)
    (case c7 => k_is)
    (case k7 => k_is)
    (case a8 => k_is)
    (case l8 => k_is)
    (case c8 => k_is)
    (case k8 => k_is)
    (case a9 => k_is)
    (case l9 => k_is)
    (case c9 => k_is)
    (case k9 => k_is)
    (case a10 => k_is)
    (case l10 => k_is)
    (case c10 => k_is)
    (case k10 => k_is)
    (case a11 => k_is)
    (case l11 => k_is)
    (case c11 => k_is)
    (case k11 => k_is)
    (case a12 => k_is)
    (case l12 => k_is)
    (case c12 => k_is)
    (case k12 => k_is)
    (case a13 => k_is)
    (case l13 => k_is)
    (case c13 => k_is)
    (case k13 => k_is)
    (case a14 => k_is)
    (case l14 => k_is)
    (case c14 => k_is)
    (case k14 => k_is)
    (case a15 => k_is)
    (case l15 => k_is)
    (case c15 => k_is)
    (case k15 => k_is)
    (case a16 => k_is)
    (case l16 => k_is)
    (case c16 => k_is)
    (case k16 => k_is)
    (case a17 => k_is)
    (case l17 => k_is)
    (case c17 => k_is)
    (case k17 => k_is)
    (case a18 => k_is)
    (case l18 => k_is)
    (case c18 => k_is)
    (case k18 => k_is)
    (case a19 => k_is)
    (case l19 => k_is)
    (case c19 => k_is)
    (case k19 => k_is)
    (case a20 => k_is)
    (case l20 => k_is)
    (case c20 => k_is)
    (case k20 => k_is)
    (case a21 => k_is)
    (case l21 => k_is)
    (case c21 => k_is)
    (case k21 => k_is)
    (case a22 => k_is)
    (case l22 => k_is)
    (case c22 => k_is)
    (case k22 => k_is)
    (case a23 => k_is)
    (case l23 => k_is)
    (case c23 => k_is)
    (case k23 => k_is)
    (case a24 => k_is)
    (case l24 => k_is)
    (case c24 => k_is)
    (case k24 => k_is)
    (case a25 => k_is)
    (case l25 => k_is)
    (case c25 => k_is)
    (case k25 => k_is)
    (case a26 => k_is)
    (case l26 => k_is)
    (case c26 => k_is)
    (case k26 => k_is)
    (case a27 => k_is)
    (case l27 => k_is)
    (case c27 => k_is)
    (case k27 => k_is)
    (case a28 => k_is)
    (case l28 => k_is)
    (case c28 => k_is)
    (case k28 => k_is)
    (case a29 => k_is)
    (case l29 => k_is)
    (case c29 => k_is)
    (case k29 => k_is)
    (case a30 => k_is)
    (case l30 => k_is)
    (case c30 => k_is)
    (case k30 => k_is)
    (case a31 => k_is)
    (case l31 => k_is)
    (case c31 => k_is)
    (case k31 => k_is)
    (case a32 => k_is)
    (case l32 => k_is)
    (case c32 => k_is)
    (case k32 => k_is)
    (case a33 => k_is)
    (case l33 => k_is)
    (case c33 => k_is)
    (case k33 => k_is)
    (case a34 => k_is)
    (case l34 => k_is)
    (case c34 => k_is)
    (case k34 => k_is)
    (case a35 => k_is)
    (case l35 => k_is)
    (case c35 => k_is)
    (case k35 => k_is)
    (case a36 => k_is)
    (case l36 => k_is)
    (case c36 => k_is)
    (case k36 => k_is)
    (case a37 => k_is)
    (case l37 => k_is)
    (case c37 => k_is)
    (case k37 => k_is)
    (case a38 => k_is)
    (case l38 => k_is)
    (case c38 => k_is)
    (case k38 => k_is)
    (case a39 => k_is)
    (case l39 => k_is)
    (case c39 => k_is)
    (case k39 => k_is)
    (case z_type => k_is)
    (case z_str => k_is)
    (case z_all => k_is)
    (case z_len => k_is)
    (case z_range => k_is)
    (case z_reversed => k_is)
    (case z_isinstance => k_is)
    (case z_ValueError => k_is)
    (case z_sorted => k_is)
    (case z_sum => k_is)
    (case z_list => k_is)
    (case z_int => k_is)
    (case z_bool => k_is)
    (case z_tuple => k_is)
    (case z_min => k_is)
    (case z_max => k_is)
    (case z_set => k_is)
    (case z_zip => k_is)
    (case z_enumerate => k_is)
    (case z_abs => k_is)
    (case z_any => k_is)
    (case z_dict => k_is)
    (case g_GlueError => k_is)
    (case g_BadWord => k_is)
    (case g_BadWeb => k_is)
    (case x1 => k_exc)
    (case x2 => k_is)
    (case x3 => k_is)
    (case x4 => k_is)
    (case x8 => k_is)
    (case y1 => k_is)
    (case y2 => k_is)
    (case y3 => k_is)
    (case y4 => k_is)
    (case y7 => k_is)
    (case i2 => k_is)
    (case j1 => k_is)
    (case j2 => first | rfl | k_is)
    (case vx1 => k_exc)
    (case vx2 => k_is)
    (case vx3 => k_is)
    (case vx4 => k_is)
    (case vx8 => k_is)
    (case vy1 => k_is)
    (case vy2 => k_is)
    (case vy3 => k_is)
    (case vy4 => k_is)
    (case vy7 => k_is)
    (case vi2 => k_is)
    (case vj1 => k_is)
    (case vj2 => first | rfl | k_is)
    (case x5 => k_is)
    (case x6 => k_is)
    (case x7 => k_is)
    (case y5 => k_is)
    (case y6 => k_is)

