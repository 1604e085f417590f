import PyProof.Rows.All
import Wide.All
import OpenK.AllK
import Wide.FinOn
import PyProof.EqAt
import PyProof.EqKinds
import PyProof.TupleCall
import PyProof.TypeEq
import PyProof.TypeOfCall
import HandS.Base
import HandS.Call
import HandS.List
import HandS.Comp
import HandS.Ends
import HandS.Text
import HandS.Iter
import HandS.RevTup
import HandS.Zip
import HandS.Words
import HandS.WordsList
import HandS.Evl
import HandS.ForExc
import HandS.ForMost
import HandS.ForSpec
import HandS.IsInst
import HandS.ExcIs
import HandS.Style
import HandS.Flow
import HandS.Codes
import HandS.SortOrd
import HandS.SortRule
import HandS.SetKeys
import HandS.Conv
import PyProof.DictMoreH
import PySem.Challenge.RW_gluewords_k01_short_words
set_option Elab.async false
set_option linter.all false
set_option maxRecDepth 100000
set_option maxHeartbeats 4000000
/-! ## M1 -/
/-! words: letters by their codes, what falls away, the short word -/
namespace Gw
def isL (c : Nat) : Bool := (decide (97 ≤ c) && decide (c ≤ 122)) || (decide (65 ≤ c) && decide (c ≤ 90))
def bk (c : Nat) : Nat := if 97 ≤ c then c - 32 else c + 32
def isW (l : List Nat) : Bool := l.all isL
def inv (l : List Nat) : List Nat := l.reverse.map bk
theorem isL_iff {c : Nat} : isL c = true ↔ (97 ≤ c ∧ c ≤ 122) ∨ (65 ≤ c ∧ c ≤ 90) := by
  unfold isL; simp
theorem isL_bk {c : Nat} (h : isL c = true) : isL (bk c) = true := by
  rw [isL_iff] at *; unfold bk; split <;> omega
theorem bk_bk {c : Nat} (h : isL c = true) : bk (bk c) = c := by
  rw [isL_iff] at h; unfold bk; split <;> split <;> omega
theorem bk_ne {c : Nat} (h : isL c = true) : bk c ≠ c := by
  rw [isL_iff] at h; unfold bk; split <;> omega
theorem bk_inj {a b : Nat} (ha : isL a = true) (hb : isL b = true) (h : bk a = bk b) : a = b := by
  rw [← bk_bk ha, ← bk_bk hb, h]
theorem isW_app {a b : List Nat} : isW (a ++ b) = true ↔ isW a = true ∧ isW b = true := by
  unfold isW; rw [List.all_append, Bool.and_eq_true]
theorem isW_cons {a : Nat} {b : List Nat} : isW (a :: b) = true ↔ isL a = true ∧ isW b = true := by
  unfold isW; rw [List.all_cons, Bool.and_eq_true]
theorem isW_inv {l : List Nat} (h : isW l = true) : isW (inv l) = true := by
  unfold isW inv at *
  rw [List.all_map, List.all_reverse]
  rw [List.all_eq_true] at *
  intro x hx
  exact isL_bk (h x hx)
theorem inv_app (a b : List Nat) : inv (a ++ b) = inv b ++ inv a := by
  unfold inv; rw [List.reverse_append, List.map_append]
theorem inv_cons (a : Nat) (b : List Nat) : inv (a :: b) = inv b ++ [bk a] := by
  unfold inv; rw [List.reverse_cons, List.map_append]; rfl
theorem inv_len (a : List Nat) : (inv a).length = a.length := by unfold inv; simp
theorem inv_inv : ∀ {l : List Nat}, isW l = true → inv (inv l) = l
  | [], _ => rfl
  | a :: l, h => by
    obtain ⟨h1, h2⟩ := isW_cons.mp h
    rw [inv_cons, inv_app, inv_inv h2]
    show [bk (bk a)] ++ l = _
    rw [bk_bk h1]; rfl

/-- no letter right beside its back -/
def Shrt : List Nat → Prop
  | a :: b :: r => b ≠ bk a ∧ Shrt (b :: r)
  | _ => True
instance : ∀ l, Decidable (Shrt l)
  | [] => isTrue trivial
  | [_] => isTrue trivial
  | a :: b :: r => @instDecidableAnd _ _ _ (instDecidableShrt (b :: r))
/-- one pair taken out -/
inductive Out : List Nat → List Nat → Prop
  | mk (u v : List Nat) (a : Nat) (h : isL a = true) : Out (u ++ a :: bk a :: v) (u ++ v)
inductive Red : List Nat → List Nat → Prop
  | refl (u) : Red u u
  | step {u v w} (h : Out u v) (t : Red v w) : Red u w
theorem Red.trans {u v w : List Nat} (a : Red u v) (b : Red v w) : Red u w := by
  induction a with
  | refl u => exact b
  | step h _ ih => exact .step h (ih b)
theorem Out.one {u v : List Nat} (h : Out u v) : Red u v := .step h (.refl _)
theorem Out.app {u v : List Nat} (h : Out u v) (p q : List Nat) : Out (p ++ u ++ q) (p ++ v ++ q) := by
  cases h with
  | mk u v a ha =>
    have := Out.mk (p ++ u) (v ++ q) a ha
    simpa using this
theorem Red.app {u v : List Nat} (h : Red u v) (p q : List Nat) : Red (p ++ u ++ q) (p ++ v ++ q) := by
  induction h with
  | refl u => exact .refl _
  | step h _ ih => exact .step (h.app p q) ih
theorem Red.appL {u v : List Nat} (h : Red u v) (p : List Nat) : Red (p ++ u) (p ++ v) := by
  have := h.app p []; simpa using this
theorem Red.appR {u v : List Nat} (h : Red u v) (p : List Nat) : Red (u ++ p) (v ++ p) := by
  have := h.app [] p; simpa using this
theorem Out.inv {u v : List Nat} (h : Out u v) : Out (inv u) (inv v) := by
  cases h with
  | mk u v a ha =>
    rw [inv_app, inv_app, inv_cons, inv_cons]
    rw [bk_bk ha]
    have := Out.mk (Gw.inv v) (Gw.inv u) a ha
    simpa using this
theorem Red.inv {u v : List Nat} (h : Red u v) : Red (inv u) (inv v) := by
  induction h with
  | refl u => exact .refl _
  | step h _ ih => exact .step h.inv ih
theorem Out.len {u v : List Nat} (h : Out u v) : v.length + 2 = u.length := by
  cases h with
  | mk u v a ha => simp; omega
theorem Out.isW {u v : List Nat} (h : Out u v) (w : isW u = true) : isW v = true := by
  cases h with
  | mk u v a ha =>
    rw [isW_app, isW_cons, isW_cons] at w
    exact isW_app.mpr ⟨w.1, w.2.2.2⟩
theorem Red.isW {u v : List Nat} (h : Red u v) (w : isW u = true) : isW v = true := by
  induction h with
  | refl u => exact w
  | step h _ ih => exact ih (h.isW w)
theorem Red.len {u v : List Nat} (h : Red u v) : v.length ≤ u.length := by
  induction h with
  | refl u => exact Nat.le_refl _
  | step h _ ih => have := h.len; omega

/-- the stack, its top first -/
def push (s : List Nat) (c : Nat) : List Nat :=
  match s with
  | t :: r => if t = bk c then r else c :: t :: r
  | [] => [c]
def stk (s : List Nat) (l : List Nat) : List Nat := l.foldl push s
def short (l : List Nat) : List Nat := (stk [] l).reverse
theorem stk_app (s a b : List Nat) : stk s (a ++ b) = stk (stk s a) b := List.foldl_append
/-- a stack, seen from its top -/
def RS : List Nat → Prop
  | a :: b :: r => a ≠ bk b ∧ RS (b :: r)
  | _ => True
theorem RS.tail {a : Nat} {s : List Nat} (h : RS (a :: s)) : RS s := by
  cases s with
  | nil => trivial
  | cons b r => exact h.2
theorem RS.push {s : List Nat} (h : RS s) (w : isW s = true) {c : Nat} (hc : isL c = true) : RS (push s c) ∧ isW (push s c) = true := by
  cases s with
  | nil => exact ⟨trivial, isW_cons.mpr ⟨hc, rfl⟩⟩
  | cons t r =>
    by_cases e : t = bk c
    · have e1 : Gw.push (t :: r) c = r := if_pos e
      rw [e1]; exact ⟨h.tail, (isW_cons.mp w).2⟩
    · have e1 : Gw.push (t :: r) c = c :: t :: r := if_neg e
      rw [e1]
      refine ⟨⟨fun z => e ?_, h⟩, isW_cons.mpr ⟨hc, w⟩⟩
      rw [z, bk_bk (isW_cons.mp w).1]
theorem RS.stk : ∀ {l s : List Nat}, RS s → isW s = true → isW l = true → RS (stk s l) ∧ isW (stk s l) = true
  | [], s, h, w, _ => ⟨h, w⟩
  | c :: l, s, h, w, hl => by
    obtain ⟨h1, h2⟩ := isW_cons.mp hl
    obtain ⟨a, b⟩ := h.push w h1
    exact RS.stk (l := l) a b h2
theorem push_pair {s : List Nat} (h : RS s) {c : Nat} (hc : isL c = true) : push (push s c) (bk c) = s := by
  cases s with
  | nil => unfold push; simp [bk_bk hc]
  | cons t r =>
    by_cases e : t = bk c
    · have e1 : push (t :: r) c = r := if_pos e
      rw [e1]
      cases r with
      | nil => unfold push; rw [e]
      | cons b r =>
        have : b ≠ bk (bk c) := fun z => h.1 (by rw [e, z, bk_bk hc])
        have e2 : push (b :: r) (bk c) = bk c :: b :: r := if_neg this
        rw [e2, e]
    · have e1 : push (t :: r) c = c :: t :: r := if_neg e
      rw [e1]
      exact if_pos (bk_bk hc).symm
theorem stk_out {u v s : List Nat} (h : Out u v) (hs : RS s) (ws : isW s = true) (w : isW u = true) : stk s u = stk s v := by
  cases h with
  | mk u v a ha =>
    have hu : Gw.isW u = true := (isW_app.mp w).1
    rw [stk_app, stk_app]
    have r := (RS.stk hs ws hu).1
    show stk (push (push (stk s u) a) (bk a)) v = _
    rw [push_pair r ha]
theorem stk_red {u v s : List Nat} (h : Red u v) (hs : RS s) (ws : isW s = true) (w : isW u = true) : stk s u = stk s v := by
  induction h with
  | refl u => rfl
  | step h _ ih => rw [stk_out h hs ws w, ih (h.isW w)]
theorem short_red {u v : List Nat} (h : Red u v) (w : isW u = true) : short u = short v := by
  have e : stk [] u = stk [] v := stk_red (s := []) h True.intro rfl w
  unfold short; rw [e]
/-- a word leads to what the stack holds -/
theorem red_stk : ∀ {l s : List Nat}, isW s = true → isW l = true → Red (s.reverse ++ l) (stk s l).reverse
  | [], s, _, _ => by rw [List.append_nil]; exact .refl _
  | c :: l, s, ws, hl => by
    obtain ⟨h1, h2⟩ := isW_cons.mp hl
    have ih : isW (push s c) = true → Red ((push s c).reverse ++ l) (stk (push s c) l).reverse := fun z => red_stk z h2
    show Red (s.reverse ++ c :: l) (stk (push s c) l).reverse
    cases s with
    | nil => exact ih (isW_cons.mpr ⟨h1, rfl⟩)
    | cons t r =>
      obtain ⟨w1, w2⟩ := isW_cons.mp ws
      by_cases e : t = bk c
      · have e1 : push (t :: r) c = r := if_pos e
        rw [e1] at ih ⊢
        refine .step ?_ (ih w2)
        have := Out.mk r.reverse l t w1
        rw [e, bk_bk h1] at this
        rw [e]; simpa using this
      · have e1 : push (t :: r) c = c :: t :: r := if_neg e
        rw [e1] at ih ⊢
        have := ih (isW_cons.mpr ⟨h1, ws⟩)
        simpa using this
theorem red_short {l : List Nat} (w : isW l = true) : Red l (short l) := red_stk (s := []) rfl w
theorem shrt_app {a b : Nat} : ∀ {l r : List Nat}, Shrt (l ++ a :: b :: r) → b ≠ bk a
  | [], r, h => h.1
  | [c], r, h => h.2.1
  | c :: d :: l, r, h => shrt_app (l := d :: l) h.2
/-- the reverse of a stack is short -/
theorem shrt_snoc : ∀ {l : List Nat} {a b : Nat}, Shrt (l ++ [a]) → b ≠ bk a → Shrt (l ++ [a, b])
  | [], a, b, _, h => ⟨h, trivial⟩
  | [c], a, b, h, h2 => ⟨h.1, h2, trivial⟩
  | c :: d :: l, a, b, h, h2 => ⟨h.1, shrt_snoc (l := d :: l) h.2 h2⟩
theorem RS.shrt : ∀ {s : List Nat}, RS s → isW s = true → Shrt s.reverse
  | [], _, _ => trivial
  | [a], _, _ => trivial
  | a :: b :: r, h, w => by
    have ih := RS.shrt (s := b :: r) h.2 (isW_cons.mp w).2
    rw [List.reverse_cons] at ih ⊢
    rw [List.reverse_cons, List.append_assoc]
    exact shrt_snoc ih h.1
theorem short_shrt {l : List Nat} (w : isW l = true) : Shrt (short l) :=
  (RS.stk (s := []) trivial rfl w).1.shrt (RS.stk (s := []) trivial rfl w).2
theorem short_isW {l : List Nat} (w : isW l = true) : isW (short l) = true := (red_short w).isW w
theorem short_len {l : List Nat} (w : isW l = true) : (short l).length ≤ l.length := (red_short w).len
theorem stk_shrt : ∀ {l s : List Nat}, isW l = true → isW s = true → Shrt (s.reverse ++ l) → stk s l = l.reverse ++ s
  | [], s, _, _, _ => rfl
  | c :: l, s, h, ws, hs => by
    obtain ⟨h1, h2⟩ := isW_cons.mp h
    have e : push s c = c :: s := by
      cases s with
      | nil => rfl
      | cons t r =>
        refine if_neg fun z => ?_
        have : Shrt (r.reverse ++ t :: c :: l) := by simpa using hs
        have := shrt_app this
        exact this (by rw [z, bk_bk h1])
    show stk (push s c) l = _
    rw [e, stk_shrt h2 (isW_cons.mpr ⟨h1, ws⟩) (by simpa using hs)]
    simp
theorem short_of_shrt {l : List Nat} (w : isW l = true) (h : Shrt l) : short l = l := by
  unfold short
  rw [stk_shrt w rfl (by simpa using h)]
  simp
theorem short_short {l : List Nat} (w : isW l = true) : short (short l) = short l := short_of_shrt (short_isW w) (short_shrt w)
/-- whoever leads to a short word leads to the short word -/
theorem short_unique {u v : List Nat} (h : Red u v) (w : isW u = true) (s : Shrt v) : v = short u := by
  rw [short_red h w, short_of_shrt (h.isW w) s]
theorem shrt_inv : ∀ {l : List Nat}, isW l = true → Shrt l → Shrt (inv l)
  | [], _, _ => trivial
  | [a], _, _ => trivial
  | a :: b :: r, w, h => by
    obtain ⟨w1, w2⟩ := isW_cons.mp w
    have ih := shrt_inv w2 h.2
    rw [inv_cons] at ih ⊢
    rw [inv_cons, List.append_assoc]
    refine shrt_snoc ih fun z => h.1 ?_
    rw [z, bk_bk (isW_cons.mp w2).1]
theorem short_inv {l : List Nat} (w : isW l = true) : short (inv l) = inv (short l) :=
  (short_unique (red_short w).inv (isW_inv w) (shrt_inv (short_isW w) (short_shrt w))).symm
theorem short_times {a b : List Nat} (wa : isW a = true) (wb : isW b = true) : short (short a ++ short b) = short (a ++ b) :=
  (short_red (((red_short wa).appR b).trans ((red_short wb).appL (short a))) (isW_app.mpr ⟨wa, wb⟩)).symm
theorem red_inv : ∀ {l : List Nat}, isW l = true → Red (l ++ inv l) []
  | [], _ => .refl _
  | a :: l, w => by
    obtain ⟨w1, w2⟩ := isW_cons.mp w
    rw [inv_cons]
    have := (red_inv w2).app [a] [bk a]
    have t : Red ([a] ++ [] ++ [bk a]) [] := (Out.mk [] [] a w1).one
    have r := this.trans t
    simpa using r
theorem short_nil : short [] = [] := rfl
theorem times_inv {l : List Nat} (w : isW l = true) : short (l ++ inv l) = [] := by
  rw [short_red (red_inv w) (isW_app.mpr ⟨w, isW_inv w⟩), short_nil]
theorem inv_times {l : List Nat} (w : isW l = true) : short (short (inv l) ++ l) = [] := by
  have h := times_inv (isW_inv w)
  rw [inv_inv w] at h
  have r : Red (inv l ++ l) (short (inv l) ++ l) := (red_short (isW_inv w)).appR l
  rw [← short_red r (isW_app.mpr ⟨isW_inv w, w⟩)]
  exact h
theorem shrt_of_none : ∀ {l : List Nat}, (∀ (i : Nat) a b, l[i]? = some a → l[i + 1]? = some b → b ≠ bk a) → Shrt l
  | [], _ => trivial
  | [a], _ => trivial
  | a :: b :: r, h => ⟨h 0 a b rfl rfl, shrt_of_none fun i x y hx hy => h (i + 1) x y (by simpa using hx) (by simpa using hy)⟩
theorem out_at {l : List Nat} {i a : Nat} (h1 : l[i]? = some a) (h2 : l[i + 1]? = some (bk a)) (ha : isL a = true) : Out l (l.take i ++ l.drop (i + 2)) := by
  have hi : i < l.length := (List.getElem?_eq_some_iff.mp h1).1
  have hj : i + 1 < l.length := (List.getElem?_eq_some_iff.mp h2).1
  have e : l = l.take i ++ a :: bk a :: l.drop (i + 2) := by
    have e1 : l[i] = a := (List.getElem?_eq_some_iff.mp h1).2
    have e2 : l[i + 1] = bk a := (List.getElem?_eq_some_iff.mp h2).2
    conv => lhs; rw [← List.take_append_drop i l]
    rw [List.drop_eq_getElem_cons hi, List.drop_eq_getElem_cons hj, e1, e2]
  have := Out.mk (l.take i) (l.drop (i + 2)) a ha
  rw [← e] at this
  exact this
end Gw

/-! ## R1 -/
/-! rules of our own -/
namespace Gw
open PySem PySem.Spec PyProof.Rows L2 RZ

/-! ### type(x) == T -/
inductive Ty6 (H : Hp) : V → String → Prop
  | non : Ty6 H .non "NoneType"
  | bl (b : Bool) : Ty6 H (.bl b) "bool"
  | base {x : V} {T : String} (h : Ty4 H x T) : Ty6 H x T
def rTy6 : List V → Hp → VK → Prop := fun xs H Q => ∃ (x : V) (T : String), xs = [x] ∧ Ty6 H x T ∧ Q (.ty T) H
section
variable {X : Cx}
theorem call_type6 : CallR X (.type "type") rTy6 := by
  intro pz s σ H xs us Q I r h
  obtain ⟨x, T, rfl, t, q⟩ := h
  obtain ⟨u, rfl, rX⟩ := vals1 r
  cases t with
  | non =>
    cases (show u = Value.none from rX)
    exact call_type_of (Tx := "NoneType") rfl (by decide +kernel) ⟨.ty _, H, I, rfl, q⟩
  | bl b =>
    cases (show u = Value.bool b from rX)
    exact call_type_of (Tx := "bool") rfl (by decide +kernel) ⟨.ty _, H, I, rfl, q⟩
  | base t =>
    obtain ⟨h1, h2⟩ := t.is I rX
    exact call_type_of h1 h2 ⟨V.ty T, H, I, rfl, q⟩
def rEqTy : R2 := fun x y H Q => ∃ a b, x = .ty a ∧ y = .ty b ∧ (∀ s' : Shared, s'.TypeIs (.type a) "type") ∧ (∀ s' : Shared, s'.TypeIs (.type b) "type") ∧ Q (.bl (decide (a = b))) H
theorem op_eqTy : OpR X (compareOp .Eq) rEqTy := by
  intro pz s σ H x y v u Q I rX rY h
  obtain ⟨a, b, rfl, rfl, ha, hb, q⟩ := h
  cases (show v = Value.type a from rX)
  cases (show u = Value.type b from rY)
  by_cases e : a = b
  · subst e
    exact PySem.TypeEq.eq_type_same ha ⟨.bl true, H, I, rfl, by simpa using q⟩
  · refine PySem.TypeEq.eq_type_other ha hb ?_ ⟨.bl false, H, I, rfl, by simpa [e] using q⟩
    rw [Bool.eq_false_iff]
    intro z
    exact e (Value.type.inj (beq_iff_eq.mp z))
/-! ### swapcase -/
theorem mt_swapcase : MtR X "str.swapcase" (fun x xs H Q => ∃ a, x = .str a ∧ xs = [] ∧ a.length ≤ 5592405 ∧ Q (.str (Txt.swapcase a)) H) :=
  mt0 (C := fun a => a.length ≤ 5592405) (g := fun a => .str (Txt.swapcase a)) fun a _ s _ hc h =>
    PySem.SC.swapcase (PyProof.Rows.short24 (by have h1 : a.length ≤ 5592405 := hc; have := PyProof.Rows.len_swapcase a; omega)) (h _ (s.toks + 1) ⟨_, rfl⟩)
/-! ### z[::-1] of a text -/
def revS (z : Str) : Str := ⟨z.cps.toList.reverse.toArray⟩
def tRevS (te : TE) : TE := fun σ H Q => te σ H fun x HE => ∃ z, x = .str z ∧ z.length ≤ sizeLine ∧ Q (.str (revS z)) HE
theorem sidx_rev (n : Nat) : Builtin.Str.strSliceIndices none none (-1) n = (List.range n).reverse := by
  show sliceRange ((n : Int) - 1) (-1) (-1) = _
  rw [PySem.W.krv_sliceRange, PySem.W.krv_range]
theorem arr_all {α : Type} (xs : Array α) : (List.range xs.size).filterMap (xs[·]?) = xs.toList := by
  have pk := pick_run xs 0 xs.size
  have e : (List.range xs.size).map (fun k => 0 + k) = List.range xs.size := by
    simp
  rw [e, List.drop_zero, List.take_of_length_le (by rw [Array.length_toList]; exact Nat.le_refl _)] at pk
  exact pk
theorem pe_revS {e : Expr} {te : TE} {k : Nat} {p1 p2 p3 pos : Pos} (he : PE X e te) : PE X (.Subscript e (.Slice none none (some (.UnaryOp .USub (.Constant (.int 1) k p1) p2)) p3) pos) (tRevS te) := by
  refine ⟨fun pz s σ H Q I h => ?_⟩
  refine Subscript_ (thn (he.run pz s σ H _ I h) fun v sE ⟨x, HE, IE, rE, qE⟩ => ?_)
  obtain ⟨z, ex, hz, q⟩ := qE
  subst ex
  obtain ⟨tz, rfl⟩ := rE
  have hStep : PO X (some (.UnaryOp .USub (.Constant (.int 1) k p1) p2)) (tPart (tUn (rU fun i => .int (-i)) (tC (.int 1)))) := po_some (pe_un un_neg pe_int)
  refine wpAny_Slice (thn (po_none.run pz sE σ HE (fun o Hl => o = none ∧ Hl = HE) IE ⟨rfl, rfl⟩) fun vl sl ⟨l, Hl, Il, pl, el, e2⟩ => ?_)
  subst el e2
  refine thn (po_none.run pz sl σ Hl (fun o Hu => o = none ∧ Hu = Hl) Il ⟨rfl, rfl⟩) fun vu su ⟨u, Hu, Iu, pu, eu, e3⟩ => ?_
  subst eu e3
  refine thn (hStep.run pz su σ Hu (fun o Hv => o = some (-1) ∧ Hv = Hu) Iu ⟨1, rfl, -1, rfl, rfl, rfl⟩) fun vs sv ⟨o, Hv, Iv, ps, eo, e4⟩ => ?_
  subst eo e4
  have Jv : Inv X pz σ Hv { sv with heap := sv.heap.push { cls := .type "slice", data := .fields #[vl, vu, vs] } } := Iv.kept (t' := sv.toks) fun b ob q => Heap.get?_push_of_some _ q
  obtain ⟨l, rfl, el⟩ := IsPart.raw pl
  obtain ⟨u, rfl, eu⟩ := IsPart.raw pu
  obtain ⟨p, rfl, ep⟩ := IsPart.raw ps
  show wpAny (model X.prog X.w) X.A (subscriptTail e (.Slice none none (some (.UnaryOp .USub (.Constant (.int 1) k p1) p2)) p3) (.str z tz) (.ref sv.heap.objs.size)) (EP X pz σ Q) X.xe _
  refine tail_any (ops := [.ref sv.heap.objs.size, .str z tz]) (typeIs_str _ _ _) F.slot_str_getitem.lookup ?_ (by with_unfolding_all rfl)
  refine wpAny_getItem_str_slice (l := l) (u := u) (st := p) ⟨_, Heap.get?_push_size _ rfl, rfl, rfl⟩ (by rw [ep]; rfl) ?_
  have e5 : slicePicked z l u p = (List.range z.length).reverse := by
    unfold slicePicked
    rw [el, eu, ep]
    exact sidx_rev z.length
  have e6 : ((slicePicked z l u p).filterMap (z.cps[·]?)).toArray = z.cps.toList.reverse.toArray := by
    rw [e5, List.filterMap_reverse]
    have := arr_all z.cps
    rw [show z.length = z.cps.size from rfl, this]
  unfold sliceMade
  rw [e6, ep]
  show Made.post (Made.str (revS z)) (EP X pz σ Q) _
  exact ⟨by show (z.cps.toList.reverse.toArray).size ≤ sizeLine; rw [List.size_toArray, List.length_reverse, Array.length_toList]; exact hz, .str _, Hv, Jv.tok _, ⟨_, rfl⟩, q⟩
end

/-! ### reversed(text) -/
theorem norev_str : typeLookup (.type "str") "__reversed__" = pure none := by rw [typeLookup_type, builtinLookup_eq_fast]; kernel_rfl
theorem get_str : typeLookup (.type "str") "__getitem__" = pure (some (.builtin "str.__getitem__")) := by rw [typeLookup_type, builtinLookup_eq_fast]; kernel_rfl
theorem no_dict_str : isSubtype (.type "str") (.type "dict") = pure false := by rw [isSubtype_type]; kernel_rfl
def rsObj (z : Str) (t : Tok) (i : Int) : Obj := { cls := .type "reversed", data := .fields #[.str z t, rawInt i] }
def IsRs (h : Heap) (a : Addr) (z : Str) (t : Tok) (i : Int) : Prop := ∃ o, h.get? a = some o ∧ o.cls = .type "reversed" ∧ o.data = .fields #[.str z t, rawInt i]
theorem IsRs.at {h h' : Heap} {a : Addr} {z : Str} {t : Tok} {i : Int} (x : IsRs h a z t i) (e : ∀ o, h.get? a = some o → h'.get? a = some o) : IsRs h' a z t i := let ⟨o, hO, r⟩ := x; ⟨o, e _ hO, r⟩
section
variable {prog : Program} {w : World} {s : Shared} {A : Around} {E : Value → Shared → Prop}
theorem IsRs.typeIs {a : Addr} {z : Str} {t : Tok} {i : Int} (x : IsRs s.heap a z t i) : s.TypeIs (.ref a) "reversed" := let ⟨o, hO, hc, _⟩ := x; ⟨o, hO, hc⟩
theorem code_reversed_str {z : Str} {t : Tok} {Q₁ : Value → Shared → Prop}
    (hlen : ∀ (A : Around) (E : Value → Shared → Prop) (Q : Value → Shared → Prop), Q (.int z.length (s.toks + 1)) { s with toks := s.toks + 1 + 1 } → wpAny (model prog w) A (call (.builtin "len") [.str z t]) Q E s)
    (h : Q₁ (.ref s.heap.objs.size) { s with heap := s.heap.push (rsObj z t ((z.length : Int) - 1)), toks := s.toks + 1 + 1 }) :
    codeAny (model prog w) A (.call (.builtin "reversed.__new__") ⟨[.type "reversed", .str z t], []⟩) (wants Q₁ E) s := by
  have tyS : s.TypeIs (.str z t) "str" := typeIs_str _ _ _
  refine codeAny_of_tree ?_
  show wpAny _ A.in1 (do checkBuiltinCall "reversed.__new__" ⟨[.type "reversed", .str z t], []⟩; again (.builtin "reversed.__new__" ⟨[.type "reversed", .str z t], []⟩)) _ _ s
  refine wpAny_bind (wpAny_of_eq (F.newCall_reversed_1 _) (wpAny_pure ⟨plainId_quiet F.plain_reversed_new _, codeAny_builtin F.entry_reversed_new ?_⟩)); rw [Around.under_plainId F.plain_reversed_new _]
  unfold Builtin.«reversed.__new__»; refine wpAny_bind (wpAny_of_eq (newClass_reversed _) ?_)
  try dsimp only
  refine wpAny_bind (wpAny_of_eq (a := ()) (by first | rfl | kernel_rfl) ?_); try dsimp only
  refine wpAny_bind (wpAny_of_eq (a := ()) (by first | rfl | kernel_rfl) ?_); try dsimp only
  refine wpAny_bind (wpAny_specialOf tyS norev_str ?_)
  try dsimp only
  refine wpAny_bind ?_
  wp_delta
  refine wpAny_bind (wpAny_isInstance (T := "str") (U := "dict") (b := false) tyS no_dict_str ?_)
  try dsimp only
  try rw [if_neg Bool.false_ne_true]; try dsimp only
  refine wpAny_bind (wpAny_specialOf tyS get_str ?_)
  try dsimp only
  try rw [if_pos (by decide +kernel)]; refine wpAny_pure ?_
  try dsimp only
  try rw [if_neg (by decide)]
  try dsimp only
  refine wpAny_bind (hlen _ _ _ ?_); refine wpAny_bind (wpAny_of_eq (a := some ((z.length : Nat) : Int)) rfl ?_)
  try dsimp only
  refine wpAny_bind ?_
  show wpAny _ _ (newObj (.type "reversed") (.fields #[.str z t, rawInt ((z.length : Int) - 1)])) _ _ _
  refine wpAny_newObj_type ?_
  exact wpAny_pure h

theorem call_reversed_str {z : Str} {t : Tok} {Q : Value → Shared → Prop}
    (hlen : ∀ (A : Around) (E : Value → Shared → Prop) (Q : Value → Shared → Prop), Q (.int z.length (s.toks + 1)) { s with toks := s.toks + 1 + 1 } → wpAny (model prog w) A (call (.builtin "len") [.str z t]) Q E s)
    (h : Q (.ref s.heap.objs.size) { s with heap := s.heap.push (rsObj z t ((z.length : Int) - 1)), toks := s.toks + 1 + 1 }) : wpAny (model prog w) A (call (.type "reversed") [.str z t]) Q E s := by
  refine callType_codes (Q₁ := fun obj s₁ => s₁.TypeIs obj "reversed" ∧ Q obj s₁) RT.called_rt (F.typeCall_reversed_1 _) F.entry_object_init
    (code_reversed_str (A := A.in1) hlen ⟨⟨_, Heap.get?_push_size _ rfl, rfl⟩, h⟩) fun obj s₁ h₁ => ?_
  exact ⟨h₁.1, F.args_object_init_2 obj _, object_init_meets RT.called_rt.init.lookup RT.called_rt.made (by decide) prog w A.in1 _ s₁ ⟨h₁.1, rfl, h₁.2⟩⟩

theorem next_rs_item {it : Addr} {z : Str} {t : Tok} {i : Nat} {c : Nat} {Q : Option Value → Shared → Prop} (hI : IsRs s.heap it z t (i : Int)) (hx : z.cps[i]? = some c) (hsz : z.length ≤ sizeLine)
    (kQ : ∀ h' t' tk, IsRs h' it z t ((i : Int) - 1) → Heap.SameBut it s.heap h' → Q (some (.str ⟨#[c]⟩ t')) { s with heap := h', toks := tk }) : wpAny (model prog w) A (pyNext (.ref it)) Q E s := by
  obtain ⟨o, hO, hc, hD⟩ := id hI
  have hi : i < z.cps.size := (Array.getElem?_eq_some_iff.mp hx).1
  have hi' : i < z.length := hi
  have tyS : s.TypeIs (.str z t) "str" := typeIs_str _ _ _
  rw [sizeLine_eq] at hsz
  unfold pyNext
  refine wpAny_bind (wpAny_attempt (wpAny_callSpecial?_slot (name := Str.ofString "__next__") hI.typeIs RT.slot_rt_next
    (wpAny_call_entry RT.slot_rt_next hI.typeIs RT.entry_rt_next ?_ (RT.args_rt_next _))))
  unfold Builtin.«reversed.__next__»; refine wpAny_bind (wpAny_of_eq (a := (Value.ref it, [])) rfl ?_)
  try dsimp only
  refine wpAny_bind (wpAny_field hO hD (x := .str z t) rfl ?_)
  try dsimp only
  refine wpAny_bind (wpAny_field hO hD (x := rawInt (i : Int)) rfl ?_)
  show wpAny _ _ (if (i : Int) < 0 then _ else _) _ _ s; rw [if_neg (by omega)]
  try dsimp only
  refine wpAny_bind (wpAny_specialOf tyS get_str ?_)
  try dsimp only
  try rw [if_neg (by decide)]
  try dsimp only
  refine wpAny_bind (wpAny_mkInt ?_); refine wpAny_bind (wpAny_attempt ?_)
  have fin : seqIndex? (i : Int) z.length = some i := seqIndex_of (by omega) (by omega)
  refine getItem_str (c := c) (s := { s with toks := s.toks + 1 }) (by
    have e1 : decide ((i : Int) < -(2 ^ 63 : Int)) = false := decide_eq_false (by omega)
    have e2 : decide ((i : Int) ≥ 2 ^ 63) = false := decide_eq_false (by omega)
    rw [e1, e2, Bool.or_false]) (by rw [fin]; exact hx) ?_
  try dsimp only
  refine wpAny_bind (wpAny_field hO hD (x := rawInt (i : Int)) rfl ?_)
  try dsimp only
  refine wpAny_bind (wpAny_setField hO hD (by simp) ?_)
  first
  | refine wpAny_pure ⟨_, rfl, wpAny_pure (kQ _ _ _ ?_ (Heap.SameBut.update ..))⟩
  | refine wpAny_bind (wpAny_pure (wpAny_pure ⟨_, rfl, wpAny_pure (kQ _ _ _ ?_ (Heap.SameBut.update ..))⟩))
  exact ⟨_, Heap.get?_update_self _ hO (Obj.isFreed_of_fields (Obj.data_mapFields hD _)), (Obj.cls_mapFields ..).trans hc, by
    rw [Obj.data_mapFields hD]; simp⟩
theorem next_rs_end {it : Addr} {z : Str} {t : Tok} {Q : Option Value → Shared → Prop} (hh : A.handled = none) (hI : IsRs s.heap it z t (-1))
    (kQ : ∀ h', Heap.ExtBut it s.heap h' → Q none { s with heap := h' }) : wpAny (model prog w) A (pyNext (.ref it)) Q E s := by
  obtain ⟨o, hO, hc, hD⟩ := id hI
  unfold pyNext
  refine wpAny_bind (wpAny_attempt (wpAny_callSpecial?_slot (name := Str.ofString "__next__") hI.typeIs RT.slot_rt_next
    (wpAny_call_entry RT.slot_rt_next hI.typeIs RT.entry_rt_next ?_ (RT.args_rt_next _))))
  unfold Builtin.«reversed.__next__»; refine wpAny_bind (wpAny_of_eq (a := (Value.ref it, [])) rfl ?_)
  try dsimp only
  refine wpAny_bind (wpAny_field hO hD (x := .str z t) rfl ?_)
  try dsimp only
  refine wpAny_bind (wpAny_field hO hD (x := rawInt (-1)) rfl ?_)
  show wpAny _ _ (if (-1 : Int) < 0 then _ else _) _ _ s; rw [if_pos (by decide)]
  try dsimp only
  refine wpAny_bind (wpAny_rule ?_); refine wpAny_bind ?_
  wp_delta
  refine wpAny_bind (wpAny_setField hO hD (by simp) ?_)
  have hOb := Heap.get?_update_self (Obj.mapFields (·.setIfInBounds 1 (rawInt (-1)))) hO (Obj.isFreed_of_fields (Obj.data_mapFields hD _))
  refine wpAny_setField (s := { s with heap := s.heap.update it (Obj.mapFields (·.setIfInBounds 1 (rawInt (-1)))) }) hOb (Obj.data_mapFields hD _) (by simp) ?_
  try dsimp only
  first
  | (show wpAny _ _ (newExc (.type "StopIteration") [] >>= _) _ _ _)
  | (refine wpAny_bind (?_); show wpAny _ _ (newExc (.type "StopIteration") [] >>= _) _ _ _)
  | (refine wpAny_bind (?_); wp_delta; show wpAny _ _ (newExc (.type "StopIteration") [] >>= _) _ _ _)
  refine wpAny_bind ?_
  simp only [newExc, newTuple]
  refine wpAny_bind (wpAny_newObj_type ?_ (by size_fits)); refine wpAny_bind (m := firstArgMember _ _) (wpAny_of_eq (a := Value.none) (by first | rfl | (simp only [firstArgMember]; rfl)) ?_)
  refine wpAny_newObj_type ?_ (by size_fits); simp only [raiseNew]
  refine wpAny_bind (wpAny_handled ?_); (first | rw [show A.in1.handled = none from hh] | rw [hh])
  refine wpAny_bind (wpAny_pure (wpAny_throw ?_)); refine wpAny_bind (wpAny_isInstance (T := "StopIteration") (b := true) ⟨_, Heap.get?_push_size _ rfl, rfl⟩ isSubtype_stop ?_)
  refine wpAny_pure (kQ _ ?_)
  refine ((?_ : Heap.ExtBut it s.heap _).push _).push _; exact fun b ob hb e => (Heap.get?_update_other _ _ (Ne.symm hb)).trans ((Heap.get?_update_other _ _ (Ne.symm hb)).trans e)
theorem iter_rs {it : Addr} {z : Str} {t : Tok} {i : Int} {Q : Value → Shared → Prop} (hI : IsRs s.heap it z t i) (h : Q (.ref it) s) : wpAny (model prog w) A (pyIter (.ref it)) Q E s := by
  refine wpAny_pyIter_slot hI.typeIs RT.slot_rt_iter (wpAny_call_entry RT.slot_rt_iter hI.typeIs RT.entry_rt_iter ?_ (RT.args_rt_iter _))
  show wpAny _ _ (ret (.ref it)) _ _ s; exact wpAny_pure ⟨_, rfl, "reversed", _, hI.typeIs, RT.slot_rt_next.lookup, h⟩
end
/-- the signs of z, from the last one on -/
def ItvS (z : Str) : It := ⟨fun i _ => i < z.length, fun i H x H' => H' = H ∧ ∃ c, z.cps[z.length - 1 - i]? = some c ∧ x = .str ⟨#[c]⟩, fun i _ => z.length ≤ i⟩
theorem turn_rs {P : Program} {w : World} {K : PySem.W.Frag} {tg : Expr} (z : Str) (t : Tok) (it : Addr) (hsz : z.length ≤ sizeLine) : Turn P w K tg (ItvS z) [it] it (fun i h => i ≤ z.length ∧ IsRs h it z t ((z.length : Int) - 1 - (i : Nat))) where
  mem := by simp
  obj := fun i h sT b hb => by
    have e : b = it := (by simpa using hb)
    subst e
    obtain ⟨_, o, e, c, d⟩ := sT
    exact ⟨o, e, fun v q => by rw [d] at q; cases q⟩
  keep := fun i h h' sT k => ⟨sT.1, sT.2.at fun o e => k it (by simp) o e⟩
  item := by
    intro X eP ew eK hc i pz s σ H E I hF sT hGo
    subst eP ew eK
    have hin : i < z.length := hGo
    have hlt : z.length - 1 - i < z.cps.size := by show _ < z.length; omega
    have hx : z.cps[z.length - 1 - i]? = some z.cps[z.length - 1 - i] := Array.getElem?_eq_getElem hlt
    obtain ⟨g0, g1, g2, g3, g4, g5⟩ := hF it (by simp)
    obtain ⟨_, hI⟩ := sT
    have e1 : (z.length : Int) - 1 - ((i : Nat) : Int) = ((z.length - 1 - i : Nat) : Int) := by omega
    rw [e1] at hI
    refine next_rs_item hI hx hsz fun h' t' tk st' sb => ?_
    have e2 : ((z.length - 1 - i : Nat) : Int) - 1 = (z.length : Int) - 1 - ((i + 1 : Nat) : Int) := by omega
    rw [e2] at st'
    have IE : Inv X pz σ H { s with heap := h', toks := tk } := I.turned (t' := tk) (fun b o hb e => (sb.2 b hb).trans e) g0 g1 g3 g4 g5
    obtain ⟨o, e, c, d⟩ := id st'
    exact ⟨_, rfl, go_of (s := { s with heap := h', toks := tk }) e c d (by decide) ⟨.str _, H, IE, ⟨_, rfl⟩, ⟨rfl, _, hx, rfl⟩, ⟨hin, st'⟩, fun b hb => (hF b hb).1⟩⟩
  done := by
    intro X eP ew eK hc i pz s σ H E I hF sT hGo
    subst eP ew eK
    obtain ⟨g0, g1, g2, g3, g4, g5⟩ := hF it (by simp)
    obtain ⟨hin, hI⟩ := sT
    have hge : z.length ≤ i := hGo
    have e1 : (z.length : Int) - 1 - ((i : Nat) : Int) = -1 := by omega
    rw [e1] at hI
    exact next_rs_end (I.ok.hd hc) hI fun h' eb => ⟨rfl, I.turned (t' := s.toks) (fun b o hb e => eb b o hb e) g0 g1 g3 g4 g5⟩
  self := fun A i s Q E sT h => iter_rs sT.2 h
def iRevS (te : TE) : TI := fun σ H R => te σ H fun v HE => ∃ z, v = .str z ∧ z.length ≤ sizeLine ∧ R (ItvS z) HE
section
variable {X : Cx} {tg : Expr}
theorem pi_revS {e : Expr} {te : TE} {p pos : Pos} (hGo : Gl X "reversed") (hm : X.mg "reversed" = none) (he : PE X e te) (hs : starEach [e] X.env = (false, eval e X.env) :: starEach [] X.env := by rfl) : PI X tg (.Call (.Name "reversed" p) [e] [] pos) (iRevS te) := by
  refine ⟨fun pz s σ H R I h => ?_⟩
  refine Call_ (ld_blt I hGo hm PyProof.Rows.boot_reversed (PyProof.Rows.callWith_type1 (args_cons (thn (he.run pz s σ H _ I h) fun u sE ⟨v, HE, IE, rE, qE⟩ => args_nil ?_) hs) hs rfl))
  obtain ⟨z, ev, hz, q⟩ := qE
  subst ev
  obtain ⟨t, rfl⟩ := rE
  have hn := line63
  refine call_reversed_str (fun A E Q k => len_str (by omega) k) (iter_rs (z := z) (t := t) (i := (z.length : Int) - 1) ⟨_, Heap.get?_push_size _ rfl, rfl, rfl⟩ ?_)
  refine pi_one (tk := sE.toks + 1 + 1) IE _ (turn_rs z t _ hz) ⟨Nat.zero_le _, ?_⟩ q
  exact ⟨_, Heap.get?_push_size _ rfl, rfl, by simp [rsObj]⟩
end
end Gw

/-! ## R2 -/
namespace Gw
open PySem PySem.Spec PyProof.Rows L2 Evl

/-! ### defs of the text, and what they keep -/
structure Def (K : PySem.W.Frag) (mg : Str → Option Value) (x : Str) (st : Stmt) (ps : List Str) : Prop where
  ex : ∃ f fd, Fun K x x st f fd ∧ mg x = some (.ref f) ∧ Binds K fd ps []
structure Cal (P : Program) (w : World) (K : PySem.W.Frag) (mg : Str → Option Value) (base : Heap) (CX : CXT) (x : Str) (k : Nat) (ps : List Str) (sp : Sp) : Prop where
  ex : ∃ f fd, FnOk P w K mg base CX k f fd ps sp ∧ mg x = some (.ref f) ∧ PySem.W.keepIn K (.ref f) = true ∧ Binds K fd ps [] ∧ ∃ oc od osl, K.lookup f = some ⟨oc, od, .func fd, osl⟩
section
variable {X : Cx} {CX : CXT} {k : Nat} {ps : List Str} {sp : Sp} {E : XK} {x : Str} {p pos : Pos} {e : Expr} {es : List Expr} {t : TA}
theorem pe_callC (c : Cal X.prog X.w X.K X.mg X.base CX x k ps sp) (hr : Room k X.A) (hg : Gl X x) (hx : Passes CX X E) (ha : PA X (e :: es) t) (hdb : (x == ("__debug__" : Str)) = false := by decide)
    (he : starEach (e :: es) X.env = (false, eval e X.env) :: starEach es X.env := by rfl) (hpl : (backTo pos (starEach es X.env)).any (·.1) = false := by rfl) :
    PE X (.Call (.Name x p) (e :: es) [] pos) (tCall sp [] E t) := by
  obtain ⟨f, fd, F, hm, hk, hb, _⟩ := c.ex
  exact pe_call F hr hg hm hk hb .nil hx ha hdb he hpl
theorem pe_callCS {E : L2.St → XK} (c : Cal X.prog X.w X.K X.mg X.base CX x k ps sp) (hr : Room k X.A) (hg : Gl X x) (hx : ∀ σ, PassesAt CX X σ (E σ)) (ha : PA X (e :: es) t) (hdb : (x == ("__debug__" : Str)) = false := by decide)
    (he : starEach (e :: es) X.env = (false, eval e X.env) :: starEach es X.env := by rfl) (hpl : (backTo pos (starEach es X.env)).any (·.1) = false := by rfl) :
    PE X (.Call (.Name x p) (e :: es) [] pos) (tCallS sp E t) := by
  obtain ⟨f, fd, F, hm, hk, hb, _⟩ := c.ex
  exact pe_callS F hr hg hm hk hb hx ha hdb he hpl
end
section
variable {P : Program} {w : World} {K : PySem.W.Frag} {mg : Str → Option Value} {base : Heap}
theorem Fun.look {x qual : Str} {st : Stmt} {f : Addr} {fd : FuncData} (F : L2.Fun K x qual st f fd) : ∃ oc od osl, K.lookup f = some ⟨oc, od, .func fd, osl⟩ := by
  obtain ⟨oc, od, _, _, _, _, _, _, osl, _, lk, _⟩ := F.ex
  exact ⟨oc, od, osl, lk⟩
theorem Def.cal {x : Str} {st : Stmt} {N ps : List Str} {k : Nat} {sp : Sp} (D : Def K mg x st ps) (S : FnScope N ps (defScope st)) (len : ∀ vs H Q E, sp vs H Q E → vs.length = ps.length)
    (hbody : ∀ (f : Addr) (cdv : Value) (A : Around) (outer : List Env) (s : Shared) (H : Hp) (vs : List V) (Q : VK) (E : XK), Room k (A.deeper (envOfC x (defScope st) s.heap.objs.size f cdv)) → sp vs H Q E →
      ∃ t, PSs (cxOf CX0 P w K mg base N x (defScope st) f cdv A outer s H E).nox (defBody st) t ∧ t { nx := fun _ H' => Q .non H', rt := Q } (start N vs) H) : Cal P w K mg base CX0 x (k + 1) ps sp := by
  obtain ⟨f, fd, F, hm, hb⟩ := D.ex
  exact ⟨f, fd, F.ok S len (fun cdv A outer s H vs Q E hr h => hbody f cdv A outer s H vs Q E hr h), hm, F.kp, hb, Fun.look F⟩
theorem Def.calX {x : Str} {st : Stmt} {N ps : List Str} {k : Nat} {sp : Sp} (D : Def K mg x st ps) (S : FnScope N ps (defScope st)) (len : ∀ vs H Q E, sp vs H Q E → vs.length = ps.length)
    (hbody : ∀ (f : Addr) (cdv : Value) (A : Around) (outer : List Env) (s : Shared) (H : Hp) (vs : List V) (Q : VK) (E : XK), Room k (A.deeper (envOfC x (defScope st) s.heap.objs.size f cdv)) → sp vs H Q E →
      ∃ t, PSs (cxOf (L2.CX P w) P w K mg base N x (defScope st) f cdv A outer s H E) (defBody st) t ∧ t { nx := fun _ H' => Q .non H', rt := Q } (start N vs) H) : Cal P w K mg base (L2.CX P w) x (k + 1) ps sp := by
  obtain ⟨f, fd, F, hm, hb⟩ := D.ex
  exact ⟨f, fd, F.okX S len (fun cdv A outer s H vs Q E hr h => hbody f cdv A outer s H vs Q E hr h), hm, F.kp, hb, Fun.look F⟩
end

section
variable {X : Cx}
theorem pss_guard {φ : Prop} {st : List Stmt} {t : TS} (h : φ → PSs X st t) : PSs X st (fun D σ H => φ ∧ t D σ H) := ⟨fun pins s σ H D I q => (h q.1).run pins s σ H D I q.2⟩
theorem hz_of {C : Addr} {cls : Value} {d : Option Addr} {oe : Obj} (h : cls = .ref C ∧ d = none) (hz : Zc cls d oe) : Zc (.ref C) none oe := by
  rw [← h.1, ← h.2]; exact hz
end
/-- names that the top leaves to the interpreter -/
structure Blt (mg : Str → Option Value) : Prop where
  z_type : mg "type" = none
  z_str : mg "str" = none
  z_all : mg "all" = none
  z_len : mg "len" = none
  z_range : mg "range" = none
  z_reversed : mg "reversed" = none
  z_isinstance : mg "isinstance" = none
  z_ValueError : mg "ValueError" = none
  z_sorted : mg "sorted" = none
  z_sum : mg "sum" = none
  z_list : mg "list" = none
  z_int : mg "int" = none
  z_bool : mg "bool" = none
  z_tuple : mg "tuple" = none
  z_min : mg "min" = none
  z_max : mg "max" = none
  z_set : mg "set" = none
/-- what the top says of the program's errors -/
structure Exn (K : PySem.W.Frag) (mg : Str → Option Value) (C_GlueError C_BadWord C_BadWeb : Addr) : Prop where
  g_GlueError : mg "GlueError" = some (.ref C_GlueError)
  g_BadWord : mg "BadWord" = some (.ref C_BadWord)
  g_BadWeb : mg "BadWeb" = some (.ref C_BadWeb)
  x_BadWord : PySem.W.excIn K C_BadWord [.type "ValueError", .type "Exception", .type "BaseException", .type "object"] "ValueError.__new__" = true
  k_BadWord : PySem.W.keepIn K (.ref C_BadWord) = true
  b_BadWord : PySem.W.subIn K (.ref C_BadWord) (.type "BaseException") = some true
  t_BadWord : PySem.W.typeIn K (.ref C_BadWord) = some (.type "type")
  e_BadWord : PySem.W.exmOne K (.ref C_BadWord) (.ref C_GlueError) = some true
  c_BadWord : ExcC K C_BadWord
  i1 : PySem.W.kitOne K (.ref C_BadWord) (.ref C_BadWord) = some true
  i2 : PySem.W.kitOne K (.ref C_BadWord) (.type "ValueError") = some true
  i3 : PySem.W.kitOne K (.ref C_BadWord) (.ref C_BadWeb) = some false
theorem def_mk {K : PySem.W.Frag} {h : Heap} {mg : Str → Option Value} {x : Str} {st : Stmt} {ps : List Str} {f : Addr} {oc : Value} {od an : Option Addr} {osl : Array (Option Value)} {kV doc pm cdv ct : Value} (X : K.In h) (G : h.Ns mainGlobals mg)
    (a : PySem.W.nsIn K mainGlobals x = some (some (.ref f))) (l : K.lookup f = some ⟨oc, od, .func (PySem.W.fnOf x x (defArgs st) (defBody st) (defScope st) .none kV doc pm an cdv ct), osl⟩) (c : PySem.W.codeIn K cdv x = true) (k : PySem.W.keepIn K (.ref f) = true)
    (hb : ∀ (kV doc pm : Value) (an : Option Addr) (cdv ct : Value) (us : List Value), us.length = ps.length → bindArgs (PySem.W.fnOf x x (defArgs st) (defBody st) (defScope st) .none kV doc pm an cdv ct) ⟨us, []⟩ = pure (ps.zip us)) : Def K mg x st ps :=
  ⟨f, _, fun_mk l c k, PySem.W.mg_of X G a, (fun_mk (st := st) l c k).binds hb⟩
theorem Cal.at {P : Program} {w : World} {K : PySem.W.Frag} {mg : Str → Option Value} {base : Heap} {CX : CXT} {x : Str} {k : Nat} {ps : List Str} {sp : Sp} {st : Stmt} {f : Addr} {fd : FuncData} (c : Cal P w K mg base CX x k ps sp) (hm : mg x = some (.ref f)) (F : L2.Fun K x x st f fd) : FnOk P w K mg base CX k f fd ps sp := by
  obtain ⟨f', fd', G, hm', _, _, oc, od, osl, lk⟩ := c.ex
  have e : f' = f := by rw [hm] at hm'; exact (Value.ref.inj (Option.some.inj hm')).symm
  subst e
  obtain ⟨oc2, od2, osl2, lk2⟩ := Fun.look F
  rw [lk] at lk2
  have e2 := Option.some.inj lk2
  injection e2 with _ _ e3 _
  injection e3 with e4
  subst e4
  exact G
theorem kit_self {K : PySem.W.Frag} {C : Addr} : PySem.W.kitOne K (.ref C) (.ref C) = some true := if_pos (beq_self_eq_true _)
theorem kit_type {K : PySem.W.Frag} {C : Addr} {T : String} {b : Bool} (m : PySem.W.kitMeta T = true) (e : PySem.W.subIn K (.ref C) (.type T) = some b) : PySem.W.kitOne K (.ref C) (.type T) = some b := by
  unfold PySem.W.kitOne
  rw [if_neg (by intro z; cases beq_iff_eq.mp z)]
  exact (if_pos m).trans e
theorem kit_other {K : PySem.W.Frag} {C D : Addr} (h1 : PySem.W.subIn K (.ref C) (.ref C) = some true) (h2 : PySem.W.subIn K (.ref C) (.ref D) = some false) (hd : PySem.W.hasDictIn K D = true) (ht : PySem.W.typeIn K (.ref D) = some (.type "type")) : PySem.W.kitOne K (.ref C) (.ref D) = some false := by
  have n : ¬ ((Value.ref C == Value.ref D) = true) := fun z => by
    have e : C = D := Value.ref.inj (beq_iff_eq.mp z)
    subst e
    rw [h1] at h2; cases h2
  unfold PySem.W.kitOne
  rw [if_neg n]
  obtain ⟨cd, hc, _⟩ := PySem.W.any_some hd
  have q : ((PySem.W.clsIn K D).isSome && PySem.W.typeIn K (.ref D) == some (.type "type")) = true := by rw [hc, ht]; rfl
  exact (if_pos q).trans h2
end Gw

/-! ## R3 -/
namespace Gw
open PySem PySem.Spec PyProof.Rows L2 Evl

/-! ### texts by their codes -/
def S (l : List Nat) : Str := ⟨l.toArray⟩
theorem S_len (l : List Nat) : (S l).length = l.length := by show l.toArray.size = _; simp
theorem S_cps (l : List Nat) : (S l).cps.toList = l := by show l.toArray.toList = _; simp
theorem S_app (a b : List Nat) : S a ++ S b = S (a ++ b) := by
  show (⟨a.toArray ++ b.toArray⟩ : Str) = ⟨(a ++ b).toArray⟩
  simp
theorem S_inj {a b : List Nat} (h : S a = S b) : a = b := by
  have := congrArg (fun z : Str => z.cps.toList) h
  simpa [S_cps] using this
theorem S_of (z : Str) : S z.cps.toList = z := by cases z; simp [S]
theorem dec_S {a b : List Nat} : decide (S a = S b) = decide (a = b) := by
  by_cases h : a = b
  · subst h; simp
  · rw [decide_eq_false h, decide_eq_false fun z => h (S_inj z)]
theorem S_sz {l : List Nat} (h : l.length ≤ 100000) : (S l).length ≤ sizeLine := by rw [S_len]; exact sz_of h

/-! ### evaluations, further ones -/
/-- a method of a text -/
def Kp (St : Hp → Prop) : Prop := ∀ H H', Ex H H' → St H → St H'
section
variable {K : PySem.W.Frag} {σ : L2.St} {H H' : Hp} {ta tb tc te tx to : TE} {t u : TT} {x y z v w : V} {r r' : R2}
theorem ev_mS {C : Str → Prop} {g : Str → V} {a : Str} (h : Ev te σ H (.str a)) (hc : C a) : Ev (tM0 (fun x xs H Q => ∃ a, x = .str a ∧ xs = [] ∧ C a ∧ Q (g a) H) te) σ H (g a) := fun H1 e Q q =>
  h H1 e _ fun H2 e2 => ⟨⟨a, rfl⟩, a, rfl, rfl, hc, q H2 e2⟩
theorem ev_joinN {a : Str} {ys : List Str} {xs : List V} (h : Ev to σ H (.str a)) (hl : EvL te σ H xs) (hx : xs = ys.map V.str) (hz : (ys.map (·.length)).sum + ys.length * a.length ≤ 16777216) :
    Ev (tM1 (fun x xs H Q => ∃ a p, ∃ ys : List Str, x = .str a ∧ xs = [.ref p] ∧ (SqL K H p (ys.map V.str) ∨ SqT K H p (ys.map V.str)) ∧ (ys.map (·.length)).sum + ys.length * a.length ≤ 16777216 ∧ Q (.str (Txt.join a ys)) H) to te) σ H (.str (Txt.join a ys)) := fun H1 e Q q =>
  h H1 e _ fun H2 e2 => ⟨⟨a, rfl⟩, hl H2 (e.trans e2) _ fun p H3 _ e3 hp => ⟨a, p, ys, rfl, rfl, Or.inl (sq_of (hp.trans (by rw [hx]))), hz, q H3 (e2.trans e3)⟩⟩
theorem ev_join {a : Str} {ys : List Str} {p : Addr} (h : Ev to σ H (.str a)) (hl : Ev te σ H (.ref p)) (hx : SqL K H p (ys.map V.str)) (hz : (ys.map (·.length)).sum + ys.length * a.length ≤ 16777216) :
    Ev (tM1 (fun x xs H Q => ∃ a p, ∃ ys : List Str, x = .str a ∧ xs = [.ref p] ∧ (SqL K H p (ys.map V.str) ∨ SqT K H p (ys.map V.str)) ∧ (ys.map (·.length)).sum + ys.length * a.length ≤ 16777216 ∧ Q (.str (Txt.join a ys)) H) to te) σ H (.str (Txt.join a ys)) := fun H1 e Q q =>
  h H1 e _ fun H2 e2 => ⟨⟨a, rfl⟩, hl H2 (e.trans e2) _ fun H3 e3 => ⟨a, p, ys, rfl, rfl, Or.inl (ex_l ((e.trans e2).trans e3) hx), hz, q H3 (e2.trans e3)⟩⟩
theorem ev_chain {b1 b2 : Bool} (ha : Ev ta σ H x) (hb : Ev tb σ H y) (hr : RV r x y H (.bl b1)) (hc : Ev tc σ H w) (hr' : RV r' y w H (.bl b2)) : Ev (tChain r r' ta tb tc) σ H (.bl (b1 && b2)) := fun H1 e Q q =>
  ha H1 e _ fun H2 e2 => hb H2 (e.trans e2) _ fun H3 e3 => hr H3 ((e.trans e2).trans e3) _ fun H4 e4 => ⟨b1, rfl, by
    cases b1 with
    | true =>
      show tc σ H4 _
      exact hc H4 (((e.trans e2).trans e3).trans e4) _ fun H5 e5 => hr' H5 ((((e.trans e2).trans e3).trans e4).trans e5) Q fun H6 e6 => q H6 ((((e2.trans e3).trans e4).trans e5).trans e6)
    | false =>
      show Q (.bl false) H4
      exact q H4 ((e2.trans e3).trans e4)⟩
theorem rv_leS {i j : Str} : RV (fun x y H Q => ∃ i j, x = .str i ∧ y = .str j ∧ Q (.bl (!decide (j.cps.toList < i.cps.toList))) H) (.str i) (.str j) H (.bl (!decide (j.cps.toList < i.cps.toList))) := fun H1 _ _ q => ⟨i, j, rfl, rfl, q H1 (Ex.refl H1)⟩
theorem rv_addS {i j : Str} (h : i.length + j.length ≤ sizeLine) : RV (fun x y H Q => ∃ i j, x = .str i ∧ y = .str j ∧ i.length + j.length ≤ sizeLine ∧ Q (.str (i ++ j)) H) (.str i) (.str j) H (.str (i ++ j)) := fun H1 _ _ q => ⟨i, j, rfl, rfl, h, q H1 (Ex.refl H1)⟩
theorem rv_eqTy {a b : String} (ha : ∀ s' : Shared, s'.TypeIs (.type a) "type") (hb : ∀ s' : Shared, s'.TypeIs (.type b) "type") : RV rEqTy (.ty a) (.ty b) H (.bl (decide (a = b))) := fun H1 _ _ q => ⟨a, b, rfl, rfl, ha, hb, q H1 (Ex.refl H1)⟩
theorem rv_isB {a b : Bool} : RV rIsB (.bl a) (.bl b) H (.bl (decide (a = b))) := fun H1 _ _ q => ⟨a, b, rfl, rfl, q H1 (Ex.refl H1)⟩
theorem rv_notB {a b : Bool} : RV rNotB (.bl a) (.bl b) H (.bl (!decide (a = b))) := fun H1 _ _ q => ⟨a, b, rfl, rfl, q H1 (Ex.refl H1)⟩
theorem Ty4.mono {x : V} {T : String} (e : Ex H H') (h : RZ.Ty4 H x T) : RZ.Ty4 H' x T := by
  cases h with
  | int i => exact .int i
  | str x => exact .str x
  | lst h => exact .lst (e _ _ h)
  | tup h => exact .tup (e _ _ h)
theorem Ty6.mono {x : V} {T : String} (e : Ex H H') (h : Ty6 H x T) : Ty6 H' x T := by
  cases h with
  | non => exact .non
  | bl b => exact .bl b
  | base h => exact .base (Ty4.mono e h)
theorem rc_type {x : V} {T : String} (h : Ty6 H x T) : RC rTy6 [x] H (.ty T) := fun H1 e _ q => ⟨x, T, rfl, h.mono e, q H1 (Ex.refl H1)⟩
theorem rc_lenS {z : Str} (h : z.length ≤ sizeLine) : RC (fun xs H Q => ∃ z, xs = [V.str z] ∧ z.length ≤ sizeLine ∧ Q (.int z.length) H) [.str z] H (.int z.length) := fun H1 e _ q => ⟨z, rfl, h, q H1 (Ex.refl H1)⟩
theorem rc_len {p : Addr} {xs : List V} (h : SqL K H p xs) : RC (fun xs H Q => ∃ p ys, xs = [V.ref p] ∧ (SqL K H p ys ∨ SqT K H p ys) ∧ Q (.int ys.length) H) [.ref p] H (.int xs.length) := fun H1 e _ q => ⟨p, xs, rfl, Or.inl (ex_l e h), q H1 (Ex.refl H1)⟩
theorem rc_isiS {z : Str} {n : String} {b : Bool} (h : PySem.W.kitOne K (.type "str") (.type n) = some b) : RC (rIsi K) [.str z, .ty n] H (.bl b) := fun H1 _ _ q => ⟨.str z, .ty n, _, _, b, rfl, .ty n, .base (.str z), h, q H1 (Ex.refl H1)⟩
theorem ev_allN {bs : List Bool} {xs : List V} (h : EvL te σ H xs) (hx : xs = bs.map V.bl) : Ev (tCB (rAll K) (tCons te tNil)) σ H (.bl (bs.all id)) := fun H1 e _ q =>
  h H1 e _ fun p H2 _ e2 hp => ⟨p, bs, rfl, sq_of (hp.trans (by rw [hx])), q H2 e2⟩
theorem ev_slS {tl th : TO} {z : Str} {lo hi : Option Int} (h : Ev te σ H (.str z)) (h1 : EvO tl σ H lo) (h2 : EvO th σ H hi) (hz : z.length ≤ sizeLine) : Ev (tSl rSlS te tl th) σ H (.str (cutS z lo hi)) := fun H1 e _ q =>
  h H1 e _ fun H2 e2 => h1 H2 (e.trans e2) _ fun H3 e3 => h2 H3 ((e.trans e2).trans e3) _ fun H4 e4 => ⟨z, rfl, hz, q H4 ((e2.trans e3).trans e4)⟩
theorem ev_revS {z : Str} (h : Ev te σ H (.str z)) (hz : z.length ≤ sizeLine) : Ev (tRevS te) σ H (.str (revS z)) := fun H1 e _ q => h H1 e _ fun H2 e2 => ⟨z, rfl, hz, q H2 e2⟩
theorem ev_ixN {xs : List V} {i : Int} (ha : EvL ta σ H xs) (hb : Ev tb σ H (.int i)) (hv : atI xs i = some v) : Ev (tOp (rIxL K) ta tb) σ H v :=
  ev_opL1 ha (fun H1 e => hb.mono e) fun p H1 hp e => rv_ixL (sq_of hp) hv

/-! ### what is walked -/
structure Wk (J : It) (items : List V) (St : Hp → Prop) : Prop where
  go : ∀ i H, St H → i < items.length → J.go i H
  yld : ∀ i H x H', St H → i < items.length → J.yld i H x H' → H' = H ∧ items[i]? = some x
  stop : ∀ i H, St H → items.length ≤ i → J.stop i H
def EvW (wi : TI) (σ : L2.St) (H : Hp) (items : List V) (St : Hp → Prop) : Prop := ∀ H0, Ex H H0 → ∀ R : It → Hp → Prop, (∀ J H1, Ex H0 H1 → Wk J items St → R J H1) → wi σ H0 R
theorem ew_list {a : Addr} {xs : List V} (h : Ev te σ H (.ref a)) (hx : SqL K H a xs) : EvW (iList K te) σ H xs (fun H' => SqL K H' a xs) := fun H0 e R q =>
  h H0 e _ fun H1 e1 => ⟨a, rfl, ⟨xs, ex_l (e.trans e1) hx⟩, q _ H1 e1 ⟨fun i H' hs hi => ⟨xs, xs[i], hs, List.getElem?_eq_getElem hi⟩, fun i H' x H'' hs hi hy => ⟨hy.1, by
    have := hy.2 xs hs
    exact this⟩, fun i H' hs hi => ⟨xs, hs, hi⟩⟩⟩
theorem ew_rng1 {n : Int} {ta : TA} (h : EvA ta σ H [.int n]) (hn : -1000000 ≤ n ∧ n ≤ 1000000) : EvW (iRng1 ta) σ H ((List.range n.toNat).map fun i => V.int (i : Nat)) (fun _ => True) := fun H0 e R q =>
  h H0 e _ fun H1 e1 => ⟨n, rfl, by omega, by omega, q _ H1 e1 ⟨fun i H' _ hi => by
    have : i < n.toNat := by simpa only [List.length_map, List.length_range] using hi
    exact this, fun i H' x H'' _ hi hy => ⟨hy.1, by
    have hi' : i < n.toNat := by simpa only [List.length_map, List.length_range] using hi
    rw [hy.2, List.getElem?_map, List.getElem?_range hi']
    show some (V.int ((i : Nat) : Int)) = some (V.int (0 + (i : Int)))
    rw [Int.zero_add]⟩, fun i H' _ hi => by
    have : n.toNat ≤ i := by simpa only [List.length_map, List.length_range] using hi
    exact this⟩⟩
def sgn (c : Nat) : V := .str ⟨#[c]⟩
theorem ew_str {z : Str} (h : Ev te σ H (.str z)) : EvW (iStr te) σ H (z.cps.toList.map sgn) (fun _ => True) := fun H0 e R q =>
  h H0 e _ fun H1 e1 => ⟨z, rfl, q _ H1 e1 ⟨fun i H' _ hi => by
    have : i < z.cps.size := by simpa using hi
    exact this, fun i H' x H'' _ hi hy => ⟨hy.1, by
    obtain ⟨_, c, hc, rfl⟩ := hy
    rw [List.getElem?_map, Array.getElem?_toList, hc]; rfl⟩, fun i H' _ hi => by
    have : z.cps.size ≤ i := by simpa using hi
    exact this⟩⟩
theorem ew_revS {z : Str} (h : Ev te σ H (.str z)) (hz : z.length ≤ sizeLine) : EvW (iRevS te) σ H (z.cps.toList.reverse.map sgn) (fun _ => True) := fun H0 e R q =>
  h H0 e _ fun H1 e1 => ⟨z, rfl, hz, q _ H1 e1 ⟨fun i H' _ hi => by
    have : i < z.cps.size := by simpa using hi
    exact this, fun i H' x H'' _ hi hy => ⟨hy.1, by
    obtain ⟨_, c, hc, rfl⟩ := hy
    have hi' : i < z.cps.toList.length := by simpa using hi
    rw [List.getElem?_map, List.getElem?_reverse hi', Array.getElem?_toList]
    have e : z.cps.toList.length - 1 - i = z.length - 1 - i := by simp [Str.length]
    rw [e, hc]; rfl⟩, fun i H' _ hi => by
    have : z.cps.size ≤ i := by simpa using hi
    exact this⟩⟩
/-- a comprehension over it -/
theorem el_lc {wi : TI} {items : List V} {St : Hp → Prop} {j : Nat} {vs : List Nat} (p : V → Bool) (f : V → V) (h : EvW wi σ H items St) (hst : St H) (hk : Kp St) (hz : items.length ≤ 40000) (hw : ∀ x, wipe ((wipe σ vs).set j (some x)) vs = wipe σ vs)
    (ht : ∀ x ∈ items, ∀ H1, Ex H H1 → EvT t ((wipe σ vs).set j (some x)) H1 (p x)) (he : ∀ x ∈ items, p x = true → ∀ H1, Ex H H1 → Ev te ((wipe σ vs).set j (some x)) H1 (f x)) :
    EvL (tLc wi (gName j) t te vs) σ H ((items.filter p).map f) := fun H0 e Q q => h H0 e _ fun J H1 e1 wk Dl hD => by
  have fl : ∀ n : Nat, (((items.take n).filter p).map f).length ≤ items.length := fun n => by
    rw [List.length_map]
    exact Nat.le_trans (List.length_filter_le _ _) (by rw [List.length_take]; exact Nat.min_le_right _ _)
  refine ⟨fun i m H' => m = items.length - i ∧ i ≤ items.length ∧ Ex H1 H' ∧ H' Dl = some (.lst (((items.take i).filter p).map f)), ⟨items.length, rfl, Nat.zero_le _, Ex.new hD, upd_same⟩, ?_⟩
  rintro i m H' ⟨rfl, hi, ex, hl⟩
  have hs : St H' := hk _ _ ((e.trans e1).trans ex) hst
  by_cases hlt : i < items.length
  · refine .inr ⟨wk.go i H' hs hlt, fun H'' => Ex H1 H'' ∧ H'' Dl = some (.lst (((items.take (i + 1)).filter p).map f)), fun H'' ⟨a, b⟩ => ⟨items.length - (i + 1), by omega, rfl, hlt, a, b⟩, ?_⟩
    intro x H'' hy
    obtain ⟨rfl, hx⟩ := wk.yld i H' x H'' hs hlt hy
    have hm : x ∈ items := List.mem_of_getElem? hx
    have tk : items.take (i + 1) = items.take i ++ [x] := by rw [List.take_add_one, hx]; rfl
    refine ⟨hw x, ?_⟩
    refine ht x hm _ ((e.trans e1).trans ex) H'' (Ex.refl _) _ fun H3 e3 => ?_
    cases hp : p x with
    | true =>
      show te _ H3 _
      refine he x hm hp _ (((e.trans e1).trans ex).trans e3) H3 (Ex.refl _) _ fun H4 e4 => ⟨_, e4 _ _ (e3 _ _ hl), sz_lt (by have := fl i; omega), Ex.mut ((ex.trans e3).trans e4) hD, ?_⟩
      rw [upd_same, tk, List.filter_append, List.map_append, List.filter_cons, if_pos hp]; rfl
    | false =>
      show Ex H1 H3 ∧ H3 Dl = _
      refine ⟨ex.trans e3, ?_⟩
      rw [e3 _ _ hl, tk, List.filter_append, List.map_append, List.filter_cons, if_neg (by rw [hp]; decide)]
      simp
  · refine .inl ⟨wk.stop i H' hs (by omega), q Dl H' (fresh_back e1 hD) (e1.trans ex) ?_⟩
    rw [hl, List.take_of_length_le (by omega)]
theorem et_yes : EvT tYes σ H true := fun H1 _ _ q => q H1 (Ex.refl H1)
/-- .. without a test -/
theorem el_lcA {wi : TI} {items : List V} {St : Hp → Prop} {j : Nat} {vs : List Nat} (f : V → V) (h : EvW wi σ H items St) (hst : St H) (hk : Kp St) (hz : items.length ≤ 40000) (hw : ∀ x, wipe ((wipe σ vs).set j (some x)) vs = wipe σ vs)
    (he : ∀ x ∈ items, ∀ H1, Ex H H1 → Ev te ((wipe σ vs).set j (some x)) H1 (f x)) : EvL (tLc wi (gName j) tYes te vs) σ H (items.map f) := by
  have := el_lc (t := tYes) (fun _ => true) f h hst hk hz hw (fun _ _ _ _ => et_yes) (fun x hx _ => he x hx)
  rw [List.filter_eq_self.mpr fun _ _ => rfl] at this
  exact this
theorem kp_true : Kp fun _ => True := fun _ _ _ _ => trivial
theorem kp_list {a : Addr} {xs : List V} : Kp fun H => SqL K H a xs := fun _ _ e h => ex_l e h
variable {D : Ends} {tu tz : TS} {g : TG}
/-- a loop over it -/
theorem s_for {wi : TI} {items : List V} {St : Hp → Prop} (h : EvW wi σ H items St) (Pv : Nat → L2.St → Hp → Prop) (h0 : ∀ H1, Ex H H1 → Pv 0 σ H1) (hl : ∀ i σ' H', i ≤ items.length → Pv i σ' H' → St H')
    (hs : ∀ i x σ' H', items[i]? = some x → Pv i σ' H' → g x σ' H' fun σ2 H2 => tu { D with nx := Pv (i + 1), ct := Pv (i + 1), bk := D.nx } σ2 H2) (hd : ∀ σ' H', Pv items.length σ' H' → D.nx σ' H') : tFor wi g tu D σ H :=
  h H (Ex.refl H) _ fun J H1 e1 wk => by
    refine ⟨fun i m σ' H' => m = items.length - i ∧ i ≤ items.length ∧ Pv i σ' H', ⟨items.length, rfl, Nat.zero_le _, h0 H1 e1⟩, ?_⟩
    rintro i m σ' H' ⟨rfl, hi, p⟩
    have hst := hl i σ' H' hi p
    by_cases hlt : i < items.length
    · refine .inr ⟨wk.go i H' hst hlt, Pv (i + 1), fun σ2 H2 a => ⟨items.length - (i + 1), by omega, rfl, hlt, a⟩, ?_⟩
      intro x H'' hy
      obtain ⟨rfl, hx⟩ := wk.yld i H' x H'' hst hlt hy
      exact hs i x σ' H'' hx p
    · refine .inl ⟨wk.stop i H' hst (by omega), ?_⟩
      have e : i = items.length := by omega
      subst e
      exact hd σ' H' p
theorem q_for {wi : TI} {items : List V} {St : Hp → Prop} (h : EvW wi σ H items St) (Pv : Nat → L2.St → Hp → Prop) (h0 : ∀ H1, Ex H H1 → Pv 0 σ H1) (hl : ∀ i σ' H', i ≤ items.length → Pv i σ' H' → St H')
    (hs : ∀ i x σ' H', items[i]? = some x → Pv i σ' H' → g x σ' H' fun σ2 H2 => tu { D with nx := Pv (i + 1), ct := Pv (i + 1), bk := tz D } σ2 H2) (hd : ∀ σ' H', Pv items.length σ' H' → tz D σ' H') : tSeq (tFor wi g tu) tz D σ H :=
  s_for (D := { D with nx := tz D }) h Pv h0 hl hs hd
end

section
variable {K : PySem.W.Frag} {σ : L2.St} {H H' : Hp} {ta tb tc te tx to : TE} {t u : TT} {x y z v w : V} {D : Ends} {tz : TS}
/-- a list's truth -/
theorem et_truL {p : Addr} {xs : List V} (h : Ev ta σ H (.ref p)) (hx : SqL K H p xs) : EvT (fun σ H Q => ta σ H fun x H' => ∃ k, TruV K x H' k ∧ Q k H') σ H (!xs.isEmpty) := fun H1 e Q q =>
  h H1 e _ fun H2 e2 => ⟨_, Or.inl ⟨xs, ex_l (e.trans e2) hx, rfl⟩, q H2 e2⟩
theorem s_pop {l : Addr} {xs : List V} (hl : H l = some (.lst xs)) (ha : Ev ta σ H (.ref l)) (hy : xs[xs.length - 1]? = some y) (k : ∀ H1, Ex H H1 → D.nx σ (upd H1 l (.lst xs.dropLast))) : tDrop (tBM0 K "list" rPop ta) D σ H :=
  ha H (Ex.refl H) _ fun H1 e1 => ⟨Or.inl ⟨rfl, xs, sq_of (e1 l _ hl)⟩, l, xs, y, rfl, rfl, e1 l _ hl, hy, k H1 e1⟩
theorem q_pop {l : Addr} {xs : List V} (hl : H l = some (.lst xs)) (ha : Ev ta σ H (.ref l)) (hy : xs[xs.length - 1]? = some y) (k : ∀ H1, Ex H H1 → tz D σ (upd H1 l (.lst xs.dropLast))) : tSeq (tDrop (tBM0 K "list" rPop ta)) tz D σ H :=
  s_pop (D := { D with nx := tz D }) hl ha hy k
end
/-! ### joined signs -/
theorem join_ones : ∀ l : List Nat, Txt.join (S []) (l.map fun c => S [c]) = S l := by
  intro l
  have e := SX.join_S [] (l.map fun c => [c])
  have e2 : (l.map fun c => [c]).map SX.S = l.map fun c => S [c] := by rw [List.map_map]; rfl
  rw [e2] at e
  have j : ∀ l : List Nat, TL.joinL [] (l.map fun c => [c]) = l := by
    intro l
    induction l with
    | nil => rfl
    | cons a r ih =>
      cases r with
      | nil => rfl
      | cons b r =>
        show [a] ++ ([] ++ TL.joinL [] ((b :: r).map fun c => [c])) = _
        rw [ih]; rfl
  rw [j] at e
  exact e
theorem ones_size (l : List Nat) : ((l.map fun c => S [c]).map (·.length)).sum + (l.map fun c => S [c]).length * (S []).length = l.length := by
  rw [S_len, List.length_nil, Nat.mul_zero, Nat.add_zero]
  induction l with
  | nil => rfl
  | cons a r ih => rw [List.map_cons, List.map_cons, List.sum_cons, ih, S_len, List.length_cons]; simp; omega
theorem sgn_map (l : List Nat) : l.map sgn = (l.map fun c => S [c]).map V.str := by rw [List.map_map]; rfl
/-! ### signs turned about -/
theorem swap_tab : ∀ c, c < 123 → isL c = true → Txt.swapcase (S [c]) = S [bk c] := by decide +kernel
theorem swap_one {c : Nat} (h : isL c = true) : Txt.swapcase (S [c]) = S [bk c] := swap_tab c (by rw [isL_iff] at h; omega) h
theorem lower_tab : ∀ c, c < 123 → isL c = true → Txt.lower (S [c]) = S [if 97 ≤ c then c else c + 32] := by decide +kernel
theorem lower_one {c : Nat} (h : isL c = true) : Txt.lower (S [c]) = S [if 97 ≤ c then c else c + 32] := lower_tab c (by rw [isL_iff] at h; omega) h
theorem upper_tab : ∀ c, c < 123 → isL c = true → Txt.upper (S [c]) = S [if 97 ≤ c then c - 32 else c] := by decide +kernel
theorem upper_one {c : Nat} (h : isL c = true) : Txt.upper (S [c]) = S [if 97 ≤ c then c - 32 else c] := upper_tab c (by rw [isL_iff] at h; omega) h

/-! ### flat data compared -/
def flat1 : V → Bool
  | .non | .bl _ | .int _ => true
  | .str x => PyData.canLay0 (.str x)
  | _ => false
def fd : V → PyData
  | .bl b => .bool b
  | .int i => .int i
  | .str x => .str x
  | _ => .none
theorem dp_flat {K : PySem.W.Frag} {H : Hp} : ∀ {x : V}, flat1 x = true → Dp K H x (fd x)
  | .non, _ => .non
  | .bl b, _ => .bl b
  | .int i, _ => .int i
  | .str x, _ => .str x
theorem dpAll_flat {K : PySem.W.Frag} {H : Hp} : ∀ {xs : List V}, xs.all flat1 = true → DpAll K H xs (xs.map fd)
  | [], _ => .nil
  | x :: xs, h => by
    rw [List.all_cons, Bool.and_eq_true] at h
    exact .cons (dp_flat h.1) (dpAll_flat h.2)
theorem lay_flat : ∀ {x : V}, flat1 x = true → (fd x).canLay0 = true
  | .non, _ => rfl
  | .bl b, _ => rfl
  | .int i, _ => rfl
  | .str x, h => h
theorem depth_flat : ∀ {x : V}, flat1 x = true → (fd x).depth = 0
  | .non, _ => rfl
  | .bl b, _ => rfl
  | .int i, _ => rfl
  | .str x, h => rfl
theorem layAll_flat : ∀ {xs : List V}, xs.all flat1 = true → PyData.canLayAll0 (xs.map fd) = true ∧ PyData.depthAll (xs.map fd) = 0
  | [], _ => ⟨rfl, rfl⟩
  | x :: xs, h => by
    rw [List.all_cons, Bool.and_eq_true] at h
    obtain ⟨a, b⟩ := layAll_flat h.2
    refine ⟨?_, ?_⟩
    · show ((fd x).canLay0 && PyData.canLayAll0 (xs.map fd)) = true
      rw [lay_flat h.1, a]; rfl
    · show max (fd x).depth (PyData.depthAll (xs.map fd)) = 0
      rw [depth_flat h.1, b]; rfl
theorem shaped_flat {xs : List V} (h : xs.all flat1 = true) : SeqAt.shaped (.list (xs.map fd)) = true := by
  obtain ⟨a, b⟩ := layAll_flat h
  show (PyData.canLayAll0 (xs.map fd) && decide (PyData.depthAll (xs.map fd) + 1 ≤ 64)) = true
  rw [a, b]; rfl
theorem rv_neNil {K : PySem.W.Frag} {H : Hp} {p q : Addr} {xs : List V} (hp : SqL K H p xs) (hq : SqL K H q []) (h : xs.all flat1 = true) : RV (rNeD K) (.ref p) (.ref q) H (.bl (!xs.isEmpty)) := fun H1 e Q k =>
  ⟨.list (xs.map fd), .list [], .lst (ex_l e hp) (dpAll_flat h), .lst (ex_l e hq) .nil, shaped_flat h, rfl, by
    have : PyData.eqv (.list (xs.map fd)) (.list []) = xs.isEmpty := by cases xs <;> rfl
    rw [this]; exact k H1 (Ex.refl _)⟩
theorem cut_to {u : List Nat} {k : Nat} : cutS (S u) none (some (k : Int)) = S (u.take k) := by
  unfold cutS
  rw [S_cps, S_len, HT.sIx_none, HT.sIx_nat]
  show S ((u.drop 0).take (min k u.length - 0)) = _
  rw [List.drop_zero, Nat.sub_zero]
  by_cases h : k ≤ u.length
  · rw [Nat.min_eq_left h]
  · rw [Nat.min_eq_right (by omega), List.take_of_length_le (Nat.le_refl _), List.take_of_length_le (by omega)]
theorem cut_from {u : List Nat} {k : Nat} : cutS (S u) (some (k : Int)) none = S (u.drop k) := by
  unfold cutS
  rw [S_cps, S_len, HT.sIx_none, HT.sIx_nat]
  show S ((u.drop (min k u.length)).take (u.length - min k u.length)) = _
  by_cases h : k ≤ u.length
  · rw [Nat.min_eq_left h, List.take_of_length_le (by rw [List.length_drop]; exact Nat.le_refl _)]
  · rw [Nat.min_eq_right (by omega), List.drop_eq_nil_of_le (Nat.le_refl _), List.drop_eq_nil_of_le (by omega), List.take_nil]

/-! ### displays that hold new objects -/
def EvP (ta : TA) (σ : L2.St) (H : Hp) (P : List V → Hp → Prop) : Prop := ∀ H1, Ex H H1 → ∀ Q : List V → Hp → Prop, (∀ vs H2, Ex H1 H2 → P vs H2 → Q vs H2) → ta σ H1 Q
def KpP (P : List V → Hp → Prop) : Prop := ∀ vs H H', Ex H H' → P vs H → P vs H'
section
variable {K : PySem.W.Frag} {σ : L2.St} {H H' : Hp} {ta tb tc te tx to : TE} {tr : TA} {x y z v w : V} {D : Ends} {tz : TS} {P : List V → Hp → Prop}
theorem ep_nil : EvP tNil σ H (fun vs _ => vs = []) := fun H1 _ Q q => q _ H1 (Ex.refl _) rfl
theorem ep_cons (h : Ev te σ H x) (hr : EvP tr σ H P) : EvP (tCons te tr) σ H (fun vs H => ∃ r, vs = x :: r ∧ P r H) := fun H1 e Q q =>
  h H1 e _ fun H2 e2 => hr H2 (e.trans e2) _ fun r H3 e3 hp => q _ H3 (e2.trans e3) ⟨r, rfl, hp⟩
theorem ep_consL {xs : List V} (h : EvL te σ H xs) (hr : EvP tr σ H P) : EvP (tCons te tr) σ H (fun vs H => ∃ p r, vs = .ref p :: r ∧ H p = some (.lst xs) ∧ P r H) := fun H1 e Q q =>
  h H1 e _ fun p H2 _ e2 h2 => hr H2 (e.trans e2) _ fun r H3 e3 hp => q _ H3 (e2.trans e3) ⟨p, r, rfl, e3 _ _ h2, hp⟩
theorem ep_consU {xs : List V} (h : EvU te σ H xs) (hr : EvP tr σ H P) : EvP (tCons te tr) σ H (fun vs H => ∃ p r, vs = .ref p :: r ∧ H p = some (.tup xs) ∧ P r H) := fun H1 e Q q =>
  h H1 e _ fun p H2 _ e2 h2 => hr H2 (e.trans e2) _ fun r H3 e3 hp => q _ H3 (e2.trans e3) ⟨p, r, rfl, e3 _ _ h2, hp⟩
theorem kp_nil : KpP (fun vs _ => vs = []) := fun _ _ _ _ h => h
theorem kp_cons (h : KpP P) : KpP (fun vs H => ∃ r, vs = x :: r ∧ P r H) := fun _ _ _ e ⟨r, a, b⟩ => ⟨r, a, h _ _ _ e b⟩
theorem kp_consL {xs : List V} (h : KpP P) : KpP (fun vs H => ∃ p r, vs = .ref p :: r ∧ H p = some (.lst xs) ∧ P r H) := fun _ _ _ e ⟨p, r, a, b, c⟩ => ⟨p, r, a, e _ _ b, h _ _ _ e c⟩
theorem kp_consU {xs : List V} (h : KpP P) : KpP (fun vs H => ∃ p r, vs = .ref p :: r ∧ H p = some (.tup xs) ∧ P r H) := fun _ _ _ e ⟨p, r, a, b, c⟩ => ⟨p, r, a, e _ _ b, h _ _ _ e c⟩
theorem s_asgP {i : Nat} (h : EvP tr σ H P) (kp : KpP P) (hz : ∀ vs H1, P vs H1 → vs.length ≤ 100000) (k : ∀ p vs H1, H p = none → Ex H H1 → H1 p = some (.lst vs) → P vs H1 → D.nx (σ.set i (some (.ref p))) H1) : tAsg (tLst tr) (gName i) D σ H :=
  h H (Ex.refl _) _ fun vs H1 e hp => ⟨sz_of (hz _ _ hp), fun p hn => k p vs _ (fresh_back e hn) (e.trans (Ex.new hn)) upd_same (kp _ _ _ (Ex.new hn) hp)⟩
theorem q_asgP {i : Nat} (h : EvP tr σ H P) (kp : KpP P) (hz : ∀ vs H1, P vs H1 → vs.length ≤ 100000) (k : ∀ p vs H1, H p = none → Ex H H1 → H1 p = some (.lst vs) → P vs H1 → tz D (σ.set i (some (.ref p))) H1) : tSeq (tAsg (tLst tr) (gName i)) tz D σ H :=
  s_asgP (D := { D with nx := tz D }) h kp hz k
theorem rc_isE {D a : Addr} {c : V} {cv : Value} {b : Bool} (h1 : ∀ u, RelV c u → u = cv) (h2 : PySem.W.kitOne K (.ref D) cv = some b) : RC (rIsE K D a) [.ref a, c] H (.bl b) := fun H1 _ Q q => ⟨c, cv, b, rfl, h1, h2, q H1 (Ex.refl _)⟩
end
end Gw

/-! ## R4 -/
namespace Gw
open PySem PySem.Spec PyProof.Rows L2 Evl

/-! ### sorted, of ties: (int, sign, int) -/
abbrev K3 := Int × Nat × Int
def lt3 (p q : K3) : Bool := if p.1 = q.1 then (if p.2.1 = q.2.1 then decide (p.2.2 < q.2.2) else decide (p.2.1 < q.2.1)) else decide (p.1 < q.1)
theorem lt3_iff {p q : K3} : lt3 p q = true ↔ p.1 < q.1 ∨ (p.1 = q.1 ∧ (p.2.1 < q.2.1 ∨ (p.2.1 = q.2.1 ∧ p.2.2 < q.2.2))) := by
  unfold lt3
  split
  · split
    · rw [decide_eq_true_eq]; omega
    · rw [decide_eq_true_eq]; omega
  · rw [decide_eq_true_eq]; omega
theorem lt3_no {p q : K3} : lt3 p q = false ↔ ¬ (p.1 < q.1 ∨ (p.1 = q.1 ∧ (p.2.1 < q.2.1 ∨ (p.2.1 = q.2.1 ∧ p.2.2 < q.2.2)))) := by
  rw [← lt3_iff]; cases lt3 p q <;> simp
theorem swo3 {α : Type} (k : α → K3) : SrtO.Swo fun v u => lt3 (k v) (k u) := by
  refine ⟨fun x y h => ?_, fun x y z h1 h2 => ?_⟩
  · have a := lt3_iff.mp h
    refine lt3_no.mpr ?_
    omega
  · have a := lt3_no.mp h1
    have b := lt3_no.mp h2
    refine lt3_no.mpr ?_
    omega
def IsTie (h : Heap) (v : Value) (p : K3) : Prop := ∃ a o t u w n, v = .ref a ∧ h.get? a = some o ∧ o.cls = .type "tuple" ∧ o.data = .seq #[.int p.1 t, .str ⟨#[p.2.1]⟩ u, .int p.2.2 w] n
theorem IsTie.keeps {h h' : Heap} {v : Value} {p : K3} (q : IsTie h v p) (k : ∀ b o, h.get? b = some o → o.cls = .type "tuple" → h'.get? b = some o) : IsTie h' v p := by
  obtain ⟨a, o, t, u, w, n, e, ho, hc, hd⟩ := q
  exact ⟨a, o, t, u, w, n, e, k _ _ ho hc, hc, hd⟩
section
variable {prog : Program} {w : World} {A : Around} {E : Value → Shared → Prop} {s : Shared}
theorem tie_cmp {vs : List Value} {k : Value → K3} (hp : ∀ v ∈ vs, IsTie s.heap v (k v)) : SrtO.Cmp prog w A s (tuples' true) (fun p => p.1 ∈ vs) (SrtO.lt2 fun v u => lt3 (k v) (k u)) := by
  intro p q hm hm'
  have h1 := hp _ hm
  have h2 := hp _ hm'
  show wpAny (model prog w) A (keyLt' (tuples' true) p.1 q.1) (fun r s' => s' = s ∧ r = lt3 (k p.1) (k q.1)) (fun _ _ => False) s
  generalize k p.1 = x at h1 ⊢
  generalize k q.1 = y at h2 ⊢
  obtain ⟨x1, x2, x3⟩ := x
  obtain ⟨y1, y2, y3⟩ := y
  obtain ⟨a, o, t, u, v, n, e, ho, hc, hd⟩ := h1
  obtain ⟨a', o', t', u', v', n', e', ho', hc', hd'⟩ := h2
  rw [e, e']
  refine PySem.W.kat_lt ho hd ho' hd' ?_
  show PySem.W.KatLex prog w A true (decide (3 < 3)) _ [(.int x1 t, .int y1 t'), (.str ⟨#[x2]⟩ u, .str ⟨#[y2]⟩ u'), (.int x3 v, .int y3 v')] 0 s
  refine PySem.W.kat_cons (SeqAt.EqAt.int_int x1 t y1 t' prog w _ _ ?_)
  refine PySem.W.kat_go (fun e1 => ?_) (fun e1 => ?_)
  · have ex : x1 = y1 := by simpa using e1
    refine PySem.W.kat_yes (PySem.W.kat_cons (SeqAt.EqAt.str_str ⟨#[x2]⟩ u ⟨#[y2]⟩ u' prog w _ _ ?_))
    refine PySem.W.kat_go (fun e2 => ?_) (fun e2 => ?_)
    · have ey : x2 = y2 := by
        have : (⟨#[x2]⟩ : Str) = ⟨#[y2]⟩ := by simpa using e2
        simpa using this
      refine PySem.W.kat_yes (PySem.W.kat_cons (SeqAt.EqAt.int_int x3 v y3 v' prog w _ _ ?_))
      refine PySem.W.kat_go (fun e3 => ?_) (fun e3 => ?_)
      · have ez : x3 = y3 := by simpa using e3
        refine PySem.W.kat_yes (PySem.W.kat_nil ⟨rfl, ?_⟩)
        subst ex ey ez
        unfold lt3; simp
      · refine PySem.W.kat_no (PySem.W.kat_one _ _ (PyProof.Rows.lt_int ?_))
        refine (show s = s ∧ decide (x3 < y3) = lt3 (x1, x2, x3) (y1, y2, y3) from ⟨rfl, ?_⟩)
        unfold lt3; rw [if_pos ex, if_pos ey]
    · have ey : ¬ x2 = y2 := fun z => by
        subst z
        simp at e2
      refine PySem.W.kat_no (PySem.W.kat_one _ _ (PyProof.Rows.lt_str ?_))
      refine (show s = s ∧ decide ((⟨#[x2]⟩ : Str).cps.toList < (⟨#[y2]⟩ : Str).cps.toList) = lt3 (x1, x2, x3) (y1, y2, y3) from ⟨rfl, ?_⟩)
      unfold lt3; rw [if_pos ex, if_neg ey]
      show decide ([x2] < [y2]) = decide (x2 < y2)
      by_cases hc : x2 < y2
      · rw [decide_eq_true hc, decide_eq_true (List.cons_lt_cons_iff.mpr (Or.inl hc))]
      · rw [decide_eq_false hc, decide_eq_false fun z => by
          rcases List.cons_lt_cons_iff.mp z with z | ⟨_, z⟩
          · exact hc z
          · exact absurd z (by simp)]
  · have ex : ¬ x1 = y1 := by simpa using e1
    refine PySem.W.kat_no (oneLt_int ⟨rfl, ?_⟩)
    unfold lt3; rw [if_neg ex]
theorem ties_firsts {h : Heap} : ∀ {vs : List Value}, (∀ v ∈ vs, ∃ p, IsTie h v p) → ∃ fs : List Value, PySem.W.KatTups h vs fs ∧ fs.length = vs.length ∧ ∀ f ∈ fs, ∃ x t, f = Value.int x t
  | [], _ => ⟨[], PySem.W.KatTups.nil, rfl, fun _ hm => by cases hm⟩
  | v :: vs, hp => by
    obtain ⟨fs, h1, h2, h3⟩ := ties_firsts (vs := vs) fun v' hm => hp v' (List.mem_cons_of_mem _ hm)
    obtain ⟨p, a, o, t, u, w, n, e, ho, hc, hd⟩ := hp v List.mem_cons_self
    subst e
    refine ⟨.int p.1 t :: fs, PySem.W.KatTups.cons ho hc hd rfl h1, by simp [h2], fun f hm => ?_⟩
    rcases List.mem_cons.mp hm with e | hm
    · exact ⟨p.1, t, e⟩
    · exact h3 f hm
theorem ties_sortable {a : Addr} {vs : List Value} {k : Value → K3} (h0 : 0 < vs.length) (hp : ∀ v ∈ vs, IsTie s.heap v (k v)) (ha : ∀ o, s.heap.get? a = some o → o.cls ≠ .type "tuple") : SrtO.SortableO prog w A s a vs fun v u => lt3 (k v) (k u) := by
  intro h' keep
  have hp' : ∀ v ∈ vs, IsTie h' v (k v) := fun v hm => (hp v hm).keeps fun b o e c => keep b o (fun z => by subst z; exact ha o e c) e
  obtain ⟨fs, h1, h2, h3⟩ := ties_firsts fun v hm => ⟨_, hp' v hm⟩
  refine ⟨tuples' true, fun Q E hq => ?_, tie_cmp (s := { s with heap := h' }) hp'⟩
  refine PySem.W.kat_kind (T := .type "int") h1 (by omega) (fun f hm => ?_) rfl ?_
  · obtain ⟨x, t, rfl⟩ := h3 f hm
    exact PySem.W.Looks.now
  · have e : (Value.type "int" != Value.type "tuple") = true := by decide +kernel
    rw [e]; exact hq
end
/-- sorted(xs), xs ties: a new list, risen -/
def rSort3 (K : PySem.W.Frag) : List V → Hp → VK → Prop := fun vs H Q => ∃ (a : Addr) (xs : List V) (k : V → K3), vs = [V.ref a] ∧ SqL K H a xs ∧ (∀ x ∈ xs, ∃ t, x = V.ref t ∧ H t = some (.tup [.int (k x).1, sgn (k x).2.1, .int (k x).2.2])) ∧
  ∀ ys p, SrtO.Srtd (fun x y => lt3 (k x) (k y)) ys → SrtO.Stb (fun x y => lt3 (k x) (k y)) ys xs → H p = none → Q (.ref p) (upd H p (.lst ys))
theorem cr_sorted3 {X : Cx} : CallR X (.builtin "sorted") (rSort3 X.K) := by
  intro pins s σ H vs us Q I r h
  obtain ⟨a, xs, k, rfl, hs, hx, q⟩ := h
  obtain ⟨its, rv, hl, hz⟩ := I.list hs
  obtain ⟨u, rfl, ru⟩ := vals1 r
  obtain rfl : u = Value.ref a := ru
  obtain ⟨e1, e2⟩ := refs_back rv fun x m => (hx x m).elim fun t z => ⟨t, z.1⟩
  have ties : ∀ v ∈ its, IsTie s.heap v (k (backV v)) := fun v hv => by
    obtain ⟨t, rfl⟩ := e2 v hv
    have hm : V.ref t ∈ xs := by rw [e1]; exact List.mem_map.mpr ⟨_, hv, rfl⟩
    obtain ⟨t', e, ht⟩ := hx _ hm
    cases e
    obtain ⟨_, its2, r2, o, ho, hc, n, hd⟩ := I.hok _ _ ht
    cases r2 with
    | cons ra r2 =>
      cases r2 with
      | cons rb r2 =>
        cases r2 with
        | cons rc r2 =>
          cases r2
          obtain ⟨t1, rfl⟩ := ra
          obtain ⟨t2, rfl⟩ := rb
          obtain ⟨t3, rfl⟩ := rc
          exact ⟨t, o, t1, t2, t3, n, rfl, ho, hc, hd⟩
  refine SrtO.sorted_ord (ltv := fun v u => lt3 (k (backV v)) (k (backV u))) (swo3 _) hl.isList (by rw [← rv.length]; exact hz) (fun h2 h₁ a' ha kk => ?_) fun out hso hsb => ?_
  · refine ties_sortable (s := { s with heap := h₁ }) (by omega) (fun v hm => (ties v hm).keeps fun b o e _ => (kk b o e).2) fun o e => ?_
    have e' : some o = some (seqObj "list" its.toArray 0) := e.symm.trans ha
    cases e'
    intro c
    exact absurd (Value.type.inj c) (by decide)
  · have h3 : ∀ u ∈ out, ∃ a, u = Value.ref a := fun u hu => e2 u (hsb.perm.mem_iff.mp hu)
    have hb : SrtO.Stb (fun x y => lt3 (k x) (k y)) (out.map backV) xs := by
      rw [e1]; exact SrtO.Stb.map (swo3 k) backV hsb
    obtain ⟨n, hn⟩ := sortedAll_at s.heap its out.toArray
    refine ⟨.ref (s.heap.objs.size + 1), upd H _ (.lst (out.map backV)), I.laid (t' := s.toks) (fun b o e => sortedAll_old e) (Nat.le_succ _) ⟨?_, out, n, vals_back h3, hn⟩, rfl, q _ _ (SrtO.srtd_map hso) hb (I.hok.fresh (Nat.le_succ _))⟩
    rw [hb.len]; exact hz
end Gw

/-! ## W1 -/
/-! webs: ties, leads, walks; what is made; folded webs -/
namespace Gw
abbrev Tie := Nat × Nat × Nat
/-- letter c leads from r to s -/
def Ld (T : List Tie) (r c s : Nat) : Prop := (97 ≤ c ∧ c ≤ 122 ∧ (r, c, s) ∈ T) ∨ (65 ≤ c ∧ c ≤ 90 ∧ (s, c + 32, r) ∈ T)
theorem Ld.isL {T : List Tie} {r c s : Nat} (h : Ld T r c s) : isL c = true := by
  rw [isL_iff]
  rcases h with ⟨a, b, _⟩ | ⟨a, b, _⟩
  · exact Or.inl ⟨a, b⟩
  · exact Or.inr ⟨a, b⟩
theorem Ld.back {T : List Tie} {r c s : Nat} (h : Ld T r c s) : Ld T s (bk c) r := by
  rcases h with ⟨a, b, m⟩ | ⟨a, b, m⟩
  · refine Or.inr ?_
    unfold bk; rw [if_pos a]
    refine ⟨by omega, by omega, ?_⟩
    rw [show c - 32 + 32 = c by omega]; exact m
  · refine Or.inl ?_
    unfold bk; rw [if_neg (by omega)]
    exact ⟨by omega, by omega, m⟩
def Folded (T : List Tie) : Prop := ∀ r c s s', Ld T r c s → Ld T r c s' → s = s'
def Wlk (T : List Tie) : Nat → List Nat → Nat → Prop
  | r, [], s => r = s
  | r, c :: w, s => ∃ m, Ld T r c m ∧ Wlk T m w s
theorem Wlk.isW {T : List Tie} : ∀ {w : List Nat} {r s : Nat}, Wlk T r w s → isW w = true
  | [], _, _, _ => rfl
  | c :: w, r, s, ⟨m, h, t⟩ => isW_cons.mpr ⟨h.isL, t.isW⟩
theorem Wlk.app {T : List Tie} : ∀ {u v : List Nat} {r m s : Nat}, Wlk T r u m → Wlk T m v s → Wlk T r (u ++ v) s
  | [], v, r, m, s, h, k => by
    have h' : r = m := h
    subst h'; exact k
  | c :: u, v, r, m, s, ⟨x, h, t⟩, k => ⟨x, h, Wlk.app t k⟩
theorem Wlk.split {T : List Tie} : ∀ {u v : List Nat} {r s : Nat}, Wlk T r (u ++ v) s → ∃ m, Wlk T r u m ∧ Wlk T m v s
  | [], v, r, s, h => ⟨r, rfl, h⟩
  | c :: u, v, r, s, ⟨x, h, t⟩ => by
    obtain ⟨m, a, b⟩ := Wlk.split (u := u) t
    exact ⟨m, ⟨x, h, a⟩, b⟩
theorem Wlk.one {T : List Tie} {r c s : Nat} (h : Ld T r c s) : Wlk T r [c] s := ⟨s, h, rfl⟩
theorem Wlk.back {T : List Tie} : ∀ {w : List Nat} {r s : Nat}, Wlk T r w s → Wlk T s (inv w) r
  | [], r, s, h => by
    have h' : r = s := h
    subst h'; rfl
  | c :: w, r, s, ⟨m, h, t⟩ => by
    rw [inv_cons]
    exact t.back.app (Wlk.one h.back)
theorem Wlk.out {T : List Tie} (F : Folded T) {u v : List Nat} {r s : Nat} (h : Wlk T r u s) (o : Out u v) : Wlk T r v s := by
  cases o with
  | mk u v a ha =>
    obtain ⟨m, h1, x, l1, y, l2, h2⟩ := h.split
    have : y = m := by
      have := l1.back
      exact F _ _ _ _ l2 this
    subst this
    exact h1.app h2
theorem Wlk.red {T : List Tie} (F : Folded T) {u v : List Nat} {r s : Nat} (h : Wlk T r u s) (o : Red u v) : Wlk T r v s := by
  induction o with
  | refl u => exact h
  | step a _ ih => exact ih (h.out F a)
theorem Wlk.det {T : List Tie} (F : Folded T) : ∀ {w : List Nat} {r s s' : Nat}, Wlk T r w s → Wlk T r w s' → s = s'
  | [], r, s, s', h, k => (show r = s from h).symm.trans k
  | c :: w, r, s, s', ⟨m, h, t⟩, ⟨m', h', t'⟩ => by
    have := F _ _ _ _ h h'
    subst this
    exact t.det F t'
/-- a word is read -/
def Rds (T : List Tie) (w : List Nat) : Prop := Wlk T 0 (short w) 0
theorem rds_of {T : List Tie} (F : Folded T) {w : List Nat} (h : Wlk T 0 w 0) : Rds T w := h.red F (red_short h.isW)

/-! ### what a row makes -/
inductive Gn (ws : List (List Nat)) : List Nat → Prop
  | nil : Gn ws []
  | word {w v} (h : w ∈ ws) (t : Gn ws v) : Gn ws (w ++ v)
  | back {w v} (h : w ∈ ws) (t : Gn ws v) : Gn ws (inv w ++ v)
theorem Gn.app {ws : List (List Nat)} {u v : List Nat} (a : Gn ws u) (b : Gn ws v) : Gn ws (u ++ v) := by
  induction a with
  | nil => exact b
  | word h _ ih => rw [List.append_assoc]; exact .word h ih
  | back h _ ih => rw [List.append_assoc]; exact .back h ih
theorem Gn.one {ws : List (List Nat)} {w : List Nat} (h : w ∈ ws) : Gn ws w := by
  have := Gn.word h Gn.nil
  rwa [List.append_nil] at this
theorem Gn.oneBack {ws : List (List Nat)} {w : List Nat} (h : w ∈ ws) : Gn ws (inv w) := by
  have := Gn.back h Gn.nil
  rwa [List.append_nil] at this
def AllW (ws : List (List Nat)) : Prop := ∀ w ∈ ws, isW w = true
theorem Gn.isW {ws : List (List Nat)} (a : AllW ws) {u : List Nat} (h : Gn ws u) : Gw.isW u = true := by
  induction h with
  | nil => rfl
  | word h _ ih => exact isW_app.mpr ⟨a _ h, ih⟩
  | back h _ ih => exact isW_app.mpr ⟨isW_inv (a _ h), ih⟩
theorem Gn.inv {ws : List (List Nat)} (a : AllW ws) {u : List Nat} (h : Gn ws u) : Gn ws (inv u) := by
  induction h with
  | nil => exact .nil
  | word h _ ih => rw [inv_app]; exact ih.app (.oneBack h)
  | back h _ ih => rw [inv_app, inv_inv (a _ h)]; exact ih.app (.one h)
/-- a word is made: some product falls together to its short word -/
def Made (ws : List (List Nat)) (w : List Nat) : Prop := ∃ u, Gn ws u ∧ short u = short w
theorem Made.nil {ws : List (List Nat)} : Made ws [] := ⟨[], .nil, rfl⟩
theorem Made.one {ws : List (List Nat)} {w : List Nat} (h : w ∈ ws) : Made ws w := ⟨w, .one h, rfl⟩
theorem short_app {a b : List Nat} (wa : isW a = true) (wb : isW b = true) : short (a ++ b) = short (short a ++ short b) := (short_times wa wb).symm
theorem Made.app {ws : List (List Nat)} (A : AllW ws) {u v : List Nat} (wu : isW u = true) (wv : isW v = true) (a : Made ws u) (b : Made ws v) : Made ws (u ++ v) := by
  obtain ⟨x, gx, ex⟩ := a
  obtain ⟨y, gy, ey⟩ := b
  exact ⟨x ++ y, gx.app gy, by rw [short_app (gx.isW A) (gy.isW A), ex, ey, ← short_app wu wv]⟩
theorem Made.inv {ws : List (List Nat)} (A : AllW ws) {u : List Nat} (wu : isW u = true) (a : Made ws u) : Made ws (inv u) := by
  obtain ⟨x, gx, ex⟩ := a
  exact ⟨_, gx.inv A, by rw [short_inv (gx.isW A), ex, short_inv wu]⟩
theorem Made.red {ws : List (List Nat)} {u v : List Nat} (wu : isW u = true) (r : Red u v) : Made ws u ↔ Made ws v := by
  unfold Made; rw [short_red r wu]
/-- a row made by another one -/
theorem Made.trans {ws vs : List (List Nat)} (A : AllW ws) (B : AllW vs) (h : ∀ w ∈ ws, Made vs w) {u : List Nat} (m : Made ws u) : Made vs u := by
  obtain ⟨x, gx, ex⟩ := m
  have : Made vs x := by
    clear ex
    induction gx with
    | nil => exact .nil
    | word hw t ih => exact Made.app B (A _ hw) (t.isW A) (h _ hw) ih
    | back hw t ih => exact Made.app B (isW_inv (A _ hw)) (t.isW A) ((h _ hw).inv B (A _ hw)) ih
  obtain ⟨y, gy, ey⟩ := this
  exact ⟨y, gy, ey.trans ex⟩

/-! ### folding: rooms made one -/
/-- a word leads from a to b that falls away wholly -/
def Eqv (R : List Tie) (a b : Nat) : Prop := ∃ z, Wlk R a z b ∧ Red z []
theorem Eqv.refl {R : List Tie} (a : Nat) : Eqv R a a := ⟨[], rfl, .refl _⟩
theorem Eqv.symm {R : List Tie} {a b : Nat} (h : Eqv R a b) : Eqv R b a := by
  obtain ⟨z, w, r⟩ := h
  exact ⟨inv z, w.back, r.inv⟩
theorem Eqv.trans {R : List Tie} {a b c : Nat} (h : Eqv R a b) (k : Eqv R b c) : Eqv R a c := by
  obtain ⟨z, w, r⟩ := h
  obtain ⟨y, v, q⟩ := k
  exact ⟨z ++ y, w.app v, (r.appR y).trans q⟩
theorem Eqv.step {R : List Tie} {a b x y c : Nat} (h : Eqv R a b) (l : Ld R a c x) (k : Ld R b c y) : Eqv R x y := by
  obtain ⟨z, w, r⟩ := h
  refine ⟨bk c :: (z ++ [c]), ⟨a, l.back, w.app (Wlk.one k)⟩, ?_⟩
  have r1 : Red (bk c :: (z ++ [c])) [bk c, c] := by
    have := r.app [bk c] [c]
    simpa using this
  refine r1.trans ?_
  have o := Out.mk [] [] (bk c) (isL_bk l.isL)
  rw [bk_bk l.isL] at o
  exact o.one
structure Quot (R T : List Tie) (rep : Nat → Nat) : Prop where
  zero : rep 0 = 0
  eqv : ∀ t ∈ R, Eqv R t.1 (rep t.1) ∧ Eqv R t.2.2 (rep t.2.2)
  to : ∀ t ∈ R, (rep t.1, t.2.1, rep t.2.2) ∈ T
  of : ∀ t ∈ T, ∃ t0 ∈ R, t = (rep t0.1, t0.2.1, rep t0.2.2)
  fold : Folded T
theorem Quot.ld {R T : List Tie} {rep : Nat → Nat} (Q : Quot R T rep) {r c s : Nat} (h : Ld R r c s) : Ld T (rep r) c (rep s) := by
  rcases h with ⟨a, b, m⟩ | ⟨a, b, m⟩
  · exact Or.inl ⟨a, b, Q.to _ m⟩
  · exact Or.inr ⟨a, b, Q.to _ m⟩
theorem Quot.wlk {R T : List Tie} {rep : Nat → Nat} (Q : Quot R T rep) : ∀ {w : List Nat} {r s : Nat}, Wlk R r w s → Wlk T (rep r) w (rep s)
  | [], r, s, h => congrArg rep (show r = s from h)
  | c :: w, r, s, ⟨m, h, t⟩ => ⟨rep m, Q.ld h, Q.wlk t⟩
theorem Quot.lift1 {R T : List Tie} {rep : Nat → Nat} (Q : Quot R T rep) {r c s : Nat} (h : Ld T r c s) : ∃ z, Wlk R r z s ∧ Red z [c] := by
  have key : ∀ {a x b : Nat}, (a, x, b) ∈ T → ∃ a0 b0, (a0, x, b0) ∈ R ∧ Eqv R a a0 ∧ Eqv R b0 b := fun {a x b} m => by
    obtain ⟨t0, h0, e⟩ := Q.of _ m
    obtain ⟨e1, e2⟩ := Prod.mk.inj e
    obtain ⟨e2, e3⟩ := Prod.mk.inj e2
    refine ⟨t0.1, t0.2.2, by rw [e2]; exact h0, ?_, ?_⟩
    · rw [e1]; exact (Q.eqv _ h0).1.symm
    · rw [e3]; exact (Q.eqv _ h0).2
  rcases h with ⟨a, b, m⟩ | ⟨a, b, m⟩
  · obtain ⟨a0, b0, h0, ⟨z, w1, r1⟩, ⟨y, w2, r2⟩⟩ := key m
    refine ⟨z ++ c :: y, w1.app ⟨b0, Or.inl ⟨a, b, h0⟩, w2⟩, ?_⟩
    have q1 := r1.appR (c :: y)
    have q2 := r2.appL [c]
    exact Red.trans (by simpa using q1) (by simpa using q2)
  · obtain ⟨a0, b0, h0, ⟨z, w1, r1⟩, ⟨y, w2, r2⟩⟩ := key m
    refine ⟨inv y ++ c :: inv z, w2.back.app ⟨a0, Or.inr ⟨a, b, h0⟩, w1.back⟩, ?_⟩
    have q1 := (r2.inv).appR (c :: inv z)
    have q2 := (r1.inv).appL [c]
    exact Red.trans (by simpa using q1) (by simpa [inv] using q2)
theorem Quot.lift {R T : List Tie} {rep : Nat → Nat} (Q : Quot R T rep) : ∀ {w : List Nat} {r s : Nat}, Wlk T r w s → ∃ z, Wlk R r z s ∧ Red z w
  | [], r, s, h => ⟨[], h, .refl _⟩
  | c :: w, r, s, ⟨m, h, t⟩ => by
    obtain ⟨z, w1, r1⟩ := Q.lift1 h
    obtain ⟨y, w2, r2⟩ := Q.lift t
    refine ⟨z ++ y, w1.app w2, ?_⟩
    have q1 := r1.appR y
    have q2 := r2.appL [c]
    exact q1.trans (by simpa using q2)
/-- what rings of words must show -/
structure Ringed (ws : List (List Nat)) (R : List Tie) : Prop where
  all : AllW ws
  word : ∀ w ∈ ws, Wlk R 0 w 0
  made : ∀ z, Wlk R 0 z 0 → Made ws z
theorem Ringed.gn {ws : List (List Nat)} {R : List Tie} (h : Ringed ws R) {u : List Nat} (g : Gn ws u) : Wlk R 0 u 0 := by
  induction g with
  | nil => rfl
  | word hw _ ih => exact (h.word _ hw).app ih
  | back hw _ ih => exact (h.word _ hw).back.app ih
theorem Quot.reads {R T : List Tie} {rep : Nat → Nat} {ws : List (List Nat)} (Q : Quot R T rep) (g : Ringed ws R) {w : List Nat} (hw : isW w = true) : Rds T w ↔ Made ws w := by
  constructor
  · intro h
    obtain ⟨z, w1, r⟩ := Q.lift h
    have m := g.made _ w1
    have m2 : Made ws (short w) := (Made.red w1.isW r).mp m
    exact (Made.red hw (red_short hw)).mpr m2
  · rintro ⟨u, gu, e⟩
    have k := Q.wlk (g.gn gu)
    rw [Q.zero] at k
    have := k.red Q.fold (red_short k.isW)
    rw [e] at this
    exact this
end Gw

/-! ## W2 -/
/-! finding: room by room, letter by letter -/
namespace Gw
/-- the letters in the order of finding -/
def lets : List Nat := (List.range 26).flatMap fun k => [97 + k, 65 + k]
theorem mem_lets {c : Nat} : c ∈ lets ↔ isL c = true := by
  unfold lets
  rw [List.mem_flatMap, isL_iff]
  constructor
  · rintro ⟨k, hk, h⟩
    have := List.mem_range.mp hk
    rcases List.mem_cons.mp h with rfl | h
    · omega
    · rcases List.mem_cons.mp h with rfl | h
      · omega
      · cases h
  · rintro (h | h)
    · exact ⟨c - 97, List.mem_range.mpr (by omega), List.mem_cons.mpr (Or.inl (by omega))⟩
    · exact ⟨c - 65, List.mem_range.mpr (by omega), List.mem_cons.mpr (Or.inr (List.mem_cons.mpr (Or.inl (by omega))))⟩
/-- where letter c leads from r, tie by tie -/
def gl (T : List Tie) (r c : Nat) : List Nat := T.filterMap fun t => if 97 ≤ c then (if t.1 = r ∧ t.2.1 = c then some t.2.2 else none) else (if t.2.2 = r ∧ t.2.1 = c + 32 then some t.1 else none)
theorem mem_gl {T : List Tie} {r c s : Nat} (hc : isL c = true) : s ∈ gl T r c ↔ Ld T r c s := by
  rw [isL_iff] at hc
  unfold gl
  rw [List.mem_filterMap]
  constructor
  · rintro ⟨⟨a, x, b⟩, ht, h⟩
    by_cases h97 : 97 ≤ c
    · rw [if_pos h97] at h
      by_cases q : a = r ∧ x = c
      · rw [if_pos q] at h
        obtain ⟨rfl, rfl⟩ := q
        cases h
        exact Or.inl ⟨h97, by omega, ht⟩
      · rw [if_neg q] at h; cases h
    · rw [if_neg h97] at h
      by_cases q : b = r ∧ x = c + 32
      · rw [if_pos q] at h
        obtain ⟨rfl, rfl⟩ := q
        cases h
        exact Or.inr ⟨by omega, by omega, ht⟩
      · rw [if_neg q] at h; cases h
  · rintro (⟨a, b, m⟩ | ⟨a, b, m⟩)
    · exact ⟨_, m, by rw [if_pos a, if_pos ⟨rfl, rfl⟩]⟩
    · exact ⟨_, m, by rw [if_neg (by omega), if_pos ⟨rfl, rfl⟩]⟩
def nb (T : List Tie) (r : Nat) : List Nat := lets.flatMap (gl T r)
theorem mem_nb {T : List Tie} {r s : Nat} : s ∈ nb T r ↔ ∃ c, Ld T r c s := by
  unfold nb
  rw [List.mem_flatMap]
  constructor
  · rintro ⟨c, hc, h⟩
    exact ⟨c, (mem_gl (mem_lets.mp hc)).mp h⟩
  · rintro ⟨c, h⟩
    exact ⟨c, mem_lets.mpr h.isL, (mem_gl h.isL).mpr h⟩
def add1 (f : List Nat) (x : Nat) : List Nat := if x ∈ f then f else f ++ [x]
def addAll (f l : List Nat) : List Nat := l.foldl add1 f
theorem addAll_cons (f : List Nat) (x : Nat) (l : List Nat) : addAll f (x :: l) = addAll (add1 f x) l := rfl
theorem addAll_app (f a b : List Nat) : addAll f (a ++ b) = addAll (addAll f a) b := List.foldl_append
theorem mem_add1 {f : List Nat} {x y : Nat} : y ∈ add1 f x ↔ y ∈ f ∨ y = x := by
  unfold add1
  split
  · rename_i h
    constructor
    · exact Or.inl
    · rintro (h' | rfl)
      · exact h'
      · exact h
  · simp
theorem mem_addAll {l : List Nat} : ∀ {f : List Nat} {y : Nat}, y ∈ addAll f l ↔ y ∈ f ∨ y ∈ l := by
  induction l with
  | nil => intro f y; simp [addAll]
  | cons x l ih =>
    intro f y
    rw [addAll_cons, ih, mem_add1, List.mem_cons, or_assoc]
theorem add1_pre (f : List Nat) (x : Nat) : f <+: add1 f x := by
  unfold add1
  split
  · exact List.prefix_refl _
  · exact List.prefix_append _ _
theorem addAll_pre (l : List Nat) : ∀ f : List Nat, f <+: addAll f l := by
  induction l with
  | nil => intro f; exact List.prefix_refl _
  | cons x l ih => intro f; exact (add1_pre f x).trans (ih _)
theorem add1_nodup {f : List Nat} {x : Nat} (h : f.Nodup) : (add1 f x).Nodup := by
  unfold add1
  split
  · exact h
  · rename_i hx
    rw [List.nodup_append]
    refine ⟨h, by simp, ?_⟩
    intro a ha b hb
    rw [List.mem_singleton] at hb
    subst hb
    intro e
    subst e
    exact hx ha
theorem addAll_nodup (l : List Nat) : ∀ {f : List Nat}, f.Nodup → (addAll f l).Nodup := by
  induction l with
  | nil => intro f h; exact h
  | cons x l ih => intro f h; exact ih (add1_nodup h)
/-- what is found behind i rooms -/
def fnd (T : List Tie) : Nat → List Nat
  | 0 => [0]
  | i + 1 => match (fnd T i)[i]? with
    | some r => addAll (fnd T i) (nb T r)
    | none => fnd T i
theorem fnd_succ {T : List Tie} {i r : Nat} (h : (fnd T i)[i]? = some r) : fnd T (i + 1) = addAll (fnd T i) (nb T r) := by
  show (match (fnd T i)[i]? with | some r => addAll (fnd T i) (nb T r) | none => fnd T i) = _
  rw [h]
theorem fnd_end {T : List Tie} {i : Nat} (h : (fnd T i)[i]? = none) : fnd T (i + 1) = fnd T i := by
  show (match (fnd T i)[i]? with | some r => addAll (fnd T i) (nb T r) | none => fnd T i) = _
  rw [h]
theorem fnd_pre1 (T : List Tie) (i : Nat) : fnd T i <+: fnd T (i + 1) := by
  cases h : (fnd T i)[i]? with
  | none => rw [fnd_end h]; exact List.prefix_refl _
  | some r => rw [fnd_succ h]; exact addAll_pre _ _
theorem fnd_pre (T : List Tie) {i j : Nat} (h : i ≤ j) : fnd T i <+: fnd T j := by
  induction h with
  | refl => exact List.prefix_refl _
  | step _ ih => exact ih.trans (fnd_pre1 T _)
theorem fnd_nodup (T : List Tie) : ∀ i, (fnd T i).Nodup
  | 0 => by simp [fnd]
  | i + 1 => by
    cases h : (fnd T i)[i]? with
    | none => rw [fnd_end h]; exact fnd_nodup T i
    | some r => rw [fnd_succ h]; exact addAll_nodup _ (fnd_nodup T i)
theorem fnd_zero (T : List Tie) (i : Nat) : (fnd T i)[0]? = some 0 := by
  obtain ⟨r, h⟩ := fnd_pre T (Nat.zero_le i)
  rw [← h]; rfl
/-- the rooms of the ties, and 0 -/
def rms (T : List Tie) : List Nat := 0 :: T.flatMap fun t => [t.1, t.2.2]
theorem mem_rms {T : List Tie} {r : Nat} : r ∈ rms T ↔ r = 0 ∨ ∃ t ∈ T, r = t.1 ∨ r = t.2.2 := by
  unfold rms
  rw [List.mem_cons, List.mem_flatMap]
  constructor
  · rintro (h | ⟨t, h, k⟩)
    · exact Or.inl h
    · exact Or.inr ⟨t, h, by simpa using k⟩
  · rintro (h | ⟨t, h, k⟩)
    · exact Or.inl h
    · exact Or.inr ⟨t, h, by simpa using k⟩
theorem Ld.rms {T : List Tie} {r c s : Nat} (h : Ld T r c s) : r ∈ rms T ∧ s ∈ rms T := by
  rcases h with ⟨_, _, m⟩ | ⟨_, _, m⟩
  · exact ⟨mem_rms.mpr (Or.inr ⟨_, m, Or.inl rfl⟩), mem_rms.mpr (Or.inr ⟨_, m, Or.inr rfl⟩)⟩
  · exact ⟨mem_rms.mpr (Or.inr ⟨_, m, Or.inr rfl⟩), mem_rms.mpr (Or.inr ⟨_, m, Or.inl rfl⟩)⟩
theorem rms_len (T : List Tie) : (rms T).length = 2 * T.length + 1 := by
  unfold rms
  induction T with
  | nil => rfl
  | cons t T ih =>
    rw [List.flatMap_cons, List.length_cons, List.length_append, List.length_cons]
    rw [List.length_cons] at ih
    simp at ih ⊢; omega
theorem fnd_rms {T : List Tie} : ∀ {i r : Nat}, r ∈ fnd T i → r ∈ rms T ∧ ∃ w, Wlk T 0 w r
  | 0, r, h => by
    have : r = 0 := by simpa [fnd] using h
    subst this
    exact ⟨mem_rms.mpr (Or.inl rfl), [], rfl⟩
  | i + 1, r, h => by
    cases e : (fnd T i)[i]? with
    | none => rw [fnd_end e] at h; exact fnd_rms h
    | some m =>
      rw [fnd_succ e, mem_addAll] at h
      rcases h with h | h
      · exact fnd_rms h
      · obtain ⟨c, l⟩ := mem_nb.mp h
        obtain ⟨_, w, hw⟩ := fnd_rms (List.mem_of_getElem? e)
        exact ⟨l.rms.2, w ++ [c], hw.app (Wlk.one l)⟩
theorem nodup_le {l : List Nat} : ∀ {m : List Nat}, l.Nodup → (∀ x ∈ l, x ∈ m) → l.length ≤ m.length := by
  induction l with
  | nil => intro m _ _; exact Nat.zero_le _
  | cons a l ih =>
    intro m hn h
    rw [List.nodup_cons] at hn
    have ha := h a List.mem_cons_self
    have := ih (m := m.erase a) hn.2 fun x hx => by
      have hne : x ≠ a := fun e => hn.1 (e ▸ hx)
      exact (List.mem_erase_of_ne hne).mpr (h x (List.mem_cons_of_mem _ hx))
    rw [List.length_erase_of_mem ha] at this
    have : 0 < m.length := List.length_pos_of_mem ha
    rw [List.length_cons]; omega
theorem fnd_len (T : List Tie) (i : Nat) : (fnd T i).length ≤ 2 * T.length + 1 := by
  rw [← rms_len]
  exact nodup_le (fnd_nodup T i) fun x hx => (fnd_rms hx).1
/-- the order of finding -/
def ord (T : List Tie) : List Nat := fnd T (2 * T.length + 1)
theorem fnd_stop {T : List Tie} {i : Nat} (h : (fnd T i).length ≤ i) : ∀ {j : Nat}, i ≤ j → fnd T j = fnd T i := by
  intro j hj
  induction hj with
  | refl => rfl
  | @step j hj ih =>
    have e : (fnd T j)[j]? = none := by
      rw [ih]; exact List.getElem?_eq_none (Nat.le_trans h hj)
    rw [fnd_end e, ih]
theorem ord_of {T : List Tie} {i : Nat} (h : (fnd T i).length ≤ i) : fnd T i = ord T := by
  unfold ord
  by_cases hi : i ≤ 2 * T.length + 1
  · exact (fnd_stop h hi).symm
  · exact fnd_stop (fnd_len T _) (by omega)
theorem ord_nodup (T : List Tie) : (ord T).Nodup := fnd_nodup T _
theorem ord_zero (T : List Tie) : (ord T)[0]? = some 0 := fnd_zero T _
theorem mem_ord_zero (T : List Tie) : 0 ∈ ord T := List.mem_of_getElem? (ord_zero T)
theorem ord_closed {T : List Tie} {r c s : Nat} (h : r ∈ ord T) (l : Ld T r c s) : s ∈ ord T := by
  obtain ⟨i, hi, e⟩ := List.getElem_of_mem h
  have hl : (ord T).length ≤ 2 * T.length + 1 := fnd_len T _
  -- the i-th room was walked through
  have key : ∀ j, i < j → j ≤ 2 * T.length + 1 → s ∈ fnd T j := by
    intro j hij hj
    have e2 : (fnd T i)[i]? = some r ∨ (fnd T i).length ≤ i := by
      by_cases hl : i < (fnd T i).length
      · left
        obtain ⟨q, hq⟩ := fnd_pre T (i := i) (j := 2 * T.length + 1) (by omega)
        have : (ord T)[i]? = some r := by rw [List.getElem?_eq_getElem hi, e]
        unfold ord at this
        rw [← hq, List.getElem?_append_left hl] at this
        exact this
      · right; omega
    rcases e2 with e2 | e2
    · have m : s ∈ fnd T (i + 1) := by
        rw [fnd_succ e2, mem_addAll]
        exact Or.inr (mem_nb.mpr ⟨c, l⟩)
      obtain ⟨q, hq⟩ := fnd_pre T (i := i + 1) (j := j) hij
      rw [← hq]
      exact List.mem_append.mpr (Or.inl m)
    · exfalso
      have := ord_of e2
      rw [this] at e2
      omega
  exact key _ (by omega) (Nat.le_refl _)
theorem ord_walk {T : List Tie} : ∀ {w : List Nat} {r s : Nat}, r ∈ ord T → Wlk T r w s → s ∈ ord T
  | [], r, s, h, k => (show r = s from k) ▸ h
  | c :: w, r, s, h, ⟨m, l, t⟩ => ord_walk (ord_closed h l) t
theorem mem_ord {T : List Tie} {r : Nat} : r ∈ ord T ↔ ∃ w, Wlk T 0 w r :=
  ⟨fun h => (fnd_rms h).2, fun ⟨w, h⟩ => ord_walk (mem_ord_zero T) h⟩
/-! ### rooms told by other numbers -/
def tmap (f : Nat → Nat) (T : List Tie) : List Tie := T.map fun t => (f t.1, t.2.1, f t.2.2)
theorem gl_tmap {f : Nat → Nat} {T : List Tie} (hf : ∀ a ∈ rms T, ∀ b ∈ rms T, f a = f b → a = b) {r c : Nat} (hr : r ∈ rms T) : gl (tmap f T) (f r) c = (gl T r c).map f := by
  have sub : ∀ (U : List Tie), (∀ t ∈ U, t ∈ T) → gl (tmap f U) (f r) c = (gl U r c).map f := by
    intro U
    induction U with
    | nil => intro _; rfl
    | cons t U ih =>
      intro h
      have ih := ih fun x hx => h x (List.mem_cons_of_mem _ hx)
      have ht := h t List.mem_cons_self
      have h1 : t.1 ∈ rms T := mem_rms.mpr (Or.inr ⟨t, ht, Or.inl rfl⟩)
      have h2 : t.2.2 ∈ rms T := mem_rms.mpr (Or.inr ⟨t, ht, Or.inr rfl⟩)
      unfold gl tmap at ih ⊢
      rw [List.map_cons, List.filterMap_cons, List.filterMap_cons]
      by_cases h97 : 97 ≤ c
      · simp only [if_pos h97] at ih ⊢
        by_cases q : t.1 = r ∧ t.2.1 = c
        · have q' : f t.1 = f r ∧ t.2.1 = c := ⟨by rw [q.1], q.2⟩
          rw [if_pos q, if_pos q']
          simp only [List.map_cons]
          rw [ih]
        · have q' : ¬ (f t.1 = f r ∧ t.2.1 = c) := fun z => q ⟨hf _ h1 _ hr z.1, z.2⟩
          rw [if_neg q, if_neg q']
          exact ih
      · simp only [if_neg h97] at ih ⊢
        by_cases q : t.2.2 = r ∧ t.2.1 = c + 32
        · have q' : f t.2.2 = f r ∧ t.2.1 = c + 32 := ⟨by rw [q.1], q.2⟩
          rw [if_pos q, if_pos q']
          simp only [List.map_cons]
          rw [ih]
        · have q' : ¬ (f t.2.2 = f r ∧ t.2.1 = c + 32) := fun z => q ⟨hf _ h2 _ hr z.1, z.2⟩
          rw [if_neg q, if_neg q']
          exact ih
  exact sub T fun _ h => h
theorem nb_tmap {f : Nat → Nat} {T : List Tie} (hf : ∀ a ∈ rms T, ∀ b ∈ rms T, f a = f b → a = b) {r : Nat} (hr : r ∈ rms T) : nb (tmap f T) (f r) = (nb T r).map f := by
  unfold nb
  rw [List.map_flatMap]
  congr 1
  funext c
  exact gl_tmap hf hr
theorem add1_map {f : Nat → Nat} {l : List Nat} {x : Nat} {D : List Nat} (hf : ∀ a ∈ D, ∀ b ∈ D, f a = f b → a = b) (hl : ∀ a ∈ l, a ∈ D) (hx : x ∈ D) : add1 (l.map f) (f x) = (add1 l x).map f := by
  unfold add1
  by_cases h : x ∈ l
  · rw [if_pos h, if_pos (List.mem_map.mpr ⟨x, h, rfl⟩)]
  · have : f x ∉ l.map f := fun z => by
      obtain ⟨y, hy, e⟩ := List.mem_map.mp z
      exact h (hf _ (hl y hy) _ hx e ▸ hy)
    rw [if_neg h, if_neg this, List.map_append]; rfl
theorem addAll_map {f : Nat → Nat} {D : List Nat} (hf : ∀ a ∈ D, ∀ b ∈ D, f a = f b → a = b) : ∀ {m l : List Nat}, (∀ a ∈ l, a ∈ D) → (∀ a ∈ m, a ∈ D) → addAll (l.map f) (m.map f) = (addAll l m).map f := by
  intro m
  induction m with
  | nil => intro l _ _; rfl
  | cons x m ih =>
    intro l hl hm
    have hx := hm x List.mem_cons_self
    rw [List.map_cons, addAll_cons, addAll_cons, add1_map hf hl hx]
    refine ih (fun a ha => ?_) fun a ha => hm a (List.mem_cons_of_mem _ ha)
    rcases mem_add1.mp ha with h | rfl
    · exact hl a h
    · exact hx
theorem fnd_tmap {f : Nat → Nat} {T : List Tie} (hf : ∀ a ∈ rms T, ∀ b ∈ rms T, f a = f b → a = b) (h0 : f 0 = 0) : ∀ i, fnd (tmap f T) i = (fnd T i).map f
  | 0 => by show [0] = [f 0]; rw [h0]
  | i + 1 => by
    have ih := fnd_tmap hf h0 i
    cases e : (fnd T i)[i]? with
    | none =>
      rw [fnd_end e, fnd_end (by rw [ih, List.getElem?_map, e]; rfl), ih]
    | some r =>
      have hr : r ∈ rms T := (fnd_rms (List.mem_of_getElem? e)).1
      rw [fnd_succ e, fnd_succ (r := f r) (by rw [ih, List.getElem?_map, e]; rfl), ih, nb_tmap hf hr]
      exact addAll_map hf (fun a ha => (fnd_rms ha).1) fun a ha => by
        obtain ⟨c, l⟩ := mem_nb.mp ha
        exact l.rms.2
theorem ord_tmap {f : Nat → Nat} {T : List Tie} (hf : ∀ a ∈ rms T, ∀ b ∈ rms T, f a = f b → a = b) (h0 : f 0 = 0) : ord (tmap f T) = (ord T).map f := by
  unfold ord
  rw [show (tmap f T).length = T.length by unfold tmap; simp]
  exact fnd_tmap hf h0 _
end Gw

/-! ## W3 -/
/-! webs that are numbered as they are found; there is one for each set of words read -/
namespace Gw
theorem shrt_glue : ∀ {u v : List Nat} {a b : Nat}, Shrt (u ++ [a]) → Shrt (b :: v) → b ≠ bk a → Shrt (u ++ a :: b :: v)
  | [], v, a, b, _, h2, h => ⟨h, h2⟩
  | [c], v, a, b, h1, h2, h => ⟨h1.1, h, h2⟩
  | c :: d :: u, v, a, b, h1, h2, h => ⟨h1.1, shrt_glue (u := d :: u) h1.2 h2 h⟩
theorem shrt_left : ∀ {u v : List Nat}, Shrt (u ++ v) → Shrt u
  | [], v, _ => trivial
  | [c], v, _ => trivial
  | c :: d :: u, v, h => ⟨h.1, shrt_left (u := d :: u) h.2⟩
theorem shrt_right : ∀ {u v : List Nat}, Shrt (u ++ v) → Shrt v
  | [], v, h => h
  | [c], [], _ => trivial
  | [c], d :: v, h => h.2
  | c :: d :: u, v, h => shrt_right (u := d :: u) h.2
theorem exists_max {D : List Nat} {p : Nat → Prop} (f : Nat → Nat) (h : ∃ x ∈ D, p x) : ∃ x ∈ D, p x ∧ ∀ y ∈ D, p y → f y ≤ f x := by
  induction D with
  | nil => obtain ⟨x, hx, _⟩ := h; cases hx
  | cons a D ih =>
    by_cases hD : ∃ x ∈ D, p x
    · obtain ⟨x, hx, px, mx⟩ := ih hD
      by_cases pa : p a ∧ f x ≤ f a
      · refine ⟨a, List.mem_cons_self, pa.1, fun y hy py => ?_⟩
        rcases List.mem_cons.mp hy with rfl | hy
        · exact Nat.le_refl _
        · exact Nat.le_trans (mx y hy py) pa.2
      · refine ⟨x, List.mem_cons_of_mem _ hx, px, fun y hy py => ?_⟩
        rcases List.mem_cons.mp hy with rfl | hy
        · have : ¬ f x ≤ f y := fun z => pa ⟨py, z⟩
          omega
        · exact mx y hy py
    · obtain ⟨x, hx, px⟩ := h
      rcases List.mem_cons.mp hx with rfl | hx
      · refine ⟨x, List.mem_cons_self, px, fun y hy py => ?_⟩
        rcases List.mem_cons.mp hy with rfl | hy
        · exact Nat.le_refl _
        · exact absurd ⟨y, hy, py⟩ hD
      · exact absurd ⟨x, hx, px⟩ hD
/-- ways to the rooms of D: each hangs on another one's -/
structure Ways (T : List Tie) (D : List Nat) (way : Nat → List Nat) : Prop where
  zero : way 0 = []
  mem : 0 ∈ D
  up : ∀ r ∈ D, r ≠ 0 → ∃ m c, m ∈ D ∧ way r = way m ++ [c] ∧ Ld T m c r
theorem Ways.add {T : List Tie} {D : List Nat} {way : Nat → List Nat} (W : Ways T D way) {r c x : Nat} (hr : r ∈ D) (l : Ld T r c x) : ∃ way', Ways T (add1 D x) way' := by
  by_cases hx : x ∈ D
  · refine ⟨way, ?_⟩
    unfold add1; rw [if_pos hx]; exact W
  · have h0 : x ≠ 0 := fun e => hx (e ▸ W.mem)
    refine ⟨fun y => if y = x then way r ++ [c] else way y, ⟨?_, mem_add1.mpr (Or.inl W.mem), fun y hy hy0 => ?_⟩⟩
    · rw [if_neg (fun e => h0 e.symm)]; exact W.zero
    · rcases mem_add1.mp hy with hy | rfl
      · obtain ⟨m, d, hm, e, l2⟩ := W.up y hy hy0
        have n1 : y ≠ x := fun e => hx (e ▸ hy)
        have n2 : m ≠ x := fun e => hx (e ▸ hm)
        exact ⟨m, d, mem_add1.mpr (Or.inl hm), by simp only [if_neg n1, if_neg n2]; exact e, l2⟩
      · have n2 : r ≠ y := fun e => hx (e ▸ hr)
        exact ⟨r, c, mem_add1.mpr (Or.inl hr), by simp only [if_pos, if_neg n2], l⟩
theorem Ways.addAll {T : List Tie} {r : Nat} : ∀ {l D : List Nat} {way : Nat → List Nat}, Ways T D way → r ∈ D → (∀ x ∈ l, ∃ c, Ld T r c x) → ∃ way', Ways T (Gw.addAll D l) way'
  | [], D, way, W, _, _ => ⟨way, W⟩
  | x :: l, D, way, W, hr, h => by
    obtain ⟨c, hc⟩ := h x List.mem_cons_self
    obtain ⟨w', W'⟩ := W.add hr hc
    exact Ways.addAll (l := l) (D := add1 D x) W' (mem_add1.mpr (Or.inl hr)) fun y hy => h y (List.mem_cons_of_mem _ hy)
theorem ways_fnd (T : List Tie) : ∀ i, ∃ way, Ways T (fnd T i) way
  | 0 => ⟨fun _ => [], rfl, by simp [fnd], fun r hr h0 => absurd (by simpa [fnd] using hr) h0⟩
  | i + 1 => by
    obtain ⟨way, W⟩ := ways_fnd T i
    cases e : (fnd T i)[i]? with
    | none => exact ⟨way, by rw [fnd_end e]; exact W⟩
    | some r =>
      rw [fnd_succ e]
      exact W.addAll (List.mem_of_getElem? e) fun x hx => mem_nb.mp hx
theorem ways_ord (T : List Tie) : ∃ way, Ways T (ord T) way := ways_fnd T _
section
variable {T : List Tie} {D : List Nat} {way : Nat → List Nat}
theorem Ways.walk (W : Ways T D way) : ∀ {n r : Nat}, (way r).length = n → r ∈ D → Wlk T 0 (way r) r := by
  intro n
  induction n with
  | zero =>
    intro r h hr
    by_cases h0 : r = 0
    · rw [h0, W.zero]; rfl
    · obtain ⟨m, c, _, e, _⟩ := W.up r hr h0
      rw [e] at h; simp at h
  | succ n ih =>
    intro r h hr
    by_cases h0 : r = 0
    · rw [h0, W.zero] at h; simp at h
    · obtain ⟨m, c, hm, e, l⟩ := W.up r hr h0
      rw [e] at h ⊢
      rw [List.length_append] at h
      exact (ih (by simpa using h) hm).app (Wlk.one l)
theorem Ways.wlk (W : Ways T D way) {r : Nat} (hr : r ∈ D) : Wlk T 0 (way r) r := W.walk rfl hr
theorem Ways.shrt (W : Ways T D way) (F : Folded T) : ∀ {n r : Nat}, (way r).length = n → r ∈ D → Shrt (way r) := by
  intro n
  induction n with
  | zero => intro r h _; rw [List.eq_nil_of_length_eq_zero h]; trivial
  | succ n ih =>
    intro r h hr
    by_cases h0 : r = 0
    · rw [h0, W.zero] at h; simp at h
    · obtain ⟨m, c, hm, e, l⟩ := W.up r hr h0
      rw [e] at h
      rw [List.length_append] at h
      have sm := ih (r := m) (by simpa using h) hm
      by_cases m0 : m = 0
      · rw [e, m0, W.zero]; trivial
      · obtain ⟨k, d, hk, e2, l2⟩ := W.up m hm m0
        rw [e, e2, List.append_assoc]
        rw [e2] at sm
        refine shrt_snoc sm fun z => ?_
        have hk2 : Ld T m (bk d) k := l2.back
        rw [← z] at hk2
        have : r = k := F _ _ _ _ l hk2
        subst this
        rw [e2] at e
        have := congrArg List.length e
        simp at this
theorem Ways.sh (W : Ways T D way) (F : Folded T) {r : Nat} (hr : r ∈ D) : Shrt (way r) := W.shrt F rfl hr
/-- the loop of a tie: way, letter, way back; short, unless one way goes on in the other -/
theorem Ways.loop (W : Ways T D way) (F : Folded T) {r c s : Nat} (hr : r ∈ D) (hs : s ∈ D) (l : Ld T r c s) (h1 : way s ≠ way r ++ [c]) (h2 : way r ≠ way s ++ [bk c]) : Shrt (way r ++ c :: inv (way s)) := by
  have a1 : Shrt (way r ++ [c]) := by
    by_cases r0 : r = 0
    · rw [r0, W.zero]; trivial
    · obtain ⟨m, d, hm, e, k⟩ := W.up r hr r0
      rw [e, List.append_assoc]
      have := W.sh F hr
      rw [e] at this
      refine shrt_snoc this fun z => h2 ?_
      have kb := k.back
      rw [← z] at kb
      have : s = m := F _ _ _ _ l kb
      subst this
      rw [e, z, bk_bk k.isL]
  by_cases s0 : s = 0
  · rw [s0, W.zero]; exact a1
  · obtain ⟨m, d, hm, e, k⟩ := W.up s hs s0
    have ws : isW (way s) = true := (W.wlk hs).isW
    have a2 := shrt_inv ws (W.sh F hs)
    rw [e, inv_app] at a2 ⊢
    refine shrt_glue a1 a2 fun z => h1 ?_
    have : d = c := bk_inj k.isL l.isL z
    subst this
    have e3 : m = r := F _ _ _ _ k.back l.back
    rw [e, e3]
end
/-- a web, but for its numbering -/
structure Core (T : List Tie) : Prop where
  nd : T.Nodup
  small : ∀ t ∈ T, 97 ≤ t.2.1 ∧ t.2.1 ≤ 122
  fold : Folded T
  conn : ∀ r ∈ rms T, r ∈ ord T
  two : ∀ r ∈ rms T, r ≠ 0 → ∃ c s d u, c ≠ d ∧ Ld T r c s ∧ Ld T r d u
def Num (T : List Tie) : Prop := ord T = List.range (ord T).length
theorem Core.ords {T : List Tie} (C : Core T) {r : Nat} : r ∈ ord T ↔ r ∈ rms T := ⟨fun h => (fnd_rms h).1, C.conn r⟩
/-- each way goes on to a short word that is read -/
theorem Core.ext {T : List Tie} (C : Core T) {way : Nat → List Nat} (W : Ways T (ord T) way) {r : Nat} (hr : r ∈ ord T) : ∃ q, Wlk T r q 0 ∧ Shrt (way r ++ q) := by
  obtain ⟨e, he, ⟨q0, hq⟩, mx⟩ := exists_max (fun x => (way x).length) (D := ord T) (p := fun x => way r <+: way x) ⟨r, hr, List.prefix_refl _⟩
  have we := W.wlk he
  rw [← hq] at we
  obtain ⟨m0, w1, w2⟩ := we.split
  have : m0 = r := w1.det C.fold (W.wlk hr)
  subst this
  by_cases e0 : e = 0
  · subst e0
    exact ⟨q0, w2, by rw [hq]; exact W.sh C.fold he⟩
  · obtain ⟨m, c0, hm, ep, l0⟩ := W.up e he e0
    obtain ⟨c, s, hc, ls⟩ : ∃ c s, c ≠ bk c0 ∧ Ld T e c s := by
      obtain ⟨c, s, d, u, hne, l1, l2⟩ := C.two e (C.ords.mp he) e0
      by_cases z : c = bk c0
      · exact ⟨d, u, fun y => hne (z.trans y.symm), l2⟩
      · exact ⟨c, s, z, l1⟩
    have hs : s ∈ ord T := ord_closed he ls
    have n1 : way s ≠ way e ++ [c] := fun z => by
      have := mx s hs ⟨q0 ++ [c], by rw [z, ← hq, List.append_assoc]⟩
      simp only [z, List.length_append, List.length_cons, List.length_nil] at this
      omega
    have n2 : way e ≠ way s ++ [bk c] := fun z => hc (by
      have : way m ++ [c0] = way s ++ [bk c] := ep ▸ z
      have := (List.append_inj' this rfl).2
      have e5 : c0 = bk c := by simpa using this
      rw [e5, bk_bk ls.isL])
    have sh := W.loop C.fold he hs ls n1 n2
    refine ⟨q0 ++ c :: inv (way s), w2.app ⟨s, ls, (W.wlk hs).back⟩, ?_⟩
    rw [← List.append_assoc, hq]; exact sh
/-- two webs that read the same -/
def SameR (T U : List Tie) : Prop := ∀ w, isW w = true → (Rds T w ↔ Rds U w)
theorem rds_short {T : List Tie} {w : List Nat} (hw : isW w = true) (h : Shrt w) : Rds T w ↔ Wlk T 0 w 0 := by
  unfold Rds; rw [short_of_shrt hw h]
section
variable {T U : List Tie} {way : Nat → List Nat}
theorem Core.goes (C : Core T) (W : Ways T (ord T) way) (E : SameR T U) {r : Nat} (hr : r ∈ ord T) : ∃ s, Wlk U 0 (way r) s := by
  obtain ⟨q, w1, sh⟩ := C.ext W hr
  have w := (W.wlk hr).app w1
  have := (E _ w.isW).mp ((rds_short w.isW sh).mpr w)
  obtain ⟨s, a, _⟩ := ((rds_short w.isW sh).mp this).split
  exact ⟨s, a⟩
theorem Core.image (C : Core T) (FU : Folded U) (W : Ways T (ord T) way) (E : SameR T U) : ∃ f : Nat → Nat, f 0 = 0 ∧ (∀ r ∈ ord T, Wlk U 0 (way r) (f r)) ∧ (∀ r c s, Ld T r c s → r ∈ ord T → Ld U (f r) c (f s)) ∧ ∀ r ∈ ord T, ∀ s ∈ ord T, f r = f s → r = s := by
  have ch : ∀ r, ∃ s, r ∈ ord T → Wlk U 0 (way r) s := fun r => by
    by_cases hr : r ∈ ord T
    · obtain ⟨s, h⟩ := C.goes W E hr
      exact ⟨s, fun _ => h⟩
    · exact ⟨0, fun z => absurd z hr⟩
  obtain ⟨f, hf⟩ := Classical.axiomOfChoice ch
  have f0 : f 0 = 0 := by
    have := hf 0 (mem_ord_zero T)
    rw [W.zero] at this
    exact (show 0 = f 0 from this).symm
  refine ⟨f, f0, hf, fun r c s l hr => ?_, fun r hr s hs e => ?_⟩
  · have hs : s ∈ ord T := ord_closed hr l
    by_cases h1 : way s = way r ++ [c]
    · have k := hf s hs
      rw [h1] at k
      obtain ⟨m, a, n, b, e⟩ := k.split
      have e' : n = f s := e
      have : m = f r := a.det FU (hf r hr)
      rw [← this, ← e']; exact b
    · by_cases h2 : way r = way s ++ [bk c]
      · have k := hf r hr
        rw [h2] at k
        obtain ⟨m, a, n, b, e⟩ := k.split
        have e' : n = f r := e
        have : m = f s := a.det FU (hf s hs)
        have := b.back
        rw [bk_bk l.isL] at this
        rw [← e', ← ‹m = f s›]; exact this
      · have sh := W.loop C.fold hr hs l h1 h2
        have w : Wlk T 0 (way r ++ c :: inv (way s)) 0 := (W.wlk hr).app ⟨s, l, (W.wlk hs).back⟩
        have := (rds_short w.isW sh).mp ((E _ w.isW).mp ((rds_short w.isW sh).mpr w))
        obtain ⟨m, a, n, b, t⟩ := this.split
        have e1 : m = f r := a.det FU (hf r hr)
        have t2 := t.back
        rw [inv_inv (W.wlk hs).isW] at t2
        have e2 : n = f s := t2.det FU (hf s hs)
        rw [← e1, ← e2]; exact b
  · have wr := W.wlk hr
    have ws := W.wlk hs
    have k : Wlk U 0 (way r ++ inv (way s)) 0 := (hf r hr).app (by rw [e]; exact (hf s hs).back)
    have k1 := (E _ k.isW).mpr (rds_of FU k)
    have k2 : Wlk T 0 (short (way r ++ inv (way s)) ++ way s) s := Wlk.app k1 ws
    have rd : Red (short (way r ++ inv (way s)) ++ way s) (short (way r)) := by
      have a1 : Red (way r ++ inv (way s) ++ way s) (short (way r ++ inv (way s)) ++ way s) := (red_short k.isW).appR _
      have a2 : Red (way r ++ inv (way s) ++ way s) (way r) := by
        have i := red_inv (isW_inv ws.isW)
        rw [inv_inv ws.isW] at i
        have := i.appL (way r)
        simpa using this
      have wt : isW (way r ++ inv (way s) ++ way s) = true := isW_app.mpr ⟨k.isW, ws.isW⟩
      have e1 := short_red a1 wt
      have e2 := short_red a2 wt
      have := red_short (a1.isW wt)
      rw [← e1, e2] at this
      exact this
    have k3 := k2.red C.fold rd
    rw [short_of_shrt wr.isW (W.sh C.fold hr)] at k3
    exact wr.det C.fold k3
end
theorem nodup_map {α β : Type} {f : α → β} : ∀ {l : List α}, (∀ a ∈ l, ∀ b ∈ l, f a = f b → a = b) → l.Nodup → (l.map f).Nodup
  | [], _, _ => List.nodup_nil
  | a :: l, h, n => by
    rw [List.nodup_cons] at n
    rw [List.map_cons, List.nodup_cons]
    refine ⟨fun z => ?_, nodup_map (fun x hx y hy => h x (List.mem_cons_of_mem _ hx) y (List.mem_cons_of_mem _ hy)) n.2⟩
    obtain ⟨b, hb, e⟩ := List.mem_map.mp z
    exact n.1 (h b (List.mem_cons_of_mem _ hb) a List.mem_cons_self e ▸ hb)
theorem nodup_le' {α : Type} [DecidableEq α] {l : List α} : ∀ {m : List α}, l.Nodup → (∀ x ∈ l, x ∈ m) → l.length ≤ m.length := by
  induction l with
  | nil => intro m _ _; exact Nat.zero_le _
  | cons a l ih =>
    intro m hn h
    rw [List.nodup_cons] at hn
    have ha := h a List.mem_cons_self
    have := ih (m := m.erase a) hn.2 fun x hx => by
      have hne : x ≠ a := fun e => hn.1 (e ▸ hx)
      exact (List.mem_erase_of_ne hne).mpr (h x (List.mem_cons_of_mem _ hx))
    rw [List.length_erase_of_mem ha] at this
    have : 0 < m.length := List.length_pos_of_mem ha
    rw [List.length_cons]; omega
theorem mem_of_full {α : Type} [DecidableEq α] {l m : List α} (hl : l.Nodup) (h : ∀ x ∈ l, x ∈ m) (hle : m.length ≤ l.length) : ∀ x ∈ m, x ∈ l := by
  intro x hx
  by_cases hxl : x ∈ l
  · exact hxl
  · exfalso
    have : (x :: l).length ≤ m.length := nodup_le' (List.nodup_cons.mpr ⟨hxl, hl⟩) fun y hy => by
      rcases List.mem_cons.mp hy with rfl | hy
      · exact hx
      · exact h y hy
    rw [List.length_cons] at this; omega
theorem tmap_mem {f : Nat → Nat} {T : List Tie} {t : Tie} : t ∈ tmap f T ↔ ∃ u ∈ T, (f u.1, u.2.1, f u.2.2) = t := List.mem_map
theorem Core.sub {T U : List Tie} (C : Core T) (D : Core U) (E : SameR T U) : ∃ f : Nat → Nat, f 0 = 0 ∧ (∀ a ∈ rms T, ∀ b ∈ rms T, f a = f b → a = b) ∧ (tmap f T).Nodup ∧ ∀ t ∈ tmap f T, t ∈ U := by
  obtain ⟨way, W⟩ := ways_ord T
  obtain ⟨f, f0, hf, hl, hi⟩ := C.image D.fold W E
  have hi' : ∀ a ∈ rms T, ∀ b ∈ rms T, f a = f b → a = b := fun a ha b hb => hi a (C.conn a ha) b (C.conn b hb)
  refine ⟨f, f0, hi', ?_, fun t ht => ?_⟩
  · refine nodup_map (fun a ha b hb e => ?_) C.nd
    obtain ⟨a1, a2, a3⟩ := a
    obtain ⟨b1, b2, b3⟩ := b
    simp only [Prod.mk.injEq] at e
    have ma : a1 ∈ rms T ∧ a3 ∈ rms T := ⟨mem_rms.mpr (Or.inr ⟨_, ha, Or.inl rfl⟩), mem_rms.mpr (Or.inr ⟨_, ha, Or.inr rfl⟩)⟩
    have mb : b1 ∈ rms T ∧ b3 ∈ rms T := ⟨mem_rms.mpr (Or.inr ⟨_, hb, Or.inl rfl⟩), mem_rms.mpr (Or.inr ⟨_, hb, Or.inr rfl⟩)⟩
    rw [hi' _ ma.1 _ mb.1 e.1, e.2.1, hi' _ ma.2 _ mb.2 e.2.2]
  · obtain ⟨u, hu, rfl⟩ := tmap_mem.mp ht
    have sm := C.small u hu
    have l : Ld T u.1 u.2.1 u.2.2 := Or.inl ⟨sm.1, sm.2, hu⟩
    rcases hl _ _ _ l (C.conn _ l.rms.1) with ⟨_, _, m⟩ | ⟨h, h', _⟩
    · exact m
    · omega
/-- for a folded web the order of its ties is of no weight -/
theorem gl_one {T : List Tie} (C : Folded T) (nd : T.Nodup) {r c : Nat} (hc : isL c = true) : (∀ s, Ld T r c s → gl T r c = [s]) ∧ ((∀ s, ¬ Ld T r c s) → gl T r c = []) := by
  have hnd : (gl T r c).Nodup := by
    unfold gl
    clear C
    induction T with
    | nil => exact List.nodup_nil
    | cons t T ih =>
      rw [List.nodup_cons] at nd
      have ih := ih nd.2
      rw [List.filterMap_cons]
      split
      · exact ih
      · rename_i b hb
        rw [List.nodup_cons]
        refine ⟨fun z => nd.1 ?_, ih⟩
        obtain ⟨u, hu, e⟩ := List.mem_filterMap.mp z
        obtain ⟨t1, t2, t3⟩ := t
        obtain ⟨u1, u2, u3⟩ := u
        by_cases h97 : 97 ≤ c
        · simp only [if_pos h97] at hb e
          split at hb
          · rename_i q
            split at e
            · rename_i p
              cases hb; cases e
              obtain ⟨rfl, rfl⟩ := q
              obtain ⟨rfl, rfl⟩ := p
              exact hu
            · cases e
          · cases hb
        · simp only [if_neg h97] at hb e
          split at hb
          · rename_i q
            split at e
            · rename_i p
              cases hb; cases e
              obtain ⟨q1, q2⟩ := q
              obtain ⟨p1, p2⟩ := p
              have e1 : t3 = u3 := q1.trans p1.symm
              have e2 : t2 = u2 := q2.trans p2.symm
              subst e1 e2
              exact hu
            · cases e
          · cases hb
  constructor
  · intro s hs
    have ms := (mem_gl hc).mpr hs
    cases h : gl T r c with
    | nil => rw [h] at ms; cases ms
    | cons a l =>
      have ha : a = s := C _ _ _ _ ((mem_gl hc).mp (by rw [h]; exact List.mem_cons_self)) hs
      cases l with
      | nil => rw [ha]
      | cons b l =>
        have hb : b = s := C _ _ _ _ ((mem_gl hc).mp (by rw [h]; exact List.mem_cons_of_mem _ List.mem_cons_self)) hs
        rw [h, ha, hb] at hnd
        simp at hnd
  · intro hs
    cases h : gl T r c with
    | nil => rfl
    | cons a l => exact absurd ((mem_gl hc).mp (by rw [h]; exact List.mem_cons_self)) (hs a)
theorem ld_congr {T U : List Tie} (h : ∀ t, t ∈ T ↔ t ∈ U) {r c s : Nat} : Ld T r c s ↔ Ld U r c s := by
  unfold Ld; rw [h, h]
theorem gl_congr {T U : List Tie} (h : ∀ t, t ∈ T ↔ t ∈ U) (F : Folded T) (nT : T.Nodup) (nU : U.Nodup) {r c : Nat} (hc : isL c = true) : gl T r c = gl U r c := by
  have FU : Folded U := fun r c s s' a b => F r c s s' ((ld_congr h).mpr a) ((ld_congr h).mpr b)
  by_cases e : ∃ s, Ld T r c s
  · obtain ⟨s, l⟩ := e
    rw [(gl_one F nT hc).1 s l, (gl_one FU nU hc).1 s ((ld_congr h).mp l)]
  · have e' : ∀ s, ¬ Ld T r c s := fun s l => e ⟨s, l⟩
    rw [(gl_one F nT hc).2 e', (gl_one FU nU hc).2 fun s l => e' s ((ld_congr h).mpr l)]
theorem flatMap_ext {f g : Nat → List Nat} : ∀ {l : List Nat}, (∀ x ∈ l, f x = g x) → l.flatMap f = l.flatMap g
  | [], _ => rfl
  | a :: l, h => by rw [List.flatMap_cons, List.flatMap_cons, h a List.mem_cons_self, flatMap_ext fun x hx => h x (List.mem_cons_of_mem _ hx)]
theorem ord_congr {T U : List Tie} (h : ∀ t, t ∈ T ↔ t ∈ U) (F : Folded T) (nT : T.Nodup) (nU : U.Nodup) : ord T = ord U := by
  have hn : ∀ r, nb T r = nb U r := fun r => flatMap_ext fun c hc => gl_congr h F nT nU (mem_lets.mp hc)
  have hf : ∀ i, fnd T i = fnd U i := by
    intro i
    induction i with
    | zero => rfl
    | succ i ih =>
      cases e : (fnd T i)[i]? with
      | none => rw [fnd_end e, fnd_end (by rw [← ih]; exact e), ih]
      | some r => rw [fnd_succ e, fnd_succ (r := r) (by rw [← ih]; exact e), ih, hn]
  have hl : T.length = U.length := Nat.le_antisymm (nodup_le' nT fun t ht => (h t).mp ht) (nodup_le' nU fun t ht => (h t).mpr ht)
  unfold ord
  rw [hl, hf]
/-- there is one web for what is read -/
theorem Core.unique {T U : List Tie} (C : Core T) (D : Core U) (nT : Num T) (nU : Num U) (E : SameR T U) : ∀ t, t ∈ T ↔ t ∈ U := by
  obtain ⟨f, f0, fi, fn, fm⟩ := C.sub D E
  obtain ⟨g, g0, gi, gn, gm⟩ := D.sub C fun w hw => (E w hw).symm
  have l1 : T.length ≤ U.length := by
    have := nodup_le' fn fm
    unfold tmap at this; simpa using this
  have l2 : U.length ≤ T.length := by
    have := nodup_le' gn gm
    unfold tmap at this; simpa using this
  have full : ∀ t, t ∈ tmap f T ↔ t ∈ U := fun t => ⟨fm t, mem_of_full fn fm (by unfold tmap; rw [List.length_map]; exact l2) t⟩
  have F : Folded (tmap f T) := fun r c s s' a b => D.fold r c s s' ((ld_congr full).mp a) ((ld_congr full).mp b)
  have o : ord U = (ord T).map f := by rw [← ord_tmap fi f0, ord_congr full F fn D.nd]
  have len : (ord U).length = (ord T).length := by rw [o, List.length_map]
  have fx : ∀ r ∈ ord T, f r = r := by
    intro r hr
    have e1 : List.range (ord T).length = (ord T).map f := by rw [← len, ← nU]; exact o
    have e2 : (List.range (ord T).length).map f = List.range (ord T).length := by
      have := e1
      rw [nT, List.length_range] at this
      exact this.symm
    have hr' : r < (ord T).length := by
      rw [nT] at hr; exact List.mem_range.mp hr
    have := congrArg (·[r]?) e2
    simp only [List.getElem?_map, List.getElem?_range hr', Option.map_some] at this
    exact Option.some.inj this
  have same : tmap f T = T := by
    unfold tmap
    conv => rhs; rw [← List.map_id T]
    refine List.map_congr_left fun t ht => ?_
    have m1 : t.1 ∈ ord T := C.conn _ (mem_rms.mpr (Or.inr ⟨t, ht, Or.inl rfl⟩))
    have m2 : t.2.2 ∈ ord T := C.conn _ (mem_rms.mpr (Or.inr ⟨t, ht, Or.inr rfl⟩))
    rw [fx _ m1, fx _ m2]; rfl
  intro t
  rw [← full, same]
end Gw

/-! ## R5 -/
namespace Gw
open PySem PySem.Spec PyProof.Rows L2 Evl

/-! ### d.setdefault(t, x), the keys tuples -/
section
variable {X : Cx} {pins : List (Addr × Obj)} {σ : L2.St} {H : Hp} {s : Shared} {a b : Addr} {r : Value} {d : V} {k : List Key} {A : Around} {E : Value → Shared → Prop}
theorem d_setdT {kvs : List (List Key × V)} {Q : Value → Shared → Prop} (hu : A.units + 1 < cLine) (I : Inv X pins σ H s) (e : H a = some (.dT kvs)) (eb : H b = some (.tup (k.map kV))) (rd : RelV d r) (hl : kvs.length < sizeLine)
    (h1 : ∀ v, valV kvs k = some v → ∀ (w' : Value) (s' : Shared), Inv X pins σ H s' → RelV v w' → Q w' s') (h2 : valV kvs k = none → ∀ (w' : Value) (s' : Shared), Inv X pins σ (upd H a (.dT (putK kvs k d))) s' → RelV d w' → Q w' s') :
    wpAny (model X.prog X.w) A (call (.builtin "dict.setdefault") [.ref a, .ref b, r]) Q E s := by
  obtain ⟨z, hd, xs, rel, dd⟩ := dt_of I.hok e
  have hz : xs.length ≤ sizeLine := by rw [← Paired.length rel]; exact z
  refine call_setdefault_heap (hsz := hz) (tupleKind_room_in1 hu) (key_of I.hok eb) hd dd (fun p hp => ?_) fun hn h' dd' hs => ?_
  · have q := rel.val k
    rw [hp] at q
    cases q0 : valV kvs k with
    | none => rw [q0] at q; exact (show False from q).elim
    | some v0 =>
      rw [q0] at q
      exact h1 v0 q0 _ _ (I.tok _) q
  · have q := rel.val k
    rw [hn] at q
    cases q0 : valV kvs k with
    | some v0 => rw [q0] at q; exact (show False from q).elim
    | none =>
      have hl2 : (putK kvs k d).length ≤ sizeLine := by have := length_putK kvs k d; omega
      obtain ⟨o, es, ep, ho, i1, i2, i3, _, i4⟩ := dd'
      refine h2 q0 _ _ (d_write I (by rw [e]; exact True.intro) hs ⟨o, ho⟩ ⟨hl2, hd, _, (rel.put k eb rd).keeps fun c ys ec => ?_, o, es, ep, ho, i1, i2, i3, i4⟩) rd
      rw [upd_ne (ne_of ec e (fun z => nomatch z))]
      exact ec
end
def tDSetT (td ty tx : TE) : TE := fun σ H Q => td σ H fun x H1 => ∃ a, x = .ref a ∧ IsD H1 a ∧ ty σ H1 fun y H2 => tx σ H2 fun z H3 => ∃ (kvs : List (List Key × V)) (k : List Key) (b : Addr), H3 a = some (.dT kvs) ∧ y = .ref b ∧ H3 b = some (.tup (k.map kV)) ∧ kvs.length < sizeLine ∧
  (∀ v, valV kvs k = some v → Q v H3) ∧ (valV kvs k = none → Q z (upd H3 a (.dT (putK kvs k z))))
section
variable {X : Cx} {o e f : Expr} {td ty tx : TE} {apos cpos : Pos}
theorem pe_dsetT (hu : X.A.units + 1 < cLine) (ho : PE X o td) (he : PE X e ty) (hf : PE X f tx) (m : M2 X o "setdefault" apos e f cpos) : PE X (.Call (.Attribute o "setdefault" apos) [e, f] [] cpos) (tDSetT td ty tx) := by
  refine ⟨fun pz s σ H Q I h => ?_⟩
  refine wpAny_Call_method m.base m.few m.line PySem.F.plainAttrs_dict PySem.F.slot_dict_setdefault PySem.F.type_dict_setdefault (thn (ho.run pz s σ H _ I h) fun u sE ⟨x, HE, IE, rE, a, ex, d, qE⟩ => ?_)
  subst ex
  obtain rfl : u = Value.ref a := rE
  obtain ⟨t1, t2, _⟩ := isD_at IE d
  refine ⟨t1, t2, ?_⟩
  rw [m.trees]
  refine Calls.callWith_builtin rfl (Calls.evalArgs_plain (Calls.spliced_cons (thn (he.run pz sE σ HE _ IE qE) fun iv s2 ⟨y, H2, I2, ry, q2⟩ =>
    Calls.spliced_cons (thn (hf.run pz s2 σ H2 _ I2 q2) fun fv s3 ⟨z, H3, I3, rz, kvs, k, b, ea, ey, eb, hl, q3, q4⟩ => Calls.spliced_nil ?_))))
  subst ey
  obtain rfl : iv = Value.ref b := ry
  exact d_setdT hu I3 ea eb rz hl (fun v hv w' s4 I4 rw' => ⟨v, _, I4, rw', q3 v hv⟩) fun hn w' s4 I4 rw' => ⟨z, _, I4, rw', q4 hn⟩
end

/-! ### targets of three names -/
theorem g3 {K : PySem.W.Frag} {i j k : Nat} {x a b c : V} {p : Addr} {σ : L2.St} {H : Hp} {Q : L2.St → Hp → Prop} (hx : x = .ref p) (h : SqT K H p [a, b, c]) (q : Q (((σ.set i (some a)).set j (some b)).set k (some c)) H) :
    gTup K 3 (gCons (gName i) (gCons (gName j) (gCons (gName k) gNil))) x σ H Q :=
  ⟨p, [a, b, c], hx, h, rfl, a, _, rfl, b, _, rfl, c, _, rfl, rfl, q⟩

/-! ### a comprehension by what it has made so far -/
structure AccOk (Acc : Nat → List V → Hp → Prop) : Prop where
  mono : ∀ i l H1 H2, Ex H1 H2 → Acc i l H1 → Acc i l H2
  upd : ∀ i l H1 D xs ys, H1 D = some (.lst xs) → Acc i l H1 → Acc i l (L2.upd H1 D (.lst ys))
  len : ∀ i l H1, Acc i l H1 → l.length < 100000
theorem lc_inv {wi : TI} {items : List V} {St : Hp → Prop} {g : TG} {tt : TT} {te : TE} {vs : List Nat} {σ : L2.St} {H : Hp} (h : EvW wi σ H items St) (hst : St H) (hk : Kp St) (Acc : Nat → List V → Hp → Prop) (ok : AccOk Acc) (a0 : ∀ H1, Ex H H1 → Acc 0 [] H1)
    (hs : ∀ i x H1 l, items[i]? = some x → Ex H H1 → Acc i l H1 → g x (wipe σ vs) H1 fun σ2 H2 => wipe σ2 vs = wipe σ vs ∧ tt σ2 H2 fun b H3 => if b = true then te σ2 H3 fun y H4 => Ex H1 H4 ∧ Acc (i + 1) (l ++ [y]) H4 else Ex H1 H3 ∧ Acc (i + 1) l H3)
    (mg : ∀ x σ2 H1 (Q Q' : L2.St → Hp → Prop), (∀ σ3 H3, Q σ3 H3 → Q' σ3 H3) → g x σ2 H1 Q → g x σ2 H1 Q') (mt : ∀ σ2 H1 (Q Q' : Bool → Hp → Prop), (∀ b H3, Q b H3 → Q' b H3) → tt σ2 H1 Q → tt σ2 H1 Q')
    (me : ∀ σ2 H1 (Q Q' : VK), (∀ b H3, Q b H3 → Q' b H3) → te σ2 H1 Q → te σ2 H1 Q') :
    ∀ H0, Ex H H0 → ∀ Q : VK, (∀ p H2 l, H0 p = none → Ex H0 H2 → H2 p = some (.lst l) → Acc items.length l H2 → Q (.ref p) H2) → tLc wi g tt te vs σ H0 Q := fun H0 e Q q => h H0 e _ fun J H1 e1 wk Dl hD => by
  refine ⟨fun i m H' => m = items.length - i ∧ i ≤ items.length ∧ Ex H1 H' ∧ ∃ l, H' Dl = some (.lst l) ∧ Acc i l H', ⟨items.length, rfl, Nat.zero_le _, Ex.new hD, [], upd_same, a0 _ ((e.trans e1).trans (Ex.new hD))⟩, ?_⟩
  rintro i m H' ⟨rfl, hi, ex, l, hl, ac⟩
  have hst' : St H' := hk _ _ ((e.trans e1).trans ex) hst
  by_cases hlt : i < items.length
  · refine .inr ⟨wk.go i H' hst' hlt, fun H'' => Ex H1 H'' ∧ ∃ l, H'' Dl = some (.lst l) ∧ Acc (i + 1) l H'', fun H'' ⟨a, b⟩ => ⟨items.length - (i + 1), by omega, rfl, hlt, a, b⟩, ?_⟩
    intro x H'' hy
    obtain ⟨rfl, hx⟩ := wk.yld i H' x H'' hst' hlt hy
    refine mg _ _ _ _ _ (fun σ3 H3 w => ⟨w.1, mt _ _ _ _ (fun b H4 w2 => ?_) w.2⟩) (hs i x H'' l hx ((e.trans e1).trans ex) ac)
    cases b with
    | true =>
      show te σ3 H4 _
      refine me _ _ _ _ (fun y H5 w3 => ?_) w2
      obtain ⟨e5, a5⟩ := w3
      have hl5 := e5 _ _ hl
      exact ⟨l, hl5, sz_lt (ok.len _ _ _ ac), Ex.mut (ex.trans e5) hD, _, upd_same, ok.upd _ _ _ _ _ _ hl5 a5⟩
    | false =>
      obtain ⟨e5, a5⟩ : Ex H'' H4 ∧ Acc (i + 1) l H4 := w2
      exact ⟨ex.trans e5, l, e5 _ _ hl, a5⟩
  · refine .inl ⟨wk.stop i H' hst' (by omega), ?_⟩
    have ei : i = items.length := by omega
    subst ei
    exact q Dl H' l (fresh_back e1 hD) (e1.trans ex) hl ac

/-! ### ties and webs in the heap -/
def tieV (t : Tie) : List V := [.int (t.1 : Nat), sgn t.2.1, .int (t.2.2 : Nat)]
def Ties (H : Hp) (xs : List V) (T : List Tie) : Prop := Paired (fun x t => ∃ a, x = V.ref a ∧ H a = some (.tup (tieV t))) xs T
def WebAt (K : PySem.W.Frag) (H : Hp) (p : Addr) (T : List Tie) : Prop := ∃ xs, SqL K H p xs ∧ Ties H xs T
theorem Ties.mono {H H' : Hp} {xs : List V} {T : List Tie} (e : Ex H H') (h : Ties H xs T) : Ties H' xs T := Paired.mapP h fun x t ⟨a, h1, h2⟩ => ⟨a, h1, e _ _ h2⟩
theorem WebAt.mono {K : PySem.W.Frag} {H H' : Hp} {p : Addr} {T : List Tie} (e : Ex H H') (h : WebAt K H p T) : WebAt K H' p T := by
  obtain ⟨xs, a, b⟩ := h
  exact ⟨xs, ex_l e a, b.mono e⟩
theorem Ties.length {H : Hp} {xs : List V} {T : List Tie} (h : Ties H xs T) : xs.length = T.length := Paired.length h
theorem Ties.at {H : Hp} : ∀ {xs : List V} {T : List Tie} {i : Nat} {x : V}, Ties H xs T → xs[i]? = some x → ∃ t a, T[i]? = some t ∧ x = .ref a ∧ H a = some (.tup (tieV t))
  | _, _, i, x, .nil, h => by simp at h
  | _, _, 0, x, .cons (b := t) ⟨a, h1, h2⟩ _, h => by
    cases h
    exact ⟨t, a, rfl, h1, h2⟩
  | _, _, i + 1, x, .cons _ r, h => Ties.at (i := i) r (by simpa using h)
theorem Ties.app {H : Hp} {xs ys : List V} {T U : List Tie} (h : Ties H xs T) (k : Ties H ys U) : Ties H (xs ++ ys) (T ++ U) := by
  induction h with
  | nil => exact k
  | cons a _ ih => exact .cons a ih
theorem Ties.upd {H : Hp} {xs : List V} {T : List Tie} {D : Addr} {zs ys : List V} (h : Ties H xs T) (hD : H D = some (.lst zs)) : Ties (L2.upd H D (.lst ys)) xs T := Paired.mapP h fun x t ⟨a, h1, h2⟩ => ⟨a, h1, by
  rw [upd_ne (ne_of h2 hD fun z => by cases z)]; exact h2⟩
end Gw

/-! ## Lm -/
namespace Gw
open PySem PySem.Spec PyProof.Rows L2 Evl
/-! words that the promises say -/
theorem lt_lit {c k : Nat} {s : Str} (h : s.cps.toList = [k]) : (!decide ((⟨#[c]⟩ : Str).cps.toList < s.cps.toList)) = decide (k ≤ c) := by
  rw [h]
  show (!decide ([c] < [k])) = _
  by_cases hc : c < k
  · have : [c] < [k] := List.cons_lt_cons_iff.mpr (Or.inl hc)
    rw [decide_eq_true this, decide_eq_false (by omega)]; rfl
  · have : ¬ [c] < [k] := fun z => by
      rcases List.cons_lt_cons_iff.mp z with z | ⟨_, z⟩
      · exact hc z
      · exact absurd z (by simp)
    rw [decide_eq_false this, decide_eq_true (by omega)]; rfl
theorem lt_lit2 {c k : Nat} {s : Str} (h : s.cps.toList = [k]) : (!decide (s.cps.toList < (⟨#[c]⟩ : Str).cps.toList)) = decide (c ≤ k) := by
  rw [h]
  show (!decide ([k] < [c])) = _
  by_cases hc : k < c
  · have : [k] < [c] := List.cons_lt_cons_iff.mpr (Or.inl hc)
    rw [decide_eq_true this, decide_eq_false (by omega)]; rfl
  · have : ¬ [k] < [c] := fun z => by
      rcases List.cons_lt_cons_iff.mp z with z | ⟨_, z⟩
      · exact hc z
      · exact absurd z (by simp)
    rw [decide_eq_false this, decide_eq_true (by omega)]; rfl
theorem S_one (c : Nat) : sgn c = .str (S [c]) := rfl
theorem all_map_id {α : Type} (l : List α) (f : α → Bool) : (l.map f).all id = l.all f := by rw [List.all_map]; rfl
/-- no word -/
def NT (H : Hp) (x : V) : Prop := ∃ T, Ty6 H x T ∧ T ≠ "str" ∧ (∀ s' : Shared, s'.TypeIs (.type T) "type")
def NW (H : Hp) (x : V) : Prop := (∃ l, x = .str (S l) ∧ l.length ≤ 1000 ∧ isW l = false) ∨ NT H x
theorem NT.mono {H H' : Hp} {x : V} (e : Ex H H') (h : NT H x) : NT H' x := by
  obtain ⟨T, a, b, c⟩ := h
  exact ⟨T, a.mono e, b, c⟩
theorem NW.mono {H H' : Hp} {x : V} (e : Ex H H') (h : NW H x) : NW H' x := by
  rcases h with h | h
  · exact Or.inl h
  · exact Or.inr (h.mono e)
def sp__is_letter : Sp := fun vs H Q _ => ∃ c, vs = [sgn c] ∧ RetV (.bl (isL c)) H Q
theorem sv_is_letter {c : Nat} {H : Hp} : SpV sp__is_letter [sgn c] H (.bl (isL c)) := fun H1 _ Q q E => ⟨c, rfl, q⟩
def sp_is_word : Sp := fun vs H Q _ => (∃ l, vs = [.str (S l)] ∧ l.length ≤ 1000 ∧ RetV (.bl (isW l)) H Q) ∨ (∃ x, vs = [x] ∧ NT H x ∧ RetV (.bl false) H Q)
theorem sv_is_word {l : List Nat} {H : Hp} (h : l.length ≤ 1000) : SpV sp_is_word [.str (S l)] H (.bl (isW l)) := fun H1 _ Q q E => Or.inl ⟨l, rfl, h, q⟩
theorem sv_is_word0 {x : V} {H : Hp} (h : NW H x) : SpV sp_is_word [x] H (.bl false) := fun H1 e Q q E => by
  rcases h with ⟨l, rfl, h1, h2⟩ | h
  · exact Or.inl ⟨l, rfl, h1, by rw [h2]; exact q⟩
  · exact Or.inr ⟨x, rfl, h.mono e, q⟩
/-- a word goes on, what is none is refused -/
def sp_check (CW : Addr) : Sp := fun vs H Q E => ∃ x, vs = [x] ∧ ((∃ l, x = .str (S l) ∧ l.length ≤ 1000 ∧ isW l = true ∧ RetV .non H Q) ∨ (NW H x ∧ ∀ H', Ex H H' → E (.ref CW) none H'))
def sp_short (CW : Addr) : Sp := fun vs H Q E => ∃ x, vs = [x] ∧ ((∃ l, x = .str (S l) ∧ l.length ≤ 1000 ∧ isW l = true ∧ RetV (.str (S (short l))) H Q) ∨ (NW H x ∧ ∀ H', Ex H H' → E (.ref CW) none H'))
def sp_back (CW : Addr) : Sp := fun vs H Q E => ∃ x, vs = [x] ∧ ((∃ l, x = .str (S l) ∧ l.length ≤ 1000 ∧ isW l = true ∧ RetV (.str (S (short (inv l)))) H Q) ∨ (NW H x ∧ ∀ H', Ex H H' → E (.ref CW) none H'))
def sp_times (CW : Addr) : Sp := fun vs H Q E => ∃ x y, vs = [x, y] ∧ ((∃ l m, x = .str (S l) ∧ y = .str (S m) ∧ l.length + m.length ≤ 1000 ∧ isW l = true ∧ isW m = true ∧ RetV (.str (S (short (l ++ m)))) H Q) ∨
  ((NW H x ∨ ((∃ l, x = .str (S l) ∧ l.length ≤ 1000 ∧ isW l = true) ∧ NW H y)) ∧ ∀ H', Ex H H' → E (.ref CW) none H'))
theorem sv_short {CW : Addr} {l : List Nat} {H : Hp} (h : l.length ≤ 1000) (hw : isW l = true) : SpV (sp_short CW) [.str (S l)] H (.str (S (short l))) := fun H1 e Q q E => ⟨_, rfl, Or.inl ⟨l, rfl, h, hw, q⟩⟩
theorem sv_back {CW : Addr} {l : List Nat} {H : Hp} (h : l.length ≤ 1000) (hw : isW l = true) : SpV (sp_back CW) [.str (S l)] H (.str (S (short (inv l)))) := fun H1 e Q q E => ⟨_, rfl, Or.inl ⟨l, rfl, h, hw, q⟩⟩
theorem sv_times {CW : Addr} {l m : List Nat} {H : Hp} (h : l.length + m.length ≤ 1000) (hl : isW l = true) (hm : isW m = true) : SpV (sp_times CW) [.str (S l), .str (S m)] H (.str (S (short (l ++ m)))) := fun H1 e Q q E => ⟨_, _, rfl, Or.inl ⟨l, m, rfl, rfl, h, hl, hm, q⟩⟩
theorem sv_check {CW : Addr} {l : List Nat} {H : Hp} (h : l.length ≤ 1000) (hw : isW l = true) : SpV (sp_check CW) [.str (S l)] H .non := fun H1 e Q q E => ⟨_, rfl, Or.inl ⟨l, rfl, h, hw, q⟩⟩
theorem rev_take {l : List Nat} {i c : Nat} (h : l[i]? = some c) : stk [] (l.take (i + 1)) = push (stk [] (l.take i)) c := by
  rw [List.take_add_one, h, stk_app]; rfl
theorem q_check {CW : Addr} {E : XK} {te : TE} {tz : TS} {D : Ends} {σ : L2.St} {H : Hp} {l : List Nat} (h : Ev te σ H (.str (S l))) (hz : l.length ≤ 1000) (hw : isW l = true) (k : ∀ H1, Ex H H1 → tz D σ H1) : tSeq (tDrop (tCall (sp_check CW) [] E (tCons te tNil))) tz D σ H :=
  q_drop (ev_call (ea_cons h ea_nil) (sv_check hz hw)) k
/-! ### what the law reckons -/
def cell (ns : List Int) (k : Nat) : Int := ns.getD k 0
def sp_cell (K : PySem.W.Frag) : Sp := fun vs H Q _ => ∃ a ns k, vs = [.ref a, .int (k : Nat)] ∧ SqL K H a (ns.map V.int) ∧ RetV (.int (cell ns k)) H Q
theorem sv_cell {K : PySem.W.Frag} {a : Addr} {ns : List Int} {H : Hp} {k : Int} (h : SqL K H a (ns.map V.int)) (hk : 0 ≤ k) : SpV (sp_cell K) [.ref a, .int k] H (.int (cell ns k.toNat)) := fun H1 e Q q E => by
  obtain ⟨n, rfl⟩ := Int.eq_ofNat_of_zero_le hk
  exact ⟨a, ns, n, rfl, ex_l e h, q⟩
def mixed (c k : Int) : Int := ((c % 2147483647 + 7919 * k * k + 31 * k) * 48271 % 2147483647) * (69621 + 2 * k) % 2147483629
theorem mixed_nn (c k : Int) : 0 ≤ mixed c k := Int.emod_nonneg _ (by decide)
def sp_mixed : Sp := fun vs H Q _ => ∃ c k : Int, vs = [.int c, .int k] ∧ (0 ≤ k ∧ k ≤ 10000) ∧ RetV (.int (mixed c k)) H Q
theorem sv_mixed {c k : Int} {H : Hp} (h : 0 ≤ k ∧ k ≤ 10000) : SpV sp_mixed [.int c, .int k] H (.int (mixed c k)) := fun H1 e Q q E => ⟨c, k, rfl, h, q⟩
def stepOf (c : Int) : Int := [1, 3, 5, 7, 9, 11, 15, 25].getD (c / 26 % 8).toNat 0
def manyOf (c : Int) : Int := [2, 3, 2, 1, 4 + c / 1664 % 5, 3, 2, 8].getD (c / 208 % 8).toNat 0
def lettersOf (c : Int) : List Nat := (List.range (manyOf c).toNat).map fun (k : Nat) => 97 + ((c + (k : Int) * stepOf c) % 26).toNat
theorem manyOf_bd (c : Int) : 1 ≤ manyOf c ∧ manyOf c ≤ 8 := by
  unfold manyOf
  have h1 : 0 ≤ c / 208 % 8 := Int.emod_nonneg _ (by decide)
  have h2 : c / 208 % 8 < 8 := Int.emod_lt_of_pos _ (by decide)
  have h3 : 0 ≤ c / 1664 % 5 := Int.emod_nonneg _ (by decide)
  have h4 : c / 1664 % 5 < 5 := Int.emod_lt_of_pos _ (by decide)
  generalize c / 208 % 8 = m at *
  generalize c / 1664 % 5 = n at *
  have : m.toNat < 8 := by omega
  have : m.toNat = 0 ∨ m.toNat = 1 ∨ m.toNat = 2 ∨ m.toNat = 3 ∨ m.toNat = 4 ∨ m.toNat = 5 ∨ m.toNat = 6 ∨ m.toNat = 7 := by omega
  rcases this with e | e | e | e | e | e | e | e <;> rw [e] <;> simp <;> omega
theorem stepOf_bd (c : Int) : 1 ≤ stepOf c ∧ stepOf c ≤ 25 := by
  unfold stepOf
  have h1 : 0 ≤ c / 26 % 8 := Int.emod_nonneg _ (by decide)
  have h2 : c / 26 % 8 < 8 := Int.emod_lt_of_pos _ (by decide)
  generalize c / 26 % 8 = m at *
  have : m.toNat = 0 ∨ m.toNat = 1 ∨ m.toNat = 2 ∨ m.toNat = 3 ∨ m.toNat = 4 ∨ m.toNat = 5 ∨ m.toNat = 6 ∨ m.toNat = 7 := by omega
  rcases this with e | e | e | e | e | e | e | e <;> rw [e] <;> simp
def Lts (ls : List Nat) : Prop := 1 ≤ ls.length ∧ ls.length ≤ 8 ∧ ∀ c ∈ ls, 97 ≤ c ∧ c ≤ 122
theorem lettersOf_ok (c : Int) : Lts (lettersOf c) := by
  unfold lettersOf
  have := manyOf_bd c
  refine ⟨by rw [List.length_map, List.length_range]; omega, by rw [List.length_map, List.length_range]; omega, fun x hx => ?_⟩
  obtain ⟨k, _, rfl⟩ := List.mem_map.mp hx
  have h1 : 0 ≤ (c + (k : Int) * stepOf c) % 26 := Int.emod_nonneg _ (by decide)
  have h2 : (c + (k : Int) * stepOf c) % 26 < 26 := Int.emod_lt_of_pos _ (by decide)
  omega
def sp_letters : Sp := fun vs H Q _ => ∃ c, vs = [.int c] ∧ RetL ((lettersOf c).map sgn) H Q
theorem sl_letters {c : Int} {H : Hp} : SpL sp_letters [.int c] H ((lettersOf c).map sgn) := fun H1 e Q q E => ⟨c, rfl, q⟩
def sp_bk : Sp := fun vs H Q _ => ∃ c, vs = [sgn c] ∧ isL c = true ∧ RetV (sgn (bk c)) H Q
theorem sv_bk {c : Nat} {H : Hp} (h : isL c = true) : SpV sp_bk [sgn c] H (sgn (bk c)) := fun H1 e Q q E => ⟨c, rfl, h, q⟩
def wordLet (c : Int) (ls : List Nat) (k : Nat) : Nat :=
  let n := mixed c k / 7
  let x := ls.getD (n % ls.length).toNat 0
  if n / 16 % 2 = 0 then x else x - 32
def wordOf (c : Int) (ls : List Nat) (n : Nat) : List Nat := (List.range n).map (wordLet c ls)
theorem wordLet_ok {ls : List Nat} (h : Lts ls) (c : Int) (k : Nat) : isL (wordLet c ls k) = true := by
  have h1 : 0 ≤ mixed c k / 7 % ls.length := Int.emod_nonneg _ (by have := h.1; omega)
  have h2 : mixed c k / 7 % ls.length < ls.length := Int.emod_lt_of_pos _ (by have := h.1; omega)
  have hi : (mixed c k / 7 % ls.length).toNat < ls.length := by omega
  have e : ls.getD (mixed c k / 7 % ls.length).toNat 0 = ls[(mixed c k / 7 % ls.length).toNat] := by rw [List.getD_eq_getElem?_getD, List.getElem?_eq_getElem hi]; rfl
  have b := h.2.2 _ (List.getElem_mem hi)
  unfold wordLet
  simp only [e]
  rw [isL_iff]
  split <;> omega
theorem wordOf_ok {ls : List Nat} (h : Lts ls) (c : Int) (n : Nat) : isW (wordOf c ls n) = true := by
  unfold wordOf isW
  rw [List.all_map, List.all_eq_true]
  intro k _
  exact wordLet_ok h c k
theorem wordOf_len (c : Int) (ls : List Nat) (n : Nat) : (wordOf c ls n).length = n := by unfold wordOf; simp
theorem wordOf_succ (c : Int) (ls : List Nat) (n : Nat) : wordOf c ls (n + 1) = wordOf c ls n ++ [wordLet c ls n] := by unfold wordOf; rw [List.range_succ, List.map_append]; rfl
def sp_word (K : PySem.W.Frag) : Sp := fun vs H Q _ => ∃ c a ls n, vs = [.int c, .ref a, .int n] ∧ SqL K H a (ls.map sgn) ∧ Lts ls ∧ (0 ≤ n ∧ n ≤ 100) ∧ RetV (.str (S (wordOf c ls n.toNat))) H Q
theorem sv_word {K : PySem.W.Frag} {c : Int} {a : Addr} {ls : List Nat} {n : Int} {H : Hp} (h : SqL K H a (ls.map sgn)) (hl : Lts ls) (hn : 0 ≤ n ∧ n ≤ 100) : SpV (sp_word K) [.int c, .ref a, .int n] H (.str (S (wordOf c ls n.toNat))) := fun H1 e Q q E => ⟨c, a, ls, n, rfl, ex_l e h, hl, hn, q⟩
def sp_turned : Sp := fun vs H Q _ => ∃ l, vs = [.str (S l)] ∧ l.length ≤ 1000 ∧ isW l = true ∧ RetV (.str (S (inv l))) H Q
theorem sv_turned {l : List Nat} {H : Hp} (h : l.length ≤ 1000) (hw : isW l = true) : SpV sp_turned [.str (S l)] H (.str (S (inv l))) := fun H1 e Q q E => ⟨l, rfl, h, hw, q⟩
def sp_is : Sp := fun vs H Q _ => ∃ a b, vs = [.str (S a), .str (S b)] ∧ RetV (.bl (decide (a = b))) H Q
theorem sv_is {a b : List Nat} {H : Hp} : SpV sp_is [.str (S a), .str (S b)] H (.bl (decide (a = b))) := fun H1 e Q q E => ⟨a, b, rfl, q⟩
theorem ix_pick {xs : List V} {i : Int} {v : V} (h : 0 ≤ i) (hv : xs[i.toNat]? = some v) : atI xs i = some v := by
  obtain ⟨n, rfl⟩ := Int.eq_ofNat_of_zero_le h
  exact atI_nat hv
theorem rng_item {n i : Nat} {x : V} (h : ((List.range n).map fun i => V.int (i : Nat))[i]? = some x) : i < n ∧ x = .int (i : Nat) := by
  rw [List.getElem?_map] at h
  by_cases hi : i < n
  · rw [List.getElem?_range hi] at h; exact ⟨hi, (Option.some.inj h).symm⟩
  · rw [List.getElem?_eq_none (by rw [List.length_range]; omega)] at h; cases h
theorem q_skip {t : TT} {tu tz : TS} {D : Ends} {σ : L2.St} {H : Hp} (h : EvT t σ H false) (k : ∀ H1, Ex H H1 → tz D σ H1) : tSeq (tIfS t tu tNext) tz D σ H := q_when h (fun z => by cases z) fun _ => k
theorem et_or0 {t u : TT} {σ : L2.St} {H : Hp} (h1 : EvT t σ H false) (h2 : EvT u σ H false) : EvT (tOr t u) σ H false := et_is (et_or h1 fun _ => h2) rfl
theorem isW_no {l m : List Nat} {c : Nat} (h : isL c = false) : isW (l ++ c :: m) = false := by
  unfold isW
  rw [List.all_append, List.all_cons, h, Bool.false_and, Bool.and_false]
theorem nw_txt {H : Hp} {z : Str} {l : List Nat} (e : z = S l) (hl : l.length ≤ 1000) (h : isW l = false) : NW H (.str z) := Or.inl ⟨l, by rw [e], hl, h⟩
end Gw

/-! ## Pw -/
namespace Gw
open PySem PySem.Spec PyProof.Rows L2 Evl
def topS (i : Nat) : Stmt := PySem.Challenge.pw_gluewords_k01_short_words.main.body.getD i (.Pass ⟨0, 0, 0, 0⟩)
abbrev s__is_letter : Stmt := topS 10
theorem sc__is_letter : FnScope ["sign"] ["sign"] (defScope s__is_letter) := ⟨rfl, rfl, rfl, by decide +kernel, rfl, by decide +kernel, by decide +kernel⟩
abbrev s_is_word : Stmt := topS 5
theorem sc_is_word : FnScope ["thing", "sign"] ["thing"] (defScope s_is_word) := ⟨rfl, rfl, rfl, by decide +kernel, rfl, by decide +kernel, by decide +kernel⟩
abbrev s_check_word : Stmt := topS 6
theorem sc_check_word : FnScope ["thing"] ["thing"] (defScope s_check_word) := ⟨rfl, rfl, rfl, by decide +kernel, rfl, by decide +kernel, by decide +kernel⟩
abbrev s_short : Stmt := topS 7
theorem sc_short : FnScope ["word", "kept", "letter"] ["word"] (defScope s_short) := ⟨rfl, rfl, rfl, by decide +kernel, rfl, by decide +kernel, by decide +kernel⟩
section
variable {P : Program} {w : World} {K : PySem.W.Frag} {mg : Str → Option Value} {base : Heap} {C_GlueError C_BadWord C_BadWeb : Addr}
theorem ok__is_letter (D : Def K mg "_is_letter" s__is_letter ["sign"]) : Cal P w K mg base CX0 "_is_letter" 1 ["sign"] sp__is_letter := by
  refine D.cal sc__is_letter (fun vs H Q E h => ?_) (fun f cdv A outer s H vs Q E hr h => ⟨_, (pss_one (ps_ret (pe_or (pe_chain op_le_str op_le_str pe_str (pv 0) pe_str) (pe_one (pe_chain op_le_str op_le_str pe_str (pv 0) pe_str))))), ?_⟩)
  · obtain ⟨c, rfl, _⟩ := h; rfl
  · obtain ⟨c, rfl, q⟩ := h
    refine s_ret (v := .bl (isL c)) (ev_is (ev_orV (ev_chain ev_c (ev_var rfl) rv_leS ev_c rv_leS) (fun _ => ev_chain ev_c (ev_var rfl) rv_leS ev_c rv_leS)) ?_) (fun H1 e => q H1 e)
    rw [lt_lit (k := 97) (by decide +kernel), lt_lit2 (k := 122) (by decide +kernel), lt_lit (k := 65) (by decide +kernel), lt_lit2 (k := 90) (by decide +kernel)]
    rfl
theorem ok_is_word (D : Def K mg "is_word" s_is_word ["thing"]) (B : Blt mg) (C__is_letter : Cal P w K mg base CX0 "_is_letter" 1 ["sign"] sp__is_letter) : Cal P w K mg base CX0 "is_word" 2 ["thing"] sp_is_word := by
  refine D.cal sc_is_word (fun vs H Q E h => ?_) (fun f cdv A outer s H vs Q E hr h => ⟨_, (pss_one (ps_ret (pe_and (pe_cmpR op_eqTy (pe_callTy call_type6 (by rfl) B.z_type (by decide +kernel) (pa_cons (pv 0) pa_nil)) (pe_bltn (v := .ty "str") (by rfl) B.z_str (by decide +kernel) rfl) (nomark _)) (pe_one (pe_callB (cr_all rfl) (by rfl) B.z_all (by decide +kernel) (pa_cons (pe_lc (own := [("sign", 1)]) (g := (gName 1)) rfl sc_is_word.nd (pi_str (pv 0)) (blkOk_by (own := [("sign", 1)]) (N := ["thing", "sign"]) (sc := defScope s_is_word) (by decide +kernel)) (fun _ _ _ _ _ => (pg_name (i := 1) sc_is_word.nd rfl (Or.inl rfl))) (fun _ _ _ _ _ => pts_nil) (fun _ _ _ _ _ => (pe_callC C__is_letter (hr.mono (by decide)) rfl pass0 (pa_cons (pv 1) pa_nil)))) pa_nil)))))), ?_⟩)
  · rcases h with ⟨l, rfl, _⟩ | ⟨x, rfl, _⟩ <;> rfl
  · rcases h with ⟨l, rfl, hz, q⟩ | ⟨x, rfl, ⟨T, t6, hT, tf⟩, q⟩
    · refine s_ret (v := .bl (isW l)) (ev_is (ev_andV (ev_op (ev_cb (ea_cons (ev_var rfl) ea_nil) (rc_type (.base (.str _)))) ev_c (rv_eqTy (fun _ => rfl) (fun _ => rfl)))
        (fun _ => ev_allN (bs := l.map isL) (el_lcA (fun x => match x with | .str z => .bl (isL (z.cps.getD 0 0)) | _ => .non) (ew_str (ev_var rfl)) trivial kp_true ?_ (fun x => rfl) ?_) ?_)) ?_) (fun H1 e => q H1 e)
      · rw [List.length_map, S_cps]; omega
      · intro x hx H1 e1
        rw [S_cps] at hx
        obtain ⟨c, hc, rfl⟩ := List.mem_map.mp hx
        exact ev_call (ea_cons (ev_var rfl) ea_nil) sv_is_letter
      · rw [S_cps, List.map_map, List.map_map]; rfl
      · rw [all_map_id]; rfl
    · exact s_ret (ev_is (ev_andV (ev_op (ev_cb (ea_cons (ev_var rfl) ea_nil) (rc_type t6)) ev_c (rv_eqTy tf (fun _ => rfl))) (b := true) (fun z => absurd (of_decide_eq_true z) hT)) (by rw [decide_eq_false hT]; rfl)) (fun H1 e => q H1 e)
theorem ok_check (D : Def K mg "check_word" s_check_word ["thing"]) (T : Exn K mg C_GlueError C_BadWord C_BadWeb) (C_is_word : Cal P w K mg base CX0 "is_word" 2 ["thing"] sp_is_word) : Cal P w K mg base (L2.CX P w) "check_word" 5 ["thing"] (sp_check C_BadWord) := by
  refine D.calX sc_check_word (fun vs H Q E h => ?_) (fun f cdv A outer s H vs Q E hr h => ⟨_, (pss_one (ps_if (pt_not (pt_val (pe_callC C_is_word (hr.mono (by decide)) rfl pass0 (pa_cons (pv 0) pa_nil))))
      (pss_one (ps_raise rfl (takes_of rfl rfl rfl rfl) (pmk_own PySem.F.excBase_ValueError T.x_BadWord T.g_BadWord T.k_BadWord (raises_own T.b_BadWord T.t_BadWord) rfl)))
      pss_nil)), ?_⟩)
  · obtain ⟨x, rfl, _⟩ := h; rfl
  · obtain ⟨x, rfl, ⟨l, rfl, hz, hw, q⟩ | ⟨hn, hE⟩⟩ := h
    · exact s_if (et_not (et_B (ev_call (ea_cons (ev_var rfl) ea_nil) (sv_is_word hz)))) (fun z => by rw [hw] at z; cases z) (fun _ H1 e => q H1 e)
    · exact s_if (et_not (et_B (ev_call (ea_cons (ev_var rfl) ea_nil) (sv_is_word0 hn)))) (fun _ H1 e => hE H1 e) (fun z => by cases z)
theorem ok_short (D : Def K mg "short" s_short ["word"]) (C_check_word : Cal P w K mg base (L2.CX P w) "check_word" 5 ["thing"] (sp_check C_BadWord)) : Cal P w K mg base (L2.CX P w) "short" 6 ["word"] (sp_short C_BadWord) := by
  refine D.calX sc_short (fun vs H Q E h => ?_) (fun f cdv A outer s H vs Q E hr h => ⟨_, (pss_cons (ps_expr (pe_callC C_check_word (hr.mono (by decide)) rfl (passes_call (takes_of rfl rfl rfl rfl) (fun _ _ _ _ h => h)) (pa_cons (pv 0) pa_nil)))
      (pss_cons (ps_set (i := 1) sc_short.nd rfl (Or.inl rfl) (pe_lst pa_nil))
      (pss_cons (ps_for (passes_of rfl) rfl (pi_str (pv 0)) (pg_name (i := 2) sc_short.nd rfl (Or.inl rfl))
      (pss_one (ps_if (PW.pt (pw_and (pt_truth (pv 1) (by intro _; rfl)) (pw_and1 (pt_cmpR op_eq (pe_ix ix_list (pv 1) (pe_un un_neg pe_int) (fun _ _ => rfl)) (pe_m0 PySem.F.slot_str_swapcase PySem.F.type_str_swapcase mt_swapcase (pv 2)) (nomark _)))))
      (pss_one (ps_expr (pe_bm0 PySem.F.plainAttrs_list PySem.F.slot_list_pop PySem.F.type_list_pop mt_pop (pv 1))))
      (pss_one (ps_expr (pe_bm PySem.F.plainAttrs_list PySem.F.slot_list_append PySem.F.type_list_append mt_append (pv 1) (pa_cons (pv 2) pa_nil)))))))
      (pss_one (ps_ret (pe_join pe_str (pv 1))))))), ?_⟩)
  · obtain ⟨x, rfl, _⟩ := h; rfl
  · obtain ⟨x, rfl, ⟨l, rfl, hz, hw, q⟩ | ⟨hn, hE⟩⟩ := h
    · refine q_check (ev_var rfl) hz hw fun H1 e1 => ?_
      refine q_asgL (el_lst ea_nil (Nat.zero_le _)) fun p H2 hp e2 h2 => ?_
      refine q_for (ew_str (ev_var rfl)) (fun i σ' H' => ∃ v, σ' = [some (.str (S l)), some (.ref p), v] ∧ Ex H1 H' ∧ H' p = some (.lst ((stk [] (l.take i)).reverse.map sgn))) (fun H3 e3 => ⟨none, rfl, e2.trans e3, e3 _ _ h2⟩) (fun _ _ _ _ _ => trivial) ?_ ?_
      · rintro i x σ' H' hx ⟨v, rfl, e3, h3⟩
        rw [S_cps] at hx
        obtain ⟨c, hc, rfl⟩ : ∃ c, l[i]? = some c ∧ x = sgn c := by
          rw [List.getElem?_map] at hx
          cases hc : l[i]? with
          | none => rw [hc] at hx; cases hx
          | some c => rw [hc] at hx; exact ⟨c, rfl, (Option.some.inj hx).symm⟩
        have hL : isL c = true := List.all_eq_true.mp hw c (List.mem_of_getElem? hc)
        have st := rev_take hc
        have sl : (stk [] (l.take i)).length ≤ 1000 := by
          have w2 : isW (l.take i) = true := List.all_eq_true.mpr fun x hx => List.all_eq_true.mp hw x (List.mem_of_mem_take hx)
          have := short_len w2
          unfold short at this
          rw [List.length_reverse, List.length_take] at this
          omega
        generalize stk [] (l.take i) = s at st h3 sl
        show tIfS _ _ _ _ [some (.str (S l)), some (.ref p), some (sgn c)] H'
        cases s with
        | nil =>
          refine s_if (b := false) (et_is (et_and (et_truL (ev_var rfl) (sq_of h3)) (b := true) (fun z => by cases z)) rfl) (fun z => by cases z) fun _ H4 e4 => ?_
          refine s_app (e4 _ _ h3) (ev_var rfl) (ev_var rfl) (by simp) fun H5 e5 => ⟨_, rfl, Ex.mut ((e3.trans e4).trans e5) hp, ?_⟩
          rw [upd_same, st]; rfl
        | cons t r =>
          have hr : (List.map sgn (t :: r).reverse) = r.reverse.map sgn ++ [sgn t] := by rw [List.reverse_cons, List.map_append]; rfl
          rw [hr] at h3
          refine s_if (b := decide (t = bk c)) (et_is (et_and (et_truL (ev_var rfl) (sq_of h3)) (fun _ => et_test (ev_op (ev_op (ev_var rfl) (ev_un ev_c ru_neg) (rv_ixL (sq_of h3) (atI_last _ _))) (ev_mS (C := fun a => a.length ≤ 5592405) (g := fun a => .str (Txt.swapcase a)) (ev_var rfl) (by show (S [c]).length ≤ _; rw [S_len]; simp)) (rv_eq rfl)))) ?_) (fun b H4 e4 => ?_) (fun b H4 e4 => ?_)
          · have e0 : (!(r.reverse.map sgn ++ [sgn t]).isEmpty) = true := by simp
            rw [e0, Bool.true_and]
            show decide (V.str (S [t]) = V.str (Txt.swapcase (S [c]))) = _
            rw [swap_one hL]
            by_cases e : t = bk c
            · rw [e]; simp
            · rw [decide_eq_false e, decide_eq_false fun z => e (by have := S_inj (V.str.inj z); simpa using this)]
          · have e : t = bk c := of_decide_eq_true b
            refine s_pop (e4 _ _ h3) (ev_var rfl) (y := sgn t) (by simp) fun H5 e5 => ⟨_, rfl, Ex.mut ((e3.trans e4).trans e5) hp, ?_⟩
            rw [upd_same, st]
            have : push (t :: r) c = r := if_pos e
            rw [this]; simp
          · have e : ¬ t = bk c := of_decide_eq_false b
            refine s_app (e4 _ _ h3) (ev_var rfl) (ev_var rfl) (by simp at sl ⊢; omega) fun H5 e5 => ⟨_, rfl, Ex.mut ((e3.trans e4).trans e5) hp, ?_⟩
            rw [upd_same, st]
            have : push (t :: r) c = c :: t :: r := if_neg e
            rw [this]; simp
      · rintro σ' H' ⟨v, rfl, e3, h3⟩
        rw [List.length_map, S_cps, List.take_length] at h3
        have : (stk [] l).reverse = short l := rfl
        rw [this, sgn_map] at h3
        refine s_ret (v := .str (S (short l))) (ev_is (ev_join (a := S []) ev_c (ev_var rfl) (sq_of h3) ?_) ?_) fun H4 e4 => q H4 ((e1.trans e3).trans e4)
        · rw [ones_size]; have := short_len hw; omega
        · rw [join_ones]
    · exact ⟨_, rfl, _, rfl, Or.inr ⟨hn, hE⟩⟩
end
end Gw

/-! ## Pb -/
namespace Gw
open PySem PySem.Spec PyProof.Rows L2 Evl
abbrev s_back : Stmt := topS 8
theorem sc_back : FnScope ["word", "letter"] ["word"] (defScope s_back) := ⟨rfl, rfl, rfl, by decide +kernel, rfl, by decide +kernel, by decide +kernel⟩
abbrev s_times : Stmt := topS 9
theorem sc_times : FnScope ["one", "other"] ["one", "other"] (defScope s_times) := ⟨rfl, rfl, rfl, by decide +kernel, rfl, by decide +kernel, by decide +kernel⟩
section
variable {P : Program} {w : World} {K : PySem.W.Frag} {mg : Str → Option Value} {base : Heap} {C_GlueError C_BadWord C_BadWeb : Addr}
theorem ok_back (D : Def K mg "back" s_back ["word"]) (C_check_word : Cal P w K mg base (L2.CX P w) "check_word" 5 ["thing"] (sp_check C_BadWord)) (C_short : Cal P w K mg base (L2.CX P w) "short" 6 ["word"] (sp_short C_BadWord)) : Cal P w K mg base (L2.CX P w) "back" 7 ["word"] (sp_back C_BadWord) := by
  refine D.calX sc_back (fun vs H Q E h => ?_) (fun f cdv A outer s H vs Q E hr h => ⟨_, (pss_cons (ps_expr (pe_callC C_check_word (hr.mono (by decide)) rfl (passes_call (takes_of rfl rfl rfl rfl) (fun _ _ _ _ h => h)) (pa_cons (pv 0) pa_nil)))
      (pss_one (ps_ret (pe_callC C_short (hr.mono (by decide)) rfl (passes_call (takes_of rfl rfl rfl rfl) (fun _ _ _ _ h => h)) (pa_cons (pe_join pe_str (pe_lc (own := [("letter", 1)]) (g := (gName 1)) rfl sc_back.nd (pi_str (pe_revS (pv 0))) (blkOk_by (own := [("letter", 1)]) (N := ["word", "letter"]) (sc := defScope s_back) (by decide +kernel)) (fun _ _ _ _ _ => (pg_name (i := 1) sc_back.nd rfl (Or.inl rfl))) (fun _ _ _ _ _ => pts_nil) (fun _ _ _ _ _ => (pe_m0 PySem.F.slot_str_swapcase PySem.F.type_str_swapcase mt_swapcase (pv 1))))) pa_nil))))), ?_⟩)
  · obtain ⟨x, rfl, _⟩ := h; rfl
  · obtain ⟨x, rfl, ⟨l, rfl, hz, hw, q⟩ | ⟨hn, hE⟩⟩ := h
    · refine q_check (ev_var rfl) hz hw fun H1 e1 => ?_
      refine s_ret (ev_call (ea_cons (ev_is (ev_joinN (a := S []) (ys := (inv l).map fun c => S [c]) ev_c (el_lcA (fun x => match x with | .str z => .str (Txt.swapcase z) | _ => .non) (ew_str (ev_revS (ev_var rfl) (S_sz (by omega)))) trivial kp_true ?_ (fun x => rfl) ?_) ?_ ?_) (w := .str (S (inv l))) ?_) ea_nil) (sv_short (by rw [inv_len]; omega) (isW_inv hw))) fun H2 e2 => q H2 (e1.trans e2)
      · rw [List.length_map]; show (S l).cps.toList.reverse.toArray.toList.length ≤ _; simp [S_cps]; omega
      · intro x hx H2 e2
        obtain ⟨c, hc, rfl⟩ := List.mem_map.mp hx
        refine ev_mS (C := fun a => a.length ≤ 5592405) (g := fun a => .str (Txt.swapcase a)) (ev_var rfl) ?_
        show (S [c]).length ≤ _
        rw [S_len]; simp
      · have : (revS (S l)).cps.toList = l.reverse := by show (S l).cps.toList.reverse.toArray.toList = _; simp [S_cps]
        rw [this]
        unfold inv
        rw [List.map_map, List.map_map, List.map_map]
        refine List.map_congr_left fun c hc => ?_
        show V.str (Txt.swapcase (S [c])) = V.str (S [bk c])
        rw [swap_one (List.all_eq_true.mp hw c (List.mem_reverse.mp hc))]
      · rw [ones_size, inv_len]; omega
      · rw [join_ones]
    · exact ⟨_, rfl, _, rfl, Or.inr ⟨hn, hE⟩⟩
theorem ok_times (D : Def K mg "times" s_times ["one", "other"]) (C_check_word : Cal P w K mg base (L2.CX P w) "check_word" 5 ["thing"] (sp_check C_BadWord)) (C_short : Cal P w K mg base (L2.CX P w) "short" 6 ["word"] (sp_short C_BadWord)) : Cal P w K mg base (L2.CX P w) "times" 7 ["one", "other"] (sp_times C_BadWord) := by
  refine D.calX sc_times (fun vs H Q E h => ?_) (fun f cdv A outer s H vs Q E hr h => ⟨_, (pss_cons (ps_expr (pe_callC C_check_word (hr.mono (by decide)) rfl (passes_call (takes_of rfl rfl rfl rfl) (fun _ _ _ _ h => h)) (pa_cons (pv 0) pa_nil)))
      (pss_cons (ps_expr (pe_callC C_check_word (hr.mono (by decide)) rfl (passes_call (takes_of rfl rfl rfl rfl) (fun _ _ _ _ h => h)) (pa_cons (pv 1) pa_nil)))
      (pss_one (ps_ret (pe_callC C_short (hr.mono (by decide)) rfl (passes_call (takes_of rfl rfl rfl rfl) (fun _ _ _ _ h => h)) (pa_cons (pe_op op_add_str (pv 0) (pv 1)) pa_nil)))))), ?_⟩)
  · obtain ⟨x, y, rfl, _⟩ := h; rfl
  · obtain ⟨x, y, rfl, ⟨l, m, rfl, rfl, hz, hl, hm, q⟩ | ⟨hn | ⟨⟨l, rfl, hz, hl⟩, hn⟩, hE⟩⟩ := h
    · refine q_check (ev_var rfl) (by omega) hl fun H1 e1 => ?_
      refine q_check (ev_var rfl) (by omega) hm fun H2 e2 => ?_
      refine s_ret (ev_call (ea_cons (ev_is (ev_op (ev_var rfl) (ev_var rfl) (rv_addS (by rw [S_len, S_len]; exact sz_of (by omega)))) (by rw [S_app])) ea_nil) (sv_short (by rw [List.length_append]; omega) (isW_app.mpr ⟨hl, hm⟩))) fun H3 e3 => q H3 ((e1.trans e2).trans e3)
    · exact ⟨_, rfl, _, rfl, Or.inr ⟨hn, hE⟩⟩
    · refine q_check (ev_var rfl) (by omega) hl fun H1 e1 => ?_
      exact ⟨_, rfl, _, rfl, Or.inr ⟨hn.mono e1, fun H2 e2 => hE H2 (e1.trans e2)⟩⟩
end
end Gw

/-! ## La -/
namespace Gw
open PySem PySem.Spec PyProof.Rows L2 Evl
abbrev s__law_cell : Stmt := topS 13
theorem sc__law_cell : FnScope ["_law_script", "_law_k"] ["_law_script", "_law_k"] (defScope s__law_cell) := ⟨rfl, rfl, rfl, by decide +kernel, rfl, by decide +kernel, by decide +kernel⟩
abbrev s__law_mixed : Stmt := topS 14
theorem sc__law_mixed : FnScope ["_law_cell_here", "_law_k", "_law_number"] ["_law_cell_here", "_law_k"] (defScope s__law_mixed) := ⟨rfl, rfl, rfl, by decide +kernel, rfl, by decide +kernel, by decide +kernel⟩
abbrev s__law_letters : Stmt := topS 15
theorem sc__law_letters : FnScope ["_law_cell_here", "_law_some", "_law_step", "_law_many", "_law_k"] ["_law_cell_here"] (defScope s__law_letters) := ⟨rfl, rfl, rfl, by decide +kernel, rfl, by decide +kernel, by decide +kernel⟩
abbrev s__law_back : Stmt := topS 16
theorem sc__law_back : FnScope ["_law_letter"] ["_law_letter"] (defScope s__law_back) := ⟨rfl, rfl, rfl, by decide +kernel, rfl, by decide +kernel, by decide +kernel⟩
abbrev s__law_word : Stmt := topS 17
theorem sc__law_word : FnScope ["_law_cell_here", "_law_letters_here", "_law_size", "_law_word_here", "_law_k", "_law_number", "_law_letter"] ["_law_cell_here", "_law_letters_here", "_law_size"] (defScope s__law_word) := ⟨rfl, rfl, rfl, by decide +kernel, rfl, by decide +kernel, by decide +kernel⟩
abbrev s__law_turned : Stmt := topS 19
theorem sc__law_turned : FnScope ["_law_word_here", "_law_letter"] ["_law_word_here"] (defScope s__law_turned) := ⟨rfl, rfl, rfl, by decide +kernel, rfl, by decide +kernel, by decide +kernel⟩
section
variable {P : Program} {w : World} {K : PySem.W.Frag} {mg : Str → Option Value} {base : Heap} {C_GlueError C_BadWord C_BadWeb : Addr}
theorem ok_cell (D : Def K mg "_law_cell" s__law_cell ["_law_script", "_law_k"]) (B : Blt mg) : Cal P w K mg base CX0 "_law_cell" 1 ["_law_script", "_law_k"] (sp_cell K) := by
  refine D.cal sc__law_cell (fun vs H Q E h => ?_) (fun f cdv A outer s H vs Q E hr h => ⟨_, (pss_cons (ps_if (pt_cmpR op_lt (pv 1) (pe_callB call_len_seq (by rfl) B.z_len (by decide +kernel) (pa_cons (pv 0) pa_nil)) (nomark _))
      (pss_one (ps_ret (pe_ix ix_list (pv 0) (pv 1) (fun _ _ => rfl))))
      pss_nil)
      (pss_one (ps_ret pe_int))), ?_⟩)
  · obtain ⟨a, ns, k, rfl, _⟩ := h; rfl
  · obtain ⟨a, ns, k, rfl, hs, q⟩ := h
    refine q_when (et_test (ev_op (ev_var rfl) (ev_cb (ea_cons (ev_var rfl) ea_nil) (rc_len hs)) rv_I0)) (fun b H1 e1 => ?_) (fun b H1 e1 => ?_)
    · have hk : k < ns.length := by have := of_decide_eq_true b; rw [List.length_map] at this; omega
      refine s_ret (ev_op (ev_var rfl) (ev_var rfl) (rv_ixL (ex_l e1 hs) (v := .int (cell ns k)) (atI_nat ?_))) fun H2 e2 => q H2 (e1.trans e2)
      rw [List.getElem?_map, List.getElem?_eq_getElem hk]
      unfold cell
      rw [List.getD_eq_getElem?_getD, List.getElem?_eq_getElem hk]; rfl
    · have hk : ¬ k < ns.length := by have := of_decide_eq_false b; rw [List.length_map] at this; omega
      refine s_ret (ev_is ev_c ?_) fun H2 e2 => q H2 (e1.trans e2)
      unfold cell
      rw [List.getD_eq_getElem?_getD, List.getElem?_eq_none (by omega)]; rfl
theorem ok_mixed (D : Def K mg "_law_mixed" s__law_mixed ["_law_cell_here", "_law_k"]) : Cal P w K mg base CX0 "_law_mixed" 1 ["_law_cell_here", "_law_k"] sp_mixed := by
  refine D.cal sc__law_mixed (fun vs H Q E h => ?_) (fun f cdv A outer s H vs Q E hr h => ⟨_, (pss_cons (ps_set (i := 2) sc__law_mixed.nd rfl (Or.inl rfl) (pe_op op_mod (pe_op op_mul (pe_op op_add (pe_op op_add (pe_op op_mod (pv 0) pe_int) (pe_op op_mul (pe_op op_mul pe_int (pv 1)) (pv 1))) (pe_op op_mul pe_int (pv 1))) pe_int) pe_int))
      (pss_one (ps_ret (pe_op op_mod (pe_op op_mul (pv 2) (pe_op op_add pe_int (pe_op op_mul pe_int (pv 1)))) pe_int)))), ?_⟩)
  · obtain ⟨c, k, rfl, _⟩ := h; rfl
  · obtain ⟨c, k, rfl, hk, q⟩ := h
    have b1 : 0 ≤ c % 2147483647 := Int.emod_nonneg _ (by decide)
    have b2 : c % 2147483647 < 2147483647 := Int.emod_lt_of_pos _ (by decide)
    refine q_asg (ev_op (ev_op (ev_op (ev_op (ev_op (ev_var rfl) ev_c (rv_I (by decide))) (ev_op (ev_op ev_c (ev_var rfl) (rv_I (.inl (by decide)))) (ev_var rfl) (rv_I (.inr (by omega)))) rv_I0) (ev_op ev_c (ev_var rfl) (rv_I (.inl (by decide)))) rv_I0) ev_c (rv_I (.inr (by decide)))) ev_c (rv_I (by decide))) fun H1 e1 => ?_
    refine s_ret (ev_op (ev_op (ev_var rfl) (ev_op ev_c (ev_op ev_c (ev_var rfl) (rv_I (.inl (by decide)))) rv_I0) (rv_I (.inr (by omega)))) ev_c (rv_I (by decide))) fun H2 e2 => q H2 (e1.trans e2)
theorem ok_letters (D : Def K mg "_law_letters" s__law_letters ["_law_cell_here"]) (B : Blt mg) : Cal P w K mg base CX0 "_law_letters" 1 ["_law_cell_here"] sp_letters := by
  refine D.cal sc__law_letters (fun vs H Q E h => ?_) (fun f cdv A outer s H vs Q E hr h => ⟨_, (pss_cons (ps_set (i := 1) sc__law_letters.nd rfl (Or.inr rfl) pe_str)
      (pss_cons (ps_set (i := 2) sc__law_letters.nd rfl (Or.inr rfl) (pe_ix ix_list (pe_lst (pa_cons pe_int (pa_cons pe_int (pa_cons pe_int (pa_cons pe_int (pa_cons pe_int (pa_cons pe_int (pa_cons pe_int (pa_cons pe_int pa_nil))))))))) (pe_op op_mod (pe_op op_fdiv (pv 0) pe_int) pe_int) (fun _ _ => rfl)))
      (pss_cons (ps_set (i := 3) sc__law_letters.nd rfl (Or.inl rfl) (pe_ix ix_list (pe_lst (pa_cons pe_int (pa_cons pe_int (pa_cons pe_int (pa_cons pe_int (pa_cons (pe_op op_add pe_int (pe_op op_mod (pe_op op_fdiv (pv 0) pe_int) pe_int)) (pa_cons pe_int (pa_cons pe_int (pa_cons pe_int pa_nil))))))))) (pe_op op_mod (pe_op op_fdiv (pv 0) pe_int) pe_int) (fun _ _ => rfl)))
      (pss_one (ps_ret (pe_lc (own := [("_law_k", 4)]) (g := (gName 4)) rfl sc__law_letters.nd (pi_range1 rfl B.z_range (pa_cons (pv 3) pa_nil)) (blkOk_by (own := [("_law_k", 4)]) (N := ["_law_cell_here", "_law_some", "_law_step", "_law_many", "_law_k"]) (sc := defScope s__law_letters) (by decide +kernel)) (fun _ _ _ _ _ => (pg_name (i := 4) sc__law_letters.nd rfl (Or.inl rfl))) (fun _ _ _ _ _ => pts_nil) (fun _ _ _ _ _ => (pe_ix ix_str (pv 1) (pe_op op_mod (pe_op op_add (pv 0) (pe_op op_mul (pv 4) (pv 2))) pe_int) (fun _ _ => rfl))))))))), ?_⟩)
  · obtain ⟨c, rfl, _⟩ := h; rfl
  · obtain ⟨c, rfl, q⟩ := h
    have d1 : 0 ≤ c / 26 % 8 := Int.emod_nonneg _ (by decide)
    have d2 : c / 26 % 8 < 8 := Int.emod_lt_of_pos _ (by decide)
    have m1 : 0 ≤ c / 208 % 8 := Int.emod_nonneg _ (by decide)
    have m2 : c / 208 % 8 < 8 := Int.emod_lt_of_pos _ (by decide)
    have mb := manyOf_bd c
    have sb := stepOf_bd c
    refine q_asg ev_c fun H1 e1 => ?_
    refine q_asg (ev_ixN (v := .int (stepOf c)) (el_lst (ea_cons ev_c (ea_cons ev_c (ea_cons ev_c (ea_cons ev_c (ea_cons ev_c (ea_cons ev_c (ea_cons ev_c (ea_cons ev_c ea_nil)))))))) (by simp)) (ev_op (ev_op (ev_var rfl) ev_c (rv_I ⟨by decide, by decide⟩)) ev_c (rv_I (by decide))) (ix_pick d1 ?_)) fun H2 e2 => ?_
    · unfold stepOf
      generalize c / 26 % 8 = m at *
      have : m.toNat = 0 ∨ m.toNat = 1 ∨ m.toNat = 2 ∨ m.toNat = 3 ∨ m.toNat = 4 ∨ m.toNat = 5 ∨ m.toNat = 6 ∨ m.toNat = 7 := by omega
      rcases this with e | e | e | e | e | e | e | e <;> rw [e] <;> rfl
    refine q_asg (ev_ixN (v := .int (manyOf c)) (el_lst (ea_cons ev_c (ea_cons ev_c (ea_cons ev_c (ea_cons ev_c (ea_cons (ev_op ev_c (ev_op (ev_op (ev_var rfl) ev_c (rv_I ⟨by decide, by decide⟩)) ev_c (rv_I (by decide))) rv_I0) (ea_cons ev_c (ea_cons ev_c (ea_cons ev_c ea_nil)))))))) (by simp)) (ev_op (ev_op (ev_var rfl) ev_c (rv_I ⟨by decide, by decide⟩)) ev_c (rv_I (by decide))) (ix_pick m1 ?_)) fun H3 e3 => ?_
    · unfold manyOf
      generalize c / 208 % 8 = m at *
      have : m.toNat = 0 ∨ m.toNat = 1 ∨ m.toNat = 2 ∨ m.toNat = 3 ∨ m.toNat = 4 ∨ m.toNat = 5 ∨ m.toNat = 6 ∨ m.toNat = 7 := by omega
      rcases this with e | e | e | e | e | e | e | e <;> rw [e] <;> rfl
    have E := el_lcA (te := tOp rIxS (tVar 1) (tOp (rI (fun _ j => 0 < j) fun i j => .int (i % j)) (tOp (rI0 fun i j => .int (i + j)) (tVar 0) (tOp (rI CMul fun i j => .int (i * j)) (tVar 4) (tVar 2))) (tC (.int 26)))) (σ := [some (.int c), some (.str "abcdefghijklmnopqrstuvwxyz"), some (.int (stepOf c)), some (.int (manyOf c)), none]) (H := H3) (j := 4) (vs := [4])
      (fun x => match x with | .int i => sgn (97 + ((c + i * stepOf c) % 26).toNat) | _ => .non) (ew_rng1 (n := manyOf c) (ea_cons (ev_var (i := 3) rfl) ea_nil) (by omega)) trivial kp_true (by rw [List.length_map, List.length_range]; omega) (fun x => rfl) (fun x hx H4 e4 => by
        obtain ⟨k, hk, rfl⟩ := List.mem_map.mp hx
        have hk' := List.mem_range.mp hk
        have x1 : 0 ≤ (c + (k : Int) * stepOf c) % 26 := Int.emod_nonneg _ (by decide)
        have x2 : (c + (k : Int) * stepOf c) % 26 < 26 := Int.emod_lt_of_pos _ (by decide)
        refine ev_op (ev_var rfl) (ev_op (ev_op (ev_var rfl) (ev_op (ev_var rfl) (ev_var rfl) (rv_I (.inl (by omega)))) rv_I0) ev_c (rv_I (by decide))) (rv_ixS (by decide +kernel) ?_)
        generalize (c + (k : Int) * stepOf c) % 26 = m at *
        obtain ⟨n, rfl⟩ := Int.eq_ofNat_of_zero_le x1
        have hn : n < 26 := by omega
        refine atI_nat ?_
        have tab : ∀ n, n < 26 → ("abcdefghijklmnopqrstuvwxyz" : Str).cps.toList[n]? = some (97 + n) := by decide +kernel
        have := tab n hn
        simpa using this)
    refine s_retL (xs := (lettersOf c).map sgn) ?_ fun p H4 hp e4 h4 => q p H4 (fresh_back ((e1.trans e2).trans e3) hp) (((e1.trans e2).trans e3).trans e4) h4
    have e : (lettersOf c).map sgn = ((List.range (manyOf c).toNat).map fun i => V.int (i : Nat)).map (fun x => match x with | .int i => sgn (97 + ((c + i * stepOf c) % 26).toNat) | _ => .non) := by
      unfold lettersOf
      rw [List.map_map, List.map_map]; rfl
    rw [e]
    exact E
theorem ok_bk (D : Def K mg "_law_back" s__law_back ["_law_letter"]) : Cal P w K mg base CX0 "_law_back" 1 ["_law_letter"] sp_bk := by
  refine D.cal sc__law_back (fun vs H Q E h => ?_) (fun f cdv A outer s H vs Q E hr h => ⟨_, (pss_cons (ps_if (pt_cmpR op_eq (pv 0) (pe_lower (pv 0)) (nomark _))
      (pss_one (ps_ret (pe_upper (pv 0))))
      pss_nil)
      (pss_one (ps_ret (pe_lower (pv 0))))), ?_⟩)
  · obtain ⟨c, rfl, _⟩ := h; rfl
  · obtain ⟨c, rfl, hc, q⟩ := h
    have sz : (S [c]).length ≤ 5592405 := by rw [S_len]; simp
    refine q_when (b := decide (97 ≤ c)) (et_is (et_test (ev_op (ev_var rfl) (ev_mS (C := fun a => a.length ≤ 5592405) (g := fun a => .str (Txt.lower a)) (ev_var rfl) sz) (rv_eq rfl))) ?_) (fun b H1 e1 => ?_) (fun b H1 e1 => ?_)
    · show decide (V.str (S [c]) = V.str (Txt.lower (S [c]))) = _
      rw [lower_one hc]
      by_cases h : 97 ≤ c
      · rw [if_pos h]; simp [h]
      · rw [if_neg h, decide_eq_false h, decide_eq_false fun z => by have := S_inj (V.str.inj z); simp at this]
    · have h : 97 ≤ c := of_decide_eq_true b
      refine s_ret (ev_is (ev_mS (C := fun a => a.length ≤ 5592405) (g := fun a => .str (Txt.upper a)) (ev_var rfl) sz) ?_) fun H2 e2 => q H2 (e1.trans e2)
      show V.str (Txt.upper (S [c])) = V.str (S [bk c])
      rw [upper_one hc]; unfold bk; rw [if_pos h, if_pos h]
    · have h : ¬ 97 ≤ c := of_decide_eq_false b
      refine s_ret (ev_is (ev_mS (C := fun a => a.length ≤ 5592405) (g := fun a => .str (Txt.lower a)) (ev_var rfl) sz) ?_) fun H2 e2 => q H2 (e1.trans e2)
      show V.str (Txt.lower (S [c])) = V.str (S [bk c])
      rw [lower_one hc]; unfold bk; rw [if_neg h, if_neg h]
theorem ok_word (D : Def K mg "_law_word" s__law_word ["_law_cell_here", "_law_letters_here", "_law_size"]) (B : Blt mg) (C__law_mixed : Cal P w K mg base CX0 "_law_mixed" 1 ["_law_cell_here", "_law_k"] sp_mixed) : Cal P w K mg base CX0 "_law_word" 2 ["_law_cell_here", "_law_letters_here", "_law_size"] (sp_word K) := by
  refine D.cal sc__law_word (fun vs H Q E h => ?_) (fun f cdv A outer s H vs Q E hr h => ⟨_, (pss_cons (ps_set (i := 3) sc__law_word.nd rfl (Or.inl rfl) pe_str)
      (pss_cons (ps_for PassesOwn.never rfl (pi_range1 rfl B.z_range (pa_cons (pv 2) pa_nil)) (pg_name (i := 4) sc__law_word.nd rfl (Or.inl rfl))
      (pss_cons (ps_set (i := 5) sc__law_word.nd rfl (Or.inl rfl) (pe_op op_fdiv (pe_callC C__law_mixed (hr.mono (by decide)) rfl pass0 (pa_cons (pv 0) (pa_cons (pv 4) pa_nil))) pe_int))
      (pss_cons (ps_set (i := 6) sc__law_word.nd rfl (Or.inl rfl) (pe_ix ix_list (pv 1) (pe_op op_mod (pv 5) (pe_callB call_len_seq (by rfl) B.z_len (by decide +kernel) (pa_cons (pv 1) pa_nil))) (fun _ _ => rfl)))
      (pss_one (ps_set (i := 3) sc__law_word.nd rfl (Or.inl rfl) (pe_op op_add_str (pv 3) (pe_ix ix_list (pe_lst (pa_cons (pv 6) (pa_cons (pe_upper (pv 6)) pa_nil))) (pe_op op_mod (pe_op op_fdiv (pv 5) pe_int) pe_int) (fun _ _ => rfl))))))))
      (pss_one (ps_ret (pv 3))))), ?_⟩)
  · obtain ⟨c, a, ls, n, rfl, _⟩ := h; rfl
  · obtain ⟨c, a, ls, n, rfl, hs, hl, hn, q⟩ := h
    refine q_asg ev_c fun H1 e1 => ?_
    refine q_for (ew_rng1 (ea_cons (ev_var rfl) ea_nil) (by omega)) (fun i σ' H' => ∃ x y z, σ' = [some (.int c), some (.ref a), some (.int n), some (.str (S (wordOf c ls i))), x, y, z] ∧ Ex H1 H') (fun H2 e2 => ⟨none, none, none, rfl, e2⟩) (fun _ _ _ _ _ => trivial) ?_ ?_
    · rintro i x σ' H' hx ⟨x1, y1, z1, rfl, e2⟩
      obtain ⟨hi, rfl⟩ : i < n.toNat ∧ x = .int (i : Nat) := by
        rw [List.getElem?_map] at hx
        by_cases hi : i < n.toNat
        · rw [List.getElem?_range hi] at hx; exact ⟨hi, (Option.some.inj hx).symm⟩
        · rw [List.getElem?_eq_none (by rw [List.length_range]; omega)] at hx; cases hx
      have l1 := hl.1
      have x1 : 0 ≤ mixed c i / 7 % ls.length := Int.emod_nonneg _ (by omega)
      have x2 : mixed c i / 7 % ls.length < ls.length := Int.emod_lt_of_pos _ (by omega)
      have w1 : 0 ≤ mixed c i / 7 / 16 % 2 := Int.emod_nonneg _ (by decide)
      have w2 : mixed c i / 7 / 16 % 2 < 2 := Int.emod_lt_of_pos _ (by decide)
      have hj : (mixed c i / 7 % ls.length).toNat < ls.length := by omega
      have gl : ls.getD (mixed c i / 7 % ls.length).toNat 0 = ls[(mixed c i / 7 % ls.length).toNat] := by rw [List.getD_eq_getElem?_getD, List.getElem?_eq_getElem hj]; rfl
      have bl := hl.2.2 _ (List.getElem_mem hj)
      rw [← gl] at bl
      show tSeq _ _ _ [some (.int c), some (.ref a), some (.int n), some (.str (S (wordOf c ls i))), some (.int i), y1, z1] H'
      refine q_asg (ev_op (ev_call (ea_cons (ev_var rfl) (ea_cons (ev_var rfl) ea_nil)) (sv_mixed (c := c) (k := i) (by omega))) ev_c (rv_I ⟨by decide, by decide⟩)) fun H2 e3 => ?_
      have hs2 := ex_l ((e1.trans e2).trans e3) hs
      refine q_asg (v := sgn (ls.getD (mixed c i / 7 % ls.length).toNat 0)) (ev_op (ev_var rfl) (ev_op (ev_var rfl) (ev_cb (ea_cons (ev_var rfl) ea_nil) (rc_len hs2)) (rv_I (by rw [List.length_map]; omega))) (rv_ixL hs2 (ix_pick (by rw [List.length_map]; exact x1) ?_))) fun H3 e4 => ?_
      · rw [List.length_map, List.getElem?_map, List.getElem?_eq_getElem hj, gl]; rfl
      refine s_asg (v := .str (S (wordOf c ls (i + 1)))) (ev_is (ev_op (ev_var rfl) (ev_ixN (v := .str (S [wordLet c ls i])) (el_lst (ea_cons (ev_var rfl) (ea_cons (ev_mS (C := fun a => a.length ≤ 5592405) (g := fun a => .str (Txt.upper a)) (ev_var rfl) (by show (S [_]).length ≤ _; rw [S_len]; simp)) ea_nil)) (by simp)) (ev_op (ev_op (ev_var rfl) ev_c (rv_I ⟨by decide, by decide⟩)) ev_c (rv_I (by decide))) (ix_pick w1 ?_)) (rv_addS (by rw [S_len, S_len, wordOf_len]; exact sz_of (by simp; omega)))) ?_) fun H4 e5 => ⟨_, _, _, rfl, ((e2.trans e3).trans e4).trans e5⟩
      · have lt : wordLet c ls i = if mixed c i / 7 / 16 % 2 = 0 then ls.getD (mixed c i / 7 % ls.length).toNat 0 else ls.getD (mixed c i / 7 % ls.length).toNat 0 - 32 := rfl
        rw [lt]
        generalize ls.getD (mixed c i / 7 % ls.length).toNat 0 = x at *
        generalize mixed c i / 7 / 16 % 2 = m at *
        have : m = 0 ∨ m = 1 := by omega
        rcases this with e | e
        · subst e; rfl
        · subst e
          show some (V.str (Txt.upper (S [x]))) = _
          rw [upper_one (isL_iff.mpr (Or.inl bl)), if_pos bl.1]; rfl
      · rw [S_app, wordOf_succ]
    · rintro σ' H' ⟨x1, y1, z1, rfl, e2⟩
      rw [List.length_map, List.length_range]
      exact s_ret (ev_var rfl) fun H2 e3 => q H2 ((e1.trans e2).trans e3)
theorem ok_turned (D : Def K mg "_law_turned" s__law_turned ["_law_word_here"]) (B : Blt mg) (C__law_back : Cal P w K mg base CX0 "_law_back" 1 ["_law_letter"] sp_bk) : Cal P w K mg base CX0 "_law_turned" 2 ["_law_word_here"] sp_turned := by
  refine D.cal sc__law_turned (fun vs H Q E h => ?_) (fun f cdv A outer s H vs Q E hr h => ⟨_, (pss_one (ps_ret (pe_join pe_str (pe_lc (own := [("_law_letter", 1)]) (g := (gName 1)) rfl sc__law_turned.nd (pi_revS rfl B.z_reversed (pv 0)) (blkOk_by (own := [("_law_letter", 1)]) (N := ["_law_word_here", "_law_letter"]) (sc := defScope s__law_turned) (by decide +kernel)) (fun _ _ _ _ _ => (pg_name (i := 1) sc__law_turned.nd rfl (Or.inl rfl))) (fun _ _ _ _ _ => pts_nil) (fun _ _ _ _ _ => (pe_callC C__law_back (hr.mono (by decide)) rfl pass0 (pa_cons (pv 1) pa_nil))))))), ?_⟩)
  · obtain ⟨l, rfl, _⟩ := h; rfl
  · obtain ⟨l, rfl, hz, hw, q⟩ := h
    refine s_ret (v := .str (S (inv l))) (ev_is (ev_joinN (a := S []) (ys := (inv l).map fun c => S [c]) ev_c (el_lcA (fun x => match x with | .str z => sgn (bk (z.cps.getD 0 0)) | _ => .non) (ew_revS (ev_var rfl) (S_sz (by omega))) trivial kp_true ?_ (fun x => rfl) ?_) ?_ ?_) ?_) fun H1 e1 => q H1 e1
    · rw [List.length_map, List.length_reverse, S_cps]; omega
    · intro x hx H2 e2
      obtain ⟨c, hc, rfl⟩ := List.mem_map.mp hx
      rw [S_cps] at hc
      exact ev_call (ea_cons (ev_var rfl) ea_nil) (sv_bk (List.all_eq_true.mp hw c (List.mem_reverse.mp hc)))
    · rw [S_cps]
      unfold inv
      rw [List.map_map, List.map_map, List.map_map]; rfl
    · rw [ones_size, inv_len]; omega
    · rw [join_ones]
end
end Gw

/-! ## K01 -/
namespace Gw
open PySem PySem.Spec PyProof.Rows L2 Evl
abbrev s__law_is : Stmt := topS 23
theorem sc__law_is : FnScope ["_law_found", "_law_due"] ["_law_found", "_law_due"] (defScope s__law_is) := ⟨rfl, rfl, rfl, by decide +kernel, rfl, by decide +kernel, by decide +kernel⟩
abbrev s__law_taken_out : Stmt := topS 20
theorem sc__law_taken_out : FnScope ["_law_word_here", "_law_cell_here", "_law_turn", "_law_places", "_law_at", "_law_k"] ["_law_word_here", "_law_cell_here"] (defScope s__law_taken_out) := ⟨rfl, rfl, rfl, by decide +kernel, rfl, by decide +kernel, by decide +kernel⟩
abbrev s__law_called : Stmt := topS 21
theorem sc__law_called : FnScope ["_law_pick", "_law_thing"] ["_law_pick", "_law_thing"] (defScope s__law_called) := ⟨rfl, rfl, rfl, by decide +kernel, rfl, by decide +kernel, by decide +kernel⟩
abbrev s__law_refused : Stmt := topS 22
theorem sc__law_refused : FnScope ["_law_pick", "_law_thing", "error"] ["_law_pick", "_law_thing"] (defScope s__law_refused) := ⟨rfl, rfl, rfl, by decide +kernel, rfl, by decide +kernel, by decide +kernel⟩
abbrev s_law : Stmt := topS 24
theorem sc_law : FnScope ["_law_script", "_law_letters_here", "_law_word_here", "_law_other", "_law_due", "_law_last", "_law_both", "_law_things", "_law_thing"] ["_law_script"] (defScope s_law) := ⟨rfl, rfl, rfl, by decide +kernel, rfl, by decide +kernel, by decide +kernel⟩
section
variable {P : Program} {w : World} {K : PySem.W.Frag} {mg : Str → Option Value} {base : Heap} {C_GlueError C_BadWord C_BadWeb : Addr}
theorem ok_is (D : Def K mg "_law_is" s__law_is ["_law_found", "_law_due"]) (B : Blt mg) : Cal P w K mg base CX0 "_law_is" 1 ["_law_found", "_law_due"] sp_is := by
  refine D.cal sc__law_is (fun vs H Q E h => ?_) (fun f cdv A outer s H vs Q E hr h => ⟨_, (pss_one (ps_ret (pe_and (pe_callB call_isi (by rfl) B.z_isinstance (by decide +kernel) (pa_cons (pv 0) (pa_cons (pe_bltn (v := .ty "str") (by rfl) B.z_str (by decide +kernel) rfl) pa_nil))) (pe_one (pe_cmpR op_eq (pv 0) (pv 1) (nomark _)))))), ?_⟩)
  · obtain ⟨a, b, rfl, _⟩ := h; rfl
  · obtain ⟨a, b, rfl, q⟩ := h
    refine s_ret (ev_is (ev_andV (ev_cb (ea_cons (ev_var rfl) (ea_cons ev_c ea_nil)) (rc_isiS (b := true) (kit_ty (by decide +kernel)))) (fun _ => ev_op (ev_var rfl) (ev_var rfl) (rv_eq rfl))) ?_) fun H1 e1 => q H1 e1
    rw [dec_str]
    by_cases h : a = b
    · subst h; simp
    · have : ¬ S a = S b := fun z => h (S_inj z)
      simp [this, h]
end
def sp_out : Sp := fun vs H Q _ => ∃ l c, vs = [.str (S l), .int c] ∧ l.length ≤ 1000 ∧ isW l = true ∧ RetV (.str (S (short l))) H Q
theorem sv_out {l : List Nat} {c : Int} {H : Hp} (h : l.length ≤ 1000) (hw : isW l = true) : SpV sp_out [.str (S l), .int c] H (.str (S (short l))) := fun H1 e Q q E => ⟨l, c, rfl, h, hw, q⟩
/-- where a letter stands beside its back -/
def pairAt (u : List Nat) : V → Bool
  | .int k => decide (u.getD (k.toNat + 1) 0 = bk (u.getD k.toNat 0))
  | _ => false
def places (u : List Nat) : List V := (((List.range ((u.length : Int) - 1).toNat).map fun i => V.int (i : Nat)).filter (pairAt u)).map id
theorem places_mem {u : List Nat} {x : V} (h : x ∈ places u) : ∃ k : Nat, x = .int k ∧ k + 1 < u.length ∧ u.getD (k + 1) 0 = bk (u.getD k 0) := by
  unfold places at h
  rw [List.map_id, List.mem_filter] at h
  obtain ⟨h1, h2⟩ := h
  obtain ⟨k, hk, rfl⟩ := List.mem_map.mp h1
  have := List.mem_range.mp hk
  exact ⟨k, rfl, by omega, of_decide_eq_true h2⟩
theorem places_none {u : List Nat} (h : places u = []) : Shrt u := by
  refine shrt_of_none fun i a b ha hb e => ?_
  have hi : i + 1 < u.length := (List.getElem?_eq_some_iff.mp hb).1
  have hm : V.int (i : Nat) ∈ places u := by
    unfold places
    rw [List.map_id, List.mem_filter]
    refine ⟨List.mem_map.mpr ⟨i, List.mem_range.mpr (by omega), rfl⟩, ?_⟩
    refine decide_eq_true ?_
    show u.getD (i + 1) 0 = bk (u.getD i 0)
    rw [List.getD_eq_getElem?_getD, List.getD_eq_getElem?_getD, ha, hb]
    exact e
  rw [h] at hm; cases hm
theorem places_flat (u : List Nat) : (places u).all flat1 = true := by
  rw [List.all_eq_true]
  intro x hx
  obtain ⟨k, rfl, _⟩ := places_mem hx
  rfl
theorem places_len (u : List Nat) : (places u).length ≤ u.length := by
  unfold places
  rw [List.length_map]
  refine Nat.le_trans (List.length_filter_le _ _) ?_
  rw [List.length_map, List.length_range]; omega
section
variable {P : Program} {w : World} {K : PySem.W.Frag} {mg : Str → Option Value} {base : Heap} {C_GlueError C_BadWord C_BadWeb : Addr}
theorem ok_out (D : Def K mg "_law_taken_out" s__law_taken_out ["_law_word_here", "_law_cell_here"]) (B : Blt mg) (C__law_back : Cal P w K mg base CX0 "_law_back" 1 ["_law_letter"] sp_bk) (C__law_mixed : Cal P w K mg base CX0 "_law_mixed" 1 ["_law_cell_here", "_law_k"] sp_mixed) : Cal P w K mg base CX0 "_law_taken_out" 5 ["_law_word_here", "_law_cell_here"] sp_out := by
  refine D.cal sc__law_taken_out (fun vs H Q E h => ?_) (fun f cdv A outer s H vs Q E hr h => ⟨_, (pss_cons (ps_for PassesOwn.never rfl (pi_range1 rfl B.z_range (pa_cons (pe_callB call_len_str (by rfl) B.z_len (by decide +kernel) (pa_cons (pv 0) pa_nil)) pa_nil)) (pg_name (i := 2) sc__law_taken_out.nd rfl (Or.inl rfl))
      (pss_cons (ps_setLc (i := 3) (own := [("_law_k", 5)]) (g := (gName 5)) rfl sc__law_taken_out.nd rfl rfl (sw_true rfl rfl rfl (by decide +kernel)) (pi_range1 rfl B.z_range (pa_cons (pe_op op_sub (pe_callB call_len_str (by rfl) B.z_len (by decide +kernel) (pa_cons (pv 0) pa_nil)) pe_int) pa_nil)) (blkOk_by (own := [("_law_k", 5)]) (N := ["_law_word_here", "_law_cell_here", "_law_turn", "_law_places", "_law_at", "_law_k"]) (sc := defScope s__law_taken_out) (by decide +kernel)) (fun _ _ _ _ _ => (pg_name (i := 5) sc__law_taken_out.nd rfl (Or.inl rfl))) (fun _ _ _ _ _ => (pts_one (pt_cmpR op_eq (pe_ix ix_str (pv 0) (pe_op op_add (pv 5) pe_int) (fun _ _ => rfl)) (pe_callC C__law_back (hr.mono (by decide)) rfl pass0 (pa_cons (pe_ix ix_str (pv 0) (pv 5) (fun _ _ => rfl)) pa_nil)) (nomark _)))) (fun _ _ _ _ _ => (pv 5)))
      (pss_one (ps_if (pt_cmpR (op_neD hr.units) (pv 3) (pe_lst pa_nil) (nomark _))
      (pss_cons (ps_set (i := 4) sc__law_taken_out.nd rfl (Or.inl rfl) (pe_ix ix_list (pv 3) (pe_op op_mod (pe_op op_fdiv (pe_callC C__law_mixed (hr.mono (by decide)) rfl pass0 (pa_cons (pv 1) (pa_cons (pv 2) pa_nil))) pe_int) (pe_callB call_len_seq (by rfl) B.z_len (by decide +kernel) (pa_cons (pv 3) pa_nil))) (fun _ _ => rfl)))
      (pss_one (ps_set (i := 0) sc__law_taken_out.nd rfl (Or.inr rfl) (pe_op op_add_str (pe_slice sl_str (pv 0) po_none (po_some (pv 4))) (pe_slice sl_str (pv 0) (po_some (pe_op op_add (pv 4) pe_int)) po_none)))))
      pss_nil))))
      (pss_one (ps_ret (pv 0)))), ?_⟩)
  · obtain ⟨l, c, rfl, _⟩ := h; rfl
  · obtain ⟨l, c, rfl, hz, hw, q⟩ := h
    refine q_for (ew_rng1 (ea_cons (ev_cb (ea_cons (ev_var rfl) ea_nil) (rc_lenS (S_sz (by omega)))) ea_nil) (by rw [S_len]; omega)) (fun i σ' H' => ∃ u x3 x4 x5, σ' = [some (.str (S u)), some (.int c), x3, x4, x5, none] ∧ Red l u ∧ (u.length + 2 * i ≤ l.length ∨ Shrt u) ∧ Ex H H')
      (fun H2 e2 => ⟨l, none, none, none, rfl, .refl _, Or.inl (by omega), e2⟩) (fun _ _ _ _ _ => trivial) ?_ ?_
    · rintro i x σ' H' hx ⟨u, x3, x4, x5, rfl, hr1, hlen, e2⟩
      obtain ⟨hi, rfl⟩ := rng_item hx
      have wu : isW u = true := hr1.isW hw
      have lu : u.length ≤ l.length := hr1.len
      have hi' : i ≤ 1000 := by rw [S_len] at hi; omega
      show tSeq _ _ _ [some (.str (S u)), some (.int c), some (.int i), x4, x5, none] H'
      refine q_asgL (xs := places u) (el_lc (pairAt u) id (ew_rng1 (ea_cons (ev_op (ev_cb (ea_cons (ev_var rfl) ea_nil) (rc_lenS (S_sz (by omega)))) ev_c rv_I0) ea_nil) (by omega)) trivial kp_true ?_ (fun x => rfl) ?_ ?_) fun p H2 hp e3 h3 => ?_
      · rw [List.length_map, List.length_range]; omega
      · intro x hx H3 e4
        obtain ⟨k, hk, rfl⟩ := List.mem_map.mp hx
        have hk' := List.mem_range.mp hk
        have g1 : u[k + 1]? = some (u.getD (k + 1) 0) := by rw [List.getD_eq_getElem?_getD, List.getElem?_eq_getElem (by omega)]; rfl
        have g0 : u[k]? = some (u.getD k 0) := by rw [List.getD_eq_getElem?_getD, List.getElem?_eq_getElem (by omega)]; rfl
        have L0 : isL (u.getD k 0) = true := List.all_eq_true.mp wu _ (List.mem_of_getElem? g0)
        refine et_is (et_test (ev_op (ev_op (ev_var rfl) (ev_op (ev_var rfl) ev_c rv_I0) (rv_ixS (by rw [S_len]; omega) (c := u.getD (k + 1) 0) ?_)) (ev_call (ea_cons (ev_op (ev_var rfl) (ev_var rfl) (rv_ixS (by rw [S_len]; omega) (c := u.getD k 0) ?_)) ea_nil) (sv_bk L0)) (rv_eq rfl))) ?_
        · rw [S_cps]; exact atI_nat g1
        · rw [S_cps]; exact atI_nat g0
        · show decide (V.str (S [u.getD (k + 1) 0]) = V.str (S [bk (u.getD k 0)])) = decide (u.getD ((k : Int).toNat + 1) 0 = bk (u.getD (k : Int).toNat 0))
          rw [Int.toNat_natCast]
          by_cases e : u.getD (k + 1) 0 = bk (u.getD k 0)
          · rw [e]; simp
          · rw [decide_eq_false e, decide_eq_false fun z => e (by have := S_inj (V.str.inj z); simpa using this)]
      · intro x hx hp H3 e4
        exact ev_var rfl
      have pl := places_len u
      refine s_if (b := !(places u).isEmpty) (et_test (ev_opL (ev_var rfl) (el_lst ea_nil (Nat.zero_le _)) fun q H4 hq e4 => rv_neNil (ex_l e4 (sq_of h3)) (sq_of hq) (places_flat u))) (fun b H3 e4 => ?_) (fun b H3 e4 => ?_)
      · have pos : 0 < (places u).length := by
          cases e : places u with
          | nil => rw [e] at b; cases b
          | cons _ _ => simp
        have m0 : 0 ≤ mixed c i / 7 % ((places u).length : Int) := Int.emod_nonneg _ (by omega)
        have m1 : mixed c i / 7 % ((places u).length : Int) < (places u).length := Int.emod_lt_of_pos _ (by omega)
        have hj : (mixed c i / 7 % ((places u).length : Int)).toNat < (places u).length := by omega
        obtain ⟨k, hk, hk1, hk2⟩ := places_mem (List.getElem_mem hj)
        have g1 : u[k + 1]? = some (bk (u.getD k 0)) := by rw [← hk2, List.getD_eq_getElem?_getD, List.getElem?_eq_getElem hk1]; rfl
        have g0 : u[k]? = some (u.getD k 0) := by rw [List.getD_eq_getElem?_getD, List.getElem?_eq_getElem (by omega)]; rfl
        have L0 : isL (u.getD k 0) = true := List.all_eq_true.mp wu _ (List.mem_of_getElem? g0)
        have o := out_at g0 g1 L0
        refine q_asg (v := .int (k : Nat)) (ev_op (ev_var rfl) (ev_op (ev_op (ev_call (ea_cons (ev_var rfl) (ea_cons (ev_var rfl) ea_nil)) (sv_mixed (c := c) (k := i) (by omega))) ev_c (rv_I ⟨by decide, by decide⟩)) (ev_cb (ea_cons (ev_var rfl) ea_nil) (rc_len (ex_l e4 (sq_of h3)))) (rv_I (by omega))) (rv_ixL (ex_l e4 (sq_of h3)) (ix_pick m0 ?_))) fun H4 e5 => ?_
        · rw [List.getElem?_eq_getElem hj, hk]
        refine s_asg (v := .str (S (u.take k ++ u.drop (k + 2)))) (ev_is (ev_op (ev_slS (ev_var rfl) eo_none (eo_some (ev_var rfl)) (S_sz (by omega))) (ev_slS (ev_var rfl) (eo_some (ev_op (ev_var rfl) ev_c rv_I0)) eo_none (S_sz (by omega))) (rv_addS ?_)) ?_) fun H5 e6 => ⟨_, _, _, _, rfl, hr1.trans o.one, ?_, (((e2.trans e3).trans e4).trans e5).trans e6⟩
        · refine Nat.le_trans (Nat.add_le_add (cutS_length _ _ _) (cutS_length _ _ _)) ?_
          rw [S_len]; exact sz_of (by omega)
        · rw [cut_to, show ((k : Nat) : Int) + 2 = ((k + 2 : Nat) : Int) from rfl, cut_from, S_app]
        · have := o.len
          rcases hlen with hlen | hlen
          · exact Or.inl (by omega)
          · exfalso
            exact absurd hlen (fun z => by
              have t : u = u.take k ++ u.getD k 0 :: bk (u.getD k 0) :: u.drop (k + 2) := by
                have e1 : u[k] = u.getD k 0 := (List.getElem?_eq_some_iff.mp g0).2
                have e2 : u[k + 1] = bk (u.getD k 0) := (List.getElem?_eq_some_iff.mp g1).2
                conv => lhs; rw [← List.take_append_drop k u]
                rw [List.drop_eq_getElem_cons (by omega), List.drop_eq_getElem_cons hk1, e1, e2]
              rw [t] at z
              exact shrt_app z rfl)
      · have nil : places u = [] := by
          cases e : places u with
          | nil => rfl
          | cons _ _ => rw [e] at b; cases b
        exact ⟨_, _, _, _, rfl, hr1, Or.inr (places_none nil), (e2.trans e3).trans e4⟩
    · rintro σ' H' ⟨u, x3, x4, x5, rfl, hr1, hlen, e2⟩
      rw [List.length_map, List.length_range, S_len] at hlen
      have sh : Shrt u := by
        rcases hlen with h | h
        · have : u = [] := List.eq_nil_of_length_eq_zero (by omega)
          rw [this]; trivial
        · exact h
      rw [short_unique hr1 hw sh]
      exact s_ret (ev_var rfl) fun H2 e3 => q H2 (e2.trans e3)
end

def sp_called (CW : Addr) : Sp := fun vs H Q E => ∃ p x, vs = [.int p, x] ∧ NW H x ∧ ∀ H', Ex H H' → E (.ref CW) none H'
def sp_refused : Sp := fun vs H Q _ => ∃ p x, vs = [.int p, x] ∧ NW H x ∧ RetV (.bl true) H Q
theorem sv_refused {p : Int} {x : V} {H : Hp} (h : NW H x) : SpV sp_refused [.int p, x] H (.bl true) := fun H1 e Q q E => ⟨p, x, rfl, h.mono e, q⟩
def sp_law (K : PySem.W.Frag) : Sp := fun vs H Q _ => ∃ (a : Addr) (ns : List Int), vs = [.ref a] ∧ SqL K H a (ns.map V.int) ∧ RetV (.bl true) H Q
section
variable {P : Program} {w : World} {K : PySem.W.Frag} {mg : Str → Option Value} {base : Heap} {C_GlueError C_BadWord C_BadWeb : Addr}
theorem ok_called (D : Def K mg "_law_called" s__law_called ["_law_pick", "_law_thing"]) (C_short : Cal P w K mg base (L2.CX P w) "short" 6 ["word"] (sp_short C_BadWord)) (C_back : Cal P w K mg base (L2.CX P w) "back" 7 ["word"] (sp_back C_BadWord)) (C_times : Cal P w K mg base (L2.CX P w) "times" 7 ["one", "other"] (sp_times C_BadWord)) : Cal P w K mg base (L2.CX P w) "_law_called" 8 ["_law_pick", "_law_thing"] (sp_called C_BadWord) := by
  refine D.calX sc__law_called (fun vs H Q E h => ?_) (fun f cdv A outer s H vs Q E hr h => ⟨_, (pss_cons (ps_if (pt_cmpR op_eq (pv 0) pe_int (nomark _))
      (pss_one (ps_ret (pe_callC C_short (hr.mono (by decide)) rfl (passes_call (takes_of rfl rfl rfl rfl) (fun _ _ _ _ h => h)) (pa_cons (pv 1) pa_nil))))
      pss_nil)
      (pss_cons (ps_if (pt_cmpR op_eq (pv 0) pe_int (nomark _))
      (pss_one (ps_ret (pe_callC C_back (hr.mono (by decide)) rfl (passes_call (takes_of rfl rfl rfl rfl) (fun _ _ _ _ h => h)) (pa_cons (pv 1) pa_nil))))
      pss_nil)
      (pss_cons (ps_if (pt_cmpR op_eq (pv 0) pe_int (nomark _))
      (pss_one (ps_ret (pe_callC C_times (hr.mono (by decide)) rfl (passes_call (takes_of rfl rfl rfl rfl) (fun _ _ _ _ h => h)) (pa_cons (pv 1) (pa_cons pe_str pa_nil)))))
      pss_nil)
      (pss_one (ps_ret (pe_callC C_times (hr.mono (by decide)) rfl (passes_call (takes_of rfl rfl rfl rfl) (fun _ _ _ _ h => h)) (pa_cons pe_str (pa_cons (pv 1) pa_nil)))))))), ?_⟩)
  · obtain ⟨p, x, rfl, _⟩ := h; rfl
  · obtain ⟨p, x, rfl, hn, hE⟩ := h
    refine q_when (et_test (ev_op (ev_var rfl) ev_c (rv_eq rfl))) (fun _ H1 e1 => ⟨_, rfl, _, rfl, Or.inr ⟨hn.mono e1, fun H2 e => hE H2 (e1.trans e)⟩⟩) fun _ H1 e1 => ?_
    refine q_when (et_test (ev_op (ev_var rfl) ev_c (rv_eq rfl))) (fun _ H2 e2 => ⟨_, rfl, _, rfl, Or.inr ⟨hn.mono (e1.trans e2), fun H3 e => hE H3 ((e1.trans e2).trans e)⟩⟩) fun _ H2 e2 => ?_
    refine q_when (et_test (ev_op (ev_var rfl) ev_c (rv_eq rfl))) (fun _ H3 e3 => ⟨_, rfl, _, _, rfl, Or.inr ⟨Or.inl (hn.mono ((e1.trans e2).trans e3)), fun H4 e => hE H4 (((e1.trans e2).trans e3).trans e)⟩⟩) fun _ H3 e3 => ?_
    exact ⟨_, rfl, _, _, rfl, Or.inr ⟨Or.inr ⟨⟨[66], by decide +kernel, by decide, by decide⟩, hn.mono ((e1.trans e2).trans e3)⟩, fun H4 e => hE H4 (((e1.trans e2).trans e3).trans e)⟩⟩
theorem ok_refused (D : Def K mg "_law_refused" s__law_refused ["_law_pick", "_law_thing"]) (B : Blt mg) (T : Exn K mg C_GlueError C_BadWord C_BadWeb) (C__law_called : Cal P w K mg base (L2.CX P w) "_law_called" 8 ["_law_pick", "_law_thing"] (sp_called C_BadWord)) : Cal P w K mg base CX0 "_law_refused" 9 ["_law_pick", "_law_thing"] sp_refused := by
  refine D.cal sc__law_refused (fun vs H Q E h => ?_) (fun f cdv A outer s H vs Q E hr h => ⟨_, (pss_cons (ps_try_as (i := 2) rfl rfl sc__law_refused.nd rfl rfl ⟨rfl, by decide, .inl T.g_GlueError⟩ takes0 (fun W pn xe tk _ =>
      (pss_one (ps_expr (pe_callCS C__law_called (hr.mono (by decide)) rfl (fun σ => passAt tk σ) (pa_cons (pv 0) (pa_cons (pv 1) pa_nil))))))
      (fun a oe cls d pn hz hf => pss_guard (φ := cls = .ref C_BadWord ∧ d = none) fun hg => have hz1 : Zc (.ref C_BadWord) none oe := hz_of hg hz; (pss_one (ps_ret (pe_and (pe_callB (call_isE T.c_BadWord hz1 hf) (by rfl) B.z_isinstance (by decide +kernel) (pa_cons (pv 2) (pa_cons (pe_glob (v := .ref _) rfl T.g_BadWord rfl) pa_nil))) (pe_and (pe_callB (call_isE T.c_BadWord hz1 hf) (by rfl) B.z_isinstance (by decide +kernel) (pa_cons (pv 2) (pa_cons (pe_bltn (v := .ty "ValueError") (by rfl) B.z_ValueError (by decide +kernel) rfl) pa_nil))) (pe_one (pe_not (pe_callB (call_isE T.c_BadWord hz1 hf) (by rfl) B.z_isinstance (by decide +kernel) (pa_cons (pv 2) (pa_cons (pe_glob (v := .ref _) rfl T.g_BadWeb rfl) pa_nil)))))))))))
      (pss_one (ps_ret pe_bl))), ?_⟩)
  · obtain ⟨p, x, rfl, _⟩ := h; rfl
  · obtain ⟨p, x, rfl, hn, q⟩ := h
    refine ⟨_, rfl, _, rfl, p, x, rfl, hn, fun H1 e1 => ⟨true, T.e_BadWord, fun _ a ha => ⟨⟨rfl, rfl⟩, ?_⟩, fun z => by cases z⟩⟩
    exact s_ret (ev_andV (ev_cb (ea_cons (ev_var rfl) (ea_cons ev_c ea_nil)) (rc_isE (fun u h => h) T.i1)) (fun _ => ev_andV (ev_cb (ea_cons (ev_var rfl) (ea_cons ev_c ea_nil)) (rc_isE (fun u h => h) T.i2)) (fun _ => ev_notV (ev_cb (ea_cons (ev_var rfl) (ea_cons ev_c ea_nil)) (rc_isE (fun u h => h) T.i3))))) fun H2 e2 => q H2 (e1.trans e2)
end

section
variable {P : Program} {w : World} {K : PySem.W.Frag} {mg : Str → Option Value} {base : Heap} {C_GlueError C_BadWord C_BadWeb : Addr}
theorem ok_law (D : Def K mg "law" s_law ["_law_script"]) (B : Blt mg) (C_is_word : Cal P w K mg base CX0 "is_word" 2 ["thing"] sp_is_word) (C_short : Cal P w K mg base (L2.CX P w) "short" 6 ["word"] (sp_short C_BadWord)) (C_back : Cal P w K mg base (L2.CX P w) "back" 7 ["word"] (sp_back C_BadWord)) (C_times : Cal P w K mg base (L2.CX P w) "times" 7 ["one", "other"] (sp_times C_BadWord))
    (C__law_cell : Cal P w K mg base CX0 "_law_cell" 1 ["_law_script", "_law_k"] (sp_cell K)) (C__law_letters : Cal P w K mg base CX0 "_law_letters" 1 ["_law_cell_here"] sp_letters) (C__law_word : Cal P w K mg base CX0 "_law_word" 2 ["_law_cell_here", "_law_letters_here", "_law_size"] (sp_word K)) (C__law_turned : Cal P w K mg base CX0 "_law_turned" 2 ["_law_word_here"] sp_turned) (C__law_taken_out : Cal P w K mg base CX0 "_law_taken_out" 5 ["_law_word_here", "_law_cell_here"] sp_out)
    (C__law_is : Cal P w K mg base CX0 "_law_is" 1 ["_law_found", "_law_due"] sp_is) (C__law_refused : Cal P w K mg base CX0 "_law_refused" 9 ["_law_pick", "_law_thing"] sp_refused) : Cal P w K mg base CX0 "law" 10 ["_law_script"] (sp_law K) := by
  refine D.cal sc_law (fun vs H Q E h => ?_) (fun f cdv A outer s H vs Q E hr h => ⟨_, (pss_cons (ps_set (i := 1) sc_law.nd rfl (Or.inl rfl) (pe_callC C__law_letters (hr.mono (by decide)) rfl pass0 (pa_cons (pe_callC C__law_cell (hr.mono (by decide)) rfl pass0 (pa_cons (pv 0) (pa_cons pe_int pa_nil))) pa_nil)))
      (pss_cons (ps_set (i := 2) sc_law.nd rfl (Or.inl rfl) (pe_callC C__law_word (hr.mono (by decide)) rfl pass0 (pa_cons (pe_callC C__law_cell (hr.mono (by decide)) rfl pass0 (pa_cons (pv 0) (pa_cons pe_int pa_nil))) (pa_cons (pv 1) (pa_cons (pe_op op_mod (pe_callC C__law_cell (hr.mono (by decide)) rfl pass0 (pa_cons (pv 0) (pa_cons pe_int pa_nil))) pe_int) pa_nil)))))
      (pss_cons (ps_set (i := 3) sc_law.nd rfl (Or.inl rfl) (pe_callC C__law_word (hr.mono (by decide)) rfl pass0 (pa_cons (pe_callC C__law_cell (hr.mono (by decide)) rfl pass0 (pa_cons (pv 0) (pa_cons pe_int pa_nil))) (pa_cons (pv 1) (pa_cons (pe_op op_mod (pe_callC C__law_cell (hr.mono (by decide)) rfl pass0 (pa_cons (pv 0) (pa_cons pe_int pa_nil))) pe_int) pa_nil)))))
      (pss_cons (ps_set (i := 4) sc_law.nd rfl (Or.inl rfl) (pe_callC C__law_taken_out (hr.mono (by decide)) rfl pass0 (pa_cons (pv 2) (pa_cons (pe_callC C__law_cell (hr.mono (by decide)) rfl pass0 (pa_cons (pv 0) (pa_cons pe_int pa_nil))) pa_nil))))
      (pss_cons (ps_set (i := 5) sc_law.nd rfl (Or.inl rfl) (pe_callC C__law_taken_out (hr.mono (by decide)) rfl pass0 (pa_cons (pv 3) (pa_cons (pe_callC C__law_cell (hr.mono (by decide)) rfl pass0 (pa_cons (pv 0) (pa_cons pe_int pa_nil))) pa_nil))))
      (pss_cons (ps_if (PW.pt (pw_or (pt_cmpR op_notBl (pe_callC C_is_word (hr.mono (by decide)) rfl pass0 (pa_cons (pv 2) pa_nil)) pe_bl (nomark _)) (pw_or (pt_not (pt_val (pe_callC C__law_is (hr.mono (by decide)) rfl pass0 (pa_cons (pe_callC C_short (hr.mono (by decide)) rfl passL (pa_cons (pv 2) pa_nil)) (pa_cons (pv 4) pa_nil))))) (pw_or1 (pt_not (pt_val (pe_callC C__law_is (hr.mono (by decide)) rfl pass0 (pa_cons (pe_callC C_short (hr.mono (by decide)) rfl passL (pa_cons (pv 4) pa_nil)) (pa_cons (pv 4) pa_nil)))))))))
      (pss_one (ps_ret pe_bl))
      pss_nil)
      (pss_cons (ps_if (PW.pt (pw_or (pt_not (pt_val (pe_callC C__law_is (hr.mono (by decide)) rfl pass0 (pa_cons (pe_callC C_back (hr.mono (by decide)) rfl passL (pa_cons (pv 2) pa_nil)) (pa_cons (pe_callC C__law_turned (hr.mono (by decide)) rfl pass0 (pa_cons (pv 4) pa_nil)) pa_nil))))) (pw_or1 (pt_not (pt_val (pe_callC C__law_is (hr.mono (by decide)) rfl pass0 (pa_cons (pe_callC C_back (hr.mono (by decide)) rfl passL (pa_cons (pe_callC C_back (hr.mono (by decide)) rfl passL (pa_cons (pv 2) pa_nil)) pa_nil)) (pa_cons (pv 4) pa_nil))))))))
      (pss_one (ps_ret pe_bl))
      pss_nil)
      (pss_cons (ps_set (i := 6) sc_law.nd rfl (Or.inl rfl) (pe_callC C__law_taken_out (hr.mono (by decide)) rfl pass0 (pa_cons (pe_op op_add_str (pv 2) (pv 3)) (pa_cons (pe_callC C__law_cell (hr.mono (by decide)) rfl pass0 (pa_cons (pv 0) (pa_cons pe_int pa_nil))) pa_nil))))
      (pss_cons (ps_if (PW.pt (pw_or (pt_not (pt_val (pe_callC C__law_is (hr.mono (by decide)) rfl pass0 (pa_cons (pe_callC C_times (hr.mono (by decide)) rfl passL (pa_cons (pv 2) (pa_cons (pv 3) pa_nil))) (pa_cons (pv 6) pa_nil))))) (pw_or1 (pt_not (pt_val (pe_callC C__law_is (hr.mono (by decide)) rfl pass0 (pa_cons (pe_callC C_times (hr.mono (by decide)) rfl passL (pa_cons (pv 4) (pa_cons (pv 5) pa_nil))) (pa_cons (pv 6) pa_nil))))))))
      (pss_one (ps_ret pe_bl))
      pss_nil)
      (pss_cons (ps_if (PW.pt (pw_or (pt_not (pt_val (pe_callC C__law_is (hr.mono (by decide)) rfl pass0 (pa_cons (pe_callC C_times (hr.mono (by decide)) rfl passL (pa_cons (pv 2) (pa_cons (pe_callC C__law_turned (hr.mono (by decide)) rfl pass0 (pa_cons (pv 2) pa_nil)) pa_nil))) (pa_cons pe_str pa_nil))))) (pw_or1 (pt_not (pt_val (pe_callC C__law_is (hr.mono (by decide)) rfl pass0 (pa_cons (pe_callC C_times (hr.mono (by decide)) rfl passL (pa_cons (pe_callC C_back (hr.mono (by decide)) rfl passL (pa_cons (pv 2) pa_nil)) (pa_cons (pv 2) pa_nil))) (pa_cons pe_str pa_nil))))))))
      (pss_one (ps_ret pe_bl))
      pss_nil)
      (pss_cons (ps_set (i := 7) sc_law.nd rfl (Or.inl rfl) (pe_lst (pa_cons pe_non (pa_cons pe_int (pa_cons pe_bl (pa_cons pe_str (pa_cons pe_str (pa_cons (pe_op op_add_str (pv 2) pe_str) (pa_cons (pe_op op_add_str pe_str (pv 2)) (pa_cons (pe_lst (pa_cons (pv 2) pa_nil)) (pa_cons (pe_tup (pa_cons (pv 2) pa_nil)) (pa_cons pe_str pa_nil))))))))))))
      (pss_cons (ps_set (i := 8) sc_law.nd rfl (Or.inl rfl) (pe_ix ix_list (pv 7) (pe_op op_mod (pe_callC C__law_cell (hr.mono (by decide)) rfl pass0 (pa_cons (pv 0) (pa_cons pe_int pa_nil))) pe_int) (fun _ _ => rfl)))
      (pss_one (ps_ret (pe_and (pe_cmpR op_isBl (pe_callC C_is_word (hr.mono (by decide)) rfl pass0 (pa_cons (pv 8) pa_nil)) pe_bl (nomark _)) (pe_one (pe_callC C__law_refused (hr.mono (by decide)) rfl pass0 (pa_cons (pe_op op_mod (pe_op op_fdiv (pe_callC C__law_cell (hr.mono (by decide)) rfl pass0 (pa_cons (pv 0) (pa_cons pe_int pa_nil))) pe_int) pe_int) (pa_cons (pv 8) pa_nil))))))))))))))))))), ?_⟩)
  · obtain ⟨a, ns, rfl, _⟩ := h; rfl
  · obtain ⟨a, ns, rfl, hs, q⟩ := h
    have ce : ∀ {σ : L2.St} {H' : Hp} {E : XK} (k : Int), Ex H H' → σ[0]? = some (some (V.ref a)) → 0 ≤ k → Ev (tCall (sp_cell K) [] E (tCons (tVar 0) (tCons (tC (.int k)) tNil))) σ H' (.int (cell ns k.toNat)) := fun k e h0 hk =>
      ev_call (ea_cons (ev_var h0) (ea_cons ev_c ea_nil)) (sv_cell (ex_l e hs) hk)
    have m61 : 0 ≤ cell ns 2 % 61 ∧ cell ns 2 % 61 < 61 := ⟨Int.emod_nonneg _ (by decide), Int.emod_lt_of_pos _ (by decide)⟩
    have m10 : 0 ≤ cell ns 4 % 10 ∧ cell ns 4 % 10 < 10 := ⟨Int.emod_nonneg _ (by decide), Int.emod_lt_of_pos _ (by decide)⟩
    refine q_asgL (el_call (ea_cons (ce 0 (Ex.refl _) rfl (by decide)) ea_nil) sl_letters) fun p H1 hp e1 h1 => ?_
    have lo := lettersOf_ok (cell ns (0 : Int).toNat)
    refine q_asg (ev_call (ea_cons (ce 1 e1 rfl (by decide)) (ea_cons (ev_var rfl) (ea_cons (ev_op (ce 2 e1 rfl (by decide)) ev_c (rv_I (by decide))) ea_nil))) (sv_word (sq_of h1) lo (by show 0 ≤ cell ns 2 % 61 ∧ cell ns 2 % 61 ≤ 100; omega))) fun H2 e2 => ?_
    refine q_asg (ev_call (ea_cons (ce 3 (e1.trans e2) rfl (by decide)) (ea_cons (ev_var rfl) (ea_cons (ev_op (ce 4 (e1.trans e2) rfl (by decide)) ev_c (rv_I (by decide))) ea_nil))) (sv_word (ex_l e2 (sq_of h1)) lo (by show 0 ≤ cell ns 4 % 10 ∧ cell ns 4 % 10 ≤ 100; omega))) fun H3 e3 => ?_
    have w1 := wordOf_ok lo (cell ns (1 : Int).toNat) (cell ns (2 : Int).toNat % 61).toNat
    have w2 := wordOf_ok lo (cell ns (3 : Int).toNat) (cell ns (4 : Int).toNat % 10).toNat
    have l1 : (wordOf (cell ns (1 : Int).toNat) (lettersOf (cell ns (0 : Int).toNat)) (cell ns (2 : Int).toNat % 61).toNat).length ≤ 61 := by rw [wordOf_len]; show (cell ns 2 % 61).toNat ≤ 61; omega
    have l2 : (wordOf (cell ns (3 : Int).toNat) (lettersOf (cell ns (0 : Int).toNat)) (cell ns (4 : Int).toNat % 10).toNat).length ≤ 10 := by rw [wordOf_len]; show (cell ns 4 % 10).toNat ≤ 10; omega
    generalize wordOf (cell ns (1 : Int).toNat) (lettersOf (cell ns (0 : Int).toNat)) (cell ns (2 : Int).toNat % 61).toNat = W at *
    generalize wordOf (cell ns (3 : Int).toNat) (lettersOf (cell ns (0 : Int).toNat)) (cell ns (4 : Int).toNat % 10).toNat = O at *
    have E3 := (e1.trans e2).trans e3
    refine q_asg (ev_call (ea_cons (ev_var rfl) (ea_cons (ce 5 E3 rfl (by decide)) ea_nil)) (sv_out (by omega) w1)) fun H4 e4 => ?_
    refine q_asg (ev_call (ea_cons (ev_var rfl) (ea_cons (ce 5 (E3.trans e4) rfl (by decide)) ea_nil)) (sv_out (by omega) w2)) fun H5 e5 => ?_
    have sl1 := short_len w1
    have sl2 := short_len w2
    have sw1 := short_isW w1
    have sw2 := short_isW w2
    have E5 := (E3.trans e4).trans e5
    refine q_skip (et_or0 (et_is (et_test (ev_op (ev_call (ea_cons (ev_var rfl) ea_nil) (sv_is_word (l := W) (by omega))) ev_c rv_notB)) (by rw [w1]; rfl))
      (et_or0 (et_is (et_not (et_B (ev_call (ea_cons (ev_call (ea_cons (ev_var rfl) ea_nil) (sv_short (l := W) (by omega) w1)) (ea_cons (ev_var rfl) ea_nil)) sv_is))) (by simp))
        (et_is (et_not (et_B (ev_call (ea_cons (ev_call (ea_cons (ev_var rfl) ea_nil) (sv_short (l := short W) (by omega) sw1)) (ea_cons (ev_var rfl) ea_nil)) sv_is))) (by rw [short_short w1]; simp)))) fun H6 e6 => ?_
    refine q_skip (et_or0 (et_is (et_not (et_B (ev_call (ea_cons (ev_call (ea_cons (ev_var rfl) ea_nil) (sv_back (l := W) (by omega) w1)) (ea_cons (ev_call (ea_cons (ev_var rfl) ea_nil) (sv_turned (l := short W) (by omega) sw1)) ea_nil)) sv_is))) (by rw [short_inv w1]; simp))
      (et_is (et_not (et_B (ev_call (ea_cons (ev_call (ea_cons (ev_call (ea_cons (ev_var rfl) ea_nil) (sv_back (l := W) (by omega) w1)) ea_nil) (sv_back (l := short (inv W)) (by rw [short_inv w1, inv_len]; omega) (by rw [short_inv w1]; exact isW_inv sw1))) (ea_cons (ev_var rfl) ea_nil)) sv_is))) (by rw [short_inv w1, inv_inv sw1, short_short w1]; simp))) fun H7 e7 => ?_
    have E7 := (E5.trans e6).trans e7
    refine q_asg (ev_call (ea_cons (ev_is (ev_op (ev_var rfl) (ev_var rfl) (rv_addS (by rw [S_len, S_len]; exact sz_of (by omega)))) (by rw [S_app])) (ea_cons (ce 6 E7 rfl (by decide)) ea_nil)) (sv_out (l := W ++ O) (by rw [List.length_append]; omega) (isW_app.mpr ⟨w1, w2⟩))) fun H8 e8 => ?_
    refine q_skip (et_or0 (et_is (et_not (et_B (ev_call (ea_cons (ev_call (ea_cons (ev_var rfl) (ea_cons (ev_var rfl) ea_nil)) (sv_times (l := W) (m := O) (by omega) w1 w2)) (ea_cons (ev_var rfl) ea_nil)) sv_is))) (by simp))
      (et_is (et_not (et_B (ev_call (ea_cons (ev_call (ea_cons (ev_var rfl) (ea_cons (ev_var rfl) ea_nil)) (sv_times (l := short W) (m := short O) (by omega) sw1 sw2)) (ea_cons (ev_var rfl) ea_nil)) sv_is))) (by rw [short_times w1 w2]; simp))) fun H9 e9 => ?_
    have em : ∀ {σ : L2.St} {H : Hp}, Ev (tC (.str "")) σ H (.str (S [])) := ev_c
    refine q_skip (et_or0 (et_is (et_not (et_B (ev_call (ea_cons (ev_call (ea_cons (ev_var rfl) (ea_cons (ev_call (ea_cons (ev_var rfl) ea_nil) (sv_turned (l := W) (by omega) w1)) ea_nil)) (sv_times (l := W) (m := inv W) (by rw [inv_len]; omega) w1 (isW_inv w1))) (ea_cons em ea_nil)) sv_is))) (by rw [times_inv w1]; simp))
      (et_is (et_not (et_B (ev_call (ea_cons (ev_call (ea_cons (ev_call (ea_cons (ev_var rfl) ea_nil) (sv_back (l := W) (by omega) w1)) (ea_cons (ev_var rfl) ea_nil)) (sv_times (l := short (inv W)) (m := W) (by rw [short_inv w1, inv_len]; omega) (by rw [short_inv w1]; exact isW_inv sw1) w1)) (ea_cons em ea_nil)) sv_is))) (by rw [inv_times w1]; simp))) fun H10 e10 => ?_
    have E10 := ((E7.trans e8).trans e9).trans e10
    have ad : ∀ {x y : Str}, x.length ≤ 100 → y.length ≤ 100 → x.length + y.length ≤ sizeLine := fun h1 h2 => sz_of (by omega)
    refine q_asgP (ep_cons ev_c (ep_cons ev_c (ep_cons ev_c (ep_cons ev_c (ep_cons ev_c (ep_cons (ev_op (ev_var rfl) ev_c (rv_addS (ad (by rw [S_len]; omega) (by decide +kernel)))) (ep_cons (ev_op ev_c (ev_var rfl) (rv_addS (ad (by decide +kernel) (by rw [S_len]; omega)))) (ep_consL (el_lst (ea_cons (ev_var rfl) ea_nil) (by simp)) (ep_consU (eu_tup (ea_cons (ev_var rfl) ea_nil) (by simp)) (ep_cons ev_c ep_nil))))))))))
      (kp_cons (kp_cons (kp_cons (kp_cons (kp_cons (kp_cons (kp_cons (kp_consL (kp_consU (kp_cons kp_nil)))))))))) ?_ fun tp vs H11 hn11 e11 h11 hP => ?_
    · rintro vs H1 ⟨_, rfl, _, rfl, _, rfl, _, rfl, _, rfl, _, rfl, _, rfl, _, _, rfl, _, _, _, rfl, _, _, rfl, rfl⟩
      simp
    obtain ⟨_, rfl, _, rfl, _, rfl, _, rfl, _, rfl, _, rfl, _, rfl, pl, _, rfl, hpl, pt, _, rfl, hpt, _, rfl, rfl⟩ := hP
    have E11 := E10.trans e11
    have t0 : 0 ≤ cell ns (7 : Int).toNat % 10 := Int.emod_nonneg _ (by decide)
    have t1 : cell ns (7 : Int).toNat % 10 < 10 := Int.emod_lt_of_pos _ (by decide)
    obtain ⟨x, hx, nx⟩ : ∃ x, atI [.non, .int 5, .bl true, .str "a b", .str "a1", .str (S W ++ "-"), .str (" " ++ S W), .ref pl, .ref pt, .str "\n"] (cell ns (7 : Int).toNat % 10) = some x ∧ NW H11 x := by
      generalize cell ns (7 : Int).toNat % 10 = m at *
      obtain ⟨n, rfl⟩ := Int.eq_ofNat_of_zero_le t0
      have : n = 0 ∨ n = 1 ∨ n = 2 ∨ n = 3 ∨ n = 4 ∨ n = 5 ∨ n = 6 ∨ n = 7 ∨ n = 8 ∨ n = 9 := by omega
      rcases this with rfl | rfl | rfl | rfl | rfl | rfl | rfl | rfl | rfl | rfl
      · exact ⟨_, atI_nat (j := 0) rfl, Or.inr ⟨"NoneType", .non, by decide, fun _ => rfl⟩⟩
      · exact ⟨_, atI_nat (j := 1) rfl, Or.inr ⟨"int", .base (.int 5), by decide, fun _ => rfl⟩⟩
      · exact ⟨_, atI_nat (j := 2) rfl, Or.inr ⟨"bool", .bl true, by decide, fun _ => rfl⟩⟩
      · exact ⟨_, atI_nat (j := 3) rfl, nw_txt (l := [97, 32, 98]) (by decide +kernel) (by decide) (by decide)⟩
      · exact ⟨_, atI_nat (j := 4) rfl, nw_txt (l := [97, 49]) (by decide +kernel) (by decide) (by decide)⟩
      · exact ⟨_, atI_nat (j := 5) rfl, nw_txt (l := W ++ [45]) (by rw [← S_app]; congr 1) (by rw [List.length_append]; simp; omega) (isW_no (by decide))⟩
      · exact ⟨_, atI_nat (j := 6) rfl, nw_txt (l := [] ++ 32 :: W) (by rw [show ([] ++ 32 :: W : List Nat) = [32] ++ W from rfl, ← S_app]; congr 1) (by simp; omega) (isW_no (by decide))⟩
      · exact ⟨_, atI_nat (j := 7) rfl, Or.inr ⟨"list", .base (.lst hpl), by decide, fun _ => rfl⟩⟩
      · exact ⟨_, atI_nat (j := 8) rfl, Or.inr ⟨"tuple", .base (.tup hpt), by decide, fun _ => rfl⟩⟩
      · exact ⟨_, atI_nat (j := 9) rfl, nw_txt (l := [10]) (by decide +kernel) (by decide) (by decide)⟩
    refine q_asg (ev_op (ev_var rfl) (ev_op (ce 7 E11 rfl (by decide)) ev_c (rv_I (by decide))) (rv_ixL (sq_of h11) hx)) fun H12 e12 => ?_
    have E12 := E11.trans e12
    refine s_ret (v := .bl true) (ev_is (ev_andV (ev_op (ev_call (ea_cons (ev_var rfl) ea_nil) (sv_is_word0 (nx.mono e12))) ev_c rv_isB) (fun _ => ev_call (ea_cons (ev_op (ev_op (ce 7 E12 rfl (by decide)) ev_c (rv_I ⟨by decide, by decide⟩)) ev_c (rv_I (by decide))) (ea_cons (ev_var rfl) ea_nil)) (sv_refused (nx.mono e12)))) (by simp)) fun H13 e13 => q H13 (E12.trans e13)
end
end Gw

namespace Gw
open PySem PySem.Spec PyProof.Rows L2 Evl
theorem all_mk {l : PySem.W.OpenLaw} {w : World} {K : PySem.W.Frag} {h : Heap} {mg : Str → Option Value} {fa C_GlueError C_BadWord C_BadWeb : Addr} (X : K.In h) (G : h.Ns mainGlobals mg) (hfa : mg "law" = some (.ref fa))
    {f0 : Addr} {od0 an0 : Option Addr} {sl0 : Array (Option Value)} {oc0 kV0 dc0 pm0 cd0 ct0 : Value}
    (a0 : PySem.W.nsIn K mainGlobals "is_word" = some (some (.ref f0))) (l0 : K.lookup f0 = some ⟨oc0, od0, .func (PySem.W.fnOf "is_word" "is_word" (defArgs s_is_word) (defBody s_is_word) (defScope s_is_word) .none kV0 dc0 pm0 an0 cd0 ct0), sl0⟩) (c0 : PySem.W.codeIn K cd0 "is_word" = true) (k0 : PySem.W.keepIn K (.ref f0) = true)
    {f1 : Addr} {od1 an1 : Option Addr} {sl1 : Array (Option Value)} {oc1 kV1 dc1 pm1 cd1 ct1 : Value}
    (a1 : PySem.W.nsIn K mainGlobals "check_word" = some (some (.ref f1))) (l1 : K.lookup f1 = some ⟨oc1, od1, .func (PySem.W.fnOf "check_word" "check_word" (defArgs s_check_word) (defBody s_check_word) (defScope s_check_word) .none kV1 dc1 pm1 an1 cd1 ct1), sl1⟩) (c1 : PySem.W.codeIn K cd1 "check_word" = true) (k1 : PySem.W.keepIn K (.ref f1) = true)
    {f2 : Addr} {od2 an2 : Option Addr} {sl2 : Array (Option Value)} {oc2 kV2 dc2 pm2 cd2 ct2 : Value}
    (a2 : PySem.W.nsIn K mainGlobals "short" = some (some (.ref f2))) (l2 : K.lookup f2 = some ⟨oc2, od2, .func (PySem.W.fnOf "short" "short" (defArgs s_short) (defBody s_short) (defScope s_short) .none kV2 dc2 pm2 an2 cd2 ct2), sl2⟩) (c2 : PySem.W.codeIn K cd2 "short" = true) (k2 : PySem.W.keepIn K (.ref f2) = true)
    {f3 : Addr} {od3 an3 : Option Addr} {sl3 : Array (Option Value)} {oc3 kV3 dc3 pm3 cd3 ct3 : Value}
    (a3 : PySem.W.nsIn K mainGlobals "back" = some (some (.ref f3))) (l3 : K.lookup f3 = some ⟨oc3, od3, .func (PySem.W.fnOf "back" "back" (defArgs s_back) (defBody s_back) (defScope s_back) .none kV3 dc3 pm3 an3 cd3 ct3), sl3⟩) (c3 : PySem.W.codeIn K cd3 "back" = true) (k3 : PySem.W.keepIn K (.ref f3) = true)
    {f4 : Addr} {od4 an4 : Option Addr} {sl4 : Array (Option Value)} {oc4 kV4 dc4 pm4 cd4 ct4 : Value}
    (a4 : PySem.W.nsIn K mainGlobals "times" = some (some (.ref f4))) (l4 : K.lookup f4 = some ⟨oc4, od4, .func (PySem.W.fnOf "times" "times" (defArgs s_times) (defBody s_times) (defScope s_times) .none kV4 dc4 pm4 an4 cd4 ct4), sl4⟩) (c4 : PySem.W.codeIn K cd4 "times" = true) (k4 : PySem.W.keepIn K (.ref f4) = true)
    {f5 : Addr} {od5 an5 : Option Addr} {sl5 : Array (Option Value)} {oc5 kV5 dc5 pm5 cd5 ct5 : Value}
    (a5 : PySem.W.nsIn K mainGlobals "_is_letter" = some (some (.ref f5))) (l5 : K.lookup f5 = some ⟨oc5, od5, .func (PySem.W.fnOf "_is_letter" "_is_letter" (defArgs s__is_letter) (defBody s__is_letter) (defScope s__is_letter) .none kV5 dc5 pm5 an5 cd5 ct5), sl5⟩) (c5 : PySem.W.codeIn K cd5 "_is_letter" = true) (k5 : PySem.W.keepIn K (.ref f5) = true)
    {f6 : Addr} {od6 an6 : Option Addr} {sl6 : Array (Option Value)} {oc6 kV6 dc6 pm6 cd6 ct6 : Value}
    (a6 : PySem.W.nsIn K mainGlobals "_law_cell" = some (some (.ref f6))) (l6 : K.lookup f6 = some ⟨oc6, od6, .func (PySem.W.fnOf "_law_cell" "_law_cell" (defArgs s__law_cell) (defBody s__law_cell) (defScope s__law_cell) .none kV6 dc6 pm6 an6 cd6 ct6), sl6⟩) (c6 : PySem.W.codeIn K cd6 "_law_cell" = true) (k6 : PySem.W.keepIn K (.ref f6) = true)
    {f7 : Addr} {od7 an7 : Option Addr} {sl7 : Array (Option Value)} {oc7 kV7 dc7 pm7 cd7 ct7 : Value}
    (a7 : PySem.W.nsIn K mainGlobals "_law_mixed" = some (some (.ref f7))) (l7 : K.lookup f7 = some ⟨oc7, od7, .func (PySem.W.fnOf "_law_mixed" "_law_mixed" (defArgs s__law_mixed) (defBody s__law_mixed) (defScope s__law_mixed) .none kV7 dc7 pm7 an7 cd7 ct7), sl7⟩) (c7 : PySem.W.codeIn K cd7 "_law_mixed" = true) (k7 : PySem.W.keepIn K (.ref f7) = true)
    {f8 : Addr} {od8 an8 : Option Addr} {sl8 : Array (Option Value)} {oc8 kV8 dc8 pm8 cd8 ct8 : Value}
    (a8 : PySem.W.nsIn K mainGlobals "_law_letters" = some (some (.ref f8))) (l8 : K.lookup f8 = some ⟨oc8, od8, .func (PySem.W.fnOf "_law_letters" "_law_letters" (defArgs s__law_letters) (defBody s__law_letters) (defScope s__law_letters) .none kV8 dc8 pm8 an8 cd8 ct8), sl8⟩) (c8 : PySem.W.codeIn K cd8 "_law_letters" = true) (k8 : PySem.W.keepIn K (.ref f8) = true)
    {f9 : Addr} {od9 an9 : Option Addr} {sl9 : Array (Option Value)} {oc9 kV9 dc9 pm9 cd9 ct9 : Value}
    (a9 : PySem.W.nsIn K mainGlobals "_law_back" = some (some (.ref f9))) (l9 : K.lookup f9 = some ⟨oc9, od9, .func (PySem.W.fnOf "_law_back" "_law_back" (defArgs s__law_back) (defBody s__law_back) (defScope s__law_back) .none kV9 dc9 pm9 an9 cd9 ct9), sl9⟩) (c9 : PySem.W.codeIn K cd9 "_law_back" = true) (k9 : PySem.W.keepIn K (.ref f9) = true)
    {f10 : Addr} {od10 an10 : Option Addr} {sl10 : Array (Option Value)} {oc10 kV10 dc10 pm10 cd10 ct10 : Value}
    (a10 : PySem.W.nsIn K mainGlobals "_law_word" = some (some (.ref f10))) (l10 : K.lookup f10 = some ⟨oc10, od10, .func (PySem.W.fnOf "_law_word" "_law_word" (defArgs s__law_word) (defBody s__law_word) (defScope s__law_word) .none kV10 dc10 pm10 an10 cd10 ct10), sl10⟩) (c10 : PySem.W.codeIn K cd10 "_law_word" = true) (k10 : PySem.W.keepIn K (.ref f10) = true)
    {f11 : Addr} {od11 an11 : Option Addr} {sl11 : Array (Option Value)} {oc11 kV11 dc11 pm11 cd11 ct11 : Value}
    (a11 : PySem.W.nsIn K mainGlobals "_law_turned" = some (some (.ref f11))) (l11 : K.lookup f11 = some ⟨oc11, od11, .func (PySem.W.fnOf "_law_turned" "_law_turned" (defArgs s__law_turned) (defBody s__law_turned) (defScope s__law_turned) .none kV11 dc11 pm11 an11 cd11 ct11), sl11⟩) (c11 : PySem.W.codeIn K cd11 "_law_turned" = true) (k11 : PySem.W.keepIn K (.ref f11) = true)
    {f12 : Addr} {od12 an12 : Option Addr} {sl12 : Array (Option Value)} {oc12 kV12 dc12 pm12 cd12 ct12 : Value}
    (a12 : PySem.W.nsIn K mainGlobals "_law_taken_out" = some (some (.ref f12))) (l12 : K.lookup f12 = some ⟨oc12, od12, .func (PySem.W.fnOf "_law_taken_out" "_law_taken_out" (defArgs s__law_taken_out) (defBody s__law_taken_out) (defScope s__law_taken_out) .none kV12 dc12 pm12 an12 cd12 ct12), sl12⟩) (c12 : PySem.W.codeIn K cd12 "_law_taken_out" = true) (k12 : PySem.W.keepIn K (.ref f12) = true)
    {f13 : Addr} {od13 an13 : Option Addr} {sl13 : Array (Option Value)} {oc13 kV13 dc13 pm13 cd13 ct13 : Value}
    (a13 : PySem.W.nsIn K mainGlobals "_law_called" = some (some (.ref f13))) (l13 : K.lookup f13 = some ⟨oc13, od13, .func (PySem.W.fnOf "_law_called" "_law_called" (defArgs s__law_called) (defBody s__law_called) (defScope s__law_called) .none kV13 dc13 pm13 an13 cd13 ct13), sl13⟩) (c13 : PySem.W.codeIn K cd13 "_law_called" = true) (k13 : PySem.W.keepIn K (.ref f13) = true)
    {f14 : Addr} {od14 an14 : Option Addr} {sl14 : Array (Option Value)} {oc14 kV14 dc14 pm14 cd14 ct14 : Value}
    (a14 : PySem.W.nsIn K mainGlobals "_law_refused" = some (some (.ref f14))) (l14 : K.lookup f14 = some ⟨oc14, od14, .func (PySem.W.fnOf "_law_refused" "_law_refused" (defArgs s__law_refused) (defBody s__law_refused) (defScope s__law_refused) .none kV14 dc14 pm14 an14 cd14 ct14), sl14⟩) (c14 : PySem.W.codeIn K cd14 "_law_refused" = true) (k14 : PySem.W.keepIn K (.ref f14) = true)
    {f15 : Addr} {od15 an15 : Option Addr} {sl15 : Array (Option Value)} {oc15 kV15 dc15 pm15 cd15 ct15 : Value}
    (a15 : PySem.W.nsIn K mainGlobals "_law_is" = some (some (.ref f15))) (l15 : K.lookup f15 = some ⟨oc15, od15, .func (PySem.W.fnOf "_law_is" "_law_is" (defArgs s__law_is) (defBody s__law_is) (defScope s__law_is) .none kV15 dc15 pm15 an15 cd15 ct15), sl15⟩) (c15 : PySem.W.codeIn K cd15 "_law_is" = true) (k15 : PySem.W.keepIn K (.ref f15) = true)
    {f16 : Addr} {od16 an16 : Option Addr} {sl16 : Array (Option Value)} {oc16 kV16 dc16 pm16 cd16 ct16 : Value}
    (a16 : PySem.W.nsIn K mainGlobals "law" = some (some (.ref f16))) (l16 : K.lookup f16 = some ⟨oc16, od16, .func (PySem.W.fnOf "law" "law" (defArgs s_law) (defBody s_law) (defScope s_law) .none kV16 dc16 pm16 an16 cd16 ct16), sl16⟩) (c16 : PySem.W.codeIn K cd16 "law" = true) (k16 : PySem.W.keepIn K (.ref f16) = true)
    (z_type : PySem.W.nsIn K mainGlobals "type" = some none)
    (z_str : PySem.W.nsIn K mainGlobals "str" = some none)
    (z_all : PySem.W.nsIn K mainGlobals "all" = some none)
    (z_len : PySem.W.nsIn K mainGlobals "len" = some none)
    (z_range : PySem.W.nsIn K mainGlobals "range" = some none)
    (z_reversed : PySem.W.nsIn K mainGlobals "reversed" = some none)
    (z_isinstance : PySem.W.nsIn K mainGlobals "isinstance" = some none)
    (z_ValueError : PySem.W.nsIn K mainGlobals "ValueError" = some none)
    (z_sorted : PySem.W.nsIn K mainGlobals "sorted" = some none)
    (z_sum : PySem.W.nsIn K mainGlobals "sum" = some none)
    (z_list : PySem.W.nsIn K mainGlobals "list" = some none)
    (z_int : PySem.W.nsIn K mainGlobals "int" = some none)
    (z_bool : PySem.W.nsIn K mainGlobals "bool" = some none)
    (z_tuple : PySem.W.nsIn K mainGlobals "tuple" = some none)
    (z_min : PySem.W.nsIn K mainGlobals "min" = some none)
    (z_max : PySem.W.nsIn K mainGlobals "max" = some none)
    (z_set : PySem.W.nsIn K mainGlobals "set" = some none)
    (g_GlueError : PySem.W.nsIn K mainGlobals "GlueError" = some (some (.ref C_GlueError)))
    (g_BadWord : PySem.W.nsIn K mainGlobals "BadWord" = some (some (.ref C_BadWord)))
    (g_BadWeb : PySem.W.nsIn K mainGlobals "BadWeb" = some (some (.ref C_BadWeb)))
    (x1 : PySem.W.excIn K C_BadWord [.type "ValueError", .type "Exception", .type "BaseException", .type "object"] "ValueError.__new__" = true)
    (x2 : PySem.W.keepIn K (.ref C_BadWord) = true)
    (x3 : PySem.W.subIn K (.ref C_BadWord) (.type "BaseException") = some true)
    (x4 : PySem.W.typeIn K (.ref C_BadWord) = some (.type "type"))
    (x5 : PySem.W.subIn K (.ref C_GlueError) (.type "BaseException") = some true)
    (x6 : PySem.W.hasDictIn K C_GlueError = true)
    (x7 : PySem.W.typeIn K (.ref C_GlueError) = some (.type "type"))
    (x8 : PySem.W.subIn K (.ref C_BadWord) (.ref C_GlueError) = some true)
    (y1 : PySem.W.findIn K (.ref C_BadWord) "__getattribute__" = some (some (.builtin "BaseException.__getattribute__")))
    (y2 : PySem.W.findIn K (.ref C_BadWord) "__getattr__" = some none)
    (y3 : PySem.W.hasDictIn K C_BadWord = true)
    (y4 : PySem.W.findIn K (.ref C_BadWord) "__class__" = some (some (.builtin "object.__class__")))
    (y5 : PySem.W.specialIn K (.builtin "object.__class__") "__get__" = some (some (.builtin "getset_descriptor.__get__")))
    (y6 : PySem.W.takesIn K (.builtin "object.__class__") = some true)
    (y7 : PySem.W.mroIn K C_BadWord (.type "object") = some true)
    (i2 : PySem.W.subIn K (.ref C_BadWord) (.type "ValueError") = some true)
    (j1 : PySem.W.subIn K (.ref C_BadWord) (.ref C_BadWeb) = some false)
    (j2 : PySem.W.subIn K (.ref C_BadWord) (.ref C_BadWord) = some true)
    (j3 : PySem.W.hasDictIn K C_BadWeb = true)
    (j4 : PySem.W.typeIn K (.ref C_BadWeb) = some (.type "type"))
    : ∃ fd : FuncData, (∀ (s : Shared) (v : Value), BindsTo s fd ⟨[v], []⟩ [("_law_script", v)]) ∧ ∀ base : Heap, K.In base → base.Ns mainGlobals mg → FnOk l.prog w K mg base CX0 10 fa fd ["_law_script"] (sp_law K) := by
  have e := hfa.symm.trans (PySem.W.mg_of X G a16)
  cases e
  have B : Blt mg := ⟨PySem.W.mg_none_of X G z_type, PySem.W.mg_none_of X G z_str, PySem.W.mg_none_of X G z_all, PySem.W.mg_none_of X G z_len, PySem.W.mg_none_of X G z_range, PySem.W.mg_none_of X G z_reversed, PySem.W.mg_none_of X G z_isinstance, PySem.W.mg_none_of X G z_ValueError, PySem.W.mg_none_of X G z_sorted, PySem.W.mg_none_of X G z_sum, PySem.W.mg_none_of X G z_list, PySem.W.mg_none_of X G z_int, PySem.W.mg_none_of X G z_bool, PySem.W.mg_none_of X G z_tuple, PySem.W.mg_none_of X G z_min, PySem.W.mg_none_of X G z_max, PySem.W.mg_none_of X G z_set⟩
  have T : Exn K mg C_GlueError C_BadWord C_BadWeb := ⟨PySem.W.mg_of X G g_GlueError, PySem.W.mg_of X G g_BadWord, PySem.W.mg_of X G g_BadWeb, x1, x2, x3, x4, PySem.W.exm_ref x5 x6 x7 x8, ⟨y1, y2, x3, y3, y4, y5, y6, y7⟩, kit_self, kit_type (by decide +kernel) i2, kit_other j2 j1 j3 j4⟩
  have D_is_word : Def K mg "is_word" s_is_word ["thing"] := def_mk X G a0 l0 c0 k0 fun _ _ _ _ _ _ us hl => match us, hl with | [_], _ => rfl
  have D_check_word : Def K mg "check_word" s_check_word ["thing"] := def_mk X G a1 l1 c1 k1 fun _ _ _ _ _ _ us hl => match us, hl with | [_], _ => rfl
  have D_short : Def K mg "short" s_short ["word"] := def_mk X G a2 l2 c2 k2 fun _ _ _ _ _ _ us hl => match us, hl with | [_], _ => rfl
  have D_back : Def K mg "back" s_back ["word"] := def_mk X G a3 l3 c3 k3 fun _ _ _ _ _ _ us hl => match us, hl with | [_], _ => rfl
  have D_times : Def K mg "times" s_times ["one", "other"] := def_mk X G a4 l4 c4 k4 fun _ _ _ _ _ _ us hl => match us, hl with | [_, _], _ => rfl
  have D__is_letter : Def K mg "_is_letter" s__is_letter ["sign"] := def_mk X G a5 l5 c5 k5 fun _ _ _ _ _ _ us hl => match us, hl with | [_], _ => rfl
  have D__law_cell : Def K mg "_law_cell" s__law_cell ["_law_script", "_law_k"] := def_mk X G a6 l6 c6 k6 fun _ _ _ _ _ _ us hl => match us, hl with | [_, _], _ => rfl
  have D__law_mixed : Def K mg "_law_mixed" s__law_mixed ["_law_cell_here", "_law_k"] := def_mk X G a7 l7 c7 k7 fun _ _ _ _ _ _ us hl => match us, hl with | [_, _], _ => rfl
  have D__law_letters : Def K mg "_law_letters" s__law_letters ["_law_cell_here"] := def_mk X G a8 l8 c8 k8 fun _ _ _ _ _ _ us hl => match us, hl with | [_], _ => rfl
  have D__law_back : Def K mg "_law_back" s__law_back ["_law_letter"] := def_mk X G a9 l9 c9 k9 fun _ _ _ _ _ _ us hl => match us, hl with | [_], _ => rfl
  have D__law_word : Def K mg "_law_word" s__law_word ["_law_cell_here", "_law_letters_here", "_law_size"] := def_mk X G a10 l10 c10 k10 fun _ _ _ _ _ _ us hl => match us, hl with | [_, _, _], _ => rfl
  have D__law_turned : Def K mg "_law_turned" s__law_turned ["_law_word_here"] := def_mk X G a11 l11 c11 k11 fun _ _ _ _ _ _ us hl => match us, hl with | [_], _ => rfl
  have D__law_taken_out : Def K mg "_law_taken_out" s__law_taken_out ["_law_word_here", "_law_cell_here"] := def_mk X G a12 l12 c12 k12 fun _ _ _ _ _ _ us hl => match us, hl with | [_, _], _ => rfl
  have D__law_called : Def K mg "_law_called" s__law_called ["_law_pick", "_law_thing"] := def_mk X G a13 l13 c13 k13 fun _ _ _ _ _ _ us hl => match us, hl with | [_, _], _ => rfl
  have D__law_refused : Def K mg "_law_refused" s__law_refused ["_law_pick", "_law_thing"] := def_mk X G a14 l14 c14 k14 fun _ _ _ _ _ _ us hl => match us, hl with | [_, _], _ => rfl
  have D__law_is : Def K mg "_law_is" s__law_is ["_law_found", "_law_due"] := def_mk X G a15 l15 c15 k15 fun _ _ _ _ _ _ us hl => match us, hl with | [_, _], _ => rfl
  have D_law : Def K mg "law" s_law ["_law_script"] := def_mk X G a16 l16 c16 k16 fun _ _ _ _ _ _ us hl => match us, hl with | [_], _ => rfl
  refine ⟨PySem.W.fnOf "law" "law" (defArgs s_law) (defBody s_law) (defScope s_law) .none kV16 dc16 pm16 an16 cd16 ct16, fun s v => .of_eq rfl, fun base _ _ => ?_⟩
  have C__is_letter := ok__is_letter (P := l.prog) (w := w) (base := base) D__is_letter 
  have C_is_word := ok_is_word (P := l.prog) (w := w) (base := base) D_is_word B C__is_letter
  have C_check_word := ok_check (P := l.prog) (w := w) (base := base) D_check_word T C_is_word
  have C_short := ok_short (P := l.prog) (w := w) (base := base) D_short C_check_word
  have C_back := ok_back (P := l.prog) (w := w) (base := base) D_back C_check_word C_short
  have C_times := ok_times (P := l.prog) (w := w) (base := base) D_times C_check_word C_short
  have C__law_cell := ok_cell (P := l.prog) (w := w) (base := base) D__law_cell B
  have C__law_mixed := ok_mixed (P := l.prog) (w := w) (base := base) D__law_mixed 
  have C__law_letters := ok_letters (P := l.prog) (w := w) (base := base) D__law_letters B
  have C__law_back := ok_bk (P := l.prog) (w := w) (base := base) D__law_back 
  have C__law_word := ok_word (P := l.prog) (w := w) (base := base) D__law_word B C__law_mixed
  have C__law_turned := ok_turned (P := l.prog) (w := w) (base := base) D__law_turned B C__law_back
  have C__law_taken_out := ok_out (P := l.prog) (w := w) (base := base) D__law_taken_out B C__law_back C__law_mixed
  have C__law_called := ok_called (P := l.prog) (w := w) (base := base) D__law_called C_short C_back C_times
  have C__law_refused := ok_refused (P := l.prog) (w := w) (base := base) D__law_refused B T C__law_called
  have C__law_is := ok_is (P := l.prog) (w := w) (base := base) D__law_is B
  exact (Cal.at (ok_law (P := l.prog) (w := w) (base := base) D_law B C_is_word C_short C_back C_times C__law_cell C__law_letters C__law_word C__law_turned C__law_taken_out C__law_is C__law_refused) (PySem.W.mg_of X G a16) (fun_mk (st := s_law) l16 c16 k16))
end Gw
open PySem PySem.W PyProof.Rows
set_option maxRecDepth 100000 in
set_option maxHeartbeats 0 in
theorem PySem.Challenge.cw_gluewords_k01_short_words_holds : PySem.Challenge.rw_gluewords_k01_short_words.Holds := by
  w_on; o_law; k_head; (case hw => w_witness2)
  k_fill
  refine L2.walk_of (l := PySem.Challenge.rw_gluewords_k01_short_words) (n := 63) (k := 10) (x := "_law_script") (CX := fun _ => L2.CX0) (sp := fun w => Gw.sp_law _) rfl (by decide) rfl ⟨rfl, by decide, by decide⟩ (fun w h Y => PySem.W.kIn_of Y) ?F (fun _ _ a ns hl _ hS => ⟨a, ns, rfl, hS, fun _ _ => rfl⟩) (fun _ _ _ _ _ h => h)
  case F =>
    intro w mg fa h KX G hmg
    refine' Gw.all_mk KX G hmg ?a0 ?l0 ?c0 ?k0 ?a1 ?l1 ?c1 ?k1 ?a2 ?l2 ?c2 ?k2 ?a3 ?l3 ?c3 ?k3 ?a4 ?l4 ?c4 ?k4 ?a5 ?l5 ?c5 ?k5 ?a6 ?l6 ?c6 ?k6 ?a7 ?l7 ?c7 ?k7 ?a8 ?l8 ?c8 ?k8 ?a9 ?l9 ?c9 ?k9 ?a10 ?l10 ?c10 ?k10 ?a11 ?l11 ?c11 ?k11 ?a12 ?l12 ?c12 ?k12 ?a13 ?l13 ?c13 ?k13 ?a14 ?l14 ?c14 ?k14 ?a15 ?l15 ?c15 ?k15 ?a16 ?l16 ?c16 ?k16 ?z_type ?z_str ?z_all ?z_len ?z_range ?z_reversed ?z_isinstance ?z_ValueError ?z_sorted ?z_sum ?z_list ?z_int ?z_bool ?z_tuple ?z_min ?z_max ?z_set ?g_GlueError ?g_BadWord ?g_BadWeb ?x1 ?x2 ?x3 ?x4 ?x5 ?x6 ?x7 ?x8 ?y1 ?y2 ?y3 ?y4 ?y5 ?y6 ?y7 ?i2 ?j1 ?j2 ?j3 ?j4
    (case a0 => k_is)
    (case l0 => k_is)
    (case c0 => k_is)
    (case k0 => k_is)
    (case a1 => k_is)
    (case l1 => k_is)
    (case c1 => k_is)
    (case k1 => k_is)
    (case a2 => k_is)
    (case l2 => k_is)
    (case c2 => k_is)
    (case k2 => k_is)
    (case a3 => k_is)
    (case l3 => k_is)
    (case c3 => k_is)
    (case k3 => k_is)
    (case a4 => k_is)
    (case l4 => k_is)
    (case c4 => k_is)
    (case k4 => k_is)
    (case a5 => k_is)
    (case l5 => k_is)
    (case c5 => k_is)
    (case k5 => k_is)
    (case a6 => k_is)
    (case l6 => k_is)
    (case c6 => k_is)
    (case k6 => k_is)
    (case a7 => k_is)
    (case l7 => k_is)
    (case c7 => k_is)
    (case k7 => k_is)
    (case a8 => k_is)
    (case l8 => k_is)
    (case c8 => k_is)
    (case k8 => k_is)
    (case a9 => k_is)
    (case l9 => k_is)
    (case c9 => k_is)
    (case k9 => k_is)
    (case a10 => k_is)
    (case l10 => k_is)
    (case c10 => k_is)
    (case k10 => k_is)
    (case a11 => k_is)
    (case l11 => k_is)
    (case c11 => k_is)
    (case k11 => k_is)
    (case a12 => k_is)
    (case l12 => k_is)
    (case c12 => k_is)
    (case k12 => k_is)
    (case a13 => k_is)
    (case l13 => k_is)
    (case c13 => k_is)
    (case k13 => k_is)
    (case a14 => k_is)
    (case l14 => k_is)
    (case c14 => k_is)
    (case k14 => k_is)
    (case a15 => k_is)
    (case l15 => k_is)
    (case c15 => k_is)
    (case k15 => k_is)
    (case a16 => k_is)
    (case l16 => k_is)
    (case c16 => k_is)
    (case k16 => k_is)
    (case z_type => k_is)
    (case z_str => k_is)
    (case z_all => k_is)
    (case z_len => k_is)
    (case z_range => k_is)
    (case z_reversed => k_is)
    (case z_isinstance => k_is)
    (case z_ValueError => k_is)
    (case z_sorted => k_is)
    (case z_sum => k_is)
    (case z_list => k_is)
    (case z_int => k_is)
    (case z_bool => k_is)
    (case z_tuple => k_is)
    (case z_min => k_is)
    (case z_max => k_is)
    (case z_set => k_is)
    (case g_GlueError => k_is)
    (case g_BadWord => k_is)
    (case g_BadWeb => k_is)
    (case x1 => k_exc)
    (case x2 => k_is)
    (case x3 => k_is)
    (case x4 => k_is)
    (case x5 => k_is)
    (case x6 => k_is)
    (case x7 => k_is)
    (case x8 => k_is)
    (case y1 => k_is)
    (case y2 => k_is)
    (case y3 => k_is)
    (case y4 => k_is)
    (case y5 => k_is)
    (case y6 => k_is)
    (case y7 => k_is)
    (case i2 => k_is)
    (case j1 => k_is)
    (case j2 => first | rfl | k_is)
    (case j3 => k_is)
    (case j4 => k_is)

