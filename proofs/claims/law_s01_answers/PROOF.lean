import PyProof.Rows.All
import Wide.All
import OpenK.AllK
import Wide.FinOn
import Open.SpecLaws
import KE.OsGo
import HandS.Base
import HandS.Call
import HandS.List
import HandS.Comp
import HandS.Ends
import HandS.Dict
import HandS.Iter
import HandS.Spec
import HandS.Words
import HandS.WordsList
import HandS.WordsDict
import PySem.Challenge.RW_textbranches_s01_answers
set_option Elab.async false
set_option linter.all false
set_option maxRecDepth 100000
set_option maxHeartbeats 4000000
/-! ### 0. Words: defs, methods and classes packed with their promises -/
namespace Tb
open PySem PySem.Spec PyProof.Rows L2
structure Cal (P : Program) (w : World) (K : PySem.W.Frag) (mg : Str → Option Value) (base : Heap) (k : Nat) (x : Str) (sp : Sp) : Prop where
  ex : ∃ (f : Addr) (fd : FuncData) (ps : List Str), FnOk P w K mg base CX0 k f fd ps sp ∧ mg x = some (.ref f) ∧ PySem.W.keepIn K (.ref f) = true ∧ Binds K fd ps []
structure Met (P : Program) (w : World) (K : PySem.W.Frag) (mg : Str → Option Value) (base : Heap) (k : Nat) (C : Addr) (m : Str) (sp : Sp) : Prop where
  ex : ∃ (f : Addr) (fd : FuncData) (ps : List Str), Cls K C ∧ Meth K C m f ∧ FnOk P w K mg base CX0 k f fd ps sp ∧ Binds K fd ps []
structure Mak (P : Program) (w : World) (K : PySem.W.Frag) (mg : Str → Option Value) (base : Heap) (k : Nat) (x : Str) (C : Addr) (sp : Sp) : Prop where
  ex : ∃ (f : Addr) (fd : FuncData) (ps : List Str), Mk K C f ∧ FnOk P w K mg base CX0 k f fd ps sp ∧ mg x = some (.ref C) ∧ Binds K fd ps []
section
variable {X : Cx} {k j : Nat} {C : Addr} {x m : Str} {sp : Sp} {p pos apos : Pos} {e o : Expr} {es : List Expr} {ta : TE} {t : TA}
theorem pe_c (c : Cal X.prog X.w X.K X.mg X.base k x sp) (hr : Room j X.A) (hk : k ≤ j) (hg : Gl X x) (ha : PA X (e :: es) t)
    (hdb : (x == ("__debug__" : Str)) = false := by decide) (he : starEach (e :: es) X.env = (false, eval e X.env) :: starEach es X.env := by rfl) (hpl : (backTo pos (starEach es X.env)).any (·.1) = false := by rfl) :
    PE X (.Call (.Name x p) (e :: es) [] pos) (tCall sp [] E0 t) := by
  obtain ⟨f, fd, ps, F, hm, kp, b⟩ := c.ex
  exact pe_call F (hr.mono hk) hg hm kp b .nil pass0 ha hdb he hpl
theorem pe_c0 (c : Cal X.prog X.w X.K X.mg X.base k x sp) (hr : Room j X.A) (hk : k ≤ j) (hg : Gl X x)
    (hdb : (x == ("__debug__" : Str)) = false := by decide) : PE X (.Call (.Name x p) [] [] pos) (tCall sp [] E0 tNil) := by
  obtain ⟨f, fd, ps, F, hm, kp, b⟩ := c.ex
  exact pe_call0 F (hr.mono hk) hg hm kp b .nil pass0 hdb
theorem pe_k (c : Mak X.prog X.w X.K X.mg X.base k x C sp) (hr : Room j X.A) (hk : k + 1 ≤ j) (hg : Gl X x) (ha : PA X (e :: es) t)
    (hdb : (x == ("__debug__" : Str)) = false := by decide) (he : starEach (e :: es) X.env = (false, eval e X.env) :: starEach es X.env := by rfl) (hpl : (backTo pos (starEach es X.env)).any (·.1) = false := by rfl) :
    PE X (.Call (.Name x p) (e :: es) [] pos) (tMake C sp [] E0 t) := by
  obtain ⟨f, fd, ps, M, F, hm, b⟩ := c.ex
  exact pe_make M F (hr.mono hk) hg hm b .nil pass0 ha hdb he hpl
theorem pe_k0 (c : Mak X.prog X.w X.K X.mg X.base k x C sp) (hr : Room j X.A) (hk : k + 1 ≤ j) (hg : Gl X x)
    (hdb : (x == ("__debug__" : Str)) = false := by decide) : PE X (.Call (.Name x p) [] [] pos) (tMake C sp [] E0 tNil) := by
  obtain ⟨f, fd, ps, M, F, hm, b⟩ := c.ex
  exact pe_make0 M F (hr.mono hk) hg hm b .nil pass0 hdb
theorem pe_m {pl : Sem Bool} (c : Met X.prog X.w X.K X.mg X.base k C m sp) (hr : Room j X.A) (hk : k ≤ j) (he : PE X o ta) (ha : PA X (e :: es) t)
    (hst : starEach (e :: es) X.env = (false, eval e X.env) :: starEach es X.env := by rfl) (hpl : (backTo pos (starEach es X.env)).any (·.1) = false := by rfl)
    (ht : eval (.Call (.Attribute o m apos) (e :: es) [] pos) X.env = (do let ov ← eval o X.env; standAt apos.atName; let (f, first) ← holding [ov] (getMethod ov m pl); callWith pos f first (backTo pos (starEach (e :: es) X.env)) (backToKw pos (keywordEach [] X.env))) := by rfl) :
    PE X (.Call (.Attribute o m apos) (e :: es) [] pos) (tMeth C m sp [] E0 ta t) := by
  obtain ⟨f, fd, ps, hc, hm, F, b⟩ := c.ex
  exact pe_meth (pl := pl) he hc hm F (hr.mono hk) b .nil pass0 ha hst hpl ht
theorem pe_m0 {pl : Sem Bool} (c : Met X.prog X.w X.K X.mg X.base k C m sp) (hr : Room j X.A) (hk : k ≤ j) (he : PE X o ta)
    (ht : eval (.Call (.Attribute o m apos) [] [] pos) X.env = (do let ov ← eval o X.env; standAt apos.atName; let (f, first) ← holding [ov] (getMethod ov m pl); callWith pos f first (backTo pos (starEach [] X.env)) (backToKw pos (keywordEach [] X.env))) := by rfl) :
    PE X (.Call (.Attribute o m apos) [] [] pos) (tMeth C m sp [] E0 ta tNil) := by
  obtain ⟨f, fd, ps, hc, hm, F, b⟩ := c.ex
  exact pe_meth0 (pl := pl) he hc hm F (hr.mono hk) b .nil pass0 ht
/-- a module's whole number -/
theorem pe_gi {n : Int} (hg : Gl X x) (h : ∃ t, X.mg x = some (.int n t)) (hd : (x == ("__debug__" : Str)) = false := by decide) : PE X (.Name x pos) (tC (.int n)) := by
  obtain ⟨t, h⟩ := h
  exact pe_glob hg h ⟨t, rfl⟩ hd
end
/-! ### 1. Lists side by side -/
structure All2 {α β : Type} (R : α → β → Prop) (xs : List α) (ys : List β) : Prop where
  len : xs.length = ys.length
  at_ : ∀ (i : Nat) (x : α) (y : β), xs[i]? = some x → ys[i]? = some y → R x y
namespace All2
variable {α β : Type} {R S : α → β → Prop} {xs xs' : List α} {ys ys' : List β}
theorem nil : All2 R [] [] := ⟨rfl, fun i x y h => by simp at h⟩
theorem mono (h : All2 R xs ys) (f : ∀ x y, R x y → S x y) : All2 S xs ys := ⟨h.len, fun i x y a b => f x y (h.at_ i x y a b)⟩
theorem get (h : All2 R xs ys) {i : Nat} {y : β} (e : ys[i]? = some y) : ∃ x, xs[i]? = some x ∧ R x y := by
  obtain ⟨hl, e'⟩ := List.getElem?_eq_some_iff.mp e
  have hx : i < xs.length := by rw [h.len]; exact hl
  exact ⟨xs[i], List.getElem?_eq_getElem hx, h.at_ i _ _ (List.getElem?_eq_getElem hx) e⟩
theorem getL (h : All2 R xs ys) {i : Nat} {x : α} (e : xs[i]? = some x) : ∃ y, ys[i]? = some y ∧ R x y := by
  obtain ⟨hl, e'⟩ := List.getElem?_eq_some_iff.mp e
  have hx : i < ys.length := by rw [← h.len]; exact hl
  exact ⟨ys[i], List.getElem?_eq_getElem hx, h.at_ i _ _ e (List.getElem?_eq_getElem hx)⟩
theorem append (h : All2 R xs ys) (k : All2 R xs' ys') : All2 R (xs ++ xs') (ys ++ ys') := by
  refine ⟨by rw [List.length_append, List.length_append, h.len, k.len], fun i x y a b => ?_⟩
  by_cases hi : i < xs.length
  · rw [List.getElem?_append_left hi] at a
    rw [List.getElem?_append_left (by rw [← h.len]; exact hi)] at b
    exact h.at_ i x y a b
  · have hi' : xs.length ≤ i := Nat.le_of_not_lt hi
    rw [List.getElem?_append_right hi'] at a
    rw [List.getElem?_append_right (by rw [← h.len]; exact hi'), ← h.len] at b
    exact k.at_ _ x y a b
theorem one {x : α} {y : β} (r : R x y) : All2 R [x] [y] := ⟨rfl, fun i a b e1 e2 => by
  cases i with
  | zero =>
    have h1 : x = a := Option.some.inj e1
    have h2 : y = b := Option.some.inj e2
    rw [← h1, ← h2]
    exact r
  | succ i => simp at e1⟩
theorem snoc (h : All2 R xs ys) {x : α} {y : β} (r : R x y) : All2 R (xs ++ [x]) (ys ++ [y]) := h.append (one r)
theorem take (h : All2 R xs ys) (n : Nat) : All2 R (xs.take n) (ys.take n) := by
  refine ⟨by rw [List.length_take, List.length_take, h.len], fun i x y a b => ?_⟩
  rw [List.getElem?_take] at a b
  by_cases hi : i < n
  · rw [if_pos hi] at a b
    exact h.at_ i x y a b
  · rw [if_neg hi] at a
    cases a
theorem drop (h : All2 R xs ys) (n : Nat) : All2 R (xs.drop n) (ys.drop n) := by
  refine ⟨by rw [List.length_drop, List.length_drop, h.len], fun i x y a b => ?_⟩
  rw [List.getElem?_drop] at a b
  exact h.at_ _ x y a b
end All2
/-! ### 2. What lies in the heap -/
def nv (n : Nat) : V := .int (n : Int)
def nvs (l : List Nat) : List V := l.map nv
theorem nvs_len (l : List Nat) : (nvs l).length = l.length := List.length_map ..
theorem nvs_get {l : List Nat} {i n : Nat} (h : l[i]? = some n) : (nvs l)[i]? = some (nv n) := by
  unfold nvs
  rw [List.getElem?_map, h]
  rfl
theorem nvs_inv {l : List Nat} {i : Nat} {x : V} (h : (nvs l)[i]? = some x) : ∃ n, l[i]? = some n ∧ x = nv n := by
  unfold nvs at h
  rw [List.getElem?_map] at h
  cases e : l[i]? with
  | none => rw [e] at h; cases h
  | some n => rw [e] at h; exact ⟨n, rfl, (Option.some.inj h).symm⟩
theorem nvs_app (l m : List Nat) : nvs l ++ nvs m = nvs (l ++ m) := (List.map_append ..).symm
theorem nvs_snoc (l : List Nat) (n : Nat) : nvs l ++ [nv n] = nvs (l ++ [n]) := nvs_app l [n]
/-- a list of whole numbers -/
def IntsV (H : Hp) (v : V) (l : List Nat) : Prop := ∃ a, v = .ref a ∧ H a = some (.lst (nvs l))
/-- a list of such lists -/
def DocV (H : Hp) (v : V) (d : List (List Nat)) : Prop := ∃ a vs, v = .ref a ∧ H a = some (.lst vs) ∧ All2 (IntsV H) vs d
def PairV (H : Hp) (v : V) (p : Nat × Nat) : Prop := ∃ a, v = .ref a ∧ H a = some (.tup [nv p.1, nv p.2])
def TripV (H : Hp) (v : V) (p : Nat × Nat × Nat) : Prop := ∃ a, v = .ref a ∧ H a = some (.tup [nv p.1, nv p.2.1, nv p.2.2])
theorem IntsV.same {H H' : Hp} {v : V} {l : List Nat} (s : Same H H') (h : IntsV H v l) : IntsV H' v l := by
  obtain ⟨a, e, q⟩ := h
  exact ⟨a, e, s _ _ q⟩
theorem rows_same {H H' : Hp} {vs : List V} {d : List (List Nat)} (s : Same H H') (h : All2 (IntsV H) vs d) : All2 (IntsV H') vs d := h.mono fun _ _ => IntsV.same s
theorem DocV.same {H H' : Hp} {v : V} {d : List (List Nat)} (s : Same H H') (h : DocV H v d) : DocV H' v d := by
  obtain ⟨a, vs, e, q, r⟩ := h
  exact ⟨a, vs, e, s _ _ q, rows_same s r⟩
theorem PairV.same {H H' : Hp} {v : V} {p : Nat × Nat} (s : Same H H') (h : PairV H v p) : PairV H' v p := by
  obtain ⟨a, e, q⟩ := h
  exact ⟨a, e, s _ _ q⟩
theorem TripV.same {H H' : Hp} {v : V} {p : Nat × Nat × Nat} (s : Same H H') (h : TripV H v p) : TripV H' v p := by
  obtain ⟨a, e, q⟩ := h
  exact ⟨a, e, s _ _ q⟩
theorem same_upd {H : Hp} {p : Addr} {o : HO} (h : H p = none) : Same H (upd H p o) := fun b x e => by
  rw [upd_ne (ne_of_none e h)]
  exact e
/-- a store at an address that was not tracked in H0 keeps what was -/
theorem same_in {H0 H : Hp} {p : Addr} {o : HO} (s : Same H0 H) (h : H0 p = none) : Same H0 (upd H p o) := fun b x e => by
  rw [upd_ne (ne_of_none e h)]
  exact s _ _ e
/-- all but what stands at p -/
theorem size_lt {n m : Nat} (h : n ≤ m) (hm : m < 16777216) : n < sizeLine := Nat.lt_of_le_of_lt h (Nat.lt_of_lt_of_le hm (by rw [sizeLine_eq]; decide))
theorem size_le {n : Nat} (hm : n ≤ 10000000) : n ≤ sizeLine := by rw [sizeLine_eq]; omega
theorem size_lt' {n : Nat} (hm : n < 10000000) : n < sizeLine := by rw [sizeLine_eq]; omega
/-- an if whose test is known -/
theorem if_true_of {c : Bool} {A B : Prop} (hc : c = true) (h : A) : if c = true then A else B := by
  rw [if_pos hc]
  exact h
theorem if_false_of {c : Bool} {A B : Prop} (hc : c = false) (h : B) : if c = true then A else B := by
  rw [hc, if_neg Bool.false_ne_true]
  exact h
theorem if_dec {c : Prop} [Decidable c] {A B : Prop} (h1 : c → A) (h2 : ¬ c → B) : if decide c = true then A else B := by
  by_cases h : c
  · exact if_true_of (decide_eq_true h) (h1 h)
  · exact if_false_of (decide_eq_false h) (h2 h)
theorem if_ndec {c : Prop} [Decidable c] {A B : Prop} (h1 : ¬ c → A) (h2 : c → B) : if (!decide c) = true then A else B := by
  by_cases h : c
  · exact if_false_of (by rw [decide_eq_true h]; rfl) (h2 h)
  · exact if_true_of (by rw [decide_eq_false h]; rfl) (h1 h)
theorem if_bool {c : Bool} {A B : Prop} (h1 : c = true → A) (h2 : c = false → B) : if c = true then A else B := by
  cases c with
  | true => exact if_true_of rfl (h1 rfl)
  | false => exact if_false_of rfl (h2 rfl)
theorem nv_eq {n m : Nat} : (nv n = nv m) ↔ n = m := ⟨fun h => by
  have : (n : Int) = m := V.int.inj h
  omega, fun h => by rw [h]⟩
theorem nvi_eq {n m : Nat} : (nv n = V.int (m : Int)) ↔ n = m := nv_eq
theorem atI_n {xs : List V} {j : Nat} {v : V} {z : Int} (e : z = (j : Int)) (h : xs[j]? = some v) : atI xs z = some v := at_of e h
/-! ### 3. The top's facts -/
def top (i : Nat) : Stmt := PySem.Challenge.pw_textbranches_s01_answers.main.body.getD i (.Pass ⟨0, 0, 0, 0⟩)
structure Txt (mg : Str → Option Value) : Prop where
  gMOST_LINES : ∃ t, mg "MOST_LINES" = some (.int 64 t)
  gMOST_BYTES : ∃ t, mg "MOST_BYTES" = some (.int 64 t)
  gKEPT : ∃ t, mg "KEPT" = some (.int 0 t)
  gDROPPED : ∃ t, mg "DROPPED" = some (.int 1 t)
  gADDED : ∃ t, mg "ADDED" = some (.int 2 t)
  gMOST_VERSIONS : ∃ t, mg "MOST_VERSIONS" = some (.int 128 t)
  gBRANCHES : ∃ t, mg "BRANCHES" = some (.int 8 t)
  m_len : mg "len" = none
  m_all : mg "all" = none
  m_max : mg "max" = none
  m_range : mg "range" = none
  m_reversed : mg "reversed" = none
end Tb

namespace TbM
open Hist
/-! ### The way -/
def lcs : Doc → Doc → Nat
  | [], _ => 0
  | _ :: _, [] => 0
  | x :: a, y :: b => if x = y then lcs a b + 1 else max (lcs a (y :: b)) (lcs (x :: a) b)
termination_by a b => a.length + b.length
theorem lcs_nil (b : Doc) : lcs [] b = 0 := by rw [lcs]
theorem lcs_nil2 (a : Doc) : lcs a [] = 0 := by cases a <;> rw [lcs]
theorem lcs_cons (x : Line) (a : Doc) (y : Line) (b : Doc) : lcs (x :: a) (y :: b) = if x = y then lcs a b + 1 else max (lcs a (y :: b)) (lcs (x :: a) b) := by rw [lcs]
def tls {α : Type} : List α → List (List α)
  | [] => [[]]
  | x :: r => (x :: r) :: tls r
theorem tls_len {α : Type} : ∀ l : List α, (tls l).length = l.length + 1
  | [] => rfl
  | _ :: r => by show (tls r).length + 1 = r.length + 1 + 1; rw [tls_len r]
theorem tls_get {α : Type} : ∀ (l : List α) (i : Nat), i ≤ l.length → (tls l)[i]? = some (l.drop i)
  | [], 0, _ => rfl
  | [], i + 1, h => by simp at h
  | x :: r, 0, _ => rfl
  | x :: r, i + 1, h => tls_get r i (Nat.le_of_succ_le_succ h)
theorem tls_head {α : Type} : ∀ l : List α, ∃ r, tls l = l :: r
  | [] => ⟨[], rfl⟩
  | _ :: r => ⟨tls r, rfl⟩
def tab (a b : Doc) : List (List Nat) := (tls a).map fun a' => (tls b).map fun b' => lcs a' b'
theorem row_is (x : Line) (a : Doc) : ∀ b : Doc, rowFor x b ((tls b).map fun b' => lcs a b') = (tls b).map fun b' => lcs (x :: a) b'
  | [] => by
    show [0] = [lcs (x :: a) []]
    rw [lcs_nil2]
  | y :: b => by
    have ih := row_is x a b
    obtain ⟨r, hr⟩ := tls_head b
    show (if x = y then ((tls b).map fun b' => lcs a b').headD 0 + 1 else max (lcs a (y :: b)) ((rowFor x b ((tls b).map fun b' => lcs a b')).headD 0)) :: rowFor x b ((tls b).map fun b' => lcs a b') = lcs (x :: a) (y :: b) :: (tls b).map fun b' => lcs (x :: a) b'
    rw [ih, lcs_cons, hr]
    rfl
theorem table_is : ∀ a b : Doc, table a b = tab a b
  | [], b => by
    show [List.replicate (b.length + 1) 0] = [(tls b).map fun b' => lcs [] b']
    have : (tls b).map (fun b' => lcs [] b') = List.replicate (b.length + 1) 0 := by
      have e : (fun b' : Doc => lcs [] b') = fun _ => 0 := funext lcs_nil
      rw [e, List.map_const', tls_len]
    rw [this]
  | x :: a, b => by
    have ih := table_is a b
    show rowFor x b ((table a b).headD []) :: table a b = ((tls b).map fun b' => lcs (x :: a) b') :: tab a b
    rw [ih]
    obtain ⟨r, hr⟩ := tls_head a
    have : (tab a b).headD [] = (tls b).map fun b' => lcs a b' := by
      unfold tab
      rw [hr]
      rfl
    rw [this, row_is]
theorem tab_len (a b : Doc) : (tab a b).length = a.length + 1 := by
  unfold tab
  rw [List.length_map, tls_len]
theorem tab_get (a b : Doc) (i : Nat) (h : i ≤ a.length) : (tab a b)[i]? = some ((tls b).map fun b' => lcs (a.drop i) b') := by
  unfold tab
  rw [List.getElem?_map, tls_get a i h]
  rfl
theorem row_get (a b : Doc) (j : Nat) (h : j ≤ b.length) : ((tls b).map fun b' => lcs a b')[j]? = some (lcs a (b.drop j)) := by
  rw [List.getElem?_map, tls_get b j h]
  rfl
/-- the way, by the longest rows in common -/
def wl : Nat → Doc → Doc → List Step
  | 0, _, _ => []
  | f + 1, a, b => match a, b with
    | [], [] => []
    | [], y :: r => .add y :: wl f [] r
    | _ :: r, [] => .drop :: wl f r []
    | x :: r, y :: s => if x = y then .keep :: wl f r s else if lcs (x :: r) s ≤ lcs r (y :: s) then .drop :: wl f r (y :: s) else .add y :: wl f (x :: r) s
theorem tab_tail (x : Line) (a b : Doc) : (tab (x :: a) b).tail = tab a b := rfl
theorem tab_tails (a : Doc) (y : Line) (b : Doc) : (tab a (y :: b)).map List.tail = tab a b := by
  unfold tab
  rw [List.map_map]
  rfl
theorem tab_hd (a b : Doc) : ∃ r, tab a b = ((tls b).map fun b' => lcs a b') :: r := by
  obtain ⟨r, hr⟩ := tls_head a
  exact ⟨_, by unfold tab; rw [hr]; rfl⟩
theorem wayBy_is : ∀ (f : Nat) (a b : Doc), wayBy f a b (tab a b) = wl f a b
  | 0, _, _ => rfl
  | f + 1, [], [] => rfl
  | f + 1, [], y :: r => by
    show Step.add y :: wayBy f [] r ((tab [] (y :: r)).map List.tail) = .add y :: wl f [] r
    rw [tab_tails, wayBy_is f]
  | f + 1, x :: r, [] => by
    show Step.drop :: wayBy f r [] (tab (x :: r) []).tail = .drop :: wl f r []
    rw [tab_tail, wayBy_is f]
  | f + 1, x :: r, y :: s => by
    have e1 : ((tab (x :: r) (y :: s)).headD []).tail.headD 0 = lcs (x :: r) s := by
      obtain ⟨q, hq⟩ := tls_head s
      show ((tls s).map fun b' => lcs (x :: r) b').headD 0 = _
      rw [hq]
      rfl
    have e2 : ((tab (x :: r) (y :: s)).tail.headD []).headD 0 = lcs r (y :: s) := by
      rw [tab_tail]
      obtain ⟨q, hq⟩ := tab_hd r (y :: s)
      rw [hq]
      rfl
    show (if x = y then Step.keep :: wayBy f r s ((tab (x :: r) (y :: s)).tail.map List.tail) else if ((tab (x :: r) (y :: s)).headD []).tail.headD 0 ≤ ((tab (x :: r) (y :: s)).tail.headD []).headD 0 then .drop :: wayBy f r (y :: s) (tab (x :: r) (y :: s)).tail else .add y :: wayBy f (x :: r) s ((tab (x :: r) (y :: s)).map List.tail)) = _
    rw [e1, e2, tab_tail, tab_tails, tab_tails, wayBy_is f, wayBy_is f, wayBy_is f]
    rfl
theorem wl_more : ∀ (f : Nat) (a b : Doc), a.length + b.length ≤ f → wl (f + 1) a b = wl f a b
  | 0, [], [], _ => rfl
  | 0, _ :: _, _, h => by simp at h
  | 0, [], _ :: _, h => by simp at h
  | f + 1, [], [], _ => rfl
  | f + 1, [], y :: r, h => by
    show Step.add y :: wl (f + 1) [] r = Step.add y :: wl f [] r
    rw [wl_more f [] r (by simp at h ⊢; omega)]
  | f + 1, x :: r, [], h => by
    show Step.drop :: wl (f + 1) r [] = Step.drop :: wl f r []
    rw [wl_more f r [] (by simp at h ⊢; omega)]
  | f + 1, x :: r, y :: s, h => by
    simp only [List.length_cons] at h
    show (if x = y then Step.keep :: wl (f + 1) r s else if lcs (x :: r) s ≤ lcs r (y :: s) then .drop :: wl (f + 1) r (y :: s) else .add y :: wl (f + 1) (x :: r) s) = (if x = y then Step.keep :: wl f r s else if lcs (x :: r) s ≤ lcs r (y :: s) then .drop :: wl f r (y :: s) else .add y :: wl f (x :: r) s)
    rw [wl_more f r s (by omega), wl_more f r (y :: s) (by simp only [List.length_cons]; omega), wl_more f (x :: r) s (by simp only [List.length_cons]; omega)]
theorem wl_all (a b : Doc) : ∀ f, a.length + b.length ≤ f → wl f a b = wl (a.length + b.length) a b := by
  intro f h
  induction f with
  | zero =>
    have : a.length + b.length = 0 := by omega
    rw [this]
  | succ f ih =>
    by_cases e : a.length + b.length = f + 1
    · rw [e]
    · rw [wl_more f a b (by omega), ih (by omega)]
theorem way_is (a b : Doc) : way a b = wl (a.length + b.length) a b := by
  unfold way
  rw [table_is, wayBy_is, wl_all a b _ (by omega)]
theorem way_nil : way [] [] = [] := by rw [way_is]; rfl
theorem way_add (y : Line) (r : Doc) : way [] (y :: r) = .add y :: way [] r := by
  rw [way_is, way_is]
  have e : ([] : Doc).length + (y :: r).length = ([] : Doc).length + r.length + 1 := by simp
  rw [e]
  rfl
theorem way_drop (x : Line) (r : Doc) : way (x :: r) [] = .drop :: way r [] := by
  rw [way_is, way_is]
  have e : (x :: r).length + ([] : Doc).length = r.length + ([] : Doc).length + 1 := by simp
  rw [e]
  rfl
theorem way_both (x : Line) (r : Doc) (y : Line) (s : Doc) : way (x :: r) (y :: s) = if x = y then .keep :: way r s else if lcs (x :: r) s ≤ lcs r (y :: s) then .drop :: way r (y :: s) else .add y :: way (x :: r) s := by
  rw [way_is, way_is, way_is, way_is]
  have e : (x :: r).length + (y :: s).length = (r.length + s.length + 1) + 1 := by simp only [List.length_cons]; omega
  rw [e]
  show (if x = y then Step.keep :: wl (r.length + s.length + 1) r s else if lcs (x :: r) s ≤ lcs r (y :: s) then .drop :: wl (r.length + s.length + 1) r (y :: s) else .add y :: wl (r.length + s.length + 1) (x :: r) s) = _
  rw [wl_all r s (r.length + s.length + 1) (by omega)]
  have e2 : r.length + (y :: s).length = r.length + s.length + 1 := by simp only [List.length_cons]; omega
  have e3 : (x :: r).length + s.length = r.length + s.length + 1 := by simp only [List.length_cons]; omega
  rw [e2, e3]
/-- the steps told as numbers -/
def wn (a b : Doc) : List Nat := (way a b).map Step.nums
theorem wn_nil_right : ∀ a : Doc, wn a [] = List.replicate a.length 1
  | [] => by unfold wn; rw [way_nil]; rfl
  | x :: r => by
    have ih := wn_nil_right r
    unfold wn at ih ⊢
    rw [way_drop, List.map_cons, ih]
    rfl
theorem wn_nil_left : ∀ b : Doc, wn [] b = List.replicate b.length 2
  | [] => by unfold wn; rw [way_nil]; rfl
  | y :: r => by
    have ih := wn_nil_left r
    unfold wn at ih ⊢
    rw [way_add, List.map_cons, ih]
    rfl
theorem wn_both (x : Line) (r : Doc) (y : Line) (s : Doc) : wn (x :: r) (y :: s) = if x = y then 0 :: wn r s else if lcs (x :: r) s ≤ lcs r (y :: s) then 1 :: wn r (y :: s) else 2 :: wn (x :: r) s := by
  unfold wn
  rw [way_both]
  by_cases c : x = y
  · rw [if_pos c, if_pos c]; rfl
  · rw [if_neg c, if_neg c]
    by_cases c2 : lcs (x :: r) s ≤ lcs r (y :: s)
    · rw [if_pos c2, if_pos c2]; rfl
    · rw [if_neg c2, if_neg c2]; rfl
/-- what is true of the way by its own recursion -/
theorem way_ind {P : Doc → Doc → List Step → Prop} (h0 : P [] [] []) (ha : ∀ y r w, P [] r w → P [] (y :: r) (.add y :: w)) (hd : ∀ x r w, P r [] w → P (x :: r) [] (.drop :: w))
    (hk : ∀ x r s w, P r s w → P (x :: r) (x :: s) (.keep :: w)) (hd2 : ∀ x r y s w, P r (y :: s) w → P (x :: r) (y :: s) (.drop :: w)) (ha2 : ∀ x r y s w, P (x :: r) s w → P (x :: r) (y :: s) (.add y :: w)) :
    ∀ (n : Nat) (a b : Doc), a.length + b.length ≤ n → P a b (way a b)
  | n, [], [], _ => by rw [way_nil]; exact h0
  | 0, _ :: _, _, h => by simp at h
  | 0, [], _ :: _, h => by simp at h
  | n + 1, [], y :: r, h => by
    rw [way_add]
    exact ha y r _ (way_ind h0 ha hd hk hd2 ha2 n [] r (by simp at h ⊢; omega))
  | n + 1, x :: r, [], h => by
    rw [way_drop]
    exact hd x r _ (way_ind h0 ha hd hk hd2 ha2 n r [] (by simp at h ⊢; omega))
  | n + 1, x :: r, y :: s, h => by
    simp only [List.length_cons] at h
    rw [way_both]
    by_cases c : x = y
    · rw [if_pos c]
      subst c
      exact hk x r s _ (way_ind h0 ha hd hk hd2 ha2 n r s (by omega))
    · rw [if_neg c]
      by_cases c2 : lcs (x :: r) s ≤ lcs r (y :: s)
      · rw [if_pos c2]
        exact hd2 x r y s _ (way_ind h0 ha hd hk hd2 ha2 n r (y :: s) (by simp only [List.length_cons]; omega))
      · rw [if_neg c2]
        exact ha2 x r y s _ (way_ind h0 ha hd hk hd2 ha2 n (x :: r) s (by simp only [List.length_cons]; omega))
theorem way_len (a b : Doc) : (way a b).length ≤ a.length + b.length :=
  way_ind (P := fun a b w => w.length ≤ a.length + b.length) (Nat.le_refl _) (fun y r w h => by simp only [List.length_cons, List.length_nil] at *; omega) (fun x r w h => by simp only [List.length_cons, List.length_nil] at *; omega)
    (fun x r s w h => by simp only [List.length_cons] at *; omega) (fun x r y s w h => by simp only [List.length_cons] at *; omega) (fun x r y s w h => by simp only [List.length_cons] at *; omega) _ a b (Nat.le_refl _)
theorem wn_len (a b : Doc) : (wn a b).length ≤ a.length + b.length := by
  unfold wn
  rw [List.length_map]
  exact way_len a b
/-! ### Kept places -/
def kp : List Nat → Nat → Nat → List (Nat × Nat)
  | [], _, _ => []
  | s :: r, i, j => (if s = 0 then [(i, j)] else []) ++ kp r (if s = 2 then i else i + 1) (if s = 1 then j else j + 1)
def kpl (a b : Doc) : List (Nat × Nat) := kp (wn a b) 0 0
theorem kp_keep (r : List Step) (i j : Nat) : kp ((Step.keep :: r).map Step.nums) i j = (i, j) :: kp (r.map Step.nums) (i + 1) (j + 1) := rfl
theorem kp_drop (r : List Step) (i j : Nat) : kp ((Step.drop :: r).map Step.nums) i j = kp (r.map Step.nums) (i + 1) j := rfl
theorem kp_add (l : Line) (r : List Step) (i j : Nat) : kp ((Step.add l :: r).map Step.nums) i j = kp (r.map Step.nums) i (j + 1) := rfl
theorem kp_len : ∀ (w : List Nat) (i j : Nat), (kp w i j).length ≤ w.length
  | [], _, _ => Nat.le_refl _
  | s :: r, i, j => by
    have ih := kp_len r (if s = 2 then i else i + 1) (if s = 1 then j else j + 1)
    show ((if s = 0 then [(i, j)] else []) ++ kp r _ _).length ≤ r.length + 1
    rw [List.length_append]
    have : (if s = 0 then [(i, j)] else []).length ≤ 1 := by split <;> simp
    omega
theorem kp_count : ∀ (w : List Step) (i j : Nat), (kp (w.map Step.nums) i j).length = kept w
  | [], _, _ => rfl
  | .keep :: r, i, j => by
    rw [kp_keep, List.length_cons, kp_count r]
    rfl
  | .drop :: r, i, j => by
    rw [kp_drop, kp_count r]
    rfl
  | .add l :: r, i, j => by
    rw [kp_add, kp_count r]
    rfl
/-- the places as the program tells them -/
theorem kp_places : ∀ (w : List Step) (i j : Nat), kp (w.map Step.nums) i j = ((placesFrom w j).zipIdx i).filterMap fun x => x.1.map fun t => (x.2, t)
  | [], _, _ => rfl
  | .keep :: r, i, j => by
    rw [kp_keep, kp_places r]
    rfl
  | .drop :: r, i, j => by
    rw [kp_drop, kp_places r]
    rfl
  | .add l :: r, i, j => by
    rw [kp_add, kp_places r]
    rfl
theorem places_len (a b : Doc) : (places a b).length = a.length := by
  unfold places
  have h : ∀ j, (placesFrom (way a b) j).length = a.length :=
    way_ind (P := fun a b w => ∀ j, (placesFrom w j).length = a.length) (fun _ => rfl) (fun y r w h j => h (j + 1)) (fun x r w h j => congrArg (· + 1) (h j)) (fun x r s w h j => congrArg (· + 1) (h (j + 1)))
      (fun x r y s w h j => congrArg (· + 1) (h j)) (fun x r y s w h j => h (j + 1)) _ a b (Nat.le_refl _)
  exact h 0
/-- kept places lie within both -/
theorem kpl_in (a b : Doc) : ∀ p ∈ kpl a b, p.1 < a.length ∧ p.2 < b.length := by
  have h : ∀ i j, ∀ p ∈ kp ((way a b).map Step.nums) i j, (i ≤ p.1 ∧ p.1 < i + a.length) ∧ (j ≤ p.2 ∧ p.2 < j + b.length) :=
    way_ind (P := fun a b w => ∀ i j, ∀ p ∈ kp (w.map Step.nums) i j, (i ≤ p.1 ∧ p.1 < i + a.length) ∧ (j ≤ p.2 ∧ p.2 < j + b.length))
      (fun i j p hp => by cases hp)
      (fun y r w h i j p hp => by
        have := h i (j + 1) p hp
        simp only [List.length_cons, List.length_nil] at *; omega)
      (fun x r w h i j p hp => by
        have := h (i + 1) j p hp
        simp only [List.length_cons, List.length_nil] at *; omega)
      (fun x r s w h i j p hp => by
        rw [kp_keep] at hp
        rcases List.mem_cons.mp hp with e | hp
        · subst e
          simp only [List.length_cons]; omega
        · have := h (i + 1) (j + 1) p hp
          simp only [List.length_cons] at *; omega)
      (fun x r y s w h i j p hp => by
        have := h (i + 1) j p hp
        simp only [List.length_cons] at *; omega)
      (fun x r y s w h i j p hp => by
        have := h i (j + 1) p hp
        simp only [List.length_cons] at *; omega) _ a b (Nat.le_refl _)
  intro p hp
  have := h 0 0 p hp
  omega
theorem kpl_len (a b : Doc) : (kpl a b).length ≤ a.length + b.length := Nat.le_trans (kp_len _ _ _) (wn_len a b)
end TbM

namespace TbM
open Hist
/-! ### Added lines -/
def addedN (w : List Nat) (b : Doc) : Doc := (List.range b.length).filterMap fun j => if (w.filter fun s => decide (s ≠ 1))[j]? = some 2 then b[j]? else none
theorem made_len (a b : Doc) : ((wn a b).filter fun s => decide (s ≠ 1)).length = b.length :=
  way_ind (P := fun a b w => ((w.map Step.nums).filter fun s => decide (s ≠ 1)).length = b.length) rfl (fun y r w h => congrArg (· + 1) h) (fun x r w h => h) (fun x r s w h => congrArg (· + 1) h) (fun x r y s w h => h) (fun x r y s w h => congrArg (· + 1) h) _ a b (Nat.le_refl _)
def addOf : Step → Option Line := fun x => match x with
  | .add l => some l
  | _ => none
theorem range_succ_map {α : Type} (n : Nat) (f : Nat → Option α) : (List.range (n + 1)).filterMap f = (f 0).toList ++ (List.range n).filterMap fun j => f (j + 1) := by
  rw [List.range_succ_eq_map, List.filterMap_cons]
  have : (List.map Nat.succ (List.range n)).filterMap f = (List.range n).filterMap fun j => f (j + 1) := by
    rw [List.filterMap_map]
    rfl
  rw [this]
  cases f 0 <;> rfl
theorem added_is (a b : Doc) : addedN (wn a b) b = (way a b).filterMap addOf :=
  way_ind (P := fun a b w => addedN (w.map Step.nums) b = w.filterMap addOf) rfl
    (fun y r w h => by
      unfold addedN at h ⊢
      rw [List.length_cons, range_succ_map]
      show [y] ++ _ = y :: w.filterMap addOf
      rw [← h]
      rfl)
    (fun x r w h => h)
    (fun x r s w h => by
      unfold addedN at h ⊢
      rw [List.length_cons, range_succ_map]
      show [] ++ _ = w.filterMap addOf
      rw [← h]
      rfl)
    (fun x r y s w h => h)
    (fun x r y s w h => by
      unfold addedN at h ⊢
      rw [List.length_cons, range_succ_map]
      show [y] ++ _ = y :: w.filterMap addOf
      rw [← h]
      rfl) _ a b (Nat.le_refl _)
/-! ### Lines that stand fast -/
/-- what a dict holds that was filled pair by pair -/
def look (l : List (Nat × Nat)) (k : Nat) : Option Nat := l.foldl (fun o p => if k = p.1 then some p.2 else o) none
theorem look_from : ∀ (w : List Step) (i j k : Nat) (o : Option Nat), (kp (w.map Step.nums) i j).foldl (fun o p => if k = p.1 then some p.2 else o) o = if i ≤ k then (match ((placesFrom w j)[k - i]?).join with | some t => some t | none => o) else o
  | [], i, j, k, o => by
    show o = if i ≤ k then (match ((placesFrom [] j)[k - i]?).join with | some t => some t | none => o) else o
    have : ((placesFrom [] j)[k - i]?).join = none := by unfold placesFrom; simp
    rw [this]
    split <;> rfl
  | .keep :: r, i, j, k, o => by
    rw [kp_keep, List.foldl_cons]
    by_cases e : k = i
    · have e1 : (if k = ((i, j) : Nat × Nat).1 then some ((i, j) : Nat × Nat).2 else o) = some j := if_pos e
      rw [e1, look_from r]
      subst e
      rw [if_neg (by omega), if_pos (Nat.le_refl _), Nat.sub_self]
      rfl
    · have e1 : (if k = ((i, j) : Nat × Nat).1 then some ((i, j) : Nat × Nat).2 else o) = o := if_neg e
      rw [e1, look_from r]
      by_cases hl : i + 1 ≤ k
      · rw [if_pos hl, if_pos (show i ≤ k by omega)]
        have : k - i = (k - (i + 1)) + 1 := by omega
        rw [this]
        rfl
      · rw [if_neg hl, if_neg (by omega)]
  | .drop :: r, i, j, k, o => by
    rw [kp_drop, look_from r]
    by_cases e : k = i
    · subst e
      simp only [Nat.sub_self, Nat.le_refl, if_true]
      rw [if_neg (by omega)]
      rfl
    · by_cases hl : i + 1 ≤ k
      · rw [if_pos hl, if_pos (by omega)]
        have : k - i = (k - (i + 1)) + 1 := by omega
        rw [this]
        rfl
      · rw [if_neg hl, if_neg (by omega)]
  | .add l :: r, i, j, k, o => by
    rw [kp_add, look_from r]
    rfl
theorem look_is (a b : Doc) (k : Nat) : look (kpl a b) k = ((places a b)[k]?).join := by
  unfold look kpl wn
  rw [look_from]
  simp only [Nat.zero_le, if_true, Nat.sub_zero]
  show (match ((places a b)[k]?).join with | some t => some t | none => none) = _
  cases ((places a b)[k]?).join <;> rfl
def fast2 (l : List (Nat × Nat)) (g : Nat → Option Nat) : List (Nat × Nat × Nat) := l.filterMap fun p => (g p.1).map fun t => (p.1, p.2, t)
theorem fast_from (g : Nat → Option Nat) : ∀ (p q : List (Option Nat)) (i : Nat), p.length = q.length → (∀ t, g (i + t) = (q[t]?).join) →
    fast2 ((p.zipIdx i).filterMap fun x => x.1.map fun t => (x.2, t)) g = ((p.zip q).zipIdx i).filterMap fun (x : (Option Nat × Option Nat) × Nat) => match x.1 with
      | (some i, some j) => some (x.2, i, j)
      | _ => none
  | [], [], i, _, _ => rfl
  | [], _ :: _, i, h, _ => by simp at h
  | _ :: _, [], i, h, _ => by simp at h
  | x :: p, y :: q, i, h, hg => by
    have ih := fast_from g p q (i + 1) (by simpa using h) fun t => by
      have := hg (t + 1)
      rw [show i + 1 + t = i + (t + 1) by omega, this]
      rfl
    have g0 : g i = y := by
      have := hg 0
      simpa using this
    rw [List.zip_cons_cons, List.zipIdx_cons, List.zipIdx_cons, List.filterMap_cons, List.filterMap_cons]
    cases x with
    | none =>
      simp only [Option.map_none]
      exact ih
    | some a =>
      simp only [Option.map_some]
      unfold fast2
      rw [List.filterMap_cons]
      cases y with
      | none =>
        simp only [g0, Option.map_none]
        exact ih
      | some b =>
        simp only [g0, Option.map_some]
        exact congrArg _ ih
theorem fast_is (o a b : Doc) : fast2 (kpl o a) (look (kpl o b)) = fast o a b := by
  unfold kpl wn
  rw [kp_places]
  have := fast_from (look (kpl o b)) (places o a) (places o b) 0 (by rw [places_len, places_len]) fun t => by
    rw [Nat.zero_add, look_is]
  exact this
/-- from a place on, upward, within the documents -/
def Asc (lo la lb : Nat) : Nat → List (Nat × Nat × Nat) → Prop
  | _, [] => True
  | s, t :: r => s ≤ t.1 ∧ t.1 < lo ∧ t.2.1 < la ∧ t.2.2 < lb ∧ Asc lo la lb (t.1 + 1) r
theorem kp_asc {la : Nat} : ∀ (w : List Nat) (i j : Nat), (kp w i j).Pairwise (fun p q => p.1 < q.1) ∧ ∀ p ∈ kp w i j, i ≤ p.1
  | [], _, _ => ⟨List.Pairwise.nil, fun p hp => by cases hp⟩
  | s :: r, i, j => by
    have ih := kp_asc (la := la) r (if s = 2 then i else i + 1) (if s = 1 then j else j + 1)
    show (((if s = 0 then [(i, j)] else []) ++ kp r (if s = 2 then i else i + 1) (if s = 1 then j else j + 1)).Pairwise (fun p q => p.1 < q.1)) ∧ ∀ p ∈ ((if s = 0 then [(i, j)] else []) ++ kp r (if s = 2 then i else i + 1) (if s = 1 then j else j + 1)), i ≤ p.1
    by_cases c : s = 0
    · subst c
      simp only [if_true]
      refine ⟨List.Pairwise.cons (fun q hq => ?_) ih.1, fun p hp => ?_⟩
      · have := ih.2 q hq
        simp only [show ¬ (0 : Nat) = 2 by decide, if_false] at this
        show i < q.1
        omega
      · rcases List.mem_cons.mp hp with e | hp
        · rw [e]; exact Nat.le_refl _
        · have := ih.2 p hp
          simp only [show ¬ (0 : Nat) = 2 by decide, if_false] at this
          omega
    · rw [if_neg c, List.nil_append]
      refine ⟨ih.1, fun p hp => ?_⟩
      have := ih.2 p hp
      split at this <;> omega
theorem asc_of {lo la lb : Nat} {g : Nat → Option Nat} : ∀ (l : List (Nat × Nat)) (s : Nat), l.Pairwise (fun p q => p.1 < q.1) → (∀ p ∈ l, s ≤ p.1 ∧ p.1 < lo ∧ p.2 < la) → (∀ k t, g k = some t → t < lb) → Asc lo la lb s (fast2 l g)
  | [], _, _, _, _ => trivial
  | p :: l, s, hp, hb, hg => by
    obtain ⟨h1, h2⟩ := List.pairwise_cons.mp hp
    unfold fast2
    rw [List.filterMap_cons]
    obtain ⟨b1, b2, b3⟩ := hb p (List.mem_cons_self ..)
    cases e : g p.1 with
    | none =>
      simp only [Option.map_none]
      exact asc_of l s h2 (fun q hq => hb q (List.mem_cons_of_mem _ hq)) hg
    | some t =>
      simp only [Option.map_some]
      refine ⟨b1, b2, b3, hg _ _ e, ?_⟩
      exact asc_of l (p.1 + 1) h2 (fun q hq => ⟨h1 q hq, (hb q (List.mem_cons_of_mem _ hq)).2⟩) hg
theorem look_mem (l : List (Nat × Nat)) (k : Nat) : ∀ (o : Option Nat) (t : Nat), l.foldl (fun o p => if k = p.1 then some p.2 else o) o = some t → o = some t ∨ (k, t) ∈ l := by
  induction l with
  | nil => intro o t h; exact .inl h
  | cons p l ih =>
    intro o t h
    rw [List.foldl_cons] at h
    rcases ih _ t h with q | q
    · by_cases c : k = p.1
      · rw [if_pos c] at q
        have : t = p.2 := (Option.some.inj q).symm
        right
        rw [this, c]
        exact List.mem_cons_self ..
      · rw [if_neg c] at q
        exact .inl q
    · exact .inr (List.mem_cons_of_mem _ q)
theorem fast_asc (o a b : Doc) : Asc o.length a.length b.length 0 (fast o a b) := by
  rw [← fast_is]
  refine asc_of _ 0 (kp_asc (la := 0) _ _ _).1 (fun p hp => ?_) (fun k t h => ?_)
  · have := kpl_in o a p hp
    omega
  · rcases look_mem _ k none t h with q | q
    · cases q
    · exact (kpl_in o b _ q).2
theorem asc_mem {lo la lb : Nat} : ∀ {l : List (Nat × Nat × Nat)} {s : Nat}, Asc lo la lb s l → ∀ t ∈ l, t.1 < lo ∧ t.2.1 < la ∧ t.2.2 < lb
  | [], _, _, t, ht => by cases ht
  | x :: l, s, h, t, ht => by
    obtain ⟨h1, h2, h3, h4, h5⟩ := h
    rcases List.mem_cons.mp ht with e | ht
    · rw [e]; exact ⟨h2, h3, h4⟩
    · exact asc_mem h5 t ht
theorem fast_len (o a b : Doc) : (fast o a b).length ≤ o.length + a.length := by
  rw [← fast_is]
  unfold fast2
  exact Nat.le_trans (List.length_filterMap_le ..) (kpl_len o a)
/-! ### Merged -/
abbrev T3 := Nat × Nat × Nat
def partOf (s t : T3) : Part := ⟨s.1, t.1 - s.1, s.2.1, t.2.1 - s.2.1, s.2.2, t.2.2 - s.2.2⟩
def nx3 (t : T3) : T3 := (t.1 + 1, t.2.1 + 1, t.2.2 + 1)
def ms (o a b : Doc) : List T3 → T3 → List Nat → Doc → List Nat × Doc
  | [], _, c, d => (c, d)
  | t :: r, s, c, d => match settle o a b (partOf s t) with
    | none => ms o a b r (nx3 t) (c ++ (partOf s t).nums) d
    | some x => ms o a b r (nx3 t) c (d ++ (x ++ cut o t.1 1))
theorem ms_none {o a b : Doc} {t : T3} {r : List T3} {s : T3} {c : List Nat} {d : Doc} (h : settle o a b (partOf s t) = none) : ms o a b (t :: r) s c d = ms o a b r (nx3 t) (c ++ (partOf s t).nums) d := by
  show (match settle o a b (partOf s t) with | none => ms o a b r (nx3 t) (c ++ (partOf s t).nums) d | some x => ms o a b r (nx3 t) c (d ++ (x ++ cut o t.1 1))) = _
  rw [h]
theorem ms_some {o a b : Doc} {t : T3} {r : List T3} {s : T3} {c : List Nat} {d x : Doc} (h : settle o a b (partOf s t) = some x) : ms o a b (t :: r) s c d = ms o a b r (nx3 t) c (d ++ (x ++ cut o t.1 1)) := by
  show (match settle o a b (partOf s t) with | none => ms o a b r (nx3 t) (c ++ (partOf s t).nums) d | some x => ms o a b r (nx3 t) c (d ++ (x ++ cut o t.1 1))) = _
  rw [h]
def ends (o a b : Doc) : T3 := (o.length, a.length, b.length)
def pf (o a b : Doc) (s : T3) (S : List T3) : List Part := partsFrom s.1 s.2.1 s.2.2 S o.length a.length b.length
theorem pf_nil (o a b : Doc) (s : T3) : pf o a b s [] = [partOf s (ends o a b)] := rfl
theorem pf_cons (o a b : Doc) (s t : T3) (S : List T3) : pf o a b s (t :: S) = partOf s t :: pf o a b (nx3 t) S := rfl
theorem pf_ne (o a b : Doc) (s : T3) (S : List T3) : ∃ q r, pf o a b s S = q :: r := by
  cases S with
  | nil => exact ⟨_, _, pf_nil o a b s⟩
  | cons t S => exact ⟨_, _, pf_cons o a b s t S⟩
theorem ms_clash (o a b : Doc) : ∀ (S : List T3) (s : T3) (c : List Nat) (d : Doc), (ms o a b (S ++ [ends o a b]) s c d).1 = c ++ ((pf o a b s S).filter fun (p : Part) => (settle o a b p).isNone).flatMap Part.nums
  | [], s, c, d => by
    rw [List.nil_append, pf_nil, List.filter_cons, List.filter_nil]
    cases e : settle o a b (partOf s (ends o a b)) with
    | none =>
      rw [ms_none e]
      show c ++ _ = c ++ ([partOf s (ends o a b)]).flatMap Part.nums
      simp [List.flatMap_cons]
    | some x =>
      rw [ms_some e]
      show c = c ++ []
      rw [List.append_nil]
  | t :: S, s, c, d => by
    rw [List.cons_append, pf_cons, List.filter_cons]
    cases e : settle o a b (partOf s t) with
    | none =>
      rw [ms_none e, ms_clash o a b S]
      simp [List.flatMap_cons]
    | some x =>
      rw [ms_some e, ms_clash o a b S]
      simp
theorem cut_end (o : Doc) : cut o o.length 1 = [] := by
  unfold cut
  rw [List.drop_length]
  rfl
theorem ms_doc (o a b : Doc) : ∀ (S : List T3) (s : T3) (c : List Nat) (d y : Doc), Asc o.length a.length b.length s.1 S → settled o a b (pf o a b s S) = some y → (ms o a b (S ++ [ends o a b]) s c d).2 = d ++ y
  | [], s, c, d, y, _, h => by
    rw [pf_nil] at h
    have h : settle o a b (partOf s (ends o a b)) = some y := h
    rw [List.nil_append, ms_some h]
    show d ++ (y ++ cut o o.length 1) = d ++ y
    rw [cut_end, List.append_nil]
  | t :: S, s, c, d, y, hs, h => by
    obtain ⟨h1, h2, h3, h4, h5⟩ := hs
    rw [pf_cons] at h
    obtain ⟨q, r, hq⟩ := pf_ne o a b (nx3 t) S
    rw [hq] at h
    have h : ((settle o a b (partOf s t)).bind fun (x : Doc) => (settled o a b (q :: r)).map fun (y : Doc) => x ++ (cut o ((partOf s t).o + (partOf s t).on) 1 ++ y)) = some y := h
    cases e : settle o a b (partOf s t) with
    | none => rw [e] at h; cases h
    | some x =>
      rw [e] at h
      cases e2 : settled o a b (q :: r) with
      | none => rw [e2] at h; cases h
      | some z =>
        rw [e2] at h
        have hy : x ++ (cut o ((partOf s t).o + (partOf s t).on) 1 ++ z) = y := Option.some.inj h
        rw [← hq] at e2
        rw [List.cons_append, ms_some e, ms_doc o a b S (nx3 t) c _ z h5 e2, ← hy]
        have : (partOf s t).o + (partOf s t).on = t.1 := by
          show s.1 + (t.1 - s.1) = t.1
          omega
        rw [this, List.append_assoc, List.append_assoc]
theorem settled_none (o a b : Doc) : ∀ (S : List T3) (s : T3), settled o a b (pf o a b s S) = none ↔ ((pf o a b s S).filter fun (p : Part) => (settle o a b p).isNone) ≠ []
  | [], s => by
    rw [pf_nil, List.filter_cons, List.filter_nil]
    show settle o a b (partOf s (ends o a b)) = none ↔ _
    cases e : settle o a b (partOf s (ends o a b)) <;> simp
  | t :: S, s => by
    have ih := settled_none o a b S (nx3 t)
    rw [pf_cons, List.filter_cons]
    obtain ⟨q, r, hq⟩ := pf_ne o a b (nx3 t) S
    rw [hq] at ih ⊢
    show ((settle o a b (partOf s t)).bind fun (x : Doc) => (settled o a b (q :: r)).map fun (y : Doc) => x ++ (cut o ((partOf s t).o + (partOf s t).on) 1 ++ y)) = none ↔ _
    cases e : settle o a b (partOf s t) with
    | none => simp
    | some x =>
      simp only [Option.bind_some, Option.map_eq_none_iff, Option.isNone_some]
      rw [ih]
      simp
def run (o a b : Doc) : List Nat × Doc := ms o a b (fast o a b ++ [ends o a b]) (0, 0, 0) [] []
theorem nums_ne (p : Part) : p.nums ≠ [] := by intro h; cases h
/-- what merging comes to -/
theorem merge_run (o a b : Doc) : ((run o a b).1 = [] ∧ merge o a b = .ok (run o a b).2) ∨ ((run o a b).1 ≠ [] ∧ ∃ l, merge o a b = .error l ∧ l.flatMap Part.nums = (run o a b).1) := by
  have hc := ms_clash o a b (fast o a b) (0, 0, 0) [] []
  have hp : pf o a b (0, 0, 0) (fast o a b) = parts o a b := rfl
  have hn := settled_none o a b (fast o a b) (0, 0, 0)
  rw [hp] at hc hn
  rw [List.nil_append] at hc
  cases e : settled o a b (parts o a b) with
  | some y =>
    left
    have hy := ms_doc o a b (fast o a b) (0, 0, 0) [] [] y (fast_asc o a b) (by rw [hp]; exact e)
    rw [List.nil_append] at hy
    have hf : (parts o a b).filter (fun (p : Part) => (settle o a b p).isNone) = [] := by
      apply Classical.byContradiction
      intro k
      have := hn.mpr k
      rw [e] at this
      cases this
    refine ⟨?_, ?_⟩
    · show (ms o a b (fast o a b ++ [ends o a b]) (0, 0, 0) [] []).1 = []
      rw [hc, hf]
      rfl
    · unfold merge
      rw [e]
      show Except.ok y = .ok (ms o a b (fast o a b ++ [ends o a b]) (0, 0, 0) [] []).2
      rw [hy]
  | none =>
    right
    have hf := hn.mp e
    refine ⟨?_, (parts o a b).filter (fun (p : Part) => (settle o a b p).isNone), ?_, ?_⟩
    · show (ms o a b (fast o a b ++ [ends o a b]) (0, 0, 0) [] []).1 ≠ []
      rw [hc]
      cases q : (parts o a b).filter (fun (p : Part) => (settle o a b p).isNone) with
      | nil => exact absurd q hf
      | cons p l =>
        rw [List.flatMap_cons]
        intro z
        exact nums_ne p (List.append_eq_nil_iff.mp z).1
    · unfold merge
      rw [e]
    · exact hc.symm
end TbM

namespace TbM
open Hist
/-! ### Where lines came in -/
theorem places_ge : ∀ (w : List Step) (j : Nat) (t : Nat), some t ∈ placesFrom w j → j ≤ t
  | [], j, t, h => by cases h
  | .keep :: r, j, t, h => by
    rcases List.mem_cons.mp (show some t ∈ some j :: placesFrom r (j + 1) from h) with e | h
    · have : t = j := Option.some.inj e
      omega
    · have := places_ge r (j + 1) t h
      omega
  | .drop :: r, j, t, h => by
    rcases List.mem_cons.mp (show some t ∈ none :: placesFrom r j from h) with e | h
    · cases e
    · exact places_ge r j t h
  | .add l :: r, j, t, h => by
    have := places_ge r (j + 1) t h
    omega
def sets (g : Nat → Nat) (l : List (Nat × Nat)) (f : List Nat) : List Nat := l.foldl (fun f p => f.set p.2 (g p.1)) f
theorem sets_len (g : Nat → Nat) : ∀ (l : List (Nat × Nat)) (f : List Nat), (sets g l f).length = f.length
  | [], f => rfl
  | p :: l, f => by
    show (sets g l (f.set p.2 (g p.1))).length = _
    rw [sets_len g l, List.length_set]
theorem sets_from (g : Nat → Nat) (t : Nat) : ∀ (w : List Step) (i j : Nat) (f : List Nat), t < f.length →
    (sets g (kp (w.map Step.nums) i j) f)[t]? = match (placesFrom w j).findIdx? (fun o => o == some t) with
      | some k => some (g (i + k))
      | none => f[t]?
  | [], i, j, f, h => rfl
  | .keep :: r, i, j, f, h => by
    rw [kp_keep]
    show (sets g (kp (r.map Step.nums) (i + 1) (j + 1)) (f.set j (g i)))[t]? = match (some j :: placesFrom r (j + 1)).findIdx? (fun o => o == some t) with
      | some k => some (g (i + k))
      | none => f[t]?
    rw [sets_from g t r (i + 1) (j + 1) (f.set j (g i)) (by rw [List.length_set]; exact h), List.findIdx?_cons]
    by_cases e : j = t
    · subst e
      have hn : (placesFrom r (j + 1)).findIdx? (fun o => o == some j) = none := by
        rw [List.findIdx?_eq_none_iff]
        intro x hx
        apply Bool.eq_false_iff.mpr
        intro q
        have q : x = some j := by simpa using q
        rw [q] at hx
        have := places_ge r (j + 1) j hx
        omega
      rw [hn]
      simp [h]
    · have hb : ((some j : Option Nat) == some t) = false := by simp [e]
      rw [hb]
      simp only [Bool.false_eq_true, if_false]
      cases hq : (placesFrom r (j + 1)).findIdx? (fun o => o == some t) with
      | none => simp [List.getElem?_set_ne e]
      | some k =>
        simp only [Option.map_some]
        rw [show i + 1 + k = i + (k + 1) by omega]
  | .drop :: r, i, j, f, h => by
    rw [kp_drop]
    show (sets g (kp (r.map Step.nums) (i + 1) j) f)[t]? = match (none :: placesFrom r j).findIdx? (fun o => o == some t) with
      | some k => some (g (i + k))
      | none => f[t]?
    rw [sets_from g t r (i + 1) j f h, List.findIdx?_cons]
    have hb : ((none : Option Nat) == some t) = false := rfl
    rw [hb]
    simp only [Bool.false_eq_true, if_false]
    cases hq : (placesFrom r j).findIdx? (fun o => o == some t) with
    | none => simp
    | some k =>
      simp only [Option.map_some]
      rw [show i + 1 + k = i + (k + 1) by omega]
  | .add l :: r, i, j, f, h => by
    rw [kp_add]
    show (sets g (kp (r.map Step.nums) i (j + 1)) f)[t]? = match (placesFrom r (j + 1)).findIdx? (fun o => o == some t) with
      | some k => some (g (i + k))
      | none => f[t]?
    exact sets_from g t r i (j + 1) f h
/-- the program's way: from the last parent to the first -/
def orig (D : Nat → Doc) (kn : Nat → List Nat) (v : Nat) (d : Doc) : List Nat → List Nat
  | [] => List.replicate d.length v
  | p :: ps => sets (fun i => (kn p).getD i v) (kpl (D p) d) (orig D kn v d ps)
theorem orig_len (D : Nat → Doc) (kn : Nat → List Nat) (v : Nat) (d : Doc) : ∀ ps, (orig D kn v d ps).length = d.length
  | [] => List.length_replicate ..
  | p :: ps => by
    show (sets _ _ _).length = _
    rw [sets_len, orig_len D kn v d ps]
theorem orig_get (D : Nat → Doc) (kn : Nat → List Nat) (v : Nat) (d : Doc) (t : Nat) (h : t < d.length) : ∀ ps, (orig D kn v d ps)[t]? = some (((ps.map fun p => (places (D p) d, kn p)).findSome? fun (x : List (Option Nat) × List Nat) => (x.1.findIdx? fun (o : Option Nat) => o == some t).map fun (j : Nat) => x.2.getD j v).getD v)
  | [] => by
    show (List.replicate d.length v)[t]? = some v
    rw [List.getElem?_replicate, if_pos h]
  | p :: ps => by
    have ih := orig_get D kn v d t h ps
    show (sets (fun i => (kn p).getD i v) (kp ((way (D p) d).map Step.nums) 0 0) (orig D kn v d ps))[t]? = _
    rw [sets_from _ t _ 0 0 _ (by rw [orig_len]; exact h), List.map_cons, List.findSome?_cons]
    show (match (places (D p) d).findIdx? (fun o => o == some t) with
      | some k => some ((kn p).getD (0 + k) v)
      | none => (orig D kn v d ps)[t]?) = _
    cases e : (places (D p) d).findIdx? (fun o => o == some t) with
    | none =>
      simp only [Option.map_none]
      exact ih
    | some k => simp
theorem orig_is (h : Book) (known : List (List Nat)) (v : Nat) : originsOf h known v = orig (docOf h) (fun p => known.getD p []) v (docOf h v) (parentsOf h v) := by
  apply List.ext_getElem?
  intro t
  unfold originsOf
  simp only [List.getElem?_map]
  by_cases ht : t < (docOf h v).length
  · rw [orig_get _ _ _ _ t ht]
    rw [List.getElem?_range ht]
    rfl
  · rw [List.getElem?_eq_none (by rw [List.length_range]; omega), List.getElem?_eq_none (by rw [orig_len]; omega)]
    rfl
theorem originsOf_len (h : Book) (known : List (List Nat)) (v : Nat) : (originsOf h known v).length = (docOf h v).length := by
  rw [orig_is, orig_len]
/-! ### Books -/
theorem docOf_old {h : Book} {x : Version} {v : Nat} (hv : v < h.length) : docOf (h ++ [x]) v = docOf h v := by
  unfold docOf
  rw [List.getElem?_append_left hv]
theorem parentsOf_old {h : Book} {x : Version} {v : Nat} (hv : v < h.length) : parentsOf (h ++ [x]) v = parentsOf h v := by
  unfold parentsOf
  rw [List.getElem?_append_left hv]
theorem docOf_new (h : Book) (x : Version) : docOf (h ++ [x]) h.length = x.doc := by
  unfold docOf
  rw [List.getElem?_append_right (Nat.le_refl _), Nat.sub_self]
  rfl
theorem parentsOf_new (h : Book) (x : Version) : parentsOf (h ++ [x]) h.length = x.parents := by
  unfold parentsOf
  rw [List.getElem?_append_right (Nat.le_refl _), Nat.sub_self]
  rfl
theorem docs_get (h : Book) {v : Nat} (hv : v < h.length) : (h.map (·.doc))[v]? = some (docOf h v) := by
  unfold docOf
  rw [List.getElem?_map, List.getElem?_eq_getElem hv]
  rfl
theorem pars_get (h : Book) {v : Nat} (hv : v < h.length) : (h.map (·.parents))[v]? = some (parentsOf h v) := by
  unfold parentsOf
  rw [List.getElem?_map, List.getElem?_eq_getElem hv]
  rfl
/-- parents are lower, at most two -/
def Low (h : Book) : Prop := ∀ v, v < h.length → ∀ p ∈ parentsOf h v, p < v
theorem originsOf_old {h : Book} {x : Version} {known : List (List Nat)} {v : Nat} (hl : Low h) (hv : v < h.length) : originsOf (h ++ [x]) known v = originsOf h known v := by
  unfold originsOf
  rw [docOf_old hv, parentsOf_old hv]
  have e : (parentsOf h v).map (fun (p : Nat) => (places (docOf (h ++ [x]) p) (docOf h v), known.getD p [])) = (parentsOf h v).map fun (p : Nat) => (places (docOf h p) (docOf h v), known.getD p []) := by
    apply List.map_congr_left
    intro p hp
    rw [docOf_old (Nat.lt_trans (hl v hv p hp) hv)]
  dsimp only
  rw [e]
def orgTo (h : Book) (n : Nat) : List (List Nat) := (List.range n).foldl (fun (k : List (List Nat)) (v : Nat) => k ++ [originsOf h k v]) []
theorem orgTo_succ (h : Book) (n : Nat) : orgTo h (n + 1) = orgTo h n ++ [originsOf h (orgTo h n) n] := by
  unfold orgTo
  rw [List.range_succ, List.foldl_append]
  rfl
theorem orgTo_len (h : Book) : ∀ n, (orgTo h n).length = n
  | 0 => rfl
  | n + 1 => by rw [orgTo_succ, List.length_append, orgTo_len h n]; rfl
theorem orgTo_old {h : Book} {x : Version} (hl : Low h) : ∀ n, n ≤ h.length → orgTo (h ++ [x]) n = orgTo h n
  | 0, _ => rfl
  | n + 1, hn => by rw [orgTo_succ, orgTo_succ, orgTo_old hl n (by omega), originsOf_old hl (by omega)]
theorem origins_len (h : Book) : (origins h).length = h.length := orgTo_len h h.length
theorem origins_grow {h : Book} {x : Version} (hl : Low h) : origins (h ++ [x]) = origins h ++ [originsOf (h ++ [x]) (origins h) h.length] := by
  show orgTo (h ++ [x]) (h ++ [x]).length = orgTo h h.length ++ [originsOf (h ++ [x]) (orgTo h h.length) h.length]
  rw [List.length_append]
  show orgTo (h ++ [x]) (h.length + 1) = _
  rw [orgTo_succ, orgTo_old hl _ (Nat.le_refl _)]
theorem orgTo_row (h : Book) : ∀ n v, v < n → ((orgTo h n).getD v []).length = (docOf h v).length
  | 0, v, hv => by omega
  | n + 1, v, hv => by
    rw [orgTo_succ]
    by_cases e : v < n
    · have : (orgTo h n ++ [originsOf h (orgTo h n) n]).getD v [] = (orgTo h n).getD v [] := by
        rw [List.getD_eq_getElem?_getD, List.getElem?_append_left (by rw [orgTo_len]; exact e), ← List.getD_eq_getElem?_getD]
      rw [this, orgTo_row h n v e]
    · have e : v = n := by omega
      subst e
      have : (orgTo h v ++ [originsOf h (orgTo h v) v]).getD v [] = originsOf h (orgTo h v) v := by
        rw [List.getD_eq_getElem?_getD, List.getElem?_append_right (by rw [orgTo_len]; exact Nat.le_refl _), orgTo_len, Nat.sub_self]
        rfl
      rw [this, originsOf_len]
theorem origins_row (h : Book) {v : Nat} (hv : v < h.length) : ((origins h).getD v []).length = (docOf h v).length := orgTo_row h h.length v hv
/-! ### Forebears -/
inductive Reach (h : Book) : Nat → Nat → Prop
  | refl (v : Nat) : Reach h v v
  | step {v p x : Nat} : p ∈ parentsOf h v → Reach h p x → Reach h v x
theorem Reach.trans {h : Book} {a b c : Nat} (r : Reach h a b) (s : Reach h b c) : Reach h a c := by
  induction r with
  | refl => exact s
  | step hp _ ih => exact .step hp (ih s)
theorem Reach.le {h : Book} (hl : Low h) {v x : Nat} (r : Reach h v x) (hv : v < h.length) : x ≤ v := by
  induction r with
  | refl => exact Nat.le_refl _
  | step hp _ ih =>
    have := hl _ hv _ hp
    have := ih (by omega)
    omega
/-- the last step of a way of more than none -/
theorem Reach.last {h : Book} {v x : Nat} (r : Reach h v x) (hn : v ≠ x) : ∃ z, Reach h v z ∧ x ∈ parentsOf h z := by
  induction r with
  | refl => exact absurd rfl hn
  | @step v p x hp hr ih =>
    by_cases e : p = x
    · subst e
      exact ⟨v, .refl v, hp⟩
    · obtain ⟨z, h1, h2⟩ := ih e
      exact ⟨z, .step hp h1, h2⟩
theorem reach_mem (h : Book) (hl : Low h) : ∀ (k : Nat) (want : List Nat) (x : Nat), k ≤ h.length → (x ∈ reachFrom h k want ↔ x < k ∧ ∃ w ∈ want, w < k ∧ Reach h w x)
  | 0, want, x, _ => by
    unfold reachFrom
    constructor
    · intro h; cases h
    · intro h; omega
  | k + 1, want, x, hk => by
    show x ∈ (if want.contains k = true then k :: reachFrom h k (parentsOf h k ++ want) else reachFrom h k want) ↔ _
    by_cases c : want.contains k = true
    · rw [if_pos c]
      have hkw : k ∈ want := by simpa using c
      rw [List.mem_cons, reach_mem h hl k _ x (by omega)]
      constructor
      · rintro (e | ⟨h1, w, hw, h2, h3⟩)
        · subst e
          exact ⟨Nat.lt_succ_self _, x, hkw, Nat.lt_succ_self _, .refl x⟩
        · refine ⟨by omega, ?_⟩
          rcases List.mem_append.mp hw with hw | hw
          · exact ⟨k, hkw, Nat.lt_succ_self _, .step hw h3⟩
          · exact ⟨w, hw, by omega, h3⟩
      · rintro ⟨h1, w, hw, h2, h3⟩
        by_cases e : x = k
        · exact .inl e
        · right
          refine ⟨by omega, ?_⟩
          by_cases ew : w = k
          · subst ew
            cases h3 with
            | refl => exact absurd rfl e
            | @step _ p _ hp hr =>
              exact ⟨p, List.mem_append.mpr (.inl hp), hl w (by omega) p hp, hr⟩
          · exact ⟨w, List.mem_append.mpr (.inr hw), by omega, h3⟩
    · rw [if_neg c]
      have hkw : k ∉ want := by simpa using c
      rw [reach_mem h hl k _ x (by omega)]
      constructor
      · rintro ⟨h1, w, hw, h2, h3⟩
        exact ⟨by omega, w, hw, by omega, h3⟩
      · rintro ⟨h1, w, hw, h2, h3⟩
        have ew : w ≠ k := fun e => hkw (e ▸ hw)
        have := Reach.le hl h3 (by omega)
        exact ⟨by omega, w, hw, by omega, h3⟩
theorem fore_mem {h : Book} (hl : Low h) {v x : Nat} (hv : v < h.length) : x ∈ forebears h v ↔ Reach h v x := by
  unfold forebears
  rw [reach_mem h hl h.length [v] x (Nat.le_refl _)]
  constructor
  · rintro ⟨_, w, hw, _, h3⟩
    have : w = v := by simpa using hw
    rw [← this]
    exact h3
  · intro r
    have := Reach.le hl r hv
    exact ⟨by omega, v, by simp, hv, r⟩
theorem isFore {h : Book} (hl : Low h) {u v : Nat} (hv : v < h.length) : isForebear h u v = true ↔ Reach h v u := by
  unfold isForebear
  rw [List.contains_iff_mem, fore_mem hl hv]
/-- from the version itself on down -/
theorem fore_from (h : Book) (v : Nat) : ∀ k, v < k → reachFrom h k [v] = reachFrom h (v + 1) [v]
  | 0, hk => by omega
  | k + 1, hk => by
    by_cases e : v = k
    · subst e; rfl
    · show (if ([v] : List Nat).contains k = true then k :: reachFrom h k (parentsOf h k ++ [v]) else reachFrom h k [v]) = _
      have : ¬ ([v] : List Nat).contains k = true := by simp; omega
      rw [if_neg this, fore_from h v k (by omega)]
theorem fore_is {h : Book} {v : Nat} (hv : v < h.length) : forebears h v = reachFrom h (v + 1) [v] := fore_from h v _ hv
/-- only what is wanted counts, not how often -/
theorem reach_same (h : Book) : ∀ (k : Nat) (w w' : List Nat), (∀ x, x ∈ w ↔ x ∈ w') → reachFrom h k w = reachFrom h k w'
  | 0, _, _, _ => rfl
  | k + 1, w, w', e => by
    show (if w.contains k = true then k :: reachFrom h k (parentsOf h k ++ w) else reachFrom h k w) = (if w'.contains k = true then k :: reachFrom h k (parentsOf h k ++ w') else reachFrom h k w')
    have e1 : w.contains k = w'.contains k := by
      rw [Bool.eq_iff_iff, List.contains_iff_mem, List.contains_iff_mem]
      exact e k
    rw [e1, reach_same h k w w' e, reach_same h k (parentsOf h k ++ w) (parentsOf h k ++ w') fun x => by rw [List.mem_append, List.mem_append, e x]]
theorem reach_len (h : Book) : ∀ (k : Nat) (w : List Nat), (reachFrom h k w).length ≤ k
  | 0, _ => Nat.le_refl _
  | k + 1, w => by
    show (if w.contains k = true then k :: reachFrom h k (parentsOf h k ++ w) else reachFrom h k w).length ≤ k + 1
    have := reach_len h k (parentsOf h k ++ w)
    have := reach_len h k w
    split
    · simp only [List.length_cons]; omega
    · omega
theorem fore_len (h : Book) (v : Nat) : (forebears h v).length ≤ h.length := reach_len h _ _
theorem fore_lt {h : Book} {v x : Nat} (hx : x ∈ forebears h v) : x < h.length := by
  have : ∀ (k : Nat) (w : List Nat), ∀ x ∈ reachFrom h k w, x < k := by
    intro k
    induction k with
    | zero => intro w x hx; cases hx
    | succ k ih =>
      intro w x hx
      have hx : x ∈ (if w.contains k = true then k :: reachFrom h k (parentsOf h k ++ w) else reachFrom h k w) := hx
      split at hx
      · rcases List.mem_cons.mp hx with e | hx
        · omega
        · have := ih _ x hx; omega
      · have := ih _ x hx; omega
  exact this _ _ x hx
/-! ### The nearest in common -/
def sharedOf (h : Book) (u v : Nat) : List Nat := (forebears h u).filter fun x => (forebears h v).contains x
def passedOf (h : Book) (l : List Nat) : List Nat := l.flatMap (parentsOf h)
theorem near_is {h : Book} (hl : Low h) {u v : Nat} (hu : u < h.length) (hv : v < h.length) : nearest h u v = (sharedOf h u v).filter fun x => !(passedOf h (sharedOf h u v)).contains x := by
  show ((sharedOf h u v).filter fun (x : Nat) => !(sharedOf h u v).any fun (y : Nat) => y != x && isForebear h x y) = _
  apply List.filter_congr
  intro x hx
  congr 1
  rw [Bool.eq_iff_iff, List.any_eq_true, List.contains_iff_mem]
  have mem : ∀ y, y ∈ sharedOf h u v ↔ Reach h u y ∧ Reach h v y := by
    intro y
    unfold sharedOf
    rw [List.mem_filter, List.contains_iff_mem, fore_mem hl hu, fore_mem hl hv]
  constructor
  · rintro ⟨y, hy, q⟩
    rw [Bool.and_eq_true] at q
    have hyl : y < h.length := by
      have := Reach.le hl ((mem y).mp hy).1 hu
      omega
    have r := (isFore hl hyl).mp q.2
    have ne : y ≠ x := by simpa using q.1
    obtain ⟨z, h1, h2⟩ := r.last ne
    unfold passedOf
    rw [List.mem_flatMap]
    exact ⟨z, (mem z).mpr ⟨((mem y).mp hy).1.trans h1, ((mem y).mp hy).2.trans h1⟩, h2⟩
  · intro q
    unfold passedOf at q
    rw [List.mem_flatMap] at q
    obtain ⟨z, hz, hp⟩ := q
    have hzl : z < h.length := by
      have := Reach.le hl ((mem z).mp hz).1 hu
      omega
    refine ⟨z, hz, ?_⟩
    rw [Bool.and_eq_true]
    refine ⟨?_, (isFore hl hzl).mpr (.step hp (.refl x))⟩
    have := hl z hzl x hp
    simp
    omega
theorem near_lt {h : Book} {u v x : Nat} (hx : x ∈ nearest h u v) : x < h.length := by
  unfold nearest at hx
  have := (List.mem_filter.mp (List.mem_filter.mp hx).1).1
  exact fore_lt this
theorem near_len {h : Book} {u v : Nat} : (nearest h u v).length ≤ h.length := by
  unfold nearest
  exact Nat.le_trans (List.length_filter_le ..) (Nat.le_trans (List.length_filter_le ..) (fore_len h u))
end TbM

namespace Tb
open PySem PySem.Spec PyProof.Rows L2
/-! fits: slots document=0 line=1; cells [] -/
abbrev s_fits : Stmt := top 3
abbrev N_fits : List Str := ["document", "line"]
theorem sc_fits : FnScope N_fits ["document"] (defScope s_fits) := ⟨rfl, rfl, rfl, by decide +kernel, rfl, by decide +kernel, by decide +kernel⟩
/-! forebears_of: slots parents=0 version=1 reached=2 found=3 number=4 parent=5; cells [] -/
abbrev s_forebears_of : Stmt := top 5
abbrev N_forebears_of : List Str := ["parents", "version", "reached", "found", "number", "parent"]
theorem sc_forebears_of : FnScope N_forebears_of ["parents", "version"] (defScope s_forebears_of) := ⟨rfl, rfl, rfl, by decide +kernel, rfl, by decide +kernel, by decide +kernel⟩
/-! nearest_in_common: slots parents=0 u=1 v=2 of_v=3 shared=4 passed=5 number=6 parent=7; cells ['of_v', 'passed'] -/
abbrev s_nearest_in_common : Stmt := top 6
abbrev N_nearest_in_common : List Str := ["parents", "u", "v", "of_v", "shared", "passed", "number", "parent"]
theorem sc_nearest_in_common : FnScope N_nearest_in_common ["parents", "u", "v"] (defScope s_nearest_in_common) := ⟨rfl, rfl, rfl, by decide +kernel, rfl, by decide +kernel, by decide +kernel⟩
/-! most_kept: slots a=0 b=1 most=2 i=3 j=4 place=5; cells ['b'] -/
abbrev s_most_kept : Stmt := top 11
abbrev N_most_kept : List Str := ["a", "b", "most", "i", "j", "place"]
theorem sc_most_kept : FnScope N_most_kept ["a", "b"] (defScope s_most_kept) := ⟨rfl, rfl, rfl, by decide +kernel, rfl, by decide +kernel, by decide +kernel⟩
/-! way_between: slots a=0 b=1 most=2 steps=3 i=4 j=5; cells [] -/
abbrev s_way_between : Stmt := top 12
abbrev N_way_between : List Str := ["a", "b", "most", "steps", "i", "j"]
theorem sc_way_between : FnScope N_way_between ["a", "b"] (defScope s_way_between) := ⟨rfl, rfl, rfl, by decide +kernel, rfl, by decide +kernel, by decide +kernel⟩
/-! kept_places: slots steps=0 places=1 i=2 j=3 step=4; cells [] -/
abbrev s_kept_places : Stmt := top 13
abbrev N_kept_places : List Str := ["steps", "places", "i", "j", "step"]
theorem sc_kept_places : FnScope N_kept_places ["steps"] (defScope s_kept_places) := ⟨rfl, rfl, rfl, by decide +kernel, rfl, by decide +kernel, by decide +kernel⟩
/-! added_lines: slots steps=0 b=1 made=2 step=3 j=4; cells ['b', 'made'] -/
abbrev s_added_lines : Stmt := top 14
abbrev N_added_lines : List Str := ["steps", "b", "made", "step", "j"]
theorem sc_added_lines : FnScope N_added_lines ["steps", "b"] (defScope s_added_lines) := ⟨rfl, rfl, rfl, by decide +kernel, rfl, by decide +kernel, by decide +kernel⟩
/-! Merged.__init__: slots self=0; cells [] -/
abbrev s_Merged_init : Stmt := inClass (top 16) 0
abbrev N_Merged_init : List Str := ["self"]
theorem sc_Merged_init : FnScope N_Merged_init ["self"] (defScope s_Merged_init) := ⟨rfl, rfl, rfl, by decide +kernel, rfl, by decide +kernel, by decide +kernel⟩
/-! standing_fast: slots o=0 a=1 b=2 in_b=3 i=4 j=5; cells ['in_b'] -/
abbrev s_standing_fast : Stmt := top 17
abbrev N_standing_fast : List Str := ["o", "a", "b", "in_b", "i", "j"]
theorem sc_standing_fast : FnScope N_standing_fast ["o", "a", "b"] (defScope s_standing_fast) := ⟨rfl, rfl, rfl, by decide +kernel, rfl, by decide +kernel, by decide +kernel⟩
/-! settled: slots of_o=0 of_a=1 of_b=2; cells [] -/
abbrev s_settled : Stmt := top 18
abbrev N_settled : List Str := ["of_o", "of_a", "of_b"]
theorem sc_settled : FnScope N_settled ["of_o", "of_a", "of_b"] (defScope s_settled) := ⟨rfl, rfl, rfl, by decide +kernel, rfl, by decide +kernel, by decide +kernel⟩
/-! merged_from: slots o=0 a=1 b=2 merged=3 starts=4 i=5 j=6 k=7 of_o=8 of_a=9 of_b=10 part=11; cells [] -/
abbrev s_merged_from : Stmt := top 19
abbrev N_merged_from : List Str := ["o", "a", "b", "merged", "starts", "i", "j", "k", "of_o", "of_a", "of_b", "part"]
theorem sc_merged_from : FnScope N_merged_from ["o", "a", "b"] (defScope s_merged_from) := ⟨rfl, rfl, rfl, by decide +kernel, rfl, by decide +kernel, by decide +kernel⟩
/-! unfit: slots ; cells [] -/
abbrev s_unfit : Stmt := top 21
abbrev N_unfit : List Str := []
theorem sc_unfit : FnScope N_unfit [] (defScope s_unfit) := ⟨rfl, rfl, rfl, by decide +kernel, rfl, by decide +kernel, by decide +kernel⟩
/-! missing: slots ; cells [] -/
abbrev s_missing : Stmt := top 22
abbrev N_missing : List Str := []
theorem sc_missing : FnScope N_missing [] (defScope s_missing) := ⟨rfl, rfl, rfl, by decide +kernel, rfl, by decide +kernel, by decide +kernel⟩
/-! clashing: slots clashes=0; cells [] -/
abbrev s_clashing : Stmt := top 23
abbrev N_clashing : List Str := ["clashes"]
theorem sc_clashing : FnScope N_clashing ["clashes"] (defScope s_clashing) := ⟨rfl, rfl, rfl, by decide +kernel, rfl, by decide +kernel, by decide +kernel⟩
/-! full: slots ; cells [] -/
abbrev s_full : Stmt := top 24
abbrev N_full : List Str := []
theorem sc_full : FnScope N_full [] (defScope s_full) := ⟨rfl, rfl, rfl, by decide +kernel, rfl, by decide +kernel, by decide +kernel⟩
/-! origins_of: slots version=0 documents=1 parents=2 origins=3 document=4 found=5 parent=6 i=7 j=8; cells [] -/
abbrev s_origins_of : Stmt := top 26
abbrev N_origins_of : List Str := ["version", "documents", "parents", "origins", "document", "found", "parent", "i", "j"]
theorem sc_origins_of : FnScope N_origins_of ["version", "documents", "parents", "origins"] (defScope s_origins_of) := ⟨rfl, rfl, rfl, by decide +kernel, rfl, by decide +kernel, by decide +kernel⟩
/-! is_branch: slots branch=0; cells [] -/
abbrev s_is_branch : Stmt := top 30
abbrev N_is_branch : List Str := ["branch"]
theorem sc_is_branch : FnScope N_is_branch ["branch"] (defScope s_is_branch) := ⟨rfl, rfl, rfl, by decide +kernel, rfl, by decide +kernel, by decide +kernel⟩
/-! State.__init__: slots self=0; cells [] -/
abbrev s_State_init : Stmt := inClass (top 31) 0
abbrev N_State_init : List Str := ["self"]
theorem sc_State_init : FnScope N_State_init ["self"] (defScope s_State_init) := ⟨rfl, rfl, rfl, by decide +kernel, rfl, by decide +kernel, by decide +kernel⟩
/-! State.has_version: slots self=0 version=1; cells [] -/
abbrev s_State_has_version : Stmt := inClass (top 31) 1
abbrev N_State_has_version : List Str := ["self", "version"]
theorem sc_State_has_version : FnScope N_State_has_version ["self", "version"] (defScope s_State_has_version) := ⟨rfl, rfl, rfl, by decide +kernel, rfl, by decide +kernel, by decide +kernel⟩
/-! State.is_full: slots self=0; cells [] -/
abbrev s_State_is_full : Stmt := inClass (top 31) 2
abbrev N_State_is_full : List Str := ["self"]
theorem sc_State_is_full : FnScope N_State_is_full ["self"] (defScope s_State_is_full) := ⟨rfl, rfl, rfl, by decide +kernel, rfl, by decide +kernel, by decide +kernel⟩
/-! State.is_at_none: slots self=0 branch=1; cells [] -/
abbrev s_State_is_at_none : Stmt := inClass (top 31) 3
abbrev N_State_is_at_none : List Str := ["self", "branch"]
theorem sc_State_is_at_none : FnScope N_State_is_at_none ["self", "branch"] (defScope s_State_is_at_none) := ⟨rfl, rfl, rfl, by decide +kernel, rfl, by decide +kernel, by decide +kernel⟩
/-! State.first_document: slots self=0 versions=1; cells [] -/
abbrev s_State_first_document : Stmt := inClass (top 31) 4
abbrev N_State_first_document : List Str := ["self", "versions"]
theorem sc_State_first_document : FnScope N_State_first_document ["self", "versions"] (defScope s_State_first_document) := ⟨rfl, rfl, rfl, by decide +kernel, rfl, by decide +kernel, by decide +kernel⟩
/-! State.add_version: slots self=0 branch=1 document=2 parents=3 version=4; cells [] -/
abbrev s_State_add_version : Stmt := inClass (top 31) 5
abbrev N_State_add_version : List Str := ["self", "branch", "document", "parents", "version"]
theorem sc_State_add_version : FnScope N_State_add_version ["self", "branch", "document", "parents"] (defScope s_State_add_version) := ⟨rfl, rfl, rfl, by decide +kernel, rfl, by decide +kernel, by decide +kernel⟩
/-! counted: slots numbers=0; cells [] -/
abbrev s_counted : Stmt := top 33
abbrev N_counted : List Str := ["numbers"]
theorem sc_counted : FnScope N_counted ["numbers"] (defScope s_counted) := ⟨rfl, rfl, rfl, by decide +kernel, rfl, by decide +kernel, by decide +kernel⟩
/-! each_line: slots document=0 told=1 line=2; cells [] -/
abbrev s_each_line : Stmt := top 34
abbrev N_each_line : List Str := ["document", "told", "line"]
theorem sc_each_line : FnScope N_each_line ["document"] (defScope s_each_line) := ⟨rfl, rfl, rfl, by decide +kernel, rfl, by decide +kernel, by decide +kernel⟩
/-! counted_lines: slots document=0; cells [] -/
abbrev s_counted_lines : Stmt := top 35
abbrev N_counted_lines : List Str := ["document"]
theorem sc_counted_lines : FnScope N_counted_lines ["document"] (defScope s_counted_lines) := ⟨rfl, rfl, rfl, by decide +kernel, rfl, by decide +kernel, by decide +kernel⟩
/-! answer_commit: slots state=0 numbers=1 lists=2 branch=3 parents=4; cells [] -/
abbrev s_answer_commit : Stmt := top 36
abbrev N_answer_commit : List Str := ["state", "numbers", "lists", "branch", "parents"]
theorem sc_answer_commit : FnScope N_answer_commit ["state", "numbers", "lists"] (defScope s_answer_commit) := ⟨rfl, rfl, rfl, by decide +kernel, rfl, by decide +kernel, by decide +kernel⟩
/-! answer_branch: slots state=0 numbers=1 lists=2 branch=3 version=4; cells [] -/
abbrev s_answer_branch : Stmt := top 37
abbrev N_answer_branch : List Str := ["state", "numbers", "lists", "branch", "version"]
theorem sc_answer_branch : FnScope N_answer_branch ["state", "numbers", "lists"] (defScope s_answer_branch) := ⟨rfl, rfl, rfl, by decide +kernel, rfl, by decide +kernel, by decide +kernel⟩
/-! answer_drop: slots state=0 numbers=1 lists=2 branch=3; cells [] -/
abbrev s_answer_drop : Stmt := top 38
abbrev N_answer_drop : List Str := ["state", "numbers", "lists", "branch"]
theorem sc_answer_drop : FnScope N_answer_drop ["state", "numbers", "lists"] (defScope s_answer_drop) := ⟨rfl, rfl, rfl, by decide +kernel, rfl, by decide +kernel, by decide +kernel⟩
/-! answer_head: slots state=0 numbers=1 lists=2 branch=3; cells [] -/
abbrev s_answer_head : Stmt := top 39
abbrev N_answer_head : List Str := ["state", "numbers", "lists", "branch"]
theorem sc_answer_head : FnScope N_answer_head ["state", "numbers", "lists"] (defScope s_answer_head) := ⟨rfl, rfl, rfl, by decide +kernel, rfl, by decide +kernel, by decide +kernel⟩
/-! answer_doc: slots state=0 numbers=1 lists=2 version=3; cells [] -/
abbrev s_answer_doc : Stmt := top 40
abbrev N_answer_doc : List Str := ["state", "numbers", "lists", "version"]
theorem sc_answer_doc : FnScope N_answer_doc ["state", "numbers", "lists"] (defScope s_answer_doc) := ⟨rfl, rfl, rfl, by decide +kernel, rfl, by decide +kernel, by decide +kernel⟩
/-! answer_parents: slots state=0 numbers=1 lists=2 version=3; cells [] -/
abbrev s_answer_parents : Stmt := top 41
abbrev N_answer_parents : List Str := ["state", "numbers", "lists", "version"]
theorem sc_answer_parents : FnScope N_answer_parents ["state", "numbers", "lists"] (defScope s_answer_parents) := ⟨rfl, rfl, rfl, by decide +kernel, rfl, by decide +kernel, by decide +kernel⟩
/-! answer_log: slots state=0 numbers=1 lists=2 version=3; cells [] -/
abbrev s_answer_log : Stmt := top 42
abbrev N_answer_log : List Str := ["state", "numbers", "lists", "version"]
theorem sc_answer_log : FnScope N_answer_log ["state", "numbers", "lists"] (defScope s_answer_log) := ⟨rfl, rfl, rfl, by decide +kernel, rfl, by decide +kernel, by decide +kernel⟩
/-! answer_common: slots state=0 numbers=1 lists=2 u=3 v=4; cells [] -/
abbrev s_answer_common : Stmt := top 43
abbrev N_answer_common : List Str := ["state", "numbers", "lists", "u", "v"]
theorem sc_answer_common : FnScope N_answer_common ["state", "numbers", "lists"] (defScope s_answer_common) := ⟨rfl, rfl, rfl, by decide +kernel, rfl, by decide +kernel, by decide +kernel⟩
/-! answer_way: slots state=0 numbers=1 lists=2 u=3 v=4 steps=5 added=6; cells [] -/
abbrev s_answer_way : Stmt := top 44
abbrev N_answer_way : List Str := ["state", "numbers", "lists", "u", "v", "steps", "added"]
theorem sc_answer_way : FnScope N_answer_way ["state", "numbers", "lists"] (defScope s_answer_way) := ⟨rfl, rfl, rfl, by decide +kernel, rfl, by decide +kernel, by decide +kernel⟩
/-! refused_ahead: slots state=0 branch=1 version=2; cells [] -/
abbrev s_refused_ahead : Stmt := top 45
abbrev N_refused_ahead : List Str := ["state", "branch", "version"]
theorem sc_refused_ahead : FnScope N_refused_ahead ["state", "branch", "version"] (defScope s_refused_ahead) := ⟨rfl, rfl, rfl, by decide +kernel, rfl, by decide +kernel, by decide +kernel⟩
/-! make_merged: slots state=0 branch=1 o=2 b=3 more_parents=4 u=5 merged=6; cells [] -/
abbrev s_make_merged : Stmt := top 46
abbrev N_make_merged : List Str := ["state", "branch", "o", "b", "more_parents", "u", "merged"]
theorem sc_make_merged : FnScope N_make_merged ["state", "branch", "o", "b", "more_parents"] (defScope s_make_merged) := ⟨rfl, rfl, rfl, by decide +kernel, rfl, by decide +kernel, by decide +kernel⟩
/-! answer_merge: slots state=0 numbers=1 lists=2 branch=3 v=4 refusal=5 u=6 o=7; cells [] -/
abbrev s_answer_merge : Stmt := top 47
abbrev N_answer_merge : List Str := ["state", "numbers", "lists", "branch", "v", "refusal", "u", "o"]
theorem sc_answer_merge : FnScope N_answer_merge ["state", "numbers", "lists"] (defScope s_answer_merge) := ⟨rfl, rfl, rfl, by decide +kernel, rfl, by decide +kernel, by decide +kernel⟩
/-! answer_pick: slots state=0 numbers=1 lists=2 branch=3 v=4 refusal=5 before=6; cells [] -/
abbrev s_answer_pick : Stmt := top 48
abbrev N_answer_pick : List Str := ["state", "numbers", "lists", "branch", "v", "refusal", "before"]
theorem sc_answer_pick : FnScope N_answer_pick ["state", "numbers", "lists"] (defScope s_answer_pick) := ⟨rfl, rfl, rfl, by decide +kernel, rfl, by decide +kernel, by decide +kernel⟩
/-! answer_undo: slots state=0 numbers=1 lists=2 branch=3 v=4 refusal=5 before=6; cells [] -/
abbrev s_answer_undo : Stmt := top 49
abbrev N_answer_undo : List Str := ["state", "numbers", "lists", "branch", "v", "refusal", "before"]
theorem sc_answer_undo : FnScope N_answer_undo ["state", "numbers", "lists"] (defScope s_answer_undo) := ⟨rfl, rfl, rfl, by decide +kernel, rfl, by decide +kernel, by decide +kernel⟩
/-! answer_try: slots state=0 numbers=1 lists=2 a_start=3 b_start=4 o=5 a=6 b=7 merged=8; cells [] -/
abbrev s_answer_try : Stmt := top 50
abbrev N_answer_try : List Str := ["state", "numbers", "lists", "a_start", "b_start", "o", "a", "b", "merged"]
theorem sc_answer_try : FnScope N_answer_try ["state", "numbers", "lists"] (defScope s_answer_try) := ⟨rfl, rfl, rfl, by decide +kernel, rfl, by decide +kernel, by decide +kernel⟩
/-! answer_origins: slots state=0 numbers=1 lists=2 version=3; cells [] -/
abbrev s_answer_origins : Stmt := top 51
abbrev N_answer_origins : List Str := ["state", "numbers", "lists", "version"]
theorem sc_answer_origins : FnScope N_answer_origins ["state", "numbers", "lists"] (defScope s_answer_origins) := ⟨rfl, rfl, rfl, by decide +kernel, rfl, by decide +kernel, by decide +kernel⟩
/-! answer_count: slots state=0 numbers=1 lists=2 heads=3 version=4; cells [] -/
abbrev s_answer_count : Stmt := top 52
abbrev N_answer_count : List Str := ["state", "numbers", "lists", "heads", "version"]
theorem sc_answer_count : FnScope N_answer_count ["state", "numbers", "lists"] (defScope s_answer_count) := ⟨rfl, rfl, rfl, by decide +kernel, rfl, by decide +kernel, by decide +kernel⟩
/-! answer_call: slots state=0 number=1 numbers=2 lists=3; cells [] -/
abbrev s_answer_call : Stmt := top 54
abbrev N_answer_call : List Str := ["state", "number", "numbers", "lists"]
theorem sc_answer_call : FnScope N_answer_call ["state", "number", "numbers", "lists"] (defScope s_answer_call) := ⟨rfl, rfl, rfl, by decide +kernel, rfl, by decide +kernel, by decide +kernel⟩
/-! Reader.__init__: slots self=0 numbers=1; cells [] -/
abbrev s_Reader_init : Stmt := inClass (top 56) 0
abbrev N_Reader_init : List Str := ["self", "numbers"]
theorem sc_Reader_init : FnScope N_Reader_init ["self", "numbers"] (defScope s_Reader_init) := ⟨rfl, rfl, rfl, by decide +kernel, rfl, by decide +kernel, by decide +kernel⟩
/-! Reader.at_end: slots self=0; cells [] -/
abbrev s_Reader_at_end : Stmt := inClass (top 56) 1
abbrev N_Reader_at_end : List Str := ["self"]
theorem sc_Reader_at_end : FnScope N_Reader_at_end ["self"] (defScope s_Reader_at_end) := ⟨rfl, rfl, rfl, by decide +kernel, rfl, by decide +kernel, by decide +kernel⟩
/-! Reader.take_number: slots self=0 number=1; cells [] -/
abbrev s_Reader_take_number : Stmt := inClass (top 56) 2
abbrev N_Reader_take_number : List Str := ["self", "number"]
theorem sc_Reader_take_number : FnScope N_Reader_take_number ["self"] (defScope s_Reader_take_number) := ⟨rfl, rfl, rfl, by decide +kernel, rfl, by decide +kernel, by decide +kernel⟩
/-! Reader.take_list: slots self=0 size=1 start=2; cells [] -/
abbrev s_Reader_take_list : Stmt := inClass (top 56) 3
abbrev N_Reader_take_list : List Str := ["self", "size", "start"]
theorem sc_Reader_take_list : FnScope N_Reader_take_list ["self"] (defScope s_Reader_take_list) := ⟨rfl, rfl, rfl, by decide +kernel, rfl, by decide +kernel, by decide +kernel⟩
/-! Reader.take_lists: slots self=0 size=1 turn=2; cells ['self'] -/
abbrev s_Reader_take_lists : Stmt := inClass (top 56) 4
abbrev N_Reader_take_lists : List Str := ["self", "size", "turn"]
theorem sc_Reader_take_lists : FnScope N_Reader_take_lists ["self"] (defScope s_Reader_take_lists) := ⟨rfl, rfl, rfl, by decide +kernel, rfl, by decide +kernel, by decide +kernel⟩
/-! answers: slots calls=0 reader=1 state=2 told=3 number=4 numbers=5 lists=6 answer=7; cells [] -/
abbrev s_answers : Stmt := top 58
abbrev N_answers : List Str := ["calls", "reader", "state", "told", "number", "numbers", "lists", "answer"]
theorem sc_answers : FnScope N_answers ["calls"] (defScope s_answers) := ⟨rfl, rfl, rfl, by decide +kernel, rfl, by decide +kernel, by decide +kernel⟩
end Tb

namespace Tb
open PySem PySem.Spec PyProof.Rows L2
/-- a def at an address, with its promise -/
structure CalAt (P : Program) (w : World) (K : PySem.W.Frag) (mg : Str → Option Value) (base : Heap) (k : Nat) (f : Addr) (sp : Sp) : Prop where
  ex : ∃ (fd : FuncData) (ps : List Str), FnOk P w K mg base CX0 k f fd ps sp ∧ PySem.W.keepIn K (.ref f) = true ∧ Binds K fd ps []
/-- a call of what an expression gives -/
def tDispatch (P : Program) (w : World) (K : PySem.W.Frag) (mg : Str → Option Value) (base : Heap) (k : Nat) (te : TE) (t : TA) : TE := fun σ H Q => te σ H fun v H1 => ∃ f sp, v = .ref f ∧ CalAt P w K mg base k f sp ∧ t σ H1 fun vs H2 => sp vs H2 Q E0
theorem pe_dispatch {X : Cx} {k j : Nat} {pos : Pos} {func e : Expr} {es : List Expr} {te : TE} {t : TA} (hr : Room j X.A) (hk : k ≤ j) (hf : PE X func te) (ha : PA X (e :: es) t)
    (hev : eval (.Call func (e :: es) [] pos) X.env = (do callWith pos (← eval func X.env) [] (backTo pos (starEach (e :: es) X.env)) (backToKw pos (keywordEach [] X.env))) := by rfl)
    (he : starEach (e :: es) X.env = (false, eval e X.env) :: starEach es X.env := by rfl) (hpl : (backTo pos (starEach es X.env)).any (·.1) = false := by rfl) :
    PE X (.Call func (e :: es) [] pos) (tDispatch X.prog X.w X.K X.mg X.base k te t) := by
  refine ⟨fun pins s σ H Q I h => ?_⟩
  refine Call_ (thn (hf.run pins s σ H _ I h) fun u s1 ⟨v, H1, I1, r1, f, sp, ev, ca, q1⟩ => ?_) hev
  subst ev
  cases r1
  obtain ⟨fd, ps, F, kp, b⟩ := ca.ex
  refine PySem.W.callWith_K (h₀ := X.base) I.ok.mod.kin kp (thn (ha.run pos pins s1 σ _ _ I1 q1) fun us s2 ⟨vs, H2, I2, r, q⟩ => ⟨I2.kIn, ?_⟩) he hpl
  refine run_fn (dvs := []) (ds := []) (E := E0) F (hr.mono hk) b .nil pass0 I2 r ?_
  rw [List.append_nil]
  exact q
/-! The rules of lists with the written part named: within a comprehension's block -/
theorem call_lenK {X : Cx} (K : PySem.W.Frag) (hK : X.K = K := by rfl) : CallR X (.builtin "len") (fun xs H Q => ∃ p ys, xs = [.ref p] ∧ (SqL K H p ys ∨ SqT K H p ys) ∧ Q (.int ys.length) H) := by
  subst hK
  exact call_len_seq
theorem ix_listK {X : Cx} (K : PySem.W.Frag) (hK : X.K = K := by rfl) : IxR X (rIxL K) := by
  subst hK
  exact ix_list
theorem op_inK {X : Cx} (K : PySem.W.Frag) (hK : X.K = K := by rfl) : OpR X (compareOp .In) (rIn K false) := by
  subst hK
  exact op_in_seq
end Tb

namespace Tb
open PySem PySem.Spec PyProof.Rows L2
section
variable {P : Program} {w : World} {K : PySem.W.Frag} {mg : Str → Option Value} {base : Heap}
theorem take_more {α : Type} {l : List α} {i : Nat} {x : α} (h : l[i]? = some x) : l.take (i + 1) = l.take i ++ [x] := by
  rw [List.take_add_one, h]
  rfl
/-! ### fits -/
def spFits : Sp := fun vs H Q _ => ∃ (v : V) (d : Hist.Doc), vs = [v] ∧ DocV H v d ∧ ∀ H', Same H H' → Q (.bl (Hist.fits d)) H'
theorem ok_fits (T : Txt mg) {f : Addr} {fd : FuncData} (F : Fun K "fits" "fits" s_fits f fd) : FnOk P w K mg base CX0 1 f fd ["document"] spFits := by
  refine F.ok sc_fits (fun vs H Q E h => ?_) (fun cdv A outer s H vs Q E hr h => ?_)
  · obtain ⟨v, d, rfl, _⟩ := h
    rfl
  · have hu := hu_of hr
    obtain ⟨v, d, rfl, ⟨a, ws, rfl, ha, hw⟩, q⟩ := h
    refine ⟨_, (pss_cons (ps_if (pt_cmpR op_gt (pe_callB call_len_seq (by rfl) T.m_len PySem.boot_len (pa_cons (pv 0) pa_nil)) (pe_gi (by rfl) T.gMOST_LINES) (nomark _)) (pss_one (ps_ret pe_bl)) pss_nil)
      (pss_one (ps_ret (pe_callB (cr_all rfl) (by rfl) T.m_all (by decide +kernel) (pa_cons (pe_lc (own := [("line", 1)]) (g := gName 1) rfl sc_fits.nd (pi_list (pv 0)) (blkOk_by (own := [("line", 1)]) (N := N_fits) (sc := defScope s_fits) (by decide +kernel)) (fun _ _ _ _ _ => pg_name (i := 1) sc_fits.nd rfl (Or.inl rfl)) (fun _ _ _ _ _ => pts_nil) (fun _ _ _ _ _ => (pe_cmpR op_le (pe_callB (call_lenK K) (by rfl) T.m_len PySem.boot_len (pa_cons (pv 1) pa_nil)) (pe_gi (by rfl) T.gMOST_BYTES) (nomark _)))) pa_nil))))), ?_⟩
    refine ⟨_, rfl, a, ws, rfl, .inl (SqL.of ha), _, _, rfl, rfl, _, rfl, ?_⟩
    refine if_dec (fun c => ?_) (fun c => ?_)
    · have e : Hist.fits d = false := by
        unfold Hist.fits
        rw [decide_eq_false (by show ¬ d.length ≤ 64; rw [← hw.len]; omega)]
        rfl
      rw [← e]
      exact q H (Same.refl H)
    · have hl : d.length ≤ 64 := by rw [← hw.len]; omega
      refine ⟨_, rfl, a, rfl, ⟨_, SqL.of ha⟩, fun D hD => ?_⟩
      refine lc_list (K := K) (a := a) (xs := ws) (fun i H' => Same H H' ∧ H' D = some (.lst (((d.take i).map fun l => decide (l.length ≤ 64)).map V.bl))) ⟨same_upd hD, upd_same⟩ (fun i H' _ p => p.1.seq (SqL.of ha)) (fun i x H' hx p => ?_) (fun H' p => ?_)
      · obtain ⟨l, hl1, b, rfl, hb⟩ := hw.getL hx
        refine ⟨rfl, ?_⟩
        refine ⟨_, rfl, b, _, rfl, .inl (SqL.of (p.1 _ _ hb)), _, _, rfl, rfl, _, p.2, ?_, same_in p.1 hD, ?_⟩
        · rw [List.length_map, List.length_map, List.length_take]
          exact size_lt' (by omega)
        · rw [upd_same, take_more hl1, List.map_append, List.map_append]
          have e : decide (((nvs l).length : Int) ≤ 64) = decide (l.length ≤ 64) := by
            rw [nvs_len]
            exact decide_eq_decide.mpr (by omega)
          show some (HO.lst (_ ++ [V.bl (decide (((nvs l).length : Int) ≤ 64))])) = _
          rw [e]
          rfl
      · rw [hw.len, List.take_length] at p
        refine ⟨D, _, rfl, SqL.of p.2, ?_⟩
        have e : Hist.fits d = (d.map fun l => decide (l.length ≤ 64)).all id := by
          unfold Hist.fits
          rw [decide_eq_true (by exact hl), Bool.true_and, List.all_map]
          rfl
        rw [← e]
        exact q H' p.1
/-! ### the refusals -/
def spList (l : List Int) : Sp := fun vs H Q _ => vs = [] ∧ ∀ H' p, Same H H' → H p = none → H' p = some (.lst (l.map V.int)) → Q (.ref p) H'
theorem ok_unfit {f : Addr} {fd : FuncData} (F : Fun K "unfit" "unfit" s_unfit f fd) : FnOk P w K mg base CX0 1 f fd [] (spList [-1]) := by
  refine F.ok sc_unfit (fun vs H Q E h => ?_) (fun cdv A outer s H vs Q E hr h => ?_)
  · obtain ⟨rfl, _⟩ := h
    rfl
  · obtain ⟨rfl, q⟩ := h
    refine ⟨_, (pss_one (ps_ret (pe_lst (pa_cons (pe_un un_neg pe_int) pa_nil)))), ?_⟩
    exact ⟨_, rfl, (by show 1 ≤ sizeLine; decide), fun p np => q _ p (same_upd np) np upd_same⟩
theorem ok_missing {f : Addr} {fd : FuncData} (F : Fun K "missing" "missing" s_missing f fd) : FnOk P w K mg base CX0 1 f fd [] (spList [-4]) := by
  refine F.ok sc_missing (fun vs H Q E h => ?_) (fun cdv A outer s H vs Q E hr h => ?_)
  · obtain ⟨rfl, _⟩ := h
    rfl
  · obtain ⟨rfl, q⟩ := h
    refine ⟨_, (pss_one (ps_ret (pe_lst (pa_cons (pe_un un_neg pe_int) pa_nil)))), ?_⟩
    exact ⟨_, rfl, (by show 1 ≤ sizeLine; decide), fun p np => q _ p (same_upd np) np upd_same⟩
theorem ok_full {f : Addr} {fd : FuncData} (F : Fun K "full" "full" s_full f fd) : FnOk P w K mg base CX0 1 f fd [] (spList [-6]) := by
  refine F.ok sc_full (fun vs H Q E h => ?_) (fun cdv A outer s H vs Q E hr h => ?_)
  · obtain ⟨rfl, _⟩ := h
    rfl
  · obtain ⟨rfl, q⟩ := h
    refine ⟨_, (pss_one (ps_ret (pe_lst (pa_cons (pe_un un_neg pe_int) pa_nil)))), ?_⟩
    exact ⟨_, rfl, (by show 1 ≤ sizeLine; decide), fun p np => q _ p (same_upd np) np upd_same⟩
/-- what an answer's numbers are as values -/
def zv (l : List Int) : List V := l.map V.int
theorem zv_nvs (l : List Nat) : nvs l = zv (l.map fun (n : Nat) => (n : Int)) := by
  unfold nvs zv
  rw [List.map_map]
  rfl
def spClashing : Sp := fun vs H Q _ => ∃ (v : V) (c : List Nat), vs = [v] ∧ IntsV H v c ∧ c.length ≤ 1000000 ∧ ∀ H' p, Same H H' → H p = none → H' p = some (.lst (V.int (-3) :: nv c.length :: nvs c)) → Q (.ref p) H'
theorem ok_clashing (T : Txt mg) {f : Addr} {fd : FuncData} (F : Fun K "clashing" "clashing" s_clashing f fd) : FnOk P w K mg base CX0 1 f fd ["clashes"] spClashing := by
  refine F.ok sc_clashing (fun vs H Q E h => ?_) (fun cdv A outer s H vs Q E hr h => ?_)
  · obtain ⟨v, d, rfl, _⟩ := h
    rfl
  · obtain ⟨v, c, rfl, ⟨a, rfl, ha⟩, hc, q⟩ := h
    refine ⟨_, (pss_one (ps_ret (pe_op op_cat (pe_lst (pa_cons (pe_un un_neg pe_int) (pa_cons (pe_callB call_len_seq (by rfl) T.m_len PySem.boot_len (pa_cons (pv 0) pa_nil)) pa_nil))) (pv 0)))), ?_⟩
    refine ⟨_, rfl, _, rfl, a, _, rfl, .inl (SqL.of ha), (by show 2 ≤ sizeLine; decide), fun p np => ?_⟩
    refine ⟨_, rfl, p, a, _, _, rfl, rfl, upd_same, same_upd np _ _ ha, ?_, fun r nr => ?_⟩
    · rw [nvs_len]
      exact size_le (by show 2 + c.length ≤ 10000000; omega)
    · refine q _ r ((same_upd np).trans (same_upd nr)) (by rw [← nr, upd_ne (fun z => by rw [z, upd_same] at nr; cases nr)]) ?_
      rw [upd_same, nvs_len]
      rfl
def spCounted : Sp := fun vs H Q _ => ∃ (v : V) (c : List Nat), vs = [v] ∧ IntsV H v c ∧ c.length ≤ 1000000 ∧ ∀ H' p, Same H H' → H p = none → H' p = some (.lst (nv c.length :: nv c.length :: nvs c)) → Q (.ref p) H'
theorem ok_counted (T : Txt mg) {f : Addr} {fd : FuncData} (F : Fun K "counted" "counted" s_counted f fd) : FnOk P w K mg base CX0 1 f fd ["numbers"] spCounted := by
  refine F.ok sc_counted (fun vs H Q E h => ?_) (fun cdv A outer s H vs Q E hr h => ?_)
  · obtain ⟨v, d, rfl, _⟩ := h
    rfl
  · obtain ⟨v, c, rfl, ⟨a, rfl, ha⟩, hc, q⟩ := h
    refine ⟨_, (pss_one (ps_ret (pe_op op_cat (pe_lst (pa_cons (pe_callB call_len_seq (by rfl) T.m_len PySem.boot_len (pa_cons (pv 0) pa_nil)) (pa_cons (pe_callB call_len_seq (by rfl) T.m_len PySem.boot_len (pa_cons (pv 0) pa_nil)) pa_nil))) (pv 0)))), ?_⟩
    refine ⟨_, rfl, a, _, rfl, .inl (SqL.of ha), _, rfl, a, _, rfl, .inl (SqL.of ha), (by show 2 ≤ sizeLine; decide), fun p np => ?_⟩
    refine ⟨_, rfl, p, a, _, _, rfl, rfl, upd_same, same_upd np _ _ ha, ?_, fun r nr => ?_⟩
    · rw [nvs_len]
      exact size_le (by show 2 + c.length ≤ 10000000; omega)
    · refine q _ r ((same_upd np).trans (same_upd nr)) (by rw [← nr, upd_ne (fun z => by rw [z, upd_same] at nr; cases nr)]) ?_
      rw [upd_same, nvs_len]
      rfl
/-! ### is_branch -/
def spIsBranch : Sp := fun vs H Q _ => ∃ (k : Nat), vs = [nv k] ∧ Q (.bl (Hist.isBranch k)) H
theorem ok_is_branch (T : Txt mg) {f : Addr} {fd : FuncData} (F : Fun K "is_branch" "is_branch" s_is_branch f fd) : FnOk P w K mg base CX0 1 f fd ["branch"] spIsBranch := by
  refine F.ok sc_is_branch (fun vs H Q E h => ?_) (fun cdv A outer s H vs Q E hr h => ?_)
  · obtain ⟨k, rfl, _⟩ := h
    rfl
  · obtain ⟨k, rfl, q⟩ := h
    refine ⟨_, (pss_one (ps_ret (pe_cmpR op_lt (pv 0) (pe_gi (by rfl) T.gBRANCHES) (nomark _)))), ?_⟩
    refine ⟨_, rfl, _, _, rfl, rfl, ?_⟩
    have e : decide ((k : Int) < 8) = Hist.isBranch k := by
      unfold Hist.isBranch
      exact decide_eq_decide.mpr (by show (k : Int) < 8 ↔ k < 8; omega)
    show Q (.bl (decide ((k : Int) < 8))) H
    rw [e]
    exact q
/-! ### lines told -/
def tellN (d : Hist.Doc) : List Nat := d.flatMap fun l => l.length :: l
theorem tell_more (d : Hist.Doc) {i : Nat} {l : List Nat} (h : d[i]? = some l) : tellN (d.take (i + 1)) = tellN (d.take i) ++ (l.length :: l) := by
  unfold tellN
  rw [take_more h, List.flatMap_append]
  simp [List.flatMap_cons]
theorem tell_le (d : Hist.Doc) (h : ∀ l ∈ d, l.length ≤ 64) : ∀ i, (tellN (d.take i)).length ≤ 65 * i := by
  intro i
  induction i with
  | zero => exact Nat.le_refl _
  | succ i ih =>
    cases e : d[i]? with
    | none =>
      have : d.take (i + 1) = d.take i := by rw [List.take_add_one, e]; simp
      rw [this]; omega
    | some l =>
      rw [tell_more d e, List.length_append, List.length_cons]
      have := h l (List.mem_of_getElem? e)
      omega
def spEachLine : Sp := fun vs H Q _ => ∃ (v : V) (d : Hist.Doc), vs = [v] ∧ DocV H v d ∧ (∀ l ∈ d, l.length ≤ 64) ∧ d.length ≤ 64 ∧ ∀ H' p, Same H H' → H p = none → H' p = some (.lst (nvs (tellN d))) → Q (.ref p) H'
theorem ok_each_line (T : Txt mg) {f : Addr} {fd : FuncData} (F : Fun K "each_line" "each_line" s_each_line f fd) : FnOk P w K mg base CX0 1 f fd ["document"] spEachLine := by
  refine F.ok sc_each_line (fun vs H Q E h => ?_) (fun cdv A outer s H vs Q E hr h => ?_)
  · obtain ⟨v, d, rfl, _⟩ := h
    rfl
  · obtain ⟨v, d, rfl, ⟨a, ws, rfl, ha, hw⟩, hb, hd, q⟩ := h
    refine ⟨_, (pss_cons (ps_set (i := 1) sc_each_line.nd rfl (Or.inl rfl) (pe_lst pa_nil))
      (pss_cons (ps_for PassesOwn.never rfl (pi_list (pv 0)) (pg_name (i := 2) sc_each_line.nd rfl (Or.inl rfl)) (pss_cons (ps_expr (pe_bm PySem.F.plainAttrs_list PySem.F.slot_list_append PySem.F.type_list_append mt_append (pv 1) (pa_cons (pe_callB call_len_seq (by rfl) T.m_len PySem.boot_len (pa_cons (pv 2) pa_nil)) pa_nil)))
      (pss_one (ps_expr (pe_bm PySem.F.plainAttrs_list PySem.F.slot_list_extend PySem.F.type_list_extend mt_extend (pv 1) (pa_cons (pv 2) pa_nil))))))
      (pss_one (ps_ret (pv 1))))), ?_⟩
    refine ⟨Nat.zero_le _, fun t nt => ?_⟩
    refine ⟨_, rfl, a, rfl, ⟨_, SqL.of (same_upd nt _ _ ha)⟩, for_list (K := K) (a := a) (xs := ws) (fun i σ H' => ∃ x, σ = [some (.ref a), some (.ref t), x] ∧ Same H H' ∧ H' t = some (.lst (nvs (tellN (d.take i)))))
      ⟨_, rfl, same_upd nt, upd_same⟩ (fun i σ H' _ ⟨_, _, s5, _⟩ => s5.seq (SqL.of ha)) ?_ ?_⟩
    · rintro i y σ H' hi ⟨x, rfl, s5, e5⟩
      obtain ⟨l, hl1, b, rfl, hl2⟩ := hw.getL hi
      have hi2 : i < d.length := (List.getElem?_eq_some_iff.mp hl1).1
      have hsz := tell_le d hb i
      have hl3 := hb l (List.mem_of_getElem? hl1)
      refine ⟨_, rfl, .inl ⟨rfl, _, SqL.of e5⟩, _, rfl, b, _, rfl, .inl (SqL.of (s5 _ _ hl2)), t, _, _, rfl, rfl, e5, ?_, ?_⟩
      · rw [nvs_len]
        exact size_lt' (by omega)
      refine ⟨_, rfl, .inl ⟨rfl, _, SqL.of upd_same⟩, _, rfl, t, b, _, nvs l, rfl, rfl, upd_same, ?_, ?_, _, rfl, ?_, ?_⟩
      · rw [upd_ne (ne_of_none hl2 nt)]
        exact s5 _ _ hl2
      · rw [List.length_append, nvs_len, nvs_len]
        exact size_le (by show _ + 1 + _ ≤ _; omega)
      · exact same_in (same_in s5 nt) nt
      · rw [upd_same, tell_more d hl1, nvs_len]
        show some (HO.lst ((nvs _ ++ [nv l.length]) ++ nvs l)) = _
        rw [nvs_snoc, nvs_app, List.append_assoc]
        rfl
    · rintro σ H' ⟨x, rfl, s5, e5⟩
      rw [hw.len, List.take_length] at e5
      exact ⟨_, rfl, q H' t s5 nt e5⟩
theorem tell_len (d : Hist.Doc) (h : ∀ l ∈ d, l.length ≤ 64) (h2 : d.length ≤ 64) : (tellN d).length ≤ 4160 := by
  have := tell_le d h d.length
  rw [List.take_length] at this
  omega
def spCountedLines : Sp := fun vs H Q _ => ∃ (v : V) (d : Hist.Doc), vs = [v] ∧ DocV H v d ∧ (∀ l ∈ d, l.length ≤ 64) ∧ d.length ≤ 64 ∧ ∀ H' p, Same H H' → H p = none → H' p = some (.lst (nv d.length :: nvs (tellN d))) → Q (.ref p) H'
theorem ok_counted_lines (T : Txt mg) {f : Addr} {fd : FuncData} (F : Fun K "counted_lines" "counted_lines" s_counted_lines f fd) (c_each_line : Cal P w K mg base 1 "each_line" spEachLine) : FnOk P w K mg base CX0 2 f fd ["document"] spCountedLines := by
  refine F.ok sc_counted_lines (fun vs H Q E h => ?_) (fun cdv A outer s H vs Q E hr h => ?_)
  · obtain ⟨v, d, rfl, _⟩ := h
    rfl
  · obtain ⟨v, d, rfl, hdoc, hb, hd, q⟩ := h
    have hdoc' := hdoc
    obtain ⟨a, ws, rfl, ha, hw⟩ := hdoc
    refine ⟨_, (pss_one (ps_ret (pe_op op_cat (pe_lst (pa_cons (pe_callB call_len_seq (by rfl) T.m_len PySem.boot_len (pa_cons (pv 0) pa_nil)) pa_nil)) (pe_c c_each_line hr (by decide) (by rfl) (pa_cons (pv 0) pa_nil))))), ?_⟩
    refine ⟨_, rfl, a, _, rfl, .inl (SqL.of ha), (by show 1 ≤ sizeLine; decide), fun p np => ?_⟩
    refine ⟨_, rfl, _, d, rfl, hdoc'.same (same_upd np), hb, hd, fun H' r s5 nr e5 => ?_⟩
    have hz := tell_len d hb hd
    refine ⟨p, r, _, _, rfl, rfl, s5 _ _ upd_same, e5, ?_, fun t nt => ?_⟩
    · rw [nvs_len]
      exact size_le (by show 1 + _ ≤ _; omega)
    · refine q _ t (((same_upd np).trans s5).trans (same_upd nt)) (((same_upd np).trans s5).free nt) ?_
      rw [upd_same, hw.len]
      rfl

end
end Tb

namespace Tb
open PySem PySem.Spec PyProof.Rows L2
section
variable {P : Program} {w : World} {K : PySem.W.Frag} {mg : Str → Option Value} {base : Heap}
/-! ### == of lists of numbers, of documents -/
def dI (n : Nat) : PyData := .int (n : Int)
def dL (l : List Nat) : PyData := .list (l.map dI)
def dD (d : List (List Nat)) : PyData := .list (d.map dL)
theorem eqv_L : ∀ l m : List Nat, PyData.eqvAll (l.map dI) (m.map dI) = decide (l = m)
  | [], [] => rfl
  | [], _ :: _ => rfl
  | _ :: _, [] => rfl
  | x :: l, y :: m => by
    show (((x : Int) == (y : Int)) && PyData.eqvAll (l.map dI) (m.map dI)) = decide (x :: l = y :: m)
    rw [eqv_L l m, Bool.eq_iff_iff]
    simp
    intro _
    omega
theorem eqv_dL (l m : List Nat) : PyData.eqv (dL l) (dL m) = decide (l = m) := eqv_L l m
theorem eqv_D : ∀ l m : List (List Nat), PyData.eqvAll (l.map dL) (m.map dL) = decide (l = m)
  | [], [] => rfl
  | [], _ :: _ => rfl
  | _ :: _, [] => rfl
  | x :: l, y :: m => by
    show (PyData.eqv (dL x) (dL y) && PyData.eqvAll (l.map dL) (m.map dL)) = decide (x :: l = y :: m)
    rw [eqv_dL, eqv_D l m, Bool.eq_iff_iff]
    simp
theorem eqv_dD (l m : List (List Nat)) : PyData.eqv (dD l) (dD m) = decide (l = m) := eqv_D l m
theorem dp_nvs {H : Hp} : ∀ l : List Nat, DpAll K H (nvs l) (l.map dI)
  | [] => .nil
  | n :: l => .cons (.int (n : Int)) (dp_nvs l)
theorem dp_L {H : Hp} {v : V} {l : List Nat} (h : IntsV H v l) : Dp K H v (dL l) := by
  obtain ⟨a, rfl, ha⟩ := h
  exact .lst (SqL.of ha) (dp_nvs l)
theorem dp_rows {H : Hp} : ∀ {vs : List V} {d : List (List Nat)}, All2 (IntsV H) vs d → DpAll K H vs (d.map dL)
  | [], [], _ => .nil
  | [], _ :: _, h => by have := h.len; simp at this
  | _ :: _, [], h => by have := h.len; simp at this
  | v :: vs, l :: d, h => .cons (dp_L (h.at_ 0 v l rfl rfl)) (dp_rows ⟨by have := h.len; simpa using this, fun i x y a b => h.at_ (i + 1) x y a b⟩)
theorem dp_D {H : Hp} {v : V} {d : List (List Nat)} (h : DocV H v d) : Dp K H v (dD d) := by
  obtain ⟨a, vs, rfl, ha, hw⟩ := h
  exact .lst (SqL.of ha) (dp_rows hw)
theorem can_I : ∀ l : List Nat, PyData.canLayAll0 (l.map dI) = true
  | [] => by rw [List.map_nil, PyData.canLayAll0]
  | n :: l => by
    rw [List.map_cons, PyData.canLayAll0, can_I l, Bool.and_true]
    show PyData.canLay0 (.int (n : Int)) = true
    rw [PyData.canLay0]
theorem dep_I : ∀ l : List Nat, PyData.depthAll (l.map dI) = 0
  | [] => by rw [List.map_nil, PyData.depthAll]
  | n :: l => by
    rw [List.map_cons, PyData.depthAll, dep_I l]
    show max (PyData.depth (.int (n : Int))) 0 = 0
    rw [PyData.depth]
    rfl
theorem can_L (l : List Nat) : PyData.canLay0 (dL l) = true := by
  show PyData.canLay0 (.list (l.map dI)) = true
  rw [PyData.canLay0]
  exact can_I l
theorem dep_L (l : List Nat) : PyData.depth (dL l) = 1 := by
  show PyData.depth (.list (l.map dI)) = 1
  rw [PyData.depth, dep_I]
theorem can_D : ∀ d : List (List Nat), PyData.canLayAll0 (d.map dL) = true
  | [] => by rw [List.map_nil, PyData.canLayAll0]
  | l :: d => by rw [List.map_cons, PyData.canLayAll0, can_D d, can_L]; rfl
theorem dep_D : ∀ d : List (List Nat), PyData.depthAll (d.map dL) ≤ 1
  | [] => by rw [List.map_nil, PyData.depthAll]; omega
  | l :: d => by
    have := dep_D d
    rw [List.map_cons, PyData.depthAll, dep_L]
    omega
theorem sh_L (l : List Nat) : SeqAt.shaped (dL l) = true := by
  unfold SeqAt.shaped
  rw [can_L, dep_L]
  rfl
theorem sh_D (d : List (List Nat)) : SeqAt.shaped (dD d) = true := by
  have h1 : PyData.canLay0 (dD d) = true := by
    show PyData.canLay0 (.list (d.map dL)) = true
    rw [PyData.canLay0]
    exact can_D d
  have h2 : PyData.depth (dD d) ≤ 64 := by
    show PyData.depth (.list (d.map dL)) ≤ 64
    rw [PyData.depth]
    have := dep_D d
    omega
  unfold SeqAt.shaped
  rw [h1, decide_eq_true h2]
  rfl

end
end Tb

namespace Tb
open PySem PySem.Spec PyProof.Rows L2
section
variable {P : Program} {w : World} {K : PySem.W.Frag} {mg : Str → Option Value} {base : Heap}
open TbM
theorem ne_t {c k : Nat} (h : c ≠ k) : (!decide (nv c = V.int (k : Int))) = true := by
  rw [decide_eq_false (fun z => h (nvi_eq.mp z))]
  rfl
theorem ne_f {c k : Nat} (h : c = k) : (!decide (nv c = V.int (k : Int))) = false := by
  rw [decide_eq_true (nvi_eq.mpr h)]
  rfl
/-! ### kept_places -/
def spKept : Sp := fun vs H Q _ => ∃ (v : V) (w : List Nat), vs = [v] ∧ IntsV H v w ∧ w.length ≤ 1000 ∧ ∀ H' p ws, Same H H' → H p = none → H' p = some (.lst ws) → All2 (PairV H') ws (kp w 0 0) → Q (.ref p) H'
theorem ok_kept_places (T : Txt mg) {f : Addr} {fd : FuncData} (F : Fun K "kept_places" "kept_places" s_kept_places f fd) : FnOk P w K mg base CX0 1 f fd ["steps"] spKept := by
  refine F.ok sc_kept_places (fun vs H Q E h => ?_) (fun cdv A outer s H vs Q E hr h => ?_)
  · obtain ⟨v, d, rfl, _⟩ := h
    rfl
  · obtain ⟨v, w, rfl, ⟨a, rfl, ha⟩, hw, q⟩ := h
    refine ⟨_, (pss_cons (ps_set (i := 1) sc_kept_places.nd rfl (Or.inl rfl) (pe_lst pa_nil))
      (pss_cons (ps_set (i := 2) sc_kept_places.nd rfl (Or.inl rfl) pe_int)
      (pss_cons (ps_set (i := 3) sc_kept_places.nd rfl (Or.inl rfl) pe_int)
      (pss_cons (ps_for PassesOwn.never rfl (pi_list (pv 0)) (pg_name (i := 4) sc_kept_places.nd rfl (Or.inl rfl)) (pss_cons (ps_if (pt_cmpR op_eq (pv 4) (pe_gi (by rfl) T.gKEPT) (nomark _)) (pss_one (ps_expr (pe_bm PySem.F.plainAttrs_list PySem.F.slot_list_append PySem.F.type_list_append mt_append (pv 1) (pa_cons (pe_tup (pa_cons (pv 2) (pa_cons (pv 3) pa_nil))) pa_nil)))) pss_nil)
      (pss_cons (ps_if (pt_cmpR op_ne (pv 4) (pe_gi (by rfl) T.gADDED) (nomark _)) (pss_one (ps_set (i := 2) sc_kept_places.nd rfl (Or.inl rfl) (pe_op op_add (pv 2) pe_int))) pss_nil)
      (pss_one (ps_if (pt_cmpR op_ne (pv 4) (pe_gi (by rfl) T.gDROPPED) (nomark _)) (pss_one (ps_set (i := 3) sc_kept_places.nd rfl (Or.inl rfl) (pe_op op_add (pv 3) pe_int))) pss_nil)))))
      (pss_one (ps_ret (pv 1))))))), ?_⟩
    refine ⟨Nat.zero_le _, fun t nt => ?_⟩
    refine ⟨_, rfl, a, rfl, ⟨_, SqL.of (same_upd nt _ _ ha)⟩, for_list (K := K) (a := a) (xs := nvs w) (fun n σ H' => ∃ (i j : Nat) (x : Option V) (ws : List V) (done : List (Nat × Nat)), σ = [some (.ref a), some (.ref t), some (nv i), some (nv j), x] ∧ Same H H' ∧ H' t = some (.lst ws) ∧ All2 (PairV H') ws done ∧ done ++ kp (w.drop n) i j = kp w 0 0 ∧ done.length ≤ n)
      ⟨0, 0, _, [], [], rfl, same_upd nt, upd_same, All2.nil, rfl, Nat.le_refl _⟩ (fun i σ H' _ ⟨_, _, _, _, _, _, s5, _⟩ => s5.seq (SqL.of ha)) ?_ ?_⟩
    · rintro n y σ H' hn ⟨i, j, x, ws, done, rfl, s5, e5, a5, q5, l5⟩
      obtain ⟨c, hc, rfl⟩ := nvs_inv hn
      have hn2 : n < w.length := (List.getElem?_eq_some_iff.mp hc).1
      have hdr : w.drop n = c :: w.drop (n + 1) := by
        rw [List.drop_eq_getElem_cons hn2]
        rw [List.getElem?_eq_getElem hn2] at hc
        rw [Option.some.inj hc]
      rw [hdr] at q5
      have hwl : ws.length < sizeLine := by
        rw [a5.len]
        exact size_lt' (by omega)
      by_cases c0 : c = 0
      · subst c0
        refine ⟨_, rfl, rfl, _, rfl, if_true_of (decide_eq_true (nvi_eq.mpr rfl)) ?_⟩
        refine ⟨_, rfl, .inl ⟨rfl, _, SqL.of e5⟩, _, rfl, _, rfl, (by show 2 ≤ sizeLine; decide), fun tp ntp => ⟨t, ws, _, rfl, rfl, same_upd ntp _ _ e5, hwl, ?_⟩⟩
        refine ⟨_, rfl, rfl, _, rfl, if_true_of (ne_t (c := 0) (k := 2) (by decide)) ?_⟩
        refine ⟨_, rfl, _, _, rfl, rfl, ?_⟩
        refine ⟨_, rfl, rfl, _, rfl, if_true_of (ne_t (c := 0) (k := 1) (by decide)) ?_⟩
        refine ⟨_, rfl, _, _, rfl, rfl, ?_⟩
        have ht : t ≠ tp := ne_of_none e5 ntp
        have sm : Same H (upd (upd H' tp (.tup [nv i, nv j])) t (.lst (ws ++ [.ref tp]))) := same_in (same_in s5 (s5.free ntp)) nt
        have keep : ∀ b xs, H' b = some (.tup xs) → (upd (upd H' tp (.tup [nv i, nv j])) t (.lst (ws ++ [.ref tp]))) b = some (.tup xs) := fun b xs e => by
          have hb : b ≠ t := ne_of e e5 (fun z => nomatch z)
          rw [upd_ne hb, upd_ne (ne_of_none e ntp)]
          exact e
        refine ⟨i + 1, j + 1, _, _, done ++ [(i, j)], rfl, sm, upd_same, All2.snoc (a5.mono fun v p ⟨b, e1, e2⟩ => ⟨b, e1, keep _ _ e2⟩) ⟨tp, rfl, ?_⟩, ?_, ?_⟩
        · rw [upd_ne ht.symm, upd_same]
        · rw [← q5, List.append_assoc]
          rfl
        · rw [List.length_append]
          show done.length + 1 ≤ n + 1
          omega
      · refine ⟨_, rfl, rfl, _, rfl, if_false_of (decide_eq_false (fun z => c0 (nvi_eq.mp z))) ?_⟩
        by_cases c2 : c = 2
        · subst c2
          refine ⟨_, rfl, rfl, _, rfl, if_false_of (ne_f (c := 2) (k := 2) rfl) ?_⟩
          refine ⟨_, rfl, rfl, _, rfl, if_true_of (ne_t (c := 2) (k := 1) (by decide)) ?_⟩
          refine ⟨_, rfl, _, _, rfl, rfl, ?_⟩
          refine ⟨i, j + 1, _, ws, done, rfl, s5, e5, a5, ?_, by omega⟩
          rw [← q5]
          rfl
        · refine ⟨_, rfl, rfl, _, rfl, if_true_of (ne_t (k := 2) c2) ?_⟩
          refine ⟨_, rfl, _, _, rfl, rfl, ?_⟩
          by_cases c1 : c = 1
          · subst c1
            refine ⟨_, rfl, rfl, _, rfl, if_false_of (ne_f (c := 1) (k := 1) rfl) ?_⟩
            refine ⟨i + 1, j, _, ws, done, rfl, s5, e5, a5, ?_, by omega⟩
            rw [← q5]
            rfl
          · refine ⟨_, rfl, rfl, _, rfl, if_true_of (ne_t (k := 1) c1) ?_⟩
            refine ⟨_, rfl, _, _, rfl, rfl, ?_⟩
            refine ⟨i + 1, j + 1, _, ws, done, rfl, s5, e5, a5, ?_, by omega⟩
            rw [← q5]
            show done ++ kp (w.drop (n + 1)) (i + 1) (j + 1) = done ++ ((if c = 0 then [(i, j)] else []) ++ kp (w.drop (n + 1)) (if c = 2 then i else i + 1) (if c = 1 then j else j + 1))
            rw [if_neg c0, if_neg c1, if_neg c2]
            rfl
    · rintro σ H' ⟨i, j, x, ws, done, rfl, s5, e5, a5, q5, l5⟩
      rw [nvs_len, List.drop_length] at q5
      have q5 : done ++ [] = kp w 0 0 := q5
      rw [List.append_nil] at q5
      rw [q5] at a5
      exact ⟨_, rfl, q H' t ws s5 nt e5 a5⟩
/-! ### added_lines -/
def spAdded : Sp := fun vs H Q _ => ∃ (v u : V) (w : List Nat) (b : Hist.Doc), vs = [v, u] ∧ IntsV H v w ∧ DocV H u b ∧ w.length ≤ 1000 ∧ (w.filter fun s => decide (s ≠ 1)).length = b.length ∧ ∀ H' p, Same H H' → DocV H' (.ref p) (addedN w b) → Q (.ref p) H'
theorem ok_added_lines (T : Txt mg) {f : Addr} {fd : FuncData} (F : Fun K "added_lines" "added_lines" s_added_lines f fd) : FnOk P w K mg base CX0 1 f fd ["steps", "b"] spAdded := by
  refine F.ok sc_added_lines (fun vs H Q E h => ?_) (fun cdv A outer s H vs Q E hr h => ?_)
  · obtain ⟨v, u, w, b, rfl, _⟩ := h
    rfl
  · obtain ⟨v, u, w, b, rfl, ⟨a, rfl, ha⟩, ⟨c, bs, rfl, hc, hbs⟩, hw, hm, q⟩ := h
    refine ⟨_, (pss_cons (ps_set (i := 2) sc_added_lines.nd rfl (Or.inr rfl) (pe_lc (own := [("step", 3)]) (g := gName 3) rfl sc_added_lines.nd (pi_list (pv 0)) (blkOk_by (own := [("step", 3)]) (N := N_added_lines) (sc := defScope s_added_lines) (by decide +kernel)) (fun _ _ _ _ _ => pg_name (i := 3) sc_added_lines.nd rfl (Or.inl rfl)) (fun _ _ _ _ _ => pts_one (pt_cmpR op_ne (pv 3) (pe_gi (by rfl) T.gDROPPED) (nomark _))) (fun _ _ _ _ _ => (pv 3))))
      (pss_one (ps_ret (pe_lc (own := [("j", 4)]) (g := gName 4) rfl sc_added_lines.nd (pi_range1 (by rfl) T.m_range (pa_cons (pe_callB call_len_seq (by rfl) T.m_len PySem.boot_len (pa_cons (pv 1) pa_nil)) pa_nil)) (blkOk_by (own := [("j", 4)]) (N := N_added_lines) (sc := defScope s_added_lines) (by decide +kernel)) (fun _ _ _ _ _ => pg_name (i := 4) sc_added_lines.nd rfl (Or.inl rfl)) (fun _ _ _ _ _ => pts_one (pt_cmpR op_eq (pe_ix (ix_listK K) (pv 2) (pv 4) (fun _ _ => rfl)) (pe_gi (by rfl) T.gADDED) (nomark _))) (fun _ _ _ _ _ => (pe_ix (ix_listK K) (pv 1) (pv 4) (fun _ _ => rfl))))))), ?_⟩
    refine ⟨_, rfl, a, rfl, ⟨_, SqL.of ha⟩, fun D hD => ?_⟩
    refine lc_list (K := K) (a := a) (xs := nvs w) (fun i H' => Same H H' ∧ H' D = some (.lst (nvs ((w.take i).filter fun s => decide (s ≠ 1))))) ⟨same_upd hD, upd_same⟩ (fun i H' _ p => p.1.seq (SqL.of ha)) (fun i x H' hx p => ?_) (fun H1 p => ?_)
    · obtain ⟨n, hn, rfl⟩ := nvs_inv hx
      refine ⟨rfl, _, rfl, rfl, _, rfl, ?_⟩
      refine if_ndec (fun c1 => ?_) (fun c1 => ?_)
      · have c1 : n ≠ 1 := fun z => c1 (nvi_eq.mpr z)
        refine ⟨_, rfl, _, p.2, ?_, same_in p.1 hD, ?_⟩
        · rw [nvs_len]
          have := List.length_filter_le (fun s => decide (s ≠ 1)) (w.take i)
          rw [List.length_take] at this
          exact size_lt' (by omega)
        · rw [upd_same, nvs_snoc, take_more hn, List.filter_append]
          have : ([n].filter fun s => decide (s ≠ 1)) = [n] := by simp [c1]
          rw [this]
      · have c1 : n = 1 := nvi_eq.mp c1
        refine ⟨p.1, ?_⟩
        rw [p.2, take_more hn, List.filter_append]
        have : ([n].filter fun s => decide (s ≠ 1)) = [] := by simp [c1]
        rw [this, List.append_nil]
    · rw [nvs_len, List.take_length] at p
      have hcl : bs.length = b.length := hbs.len
      refine ⟨_, rfl, c, bs, rfl, .inl (SqL.of (p.1 _ _ hc)), _, rfl, ?_, ?_, fun D2 hD2 => ?_⟩
      · omega
      · have : bs.length ≤ 1000 := by
          rw [hcl, ← hm]
          exact Nat.le_trans (List.length_filter_le ..) hw
        show ((bs.length : Nat) : Int) < 2 ^ 62
        omega
      refine lc_range (lo := 0) (n := bs.length) (fun i H' => Same H1 H' ∧ ∃ ws, H' D2 = some (.lst ws) ∧ All2 (IntsV H1) ws ((List.range i).filterMap fun j => if (w.filter fun s => decide (s ≠ 1))[j]? = some 2 then b[j]? else none) ∧ ws.length ≤ i) ⟨same_upd hD2, [], upd_same, All2.nil, Nat.le_refl _⟩ (fun j H' hj p5 => ?_) (fun H' p5 => ?_)
      · obtain ⟨s5, ws, e5, a5, l5⟩ := p5
        have hj2 : j < (w.filter fun s => decide (s ≠ 1)).length := by rw [hm, ← hcl]; exact hj
        have hjb : j < b.length := by rw [← hcl]; exact hj
        have gm := List.getElem?_eq_getElem hj2
        have gb := List.getElem?_eq_getElem hjb
        obtain ⟨bv, gbv, hbv⟩ := hbs.get gb
        refine ⟨rfl, _, rfl, _, rfl, D, _, _, _, rfl, rfl, SqL.of (s5 _ _ p.2), atI_n (by omega) (nvs_get gm), rfl, _, rfl, ?_⟩
        have hws : ws.length < sizeLine := by
          have : bs.length ≤ 1000 := by
            rw [hcl, ← hm]
            exact Nat.le_trans (List.length_filter_le ..) hw
          exact size_lt' (by omega)
        refine if_dec (fun c1 => ?_) (fun c1 => ?_)
        · have c1 := nvi_eq.mp c1
          refine ⟨_, rfl, _, rfl, c, bs, _, _, rfl, rfl, SqL.of (s5 _ _ (p.1 _ _ hc)), atI_n (by omega) gbv, ws, e5, hws, same_in s5 hD2, ws ++ [bv], upd_same, ?_, ?_⟩
          · rw [List.range_succ, List.filterMap_append]
            refine a5.append ?_
            rw [List.filterMap_cons, List.filterMap_nil, gm, c1, if_pos rfl, gb]
            exact All2.one (hbv.same p.1)
          · rw [List.length_append]
            show ws.length + 1 ≤ j + 1
            omega
        · have c1 : ¬ (List.filter (fun s => decide (s ≠ 1)) w)[j] = 2 := fun z => c1 (nvi_eq.mpr z)
          refine ⟨s5, ws, e5, ?_, by omega⟩
          rw [List.range_succ, List.filterMap_append]
          have : (List.filterMap (fun j => if (List.filter (fun s => decide (s ≠ 1)) w)[j]? = some 2 then b[j]? else none) [j]) = [] := by
            rw [List.filterMap_cons, List.filterMap_nil, gm, if_neg (fun z => c1 (Option.some.inj z))]
          rw [this, List.append_nil]
          exact a5
      · obtain ⟨s5, ws, e5, a5, l5⟩ := p5
        rw [hcl] at a5
        exact q H' D2 (p.1.trans s5) ⟨D2, ws, rfl, e5, rows_same s5 a5⟩

end
end Tb

namespace Tb
open PySem PySem.Spec PyProof.Rows L2
section
variable {P : Program} {w : World} {K : PySem.W.Frag} {mg : Str → Option Value} {base : Heap}
open TbM
/-! ### most_kept -/
def rw_ (f : Nat → Nat) (n : Nat) : List Nat := (List.range n).map f
theorem rw_len (f : Nat → Nat) (n : Nat) : (rw_ f n).length = n := by unfold rw_; rw [List.length_map, List.length_range]
theorem rw_get (f : Nat → Nat) {n j : Nat} (h : j < n) : (rw_ f n)[j]? = some (f j) := by
  unfold rw_
  rw [List.getElem?_map, List.getElem?_range h]
  rfl
theorem rw_congr {f g : Nat → Nat} {n : Nat} (h : ∀ c, c < n → f c = g c) : rw_ f n = rw_ g n := by
  unfold rw_
  exact List.map_congr_left fun c hc => h c (List.mem_range.mp hc)
theorem rw_set (f : Nat → Nat) (n j v : Nat) : (rw_ f n).set j v = rw_ (fun c => if c = j then v else f c) n := by
  apply List.ext_getElem?
  intro c
  by_cases hc : c < n
  · rw [rw_get _ hc]
    by_cases e : j = c
    · subst e
      rw [List.getElem?_set_self (by rw [rw_len]; exact hc), if_pos rfl]
    · rw [List.getElem?_set_ne e, rw_get _ hc, if_neg (fun z => e z.symm)]
  · rw [List.getElem?_eq_none (by rw [List.length_set, rw_len]; omega), List.getElem?_eq_none (by rw [rw_len]; omega)]
theorem nvs_set (l : List Nat) (j v : Nat) : (nvs l).set j (nv v) = nvs (l.set j v) := by
  unfold nvs
  rw [List.map_set]
theorem ixN_n {n j : Nat} {z : Int} (e : z = (j : Int)) (h : j < n) : ixN n z = some j := by
  subst e
  unfold ixN
  rw [if_pos (by omega), if_pos (by omega)]
  rfl
structure Mat (H0 H : Hp) (M : Addr) (ras : List Addr) (g : Nat → Nat → Nat) (m : Nat) : Prop where
  lst : H M = some (.lst (ras.map V.ref))
  new : H0 M = none
  nd : ras.Nodup
  far : ∀ ra ∈ ras, H0 ra = none ∧ ra ≠ M
  row : ∀ (r : Nat) (ra : Addr), ras[r]? = some ra → H ra = some (.lst (nvs (rw_ (g r) m)))
theorem Mat.at_ {H0 H : Hp} {M : Addr} {ras : List Addr} {g : Nat → Nat → Nat} {m : Nat} (h : Mat H0 H M ras g m) {r : Nat} (hr : r < ras.length) : ∃ ra, ras[r]? = some ra ∧ (ras.map V.ref)[r]? = some (.ref ra) ∧ H ra = some (.lst (nvs (rw_ (g r) m))) := by
  have e := List.getElem?_eq_getElem hr
  exact ⟨ras[r], e, by rw [List.getElem?_map, e]; rfl, h.row r _ e⟩
theorem Mat.congr {H0 H : Hp} {M : Addr} {ras : List Addr} {g g' : Nat → Nat → Nat} {m : Nat} (h : Mat H0 H M ras g m) (e : ∀ r c, r < ras.length → c < m → g r c = g' r c) : Mat H0 H M ras g' m :=
  ⟨h.lst, h.new, h.nd, h.far, fun r ra q => by rw [h.row r ra q, rw_congr fun c hc => e r c (List.getElem?_eq_some_iff.mp q).1 hc]⟩
theorem Mat.set {H0 H : Hp} {M : Addr} {ras : List Addr} {g : Nat → Nat → Nat} {m : Nat} (h : Mat H0 H M ras g m) {i j v : Nat} {ra : Addr} (hi : ras[i]? = some ra) :
    Mat H0 (upd H ra (.lst ((nvs (rw_ (g i) m)).set j (nv v)))) M ras (fun r c => if r = i ∧ c = j then v else g r c) m := by
  have hm := h.far ra (List.mem_of_getElem? hi)
  refine ⟨by rw [upd_ne hm.2.symm]; exact h.lst, h.new, h.nd, h.far, fun r rb q => ?_⟩
  by_cases e : r = i
  · subst e
    have : rb = ra := Option.some.inj (q.symm.trans hi)
    subst this
    rw [upd_same, nvs_set, rw_set, rw_congr (g := fun c => if r = r ∧ c = j then v else g r c) fun c hc => ?_]
    by_cases ec : c = j
    · rw [if_pos ec, if_pos ⟨rfl, ec⟩]
    · rw [if_neg ec, if_neg (fun z => ec z.2)]
  · have hne : rb ≠ ra := fun z => e (nd_ix h.nd (z ▸ q) hi)
    rw [upd_ne hne, h.row r rb q, rw_congr fun c hc => ?_]
    rw [if_neg (fun z => e z.1)]
def ent (a b : Hist.Doc) (r c : Nat) : Nat := lcs (a.drop r) (b.drop c)
theorem tab_rows (a b : Hist.Doc) : tab a b = (List.range (a.length + 1)).map fun r => rw_ (ent a b r) (b.length + 1) := by
  apply List.ext_getElem?
  intro r
  by_cases hr : r ≤ a.length
  · rw [tab_get a b r hr, List.getElem?_map, List.getElem?_range (by omega)]
    show some _ = some _
    congr 1
    apply List.ext_getElem?
    intro c
    by_cases hc : c ≤ b.length
    · rw [row_get _ b c hc, rw_get _ (by omega)]
      rfl
    · rw [List.getElem?_eq_none (by rw [List.length_map, tls_len]; omega), List.getElem?_eq_none (by rw [rw_len]; omega)]
  · rw [List.getElem?_eq_none (by rw [tab_len]; omega), List.getElem?_eq_none (by rw [List.length_map, List.length_range]; omega)]
theorem Mat.doc {H0 H : Hp} {M : Addr} {ras : List Addr} {a b : Hist.Doc} (h : Mat H0 H M ras (ent a b) (b.length + 1)) (hl : ras.length = a.length + 1) : DocV H (.ref M) (tab a b) := by
  refine ⟨M, _, rfl, h.lst, by rw [List.length_map, hl, tab_len], fun r x y ex ey => ?_⟩
  have hr : r < ras.length := by
    have := (List.getElem?_eq_some_iff.mp ex).1
    rw [List.length_map] at this
    exact this
  obtain ⟨ra, _, e2, e3⟩ := h.at_ hr
  have : x = .ref ra := Option.some.inj (ex.symm.trans e2)
  subst this
  rw [tab_rows, List.getElem?_map, List.getElem?_range (by omega)] at ey
  have : rw_ (ent a b r) (b.length + 1) = y := Option.some.inj ey
  subst this
  exact ⟨ra, rfl, e3⟩
theorem drop_at {α : Type} {l : List α} {i : Nat} {x : α} (h : l[i]? = some x) : l.drop i = x :: l.drop (i + 1) := by
  obtain ⟨hl, e⟩ := List.getElem?_eq_some_iff.mp h
  rw [List.drop_eq_getElem_cons hl, e]
def spMost : Sp := fun vs H Q _ => ∃ (u v : V) (a b : Hist.Doc), vs = [u, v] ∧ DocV H u a ∧ DocV H v b ∧ a.length ≤ 64 ∧ b.length ≤ 64 ∧ ∀ H' p, Same H H' → DocV H' (.ref p) (tab a b) → Q (.ref p) H'
theorem ok_most_kept (T : Txt mg) {f : Addr} {fd : FuncData} (F : Fun K "most_kept" "most_kept" s_most_kept f fd) : FnOk P w K mg base CX0 1 f fd ["a", "b"] spMost := by
  refine F.ok sc_most_kept (fun vs H Q E h => ?_) (fun cdv A outer s H vs Q E hr h => ?_)
  · obtain ⟨u, v, a, b, rfl, _⟩ := h
    rfl
  · obtain ⟨u, v, a, b, rfl, ⟨aa, as, rfl, haa, has⟩, ⟨bb, bs, rfl, hbb, hbs⟩, hla, hlb, q⟩ := h
    have la : as.length = a.length := has.len
    have lb : bs.length = b.length := hbs.len
    refine ⟨_, (pss_cons (ps_setLc (i := 2) (own := [("place", 5)]) (g := gName 5) rfl sc_most_kept.nd rfl rfl (sw_true rfl rfl rfl (by decide +kernel)) (pi_range1 (by rfl) T.m_range (pa_cons (pe_op op_add (pe_callB call_len_seq (by rfl) T.m_len PySem.boot_len (pa_cons (pv 0) pa_nil)) pe_int) pa_nil)) (blkOk_by (own := [("place", 5)]) (N := N_most_kept) (sc := defScope s_most_kept) (by decide +kernel)) (fun _ _ _ _ _ => pg_name (i := 5) sc_most_kept.nd rfl (Or.inl rfl)) (fun _ _ _ _ _ => pts_nil) (fun _ _ _ _ _ => (pe_op op_rep (pe_lst (pa_cons pe_int pa_nil)) (pe_op op_add (pe_callB (call_lenK K) (by rfl) T.m_len PySem.boot_len (pa_cons (pv 1) pa_nil)) pe_int))))
      (pss_cons (ps_for PassesOwn.never rfl (pi_range3 (by rfl) T.m_range (pa_cons (pe_op op_sub (pe_callB call_len_seq (by rfl) T.m_len PySem.boot_len (pa_cons (pv 0) pa_nil)) pe_int) (pa_cons (pe_un un_neg pe_int) (pa_cons (pe_un un_neg pe_int) pa_nil)))) (pg_name (i := 3) sc_most_kept.nd rfl (Or.inl rfl)) (pss_one (ps_for PassesOwn.never rfl (pi_range3 (by rfl) T.m_range (pa_cons (pe_op op_sub (pe_callB call_len_seq (by rfl) T.m_len PySem.boot_len (pa_cons (pv 1) pa_nil)) pe_int) (pa_cons (pe_un un_neg pe_int) (pa_cons (pe_un un_neg pe_int) pa_nil)))) (pg_name (i := 4) sc_most_kept.nd rfl (Or.inl rfl)) (pss_one (ps_if (pt_cmpR (op_eqD hr.units) (pe_ix ix_list (pv 0) (pv 3) (fun _ _ => rfl)) (pe_ix ix_list (pv 1) (pv 4) (fun _ _ => rfl)) (nomark _)) (pss_one (ps_asg (pe_op op_add (pe_ix ix_list (pe_ix ix_list (pv 2) (pe_op op_add (pv 3) pe_int) (fun _ _ => rfl)) (pe_op op_add (pv 4) pe_int) (fun _ _ => rfl)) pe_int) (pg_sub (pe_ix ix_list (pv 2) (pv 3) (fun _ _ => rfl)) (pv 4) set_list))) (pss_one (ps_asg (pe_callB (call_max2 rfl) (by rfl) T.m_max (by decide +kernel) (pa_cons (pe_ix ix_list (pe_ix ix_list (pv 2) (pe_op op_add (pv 3) pe_int) (fun _ _ => rfl)) (pv 4) (fun _ _ => rfl)) (pa_cons (pe_ix ix_list (pe_ix ix_list (pv 2) (pv 3) (fun _ _ => rfl)) (pe_op op_add (pv 4) pe_int) (fun _ _ => rfl)) pa_nil))) (pg_sub (pe_ix ix_list (pv 2) (pv 3) (fun _ _ => rfl)) (pv 4) set_list))))))))
      (pss_one (ps_ret (pv 2))))), ?_⟩
    refine ⟨_, rfl, aa, as, rfl, .inl (SqL.of haa), _, _, rfl, rfl, _, rfl, ?_, ?_, fun M hM => ?_⟩
    · omega
    · omega
    refine lc_range (lo := 0) (n := as.length + 1) (fun i H' => Same H H' ∧ ∃ ras : List Addr, ras.length = i ∧ Mat H H' M ras (fun _ _ => 0) (b.length + 1)) ⟨same_upd hM, [], rfl, ⟨upd_same, hM, List.nodup_nil, (fun _ z => by cases z), (fun r ra z => by cases z)⟩⟩ (fun i H' hi p => ?_) (fun H1 p => ?_)
    · obtain ⟨s5, ras, l5, m5⟩ := p
      refine ⟨rfl, (by show 1 ≤ sizeLine; decide), fun p np => ?_⟩
      refine ⟨_, rfl, bb, bs, rfl, .inl (SqL.of (same_upd np _ _ (s5 _ _ hbb))), _, _, rfl, rfl, p, _, _, rfl, rfl, upd_same, ?_, ?_, ?_, fun r nr => ?_⟩
      · omega
      · show ((bs.length : Int) + 1) < 2 ^ 63
        omega
      · exact size_le (by show 1 * ((bs.length : Int) + 1).toNat ≤ 10000000; omega)
      have hrM : M ≠ r := fun z => by
        rw [← z, upd_ne (ne_of_none m5.lst np), m5.lst] at nr
        cases nr
      have hrH : H r = none := s5.free ((same_upd np).free nr)
      have lst2 : (upd (upd H' p (.lst [V.int 0])) r (.lst (List.replicate ((bs.length : Int) + 1).toNat [V.int 0]).flatten)) M = some (.lst (ras.map V.ref)) := by
        rw [upd_ne hrM, upd_ne (ne_of_none m5.lst np)]
        exact m5.lst
      refine ⟨ras.map V.ref, lst2, ?_, same_in (same_in (same_in s5 (s5.free np)) hrH) hM, ras ++ [r], by rw [List.length_append, l5]; rfl, ?_⟩
      · rw [List.length_map, l5]
        exact size_lt' (by omega)
      have hnew : r ∉ ras := fun hz => by
        obtain ⟨k, hk⟩ := List.getElem?_of_mem hz
        have := m5.row k r hk
        rw [upd_ne (ne_of_none this np), this] at nr
        cases nr
      refine ⟨by rw [upd_same, List.map_append]; rfl, hM, nd_snoc m5.nd hnew, fun ra hra => ?_, fun k ra hk => ?_⟩
      · rcases List.mem_append.mp hra with z | z
        · exact m5.far ra z
        · have : ra = r := by simpa using z
          subst this
          exact ⟨hrH, hrM.symm⟩
      · by_cases hk2 : k < ras.length
        · rw [List.getElem?_append_left hk2] at hk
          have e1 := m5.row k ra hk
          rw [upd_ne (m5.far ra (List.mem_of_getElem? hk)).2, upd_ne (show ra ≠ r from fun z => hnew (by rw [← z]; exact List.mem_of_getElem? hk)), upd_ne (ne_of_none e1 np)]
          exact e1
        · have hk3 : k = ras.length := by
            have := (List.getElem?_eq_some_iff.mp hk).1
            rw [List.length_append] at this
            simp only [List.length_cons, List.length_nil] at this
            omega
          rw [hk3, List.getElem?_append_right (Nat.le_refl _), Nat.sub_self] at hk
          have : r = ra := Option.some.inj hk
          subst this
          rw [upd_ne hrM.symm, upd_same]
          have e1 : ((bs.length : Int) + 1).toNat = b.length + 1 := by omega
          rw [e1]
          congr 2
          show (List.replicate (b.length + 1) [V.int 0]).flatten = nvs (rw_ (fun _ => 0) (b.length + 1))
          unfold nvs rw_
          rw [List.map_map]
          have : ((nv ∘ fun _ => 0) : Nat → V) = fun _ => V.int 0 := rfl
          rw [this, List.map_const', List.length_range]
          have : ∀ n, (List.replicate n [V.int 0]).flatten = List.replicate n (V.int 0) := by
            intro n
            induction n with
            | zero => rfl
            | succ n ih => rw [List.replicate_succ, List.flatten_cons, ih]; rfl
          exact this _
    · obtain ⟨s5, ras, l5, m5⟩ := p
      have hR : RgC ((as.length : Int) - 1) (-1) (-1) as.length := by
        have := RgC.neg (i := (as.length : Int) - 1) (j := -1) (by omega) (by omega) (by omega) (by omega)
        rwa [show ((as.length : Int) - 1 - -1).toNat = as.length by omega] at this
      have hR2 : RgC ((bs.length : Int) - 1) (-1) (-1) bs.length := by
        have := RgC.neg (i := (bs.length : Int) - 1) (j := -1) (by omega) (by omega) (by omega) (by omega)
        rwa [show ((bs.length : Int) - 1 - -1).toNat = bs.length by omega] at this
      refine ⟨_, rfl, aa, as, rfl, .inl (SqL.of (s5 _ _ haa)), _, _, rfl, rfl, _, rfl, _, rfl, _, _, _, as.length, rfl, hR, ?_⟩
      refine for_rangeC (lo := (as.length : Int) - 1) (c := -1) (n := as.length) (fun t σ H' => ∃ x y, σ = [some (.ref aa), some (.ref bb), some (.ref M), x, y, none] ∧ Same H H' ∧ Mat H H' M ras (fun r c => if a.length - t ≤ r then ent a b r c else 0) (b.length + 1)) ⟨none, none, rfl, s5, ?_⟩ ?_ ?_
      · refine m5.congr fun r c hr hc => ?_
        by_cases e : a.length - 0 ≤ r
        · rw [if_pos e]
          unfold ent
          rw [List.drop_eq_nil_of_le (by omega), lcs_nil]
        · rw [if_neg e]
      · rintro t σ H2 ht ⟨x, y, rfl, s6, m6⟩
        have hi : ((as.length : Int) - 1 + (t : Nat) * -1) = ((a.length - 1 - t : Nat) : Int) := by omega
        refine ⟨_, rfl, bb, bs, rfl, .inl (SqL.of (s6 _ _ hbb)), _, _, rfl, rfl, _, rfl, _, rfl, _, _, _, bs.length, rfl, hR2, ?_⟩
        refine for_rangeC (lo := (bs.length : Int) - 1) (c := -1) (n := bs.length) (fun t2 σ H' => ∃ y, σ = [some (.ref aa), some (.ref bb), some (.ref M), some (.int ((as.length : Int) - 1 + (t : Nat) * -1)), y, none] ∧ Same H H' ∧ Mat H H' M ras (fun r c => if a.length - t ≤ r ∨ (r = a.length - 1 - t ∧ b.length - t2 ≤ c) then ent a b r c else 0) (b.length + 1)) ⟨y, rfl, s6, ?_⟩ ?_ ?_
        · refine m6.congr fun r c hr hc => ?_
          by_cases e : a.length - t ≤ r
          · rw [if_pos e, if_pos (.inl e)]
          · rw [if_neg e]
            by_cases e2 : r = a.length - 1 - t ∧ b.length - 0 ≤ c
            · rw [if_pos (.inr e2)]
              unfold ent
              rw [List.drop_eq_nil_of_le (as := b) (by omega), lcs_nil2]
            · rw [if_neg (by rintro (z | z); exact e z; exact e2 z)]
        · rintro t2 σ H3 ht2 ⟨y, rfl, s7, m7⟩
          have hj : ((bs.length : Int) - 1 + (t2 : Nat) * -1) = ((b.length - 1 - t2 : Nat) : Int) := by omega
          have hia : a.length - 1 - t < a.length := by omega
          have hjb : b.length - 1 - t2 < b.length := by omega
          have ga := List.getElem?_eq_getElem hia
          have gb := List.getElem?_eq_getElem hjb
          obtain ⟨av, gav, hav⟩ := has.get ga
          obtain ⟨bv, gbv, hbv⟩ := hbs.get gb
          obtain ⟨ri, hri, hri2, eri⟩ := m7.at_ (r := a.length - 1 - t) (by omega)
          obtain ⟨rj, hrj, hrj2, erj⟩ := m7.at_ (r := a.length - 1 - t + 1) (by omega)
          have ej1 := rw_get (fun c => if a.length - t ≤ a.length - 1 - t + 1 ∨ (a.length - 1 - t + 1 = a.length - 1 - t ∧ b.length - t2 ≤ c) then ent a b (a.length - 1 - t + 1) c else 0) (show b.length - 1 - t2 + 1 < b.length + 1 by omega)
          have ej0 := rw_get (fun c => if a.length - t ≤ a.length - 1 - t + 1 ∨ (a.length - 1 - t + 1 = a.length - 1 - t ∧ b.length - t2 ≤ c) then ent a b (a.length - 1 - t + 1) c else 0) (show b.length - 1 - t2 < b.length + 1 by omega)
          have ei1 := rw_get (fun c => if a.length - t ≤ a.length - 1 - t ∨ (a.length - 1 - t = a.length - 1 - t ∧ b.length - t2 ≤ c) then ent a b (a.length - 1 - t) c else 0) (show b.length - 1 - t2 + 1 < b.length + 1 by omega)
          rw [if_pos (.inl (by omega))] at ej1 ej0
          rw [if_pos (.inr ⟨rfl, by omega⟩)] at ei1
          have hent : ent a b (a.length - 1 - t) (b.length - 1 - t2) = if a[a.length - 1 - t] = b[b.length - 1 - t2] then ent a b (a.length - 1 - t + 1) (b.length - 1 - t2 + 1) + 1 else max (ent a b (a.length - 1 - t + 1) (b.length - 1 - t2)) (ent a b (a.length - 1 - t) (b.length - 1 - t2 + 1)) := by
            unfold ent
            rw [drop_at ga, drop_at gb, lcs_cons]
          have fin : ∀ v, v = ent a b (a.length - 1 - t) (b.length - 1 - t2) → Mat H (upd H3 ri (.lst ((nvs (rw_ (fun c => if a.length - t ≤ a.length - 1 - t ∨ (a.length - 1 - t = a.length - 1 - t ∧ b.length - t2 ≤ c) then ent a b (a.length - 1 - t) c else 0) (b.length + 1))).set (b.length - 1 - t2) (nv v)))) M ras (fun r c => if a.length - t ≤ r ∨ (r = a.length - 1 - t ∧ b.length - (t2 + 1) ≤ c) then ent a b r c else 0) (b.length + 1) := fun v hv => by
            refine (m7.set (j := b.length - 1 - t2) (v := v) hri).congr fun r c hr hc => ?_
            by_cases e : r = a.length - 1 - t ∧ c = b.length - 1 - t2
            · rw [if_pos e, if_pos (.inr ⟨e.1, by omega⟩), hv, e.1, e.2]
            · rw [if_neg e]
              by_cases e2 : a.length - t ≤ r ∨ (r = a.length - 1 - t ∧ b.length - t2 ≤ c)
              · rw [if_pos e2, if_pos (by rcases e2 with z | z; exact .inl z; exact .inr ⟨z.1, by omega⟩)]
              · rw [if_neg e2, if_neg (by
                  rintro (z | z)
                  · exact e2 (.inl z)
                  · by_cases ec : c = b.length - 1 - t2
                    · exact e ⟨z.1, ec⟩
                    · exact e2 (.inr ⟨z.1, by omega⟩))]
          refine ⟨_, rfl, _, rfl, aa, as, _, av, rfl, rfl, SqL.of (s7 _ _ haa), atI_n hi gav, _, rfl, _, rfl, bb, bs, _, bv, rfl, rfl, SqL.of (s7 _ _ hbb), atI_n hj gbv, dL a[a.length - 1 - t], dL b[b.length - 1 - t2], dp_L (hav.same s7), dp_L (hbv.same s7), sh_L _, sh_L _, _, rfl, ?_⟩
          rw [eqv_dL]
          refine if_dec (fun c => ?_) (fun c => ?_)
          · refine ⟨_, rfl, _, rfl, _, _, rfl, rfl, M, _, _, _, rfl, rfl, SqL.of m7.lst, atI_n (by omega) hrj2, _, rfl, _, _, rfl, rfl, rj, _, _, _, rfl, rfl, SqL.of erj, atI_n (by omega) (nvs_get ej1), _, _, rfl, rfl, _, rfl, _, rfl, M, _, _, _, rfl, rfl, SqL.of m7.lst, atI_n hi hri2, _, rfl, ri, _, _, _, rfl, rfl, eri, ixN_n hj (by rw [nvs_len, rw_len]; omega), ?_⟩
            refine ⟨_, rfl, same_in s7 (m7.far ri (List.mem_of_getElem? hri)).1, fin _ ?_⟩
            rw [hent, if_pos c]
          · refine ⟨_, rfl, _, rfl, _, _, rfl, rfl, M, _, _, _, rfl, rfl, SqL.of m7.lst, atI_n (by omega) hrj2, _, rfl, rj, _, _, _, rfl, rfl, SqL.of erj, atI_n hj (nvs_get ej0), _, rfl, _, rfl, M, _, _, _, rfl, rfl, SqL.of m7.lst, atI_n hi hri2, _, rfl, _, _, rfl, rfl, ri, _, _, _, rfl, rfl, SqL.of eri, atI_n (by omega) (nvs_get ei1), _, _, rfl, ?_⟩
            have hmax : V.int (if ((ent a b (a.length - 1 - t) (b.length - 1 - t2 + 1) : Nat) : Int) > ((ent a b (a.length - 1 - t + 1) (b.length - 1 - t2) : Nat) : Int) then ((ent a b (a.length - 1 - t) (b.length - 1 - t2 + 1) : Nat) : Int) else ((ent a b (a.length - 1 - t + 1) (b.length - 1 - t2) : Nat) : Int)) = nv (ent a b (a.length - 1 - t) (b.length - 1 - t2)) := by
              rw [hent, if_neg c]
              unfold nv
              congr 1
              split <;> omega
            refine ⟨_, rfl, _, rfl, M, _, _, _, rfl, rfl, SqL.of m7.lst, atI_n hi hri2, _, rfl, ri, _, _, _, rfl, rfl, eri, ixN_n hj (by rw [nvs_len, rw_len]; omega), ?_⟩
            refine ⟨_, rfl, same_in s7 (m7.far ri (List.mem_of_getElem? hri)).1, ?_⟩
            have := fin _ rfl
            rw [← hmax] at this
            exact this
        · rintro σ H3 ⟨y, rfl, s7, m7⟩
          refine ⟨_, _, rfl, s7, m7.congr fun r c hr hc => ?_⟩
          by_cases e : a.length - t ≤ r ∨ (r = a.length - 1 - t ∧ b.length - bs.length ≤ c)
          · rw [if_pos e, if_pos (by rcases e with z | z <;> omega)]
          · rw [if_neg e, if_neg (fun z => e (by
              by_cases e3 : a.length - t ≤ r
              · exact .inl e3
              · exact .inr ⟨by omega, by omega⟩))]
      · rintro σ H2 ⟨x, y, rfl, s6, m6⟩
        refine ⟨_, rfl, q H2 M s6 ?_⟩
        refine Mat.doc (m6.congr fun r c hr hc => ?_) (by rw [l5, la])
        rw [if_pos (by omega)]

end
end Tb

namespace Tb
open PySem PySem.Spec PyProof.Rows L2
section
variable {P : Program} {w : World} {K : PySem.W.Frag} {mg : Str → Option Value} {base : Heap}
open TbM
theorem flat1 (v : V) : ∀ n, (List.replicate n [v]).flatten = List.replicate n v
  | 0 => rfl
  | n + 1 => by rw [List.replicate_succ, List.flatten_cons, flat1 v n]; rfl
theorem nvs_rep (n c : Nat) : nvs (List.replicate n c) = List.replicate n (nv c) := by
  unfold nvs
  rw [List.map_replicate]
theorem rep_c (n c : Nat) : (List.replicate n [V.int (c : Int)]).flatten = nvs (List.replicate n c) := by
  rw [flat1, nvs_rep]
  rfl
theorem free_upd {H : Hp} {p r : Addr} {o : HO} (h : upd H p o r = none) : H r = none := by
  unfold upd at h
  by_cases e : r = p
  · rw [if_pos e] at h
    cases h
  · rwa [if_neg e] at h
/-! ### way_between -/
def spWay : Sp := fun vs H Q _ => ∃ (u v : V) (a b : Hist.Doc), vs = [u, v] ∧ DocV H u a ∧ DocV H v b ∧ a.length ≤ 64 ∧ b.length ≤ 64 ∧ ∀ H' p, Same H H' → H p = none → H' p = some (.lst (nvs (wn a b))) → Q (.ref p) H'
theorem ok_way_between (T : Txt mg) {f : Addr} {fd : FuncData} (F : Fun K "way_between" "way_between" s_way_between f fd) (c_most_kept : Cal P w K mg base 1 "most_kept" spMost) : FnOk P w K mg base CX0 2 f fd ["a", "b"] spWay := by
  refine F.ok sc_way_between (fun vs H Q E h => ?_) (fun cdv A outer s H vs Q E hr h => ?_)
  · obtain ⟨u, v, a, b, rfl, _⟩ := h
    rfl
  · obtain ⟨u, v, a, b, rfl, hda, hdb, hla, hlb, q⟩ := h
    have hda' := hda
    have hdb' := hdb
    obtain ⟨aa, as, rfl, haa, has⟩ := hda
    obtain ⟨bb, bs, rfl, hbb, hbs⟩ := hdb
    have la : as.length = a.length := has.len
    have lb : bs.length = b.length := hbs.len
    refine ⟨_, (pss_cons (ps_set (i := 2) sc_way_between.nd rfl (Or.inl rfl) (pe_c c_most_kept hr (by decide) (by rfl) (pa_cons (pv 0) (pa_cons (pv 1) pa_nil))))
      (pss_cons (ps_set (i := 3) sc_way_between.nd rfl (Or.inl rfl) (pe_lst pa_nil))
      (pss_cons (ps_set (i := 4) sc_way_between.nd rfl (Or.inl rfl) pe_int)
      (pss_cons (ps_set (i := 5) sc_way_between.nd rfl (Or.inl rfl) pe_int)
      (pss_cons (ps_while PassesOwn.never (PW.pt (pw_and (pt_cmpR op_lt (pv 4) (pe_callB call_len_seq (by rfl) T.m_len PySem.boot_len (pa_cons (pv 0) pa_nil)) (nomark _)) (pw_and1 (pt_cmpR op_lt (pv 5) (pe_callB call_len_seq (by rfl) T.m_len PySem.boot_len (pa_cons (pv 1) pa_nil)) (nomark _))))) (pss_one (ps_if (pt_cmpR (op_eqD hr.units) (pe_ix ix_list (pv 0) (pv 4) (fun _ _ => rfl)) (pe_ix ix_list (pv 1) (pv 5) (fun _ _ => rfl)) (nomark _)) (pss_cons (ps_expr (pe_bm PySem.F.plainAttrs_list PySem.F.slot_list_append PySem.F.type_list_append mt_append (pv 3) (pa_cons (pe_gi (by rfl) T.gKEPT) pa_nil)))
      (pss_cons (ps_set (i := 4) sc_way_between.nd rfl (Or.inl rfl) (pe_op op_add (pv 4) pe_int))
      (pss_one (ps_set (i := 5) sc_way_between.nd rfl (Or.inl rfl) (pe_op op_add (pv 5) pe_int))))) (pss_one (ps_if (pt_cmpR op_ge (pe_ix ix_list (pe_ix ix_list (pv 2) (pe_op op_add (pv 4) pe_int) (fun _ _ => rfl)) (pv 5) (fun _ _ => rfl)) (pe_ix ix_list (pe_ix ix_list (pv 2) (pv 4) (fun _ _ => rfl)) (pe_op op_add (pv 5) pe_int) (fun _ _ => rfl)) (nomark _)) (pss_cons (ps_expr (pe_bm PySem.F.plainAttrs_list PySem.F.slot_list_append PySem.F.type_list_append mt_append (pv 3) (pa_cons (pe_gi (by rfl) T.gDROPPED) pa_nil)))
      (pss_one (ps_set (i := 4) sc_way_between.nd rfl (Or.inl rfl) (pe_op op_add (pv 4) pe_int)))) (pss_cons (ps_expr (pe_bm PySem.F.plainAttrs_list PySem.F.slot_list_append PySem.F.type_list_append mt_append (pv 3) (pa_cons (pe_gi (by rfl) T.gADDED) pa_nil)))
      (pss_one (ps_set (i := 5) sc_way_between.nd rfl (Or.inl rfl) (pe_op op_add (pv 5) pe_int)))))))))
      (pss_one (ps_ret (pe_op op_cat (pe_op op_cat (pv 3) (pe_op op_rep (pe_lst (pa_cons (pe_gi (by rfl) T.gDROPPED) pa_nil)) (pe_op op_sub (pe_callB call_len_seq (by rfl) T.m_len PySem.boot_len (pa_cons (pv 0) pa_nil)) (pv 4)))) (pe_op op_rep (pe_lst (pa_cons (pe_gi (by rfl) T.gADDED) pa_nil)) (pe_op op_sub (pe_callB call_len_seq (by rfl) T.m_len PySem.boot_len (pa_cons (pv 1) pa_nil)) (pv 5))))))))))), ?_⟩
    refine ⟨_, rfl, _, rfl, _, _, a, b, rfl, hda', hdb', hla, hlb, fun H1 M s1 hM => ?_⟩
    obtain ⟨M', ms, eM, eM2, hms⟩ := hM
    cases eM
    refine ⟨Nat.zero_le _, fun S nS => ?_⟩
    refine ⟨fun m σ H' => ∃ (i j : Nat) (done : List Nat), σ = [some (.ref aa), some (.ref bb), some (.ref M), some (.ref S), some (nv i), some (nv j)] ∧ Same H1 H' ∧ H' S = some (.lst (nvs done)) ∧ done ++ wn (a.drop i) (b.drop j) = wn a b ∧ i ≤ a.length ∧ j ≤ b.length ∧ m = (a.length - i) + (b.length - j),
      ⟨_, 0, 0, [], rfl, same_upd nS, upd_same, rfl, Nat.zero_le _, Nat.zero_le _, rfl⟩, ?_⟩
    rintro m σ H' ⟨i, j, done, rfl, s5, e5, q5, hi, hj, rfl⟩
    have hdl : done.length ≤ 128 := by
      have e := congrArg List.length q5
      rw [List.length_append] at e
      have := wn_len a b
      omega
    have haa5 := s5 _ _ (s1 _ _ haa)
    have hbb5 := s5 _ _ (s1 _ _ hbb)
    refine ⟨_, rfl, _, rfl, aa, as, rfl, .inl (SqL.of haa5), _, _, rfl, rfl, _, rfl, ?_⟩
    refine if_dec (fun c1 => ⟨_, rfl, _, rfl, bb, bs, rfl, .inl (SqL.of hbb5), _, _, rfl, rfl, _, rfl, if_dec (fun c2 => ?_) (fun c2 => ?_)⟩) (fun c1 => ?_)
    · have hia : i < a.length := by omega
      have hjb : j < b.length := by omega
      have ga := List.getElem?_eq_getElem hia
      have gb := List.getElem?_eq_getElem hjb
      obtain ⟨av, gav, hav⟩ := has.get ga
      obtain ⟨bv, gbv, hbv⟩ := hbs.get gb
      have ds : done.length < sizeLine := size_lt' (by omega)
      rw [drop_at ga, drop_at gb, wn_both] at q5
      refine ⟨fun σ' H'' => ∃ (i' j' : Nat) (done' : List Nat), σ' = [some (.ref aa), some (.ref bb), some (.ref M), some (.ref S), some (nv i'), some (nv j')] ∧ Same H1 H'' ∧ H'' S = some (.lst (nvs done')) ∧ done' ++ wn (a.drop i') (b.drop j') = wn a b ∧ i' ≤ a.length ∧ j' ≤ b.length ∧ (a.length - i') + (b.length - j') < (a.length - i) + (b.length - j),
        fun σ' H'' ⟨i', j', done', h1, h2, h3, h4, h5, h6, h7⟩ => ⟨_, h7, i', j', done', h1, h2, h3, h4, h5, h6, rfl⟩, ?_⟩
      refine ⟨_, rfl, _, rfl, aa, as, _, av, rfl, rfl, SqL.of haa5, atI_n rfl gav, _, rfl, _, rfl, bb, bs, _, bv, rfl, rfl, SqL.of hbb5, atI_n rfl gbv, dL a[i], dL b[j], dp_L (hav.same (s1.trans s5)), dp_L (hbv.same (s1.trans s5)), sh_L _, sh_L _, _, rfl, ?_⟩
      rw [eqv_dL]
      refine if_dec (fun c => ?_) (fun c => ?_)
      · refine ⟨_, rfl, .inl ⟨rfl, _, SqL.of e5⟩, S, _, _, rfl, rfl, e5, by rw [nvs_len]; exact ds, ?_⟩
        refine ⟨_, rfl, _, _, rfl, rfl, _, rfl, _, _, rfl, rfl, i + 1, j + 1, done ++ [0], rfl, same_in s5 nS, ?_, ?_, hia, hjb, by omega⟩
        · rw [upd_same, ← nvs_snoc]
          rfl
        · rw [if_pos c] at q5
          rw [← q5, List.append_assoc]
          rfl
      · rw [if_neg c] at q5
        have hR1 : (tab a b)[i + 1]? = some ((tls b).map fun b' => lcs (a.drop (i + 1)) b') := tab_get a b (i + 1) (by omega)
        have hR0 : (tab a b)[i]? = some ((tls b).map fun b' => lcs (a.drop i) b') := tab_get a b i (by omega)
        obtain ⟨r1, g1, x1, rfl, k1⟩ := hms.get hR1
        obtain ⟨r0, g0, x0, rfl, k0⟩ := hms.get hR0
        have e1 := row_get (a.drop (i + 1)) b j (by omega)
        have e0 := row_get (a.drop i) b (j + 1) (by omega)
        refine ⟨_, rfl, _, rfl, _, _, rfl, rfl, M, ms, _, _, rfl, rfl, SqL.of (s5 _ _ eM2), atI_n (by omega) g1, _, rfl, x1, _, _, _, rfl, rfl, SqL.of (s5 _ _ k1), atI_n rfl (nvs_get e1), _, rfl, _, rfl, M, ms, _, _, rfl, rfl, SqL.of (s5 _ _ eM2), atI_n rfl g0, _, rfl, _, _, rfl, rfl, x0, _, _, _, rfl, rfl, SqL.of (s5 _ _ k0), atI_n (by omega) (nvs_get e0), _, _, rfl, rfl, _, rfl, ?_⟩
        rw [← drop_at ga, ← drop_at gb] at q5
        refine if_dec (fun c3 => ?_) (fun c3 => ?_)
        · refine ⟨_, rfl, .inl ⟨rfl, _, SqL.of e5⟩, S, _, _, rfl, rfl, e5, by rw [nvs_len]; exact ds, ?_⟩
          refine ⟨_, rfl, _, _, rfl, rfl, i + 1, j, done ++ [1], rfl, same_in s5 nS, ?_, ?_, hia, hj, by omega⟩
          · rw [upd_same, ← nvs_snoc]
            rfl
          · rw [if_pos (by omega)] at q5
            rw [← q5, List.append_assoc]
            rfl
        · refine ⟨_, rfl, .inl ⟨rfl, _, SqL.of e5⟩, S, _, _, rfl, rfl, e5, by rw [nvs_len]; exact ds, ?_⟩
          refine ⟨_, rfl, _, _, rfl, rfl, i, j + 1, done ++ [2], rfl, same_in s5 nS, ?_, ?_, hi, hjb, by omega⟩
          · rw [upd_same, ← nvs_snoc]
            rfl
          · rw [if_neg (by omega)] at q5
            rw [← q5, List.append_assoc]
            rfl
    all_goals
      have hend : wn (a.drop i) (b.drop j) = List.replicate (a.length - i) 1 ++ List.replicate (b.length - j) 2 := by
        by_cases ei : i = a.length
        · rw [ei, List.drop_length, wn_nil_left, Nat.sub_self, List.length_drop]
          rfl
        · have ej : j = b.length := by omega
          rw [ej, List.drop_length, wn_nil_right, Nat.sub_self, List.length_drop]
          simp
      have t1 : ((as.length : Int) - (i : Int)).toNat = a.length - i := by omega
      have t2 : ((bs.length : Int) - (j : Int)).toNat = b.length - j := by omega
      refine ⟨_, rfl, (by show 1 ≤ sizeLine; decide), fun p1 n1 => ⟨_, rfl, aa, as, rfl, .inl (SqL.of (same_upd n1 _ _ haa5)), _, rfl, _, _, rfl, rfl, p1, _, _, rfl, rfl, upd_same, by omega, by omega, ?_, fun r1 nr1 => ?_⟩⟩
      · rw [t1]
        exact size_le (by show 1 * (a.length - i) ≤ 10000000; omega)
      have e6 := same_upd nr1 (o := .lst (List.replicate ((as.length : Int) - (i : Int)).toNat [V.int 1]).flatten) _ _ (same_upd n1 (o := .lst [V.int 1]) _ _ e5)
      have sm6 := s5.trans ((same_upd n1 (o := .lst [V.int 1])).trans (same_upd nr1 (o := .lst (List.replicate ((as.length : Int) - (i : Int)).toNat [V.int 1]).flatten)))
      refine ⟨S, r1, _, _, rfl, rfl, e6, upd_same, ?_, fun c1' nc1 => ?_⟩
      · rw [flat1, List.length_replicate, nvs_len, t1]
        exact size_le (by omega)
      refine ⟨(by show 1 ≤ sizeLine; decide), fun p2 n2 => ⟨_, rfl, bb, bs, rfl, .inl (SqL.of (same_upd n2 _ _ (same_upd nc1 _ _ (sm6 _ _ (s1 _ _ hbb))))), _, rfl, _, _, rfl, rfl, p2, _, _, rfl, rfl, upd_same, by omega, by omega, ?_, fun r2 nr2 => ?_⟩⟩
      · rw [t2]
        exact size_le (by show 1 * (b.length - j) ≤ 10000000; omega)
      refine ⟨c1', r2, _, _, rfl, rfl, same_upd nr2 _ _ (same_upd n2 _ _ upd_same), upd_same, ?_, fun c2' nc2 => ?_⟩
      · rw [List.length_append, flat1, flat1, List.length_replicate, List.length_replicate, nvs_len, t1, t2]
        exact size_le (by omega)
      refine q _ c2' (s1.trans (sm6.trans ((same_upd nc1).trans ((same_upd n2).trans ((same_upd nr2).trans (same_upd nc2)))))) (s1.free (sm6.free (free_upd (free_upd (free_upd nc2))))) ?_
      rw [upd_same]
      show some (HO.lst ((nvs done ++ (List.replicate ((as.length : Int) - (i : Int)).toNat [V.int ((1 : Nat) : Int)]).flatten) ++ (List.replicate ((bs.length : Int) - (j : Int)).toNat [V.int ((2 : Nat) : Int)]).flatten)) = _
      rw [rep_c, rep_c, nvs_app, nvs_app, t1, t2, List.append_assoc, ← hend, q5]

end
end Tb

namespace Tb
open PySem PySem.Spec PyProof.Rows L2
section
variable {P : Program} {w : World} {K : PySem.W.Frag} {mg : Str → Option Value} {base : Heap}
open TbM
theorem nvk (n : Nat) : kV (Sum.inl (n : Int)) = nv n := rfl
theorem look_snoc (l : List (Nat × Nat)) (p : Nat × Nat) (k : Nat) : look (l ++ [p]) k = if k = p.1 then some p.2 else look l k := by
  unfold look
  rw [List.foldl_append]
  rfl
theorem inl_iff {k j : Nat} : ((Sum.inl (k : Int) : Key) = Sum.inl (j : Int)) ↔ k = j := ⟨fun h => by
  have : (k : Int) = j := Sum.inl.inj h
  omega, fun h => by rw [h]⟩
/-! ### standing_fast -/
def spFast : Sp := fun vs H Q _ => ∃ (x y z : V) (o a b : Hist.Doc), vs = [x, y, z] ∧ DocV H x o ∧ DocV H y a ∧ DocV H z b ∧ o.length ≤ 64 ∧ a.length ≤ 64 ∧ b.length ≤ 64 ∧ ∀ H' p ws, Same H H' → H p = none → H' p = some (.lst ws) → All2 (TripV H') ws (Hist.fast o a b) → Q (.ref p) H'
theorem ok_standing_fast (T : Txt mg) {f : Addr} {fd : FuncData} (F : Fun K "standing_fast" "standing_fast" s_standing_fast f fd) (c_way_between : Cal P w K mg base 2 "way_between" spWay) (c_kept_places : Cal P w K mg base 1 "kept_places" spKept) : FnOk P w K mg base CX0 3 f fd ["o", "a", "b"] spFast := by
  refine F.ok sc_standing_fast (fun vs H Q E h => ?_) (fun cdv A outer s H vs Q E hr h => ?_)
  · obtain ⟨x, y, z, o, a, b, rfl, _⟩ := h
    rfl
  · have hu := hu_of hr
    obtain ⟨x, y, z, o, a, b, rfl, ho, ha, hb, lo, la, lb, q⟩ := h
    refine ⟨_, (pss_cons (ps_set (i := 3) sc_standing_fast.nd rfl (Or.inr rfl) pe_dnewK)
      (pss_cons (ps_for PassesOwn.never rfl (pi_list (pe_c c_kept_places hr (by decide) (by rfl) (pa_cons (pe_c c_way_between hr (by decide) (by rfl) (pa_cons (pv 0) (pa_cons (pv 2) pa_nil))) pa_nil))) (pg_tup rfl (pgs_cons (pg_name (i := 4) sc_standing_fast.nd rfl (Or.inl rfl)) (pgs_cons (pg_name (i := 5) sc_standing_fast.nd rfl (Or.inl rfl)) pgs_nil))) (pss_one (ps_dput hu (pv 3) (pv 4) (pv 5) rfl)))
      (pss_one (ps_ret (pe_lc (own := [("i", 4), ("j", 5)]) (g := gTup K 2 (gCons (gName 4) (gCons (gName 5) gNil))) rfl sc_standing_fast.nd (pi_list (pe_c c_kept_places hr (by decide) (by rfl) (pa_cons (pe_c c_way_between hr (by decide) (by rfl) (pa_cons (pv 0) (pa_cons (pv 1) pa_nil))) pa_nil))) (blkOk_by (own := [("i", 4), ("j", 5)]) (N := N_standing_fast) (sc := defScope s_standing_fast) (by decide +kernel)) (fun _ _ _ _ _ => (pg_tup rfl (pgs_cons (pg_name (i := 4) sc_standing_fast.nd rfl (Or.inl rfl)) (pgs_cons (pg_name (i := 5) sc_standing_fast.nd rfl (Or.inl rfl)) pgs_nil)))) (fun _ _ _ _ _ => pts_one (pt_cmp (pc_din hu (pv 4) (pv 3)))) (fun _ _ _ _ _ => (pe_tup (pa_cons (pv 4) (pa_cons (pv 5) (pa_cons (pe_dget hu (pv 3) (pv 4) (fun _ _ => rfl)) pa_nil)))))))))), ?_⟩
    intro d nd
    have s0 : Same H (upd H d (.dK [])) := same_upd nd
    have wlb := wn_len o b
    have wla := wn_len o a
    refine ⟨_, rfl, _, rfl, _, _, o, b, rfl, ho.same s0, hb.same s0, lo, lb, fun H1 p1 s1 n1 e1 => ⟨_, wn o b, rfl, ⟨p1, rfl, e1⟩, by omega, fun H2 p2 ws s2 n2 e2 a2 => ?_⟩⟩
    have s02 : Same H H2 := s0.trans (s1.trans s2)
    have ed2 : H2 d = some (.dK []) := s2 _ _ (s1 _ _ upd_same)
    refine ⟨p2, rfl, ⟨_, SqL.of e2⟩, for_list (K := K) (a := p2) (xs := ws) (fun n σ H' => ∃ (xi xj : Option V) (kvs : List (Key × V)), σ = [some x, some y, some z, some (.ref d), xi, xj] ∧ Same H H' ∧ (∀ c u, c ≠ d → H2 c = some u → H' c = some u) ∧ H' d = some (.dK kvs) ∧ kvs.length ≤ n ∧ ∀ k : Nat, valV kvs (Sum.inl (k : Int)) = (look ((kpl o b).take n) k).map nv)
      ⟨_, _, [], rfl, s02, fun _ _ _ h => h, ed2, Nat.le_refl _, fun k => rfl⟩ (fun i σ H' _ ⟨_, _, _, _, _, k5, _⟩ => SqL.of (k5 _ _ (ne_of e2 ed2 (fun z => nomatch z)) e2)) ?_ ?_⟩
    · rintro n v σ H' hn ⟨xi, xj, kvs, rfl, s5, k5, d5, l5, v5⟩
      obtain ⟨⟨i, j⟩, hp, tp, rfl, htp⟩ := a2.getL hn
      have hp : (kpl o b)[n]? = some (i, j) := hp
      have hnl : n < (kpl o b).length := (List.getElem?_eq_some_iff.mp hp).1
      have hkl := kpl_len o b
      refine ⟨tp, _, rfl, SqT.of (k5 _ _ (ne_of htp ed2 (fun z => nomatch z)) htp), rfl, _, _, rfl, _, _, rfl, rfl, ?_⟩
      refine ⟨_, rfl, _, rfl, _, rfl, d, _, rfl, DPut.k (k := Sum.inl (i : Int)) d5 (size_lt' (by omega)), ?_⟩
      refine ⟨_, _, _, rfl, same_in s5 nd, fun c u hc e => by rw [upd_ne hc]; exact k5 c u hc e, upd_same, Nat.le_trans (length_putK ..) (by omega), fun k => ?_⟩
      rw [valV_put, take_more hp, look_snoc]
      by_cases ek : k = i
      · rw [if_pos (inl_iff.mpr ek), if_pos ek]
        rfl
      · rw [if_neg (fun z => ek (inl_iff.mp z)), if_neg ek]
        exact v5 k
    · rintro σ H' ⟨xi, xj, kvs, rfl, s5, k5, d5, l5, v5⟩
      have a2l : ws.length = (kpl o b).length := a2.len
      rw [a2l, List.take_length] at v5
      refine ⟨_, rfl, _, rfl, _, _, o, a, rfl, ho.same s5, ha.same s5, lo, la, fun H3 p3 s3 n3 e3 => ⟨_, wn o a, rfl, ⟨p3, rfl, e3⟩, by omega, fun H4 p4 ws4 s4 n4 e4 a4 => ?_⟩⟩
      have s54 := s3.trans s4
      have d54 : H4 d = some (.dK kvs) := s54 _ _ d5
      refine ⟨p4, rfl, ⟨_, SqL.of e4⟩, fun D hD => ?_⟩
      refine lc_list (K := K) (a := p4) (xs := ws4) (fun n H6 => Same H4 H6 ∧ ∃ ts, H6 D = some (.lst ts) ∧ All2 (TripV H6) ts (fast2 ((kpl o a).take n) (look (kpl o b))) ∧ ts.length ≤ n) ⟨same_upd hD, [], upd_same, All2.nil, Nat.le_refl _⟩ (fun i H6 _ p => p.1.seq (SqL.of e4)) (fun n v H6 hn p => ?_) (fun H6 p => ?_)
      · obtain ⟨s6, ts, e6, a6, l6⟩ := p
        obtain ⟨⟨i, j⟩, hp, tp, rfl, htp⟩ := a4.getL hn
        have hp : (kpl o a)[n]? = some (i, j) := hp
        have hnl : n < (kpl o a).length := (List.getElem?_eq_some_iff.mp hp).1
        have hkl := kpl_len o a
        have hmore : fast2 ((kpl o a).take (n + 1)) (look (kpl o b)) = fast2 ((kpl o a).take n) (look (kpl o b)) ++ fast2 [(i, j)] (look (kpl o b)) := by
          unfold fast2
          rw [take_more hp, List.filterMap_append]
        refine ⟨tp, _, rfl, SqT.of (s6 _ _ htp), rfl, _, _, rfl, _, _, rfl, rfl, rfl, ?_⟩
        have hv := v5 i
        refine ⟨_, rfl, _, rfl, d, _, rfl, DGet.k (k := Sum.inl (i : Int)) (s6 _ _ d54), _, rfl, ?_⟩
        cases hl : look (kpl o b) i with
        | none =>
          rw [hl] at hv
          refine if_false_of (by rw [hv]; rfl) ⟨s6, ts, e6, ?_, by omega⟩
          rw [hmore]
          have : fast2 [(i, j)] (look (kpl o b)) = [] := by
            unfold fast2
            rw [List.filterMap_cons, List.filterMap_nil]
            simp only [hl, Option.map_none]
          rw [this, List.append_nil]
          exact a6
        | some t =>
          rw [hl] at hv
          have hv : valV kvs (Sum.inl (i : Int)) = some (nv t) := hv
          have hg : DGet H6 d (nv i) (some (nv t)) := by
            rw [← hv]
            exact DGet.k (k := Sum.inl (i : Int)) (s6 _ _ d54)
          refine if_true_of (by rw [hv]; rfl) ⟨_, rfl, _, rfl, _, rfl, _, rfl, d, _, rfl, hg, (by show 3 ≤ sizeLine; decide), fun r nr => ⟨ts, same_upd nr _ _ e6, size_lt' (by omega), ?_⟩⟩
          have hrD : r ≠ D := fun z => by
            rw [z, e6] at nr
            cases nr
          have keep : ∀ c xs, H6 c = some (.tup xs) → (upd (upd H6 r (.tup [nv i, nv j, nv t])) D (.lst (ts ++ [.ref r]))) c = some (.tup xs) := fun c xs e => by
            rw [upd_ne (ne_of e e6 (fun z => nomatch z)), upd_ne (ne_of_none e nr)]
            exact e
          refine ⟨same_in (same_in s6 (s6.free nr)) hD, _, upd_same, ?_, ?_⟩
          · rw [hmore]
            have : fast2 [(i, j)] (look (kpl o b)) = [(i, j, t)] := by
              unfold fast2
              rw [List.filterMap_cons, List.filterMap_nil]
              simp only [hl, Option.map_some]
            rw [this]
            refine (a6.mono fun v p ⟨c, e1, e2⟩ => ⟨c, e1, keep _ _ e2⟩).snoc ⟨r, rfl, ?_⟩
            rw [upd_ne hrD, upd_same]
          · rw [List.length_append]
            show ts.length + 1 ≤ n + 1
            omega
      · obtain ⟨s6, ts, e6, a6, l6⟩ := p
        have a4l : ws4.length = (kpl o a).length := a4.len
        rw [a4l, List.take_length, fast_is] at a6
        have sf : Same H H4 := s5.trans s54
        exact q H6 D ts (sf.trans s6) (sf.free hD) e6 a6

end
end Tb

namespace Tb
open PySem PySem.Spec PyProof.Rows L2
section
variable {P : Program} {w : World} {K : PySem.W.Frag} {mg : Str → Option Value} {base : Heap}
open TbM
/-! ### settled -/
def spSettled : Sp := fun vs H Q _ => ∃ (x y z : V) (o a b : Hist.Doc), vs = [x, y, z] ∧ DocV H x o ∧ DocV H y a ∧ DocV H z b ∧ (a = o → Q z H) ∧ (a ≠ o → (b = o ∨ a = b) → Q y H) ∧ (a ≠ o → b ≠ o → a ≠ b → Q .non H)
theorem ok_settled (T : Txt mg) {f : Addr} {fd : FuncData} (F : Fun K "settled" "settled" s_settled f fd) : FnOk P w K mg base CX0 1 f fd ["of_o", "of_a", "of_b"] spSettled := by
  refine F.ok sc_settled (fun vs H Q E h => ?_) (fun cdv A outer s H vs Q E hr h => ?_)
  · obtain ⟨x, y, z, o, a, b, rfl, _⟩ := h
    rfl
  · obtain ⟨x, y, z, o, a, b, rfl, ho, ha, hb, q1, q2, q3⟩ := h
    refine ⟨_, (pss_cons (ps_if (pt_cmpR (op_eqD hr.units) (pv 1) (pv 0) (nomark _)) (pss_one (ps_ret (pv 2))) pss_nil)
      (pss_cons (ps_if (PW.pt (pw_or (pt_cmpR (op_eqD hr.units) (pv 2) (pv 0) (nomark _)) (pw_or1 (pt_cmpR (op_eqD hr.units) (pv 1) (pv 2) (nomark _))))) (pss_one (ps_ret (pv 1))) pss_nil)
      (pss_one (ps_ret pe_non)))), ?_⟩
    refine ⟨_, rfl, _, rfl, dD a, dD o, dp_D ha, dp_D ho, sh_D _, sh_D _, _, rfl, ?_⟩
    rw [eqv_dD]
    refine if_dec (fun c => ?_) (fun c => ?_)
    · exact ⟨_, rfl, q1 c⟩
    refine ⟨_, rfl, _, rfl, dD b, dD o, dp_D hb, dp_D ho, sh_D _, sh_D _, _, rfl, ?_⟩
    rw [eqv_dD]
    refine if_dec (fun c2 => ?_) (fun c2 => ?_)
    · exact ⟨_, rfl, q2 c (.inl c2)⟩
    refine ⟨_, rfl, _, rfl, dD a, dD b, dp_D ha, dp_D hb, sh_D _, sh_D _, _, rfl, ?_⟩
    rw [eqv_dD]
    refine if_dec (fun c3 => ?_) (fun c3 => ?_)
    · exact ⟨_, rfl, q2 c (.inr c3)⟩
    · exact q3 c c2 c3
/-! ### Merged -/
structure TxM (K : PySem.W.Frag) (C : Addr) : Prop where
  cl : Cls K C
  nC : NoAttr K C "clashes"
  nD : NoAttr K C "document"
def mF (c d : Addr) : List (Str × V) := [("clashes", .ref c), ("document", .ref d)]
theorem lk_here {k : Str} {v : V} {r : List (Str × V)} : List.lookup k ((k, v) :: r) = some v := by
  have e : (k == k) = true := beq_self_eq_true k
  simp only [List.lookup, e]
theorem lk_past {k g : Str} {v : V} {r : List (Str × V)} (h : (k == g) = false) : List.lookup k ((g, v) :: r) = List.lookup k r := by
  simp only [List.lookup, h]
theorem put_here {f : Str} {v x : V} {r : List (Str × V)} : putF f v ((f, x) :: r) = (f, v) :: r := if_pos rfl
theorem put_past {f g : Str} {v x : V} {r : List (Str × V)} (h : ¬ g = f) : putF f v ((g, x) :: r) = (g, x) :: putF f v r := if_neg h
theorem mF_c (c d : Addr) : (mF c d).lookup ("clashes" : Str) = some (.ref c) := lk_here
theorem mF_d (c d : Addr) : (mF c d).lookup ("document" : Str) = some (.ref d) := (lk_past (by decide +kernel)).trans lk_here
def spMInit (C : Addr) : Sp := fun vs H Q _ => ∃ (p dx : Addr), vs = [.ref p] ∧ H p = some (.ins C dx []) ∧
  ∀ (H' : Hp) (c d : Addr), H' p = some (.ins C dx (mF c d)) → H c = none → H d = none → c ≠ d → H' c = some (.lst []) → H' d = some (.lst []) → (∀ b o, H b = some o → b ≠ p → H' b = some o) → Q .non H'
theorem ok_Merged_init {C : Addr} (TM : TxM K C) {f : Addr} {fd : FuncData} (F : Fun K "__init__" "Merged.__init__" s_Merged_init f fd) : FnOk P w K mg base CX0 1 f fd ["self"] (spMInit C) := by
  refine F.ok sc_Merged_init (fun vs H Q E h => ?_) (fun cdv A outer s H vs Q E hr h => ?_)
  · obtain ⟨p, dx, rfl, _⟩ := h
    rfl
  · obtain ⟨p, dx, rfl, hp, q⟩ := h
    refine ⟨_, (pss_cons (ps_fld (pv 0) (pe_lst pa_nil) rfl)
      (pss_one (ps_fld (pv 0) (pe_lst pa_nil) rfl))), ?_⟩
    refine ⟨Nat.zero_le _, fun c nc => ⟨_, rfl, p, C, dx, [], rfl, same_upd nc _ _ hp, TM.cl, TM.nC, (by show 0 < 1000; decide), ?_⟩⟩
    refine ⟨Nat.zero_le _, fun d nd => ⟨_, rfl, p, C, dx, _, rfl, same_upd nd _ _ upd_same, TM.cl, TM.nD, (by show 1 < 1000; decide), ?_⟩⟩
    have hpc : p ≠ c := ne_of_none hp nc
    have hd : H d = none := free_upd (free_upd nd |> fun z => z) |> fun z => z
    have hpd : p ≠ d := ne_of_none hp hd
    have hcd : c ≠ d := fun z => by
      rw [← z, upd_ne hpc.symm, upd_same] at nd
      cases nd
    refine q _ c d (Eq.trans upd_same ?_) nc hd hcd ?_ ?_ ?_
    · exact congrArg (fun z => some (HO.ins C dx z)) (put_past (by decide +kernel))
    · rw [upd_ne hpc.symm, upd_ne hcd, upd_ne hpc.symm, upd_same]
    · rw [upd_ne hpd.symm, upd_same]
    · intro b o e hb
      rw [upd_ne hb, upd_ne (ne_of_none e hd), upd_ne hb, upd_ne (ne_of_none e nc)]
      exact e
/-! ### merged_from -/
theorem cutV_nat (xs : List V) (s e : Nat) : cutV xs (some (s : Int)) (some (e : Int)) = (xs.drop s).take (e - s) := by
  unfold cutV
  rw [HT.sIx_nat, HT.sIx_nat]
  by_cases hs : s ≤ xs.length
  · rw [Nat.min_eq_left hs]
    by_cases he : e ≤ xs.length
    · rw [Nat.min_eq_left he]
    · rw [Nat.min_eq_right (by omega), List.take_of_length_le (by rw [List.length_drop]; exact Nat.le_refl _), List.take_of_length_le (by rw [List.length_drop]; omega)]
  · rw [Nat.min_eq_right (a := s) (by omega), List.drop_length, List.drop_eq_nil_of_le (by omega), List.take_nil, List.take_nil]
theorem rows_cut {R : V → List Nat → Prop} {os : List V} {o : Hist.Doc} (h : All2 R os o) (s e : Nat) : All2 R (cutV os (some (s : Int)) (some (e : Int))) (Hist.cut o s (e - s)) := by
  rw [cutV_nat]
  exact (h.drop s).take (e - s)
theorem cut_le (o : Hist.Doc) (s n : Nat) : (Hist.cut o s n).length ≤ o.length := by
  unfold Hist.cut
  rw [List.length_take, List.length_drop]
  omega
theorem cut_le1 (o : Hist.Doc) (s n : Nat) : (Hist.cut o s n).length ≤ n := by
  unfold Hist.cut
  rw [List.length_take]
  omega
def spMFrom (C : Addr) : Sp := fun vs H Q _ => ∃ (G : Hp) (x y z : V) (o a b : Hist.Doc), vs = [x, y, z] ∧ Same G H ∧ DocV G x o ∧ DocV G y a ∧ DocV G z b ∧ o.length ≤ 64 ∧ a.length ≤ 64 ∧ b.length ≤ 64 ∧
  ∀ (H' : Hp) (m dx c d : Addr) (ws : List V), Same H H' → H' m = some (.ins C dx (mF c d)) → H' c = some (.lst (nvs (run o a b).1)) → (run o a b).1.length ≤ 1000 → H d = none → H' d = some (.lst ws) → All2 (IntsV G) ws (run o a b).2 → Q (.ref m) H'
theorem ok_merged_from {C : Addr} (T : Txt mg) (TM : TxM K C) {f : Addr} {fd : FuncData} (F : Fun K "merged_from" "merged_from" s_merged_from f fd) (c_Merged : Mak P w K mg base 1 "Merged" C (spMInit C)) (c_standing_fast : Cal P w K mg base 3 "standing_fast" spFast) (c_settled : Cal P w K mg base 1 "settled" spSettled) : FnOk P w K mg base CX0 4 f fd ["o", "a", "b"] (spMFrom C) := by
  refine F.ok sc_merged_from (fun vs H Q E h => ?_) (fun cdv A outer s H vs Q E hr h => ?_)
  · obtain ⟨G, x, y, z, o, a, b, rfl, _⟩ := h
    rfl
  · obtain ⟨G, x, y, z, o, a, b, rfl, sG, ho, ha, hb, lo, la, lb, q⟩ := h
    have ho' := ho.same sG
    have ha' := ha.same sG
    have hb' := hb.same sG
    obtain ⟨oo, os, rfl, hoo, hos⟩ := ho
    obtain ⟨aa, as, rfl, haa, has⟩ := ha
    obtain ⟨bb, bs, rfl, hbb, hbs⟩ := hb
    have lo' : os.length = o.length := hos.len
    have la' : as.length = a.length := has.len
    have lb' : bs.length = b.length := hbs.len
    refine ⟨_, (pss_cons (ps_set (i := 3) sc_merged_from.nd rfl (Or.inl rfl) (pe_k0 c_Merged hr (by decide) (by rfl)))
      (pss_cons (ps_set (i := 4) sc_merged_from.nd rfl (Or.inl rfl) (pe_tup (pa_cons pe_int (pa_cons pe_int (pa_cons pe_int pa_nil)))))
      (pss_cons (ps_for PassesOwn.never rfl (pi_list (pe_op op_cat (pe_c c_standing_fast hr (by decide) (by rfl) (pa_cons (pv 0) (pa_cons (pv 1) (pa_cons (pv 2) pa_nil)))) (pe_lst (pa_cons (pe_tup (pa_cons (pe_callB call_len_seq (by rfl) T.m_len PySem.boot_len (pa_cons (pv 0) pa_nil)) (pa_cons (pe_callB call_len_seq (by rfl) T.m_len PySem.boot_len (pa_cons (pv 1) pa_nil)) (pa_cons (pe_callB call_len_seq (by rfl) T.m_len PySem.boot_len (pa_cons (pv 2) pa_nil)) pa_nil)))) pa_nil)))) (pg_tup rfl (pgs_cons (pg_name (i := 5) sc_merged_from.nd rfl (Or.inl rfl)) (pgs_cons (pg_name (i := 6) sc_merged_from.nd rfl (Or.inl rfl)) (pgs_cons (pg_name (i := 7) sc_merged_from.nd rfl (Or.inl rfl)) pgs_nil)))) (pss_cons (ps_set (i := 8) sc_merged_from.nd rfl (Or.inl rfl) (pe_slice sl_list (pv 0) (po_some (pe_ix ix_tup (pv 4) pe_int (fun _ _ => rfl))) (po_some (pv 5))))
      (pss_cons (ps_set (i := 9) sc_merged_from.nd rfl (Or.inl rfl) (pe_slice sl_list (pv 1) (po_some (pe_ix ix_tup (pv 4) pe_int (fun _ _ => rfl))) (po_some (pv 6))))
      (pss_cons (ps_set (i := 10) sc_merged_from.nd rfl (Or.inl rfl) (pe_slice sl_list (pv 2) (po_some (pe_ix ix_tup (pv 4) pe_int (fun _ _ => rfl))) (po_some (pv 7))))
      (pss_cons (ps_set (i := 11) sc_merged_from.nd rfl (Or.inl rfl) (pe_c c_settled hr (by decide) (by rfl) (pa_cons (pv 8) (pa_cons (pv 9) (pa_cons (pv 10) pa_nil)))))
      (pss_cons (ps_if (pt_cmpR op_isN (pv 11) pe_non (nomark _)) (pss_one (ps_expr (pe_bm PySem.F.plainAttrs_list PySem.F.slot_list_extend PySem.F.type_list_extend mt_extend (pe_fld (pv 3) rfl) (pa_cons (pe_lst (pa_cons (pe_ix ix_tup (pv 4) pe_int (fun _ _ => rfl)) (pa_cons (pe_callB call_len_seq (by rfl) T.m_len PySem.boot_len (pa_cons (pv 8) pa_nil)) (pa_cons (pe_ix ix_tup (pv 4) pe_int (fun _ _ => rfl)) (pa_cons (pe_callB call_len_seq (by rfl) T.m_len PySem.boot_len (pa_cons (pv 9) pa_nil)) (pa_cons (pe_ix ix_tup (pv 4) pe_int (fun _ _ => rfl)) (pa_cons (pe_callB call_len_seq (by rfl) T.m_len PySem.boot_len (pa_cons (pv 10) pa_nil)) pa_nil))))))) pa_nil)))) (pss_one (ps_expr (pe_bm PySem.F.plainAttrs_list PySem.F.slot_list_extend PySem.F.type_list_extend mt_extend (pe_fld (pv 3) rfl) (pa_cons (pe_op op_cat (pv 11) (pe_slice sl_list (pv 0) (po_some (pv 5)) (po_some (pe_op op_add (pv 5) pe_int)))) pa_nil)))))
      (pss_one (ps_set (i := 4) sc_merged_from.nd rfl (Or.inl rfl) (pe_tup (pa_cons (pe_op op_add (pv 5) pe_int) (pa_cons (pe_op op_add (pv 6) pe_int) (pa_cons (pe_op op_add (pv 7) pe_int) pa_nil))))))))))))
      (pss_one (ps_ret (pv 3)))))), ?_⟩
    intro m dx nm ndx ne
    refine ⟨m, dx, rfl, upd_same, fun H1 cl dc em ncl ndc ncd ecl edc kp => ⟨rfl, ?_⟩⟩
    have s1 : Same H H1 := Same.made nm ndx kp
    have hcl : H cl = none := free_upd (free_upd ncl)
    have hdc : H dc = none := free_upd (free_upd ndc)
    refine ⟨(by show 3 ≤ sizeLine; decide), fun st nst => ?_⟩
    have s2 := s1.trans (same_upd nst (o := .tup [V.int 0, V.int 0, V.int 0]))
    refine ⟨_, rfl, _, rfl, _, rfl, _, _, _, o, a, b, rfl, ho'.same s2, ha'.same s2, hb'.same s2, lo, la, lb, fun H3 p3 ws3 s3 n3 e3 a3 => ?_⟩
    have s03 := s2.trans s3
    have s13 := (same_upd nst (o := .tup [V.int 0, V.int 0, V.int 0])).trans s3
    have gs := fun {c : Addr} {u : HO} (e : G c = some u) => s03 _ _ (sG _ _ e)
    refine ⟨_, rfl, oo, os, rfl, .inl (SqL.of (gs hoo)), _, rfl, aa, as, rfl, .inl (SqL.of (gs haa)), _, rfl, bb, bs, rfl, .inl (SqL.of (gs hbb)), (by show 3 ≤ sizeLine; decide), fun t4 n4 => ⟨(by show 1 ≤ sizeLine; decide), fun p5 n5 => ?_⟩⟩
    have flen := fast_len o a b
    have wlen : ws3.length = (Hist.fast o a b).length := a3.len
    refine ⟨p3, p5, ws3, [.ref t4], rfl, rfl, same_upd n5 _ _ (same_upd n4 _ _ e3), upd_same, size_le (by show ws3.length + 1 ≤ _; omega), fun pl npl => ⟨pl, rfl, ⟨_, SqL.of upd_same⟩, ?_⟩⟩
    have s35 : Same H3 (upd (upd (upd H3 t4 (.tup [V.int (os.length : Nat), V.int (as.length : Nat), V.int (bs.length : Nat)])) p5 (.lst [.ref t4])) pl (.lst (ws3 ++ [.ref t4]))) := (same_upd n4).trans ((same_upd n5).trans (same_upd npl))
    have et4 : (upd (upd (upd H3 t4 (.tup [V.int (os.length : Nat), V.int (as.length : Nat), V.int (bs.length : Nat)])) p5 (.lst [.ref t4])) pl (.lst (ws3 ++ [.ref t4]))) t4 = some (.tup [V.int (os.length : Nat), V.int (as.length : Nat), V.int (bs.length : Nat)]) := same_upd npl _ _ (same_upd n5 _ _ upd_same)
    have epl : (upd (upd (upd H3 t4 (.tup [V.int (os.length : Nat), V.int (as.length : Nat), V.int (bs.length : Nat)])) p5 (.lst [.ref t4])) pl (.lst (ws3 ++ [.ref t4]))) pl = some (.lst (ws3 ++ [.ref t4])) := upd_same
    have plc : pl ≠ cl := fun z => by
      have := same_upd n5 (o := .lst [.ref t4]) _ _ (same_upd n4 (o := .tup [V.int (os.length : Nat), V.int (as.length : Nat), V.int (bs.length : Nat)]) _ _ (s13 _ _ ecl))
      rw [← z, npl] at this
      cases this
    have pld : pl ≠ dc := fun z => by
      have := same_upd n5 (o := .lst [.ref t4]) _ _ (same_upd n4 (o := .tup [V.int (os.length : Nat), V.int (as.length : Nat), V.int (bs.length : Nat)]) _ _ (s13 _ _ edc))
      rw [← z, npl] at this
      cases this
    generalize hH5 : (upd (upd (upd H3 t4 (.tup [V.int (os.length : Nat), V.int (as.length : Nat), V.int (bs.length : Nat)])) p5 (.lst [.ref t4])) pl (.lst (ws3 ++ [.ref t4]))) = H5 at s35 et4 epl
    have s05 := s03.trans s35
    have s15 := s13.trans s35
    have aL : All2 (TripV H5) (ws3 ++ [.ref t4]) (Hist.fast o a b ++ [ends o a b]) := by
      refine (a3.mono fun _ _ => TripV.same s35).snoc ⟨t4, rfl, ?_⟩
      rw [et4, lo', la', lb']
      rfl
    have bL : ∀ t ∈ (Hist.fast o a b ++ [ends o a b]), t.1 ≤ o.length ∧ t.2.1 ≤ a.length ∧ t.2.2 ≤ b.length := by
      intro t ht
      rcases List.mem_append.mp ht with h | h
      · have := asc_mem (fast_asc o a b) t h
        omega
      · have : t = ends o a b := by simpa using h
        rw [this]
        exact ⟨Nat.le_refl _, Nat.le_refl _, Nat.le_refl _⟩
    have lL : (Hist.fast o a b ++ [ends o a b]).length ≤ 129 := by
      rw [List.length_append]
      show _ + 1 ≤ 129
      omega
    refine for_list (K := K) (a := pl) (xs := ws3 ++ [.ref t4]) (fun n σ H' => ∃ (t : Addr) (sv : T3) (c : List Nat) (d : Hist.Doc) (ws : List V) (x5 x6 x7 x8 x9 x10 x11 : Option V), σ = [some (.ref oo), some (.ref aa), some (.ref bb), some (.ref m), some (.ref t), x5, x6, x7, x8, x9, x10, x11] ∧ Same H H' ∧ (∀ e u, e ≠ cl → e ≠ dc → H5 e = some u → H' e = some u) ∧
        H' t = some (.tup [nv sv.1, nv sv.2.1, nv sv.2.2]) ∧ H' cl = some (.lst (nvs c)) ∧ H' dc = some (.lst ws) ∧ All2 (IntsV G) ws d ∧ ms o a b ((Hist.fast o a b ++ [ends o a b]).drop n) sv c d = run o a b ∧ c.length ≤ 6 * n ∧ d.length ≤ 65 * n)
      ⟨st, (0, 0, 0), [], [], [], none, none, none, none, none, none, none, rfl, s05, fun _ _ _ _ h => h, s35 _ _ (s3 _ _ upd_same), s15 _ _ ecl, s15 _ _ edc, All2.nil, rfl, Nat.le_refl _, Nat.le_refl _⟩
      (fun i σ H' _ ⟨_, _, _, _, _, _, _, _, _, _, _, _, _, _, k5, _⟩ => SqL.of (k5 _ _ plc pld epl)) ?_ ?_
    · rintro n v σ H' hn ⟨t, sv, c, d, ws, x5, x6, x7, x8, x9, x10, x11, rfl, s6, k6, t6, c6, d6, a6, q6, l6, l7⟩
      obtain ⟨⟨i, j, k⟩, hp, tp, rfl, htp⟩ := aL.getL hn
      have hnl : n < (Hist.fast o a b ++ [ends o a b]).length := (List.getElem?_eq_some_iff.mp hp).1
      obtain ⟨bi, bj, bk⟩ := bL _ (List.mem_of_getElem? hp)
      have bi : i ≤ o.length := bi
      have bj : j ≤ a.length := bj
      have bk : k ≤ b.length := bk
      rw [drop_at hp] at q6
      have htp6 : H' tp = some (.tup [nv i, nv j, nv k]) := k6 _ _ (ne_of htp (s15 _ _ ecl) (fun z => nomatch z)) (ne_of htp (s15 _ _ edc) (fun z => nomatch z)) htp
      have gs6 := fun {c : Addr} {u : HO} (e : G c = some u) => s6 _ _ (sG _ _ e)
      have mm6 : H' m = some (.ins C dx (mF cl dc)) := k6 _ _ (ne_of em ecl (fun z => nomatch z)) (ne_of em edc (fun z => nomatch z)) (s15 _ _ em)
      refine ⟨tp, _, rfl, SqT.of htp6, rfl, _, _, rfl, _, _, rfl, _, _, rfl, rfl, ?_⟩
      -- of_o, of_a, of_b
      refine ⟨_, rfl, _, rfl, t, _, _, _, rfl, rfl, SqT.of t6, atI_n (j := 0) rfl rfl, _, rfl, _, rfl, _, rfl, oo, os, rfl, SqL.of (gs6 hoo), fun u1 m1 => ?_⟩
      have h1 := same_upd m1 (o := .lst (cutV os (some (sv.1 : Int)) (some (i : Int))))
      refine ⟨_, rfl, _, rfl, t, _, _, _, rfl, rfl, SqT.of (h1 _ _ t6), atI_n (j := 1) rfl rfl, _, rfl, _, rfl, _, rfl, aa, as, rfl, SqL.of (h1 _ _ (gs6 haa)), fun u2 m2 => ?_⟩
      have h2 := h1.trans (same_upd m2 (o := .lst (cutV as (some (sv.2.1 : Int)) (some (j : Int)))))
      refine ⟨_, rfl, _, rfl, t, _, _, _, rfl, rfl, SqT.of (h2 _ _ t6), atI_n (j := 2) rfl rfl, _, rfl, _, rfl, _, rfl, bb, bs, rfl, SqL.of (h2 _ _ (gs6 hbb)), fun u3 m3 => ?_⟩
      have h3 := h2.trans (same_upd m3 (o := .lst (cutV bs (some (sv.2.2 : Int)) (some (k : Int)))))
      have eu3 : (upd (upd (upd H' u1 (.lst (cutV os (some (sv.1 : Int)) (some (i : Int))))) u2 (.lst (cutV as (some (sv.2.1 : Int)) (some (j : Int))))) u3 (.lst (cutV bs (some (sv.2.2 : Int)) (some (k : Int))))) u3 = some (.lst (cutV bs (some (sv.2.2 : Int)) (some (k : Int)))) := upd_same
      have eu2 := same_upd m3 (o := .lst (cutV bs (some (sv.2.2 : Int)) (some (k : Int)))) _ _ (upd_same (H := upd H' u1 (.lst (cutV os (some (sv.1 : Int)) (some (i : Int))))) (a := u2) (o := .lst (cutV as (some (sv.2.1 : Int)) (some (j : Int)))))
      have eu1 := same_upd m3 (o := .lst (cutV bs (some (sv.2.2 : Int)) (some (k : Int)))) _ _ (same_upd m2 (o := .lst (cutV as (some (sv.2.1 : Int)) (some (j : Int)))) _ _ (upd_same (H := H') (a := u1) (o := .lst (cutV os (some (sv.1 : Int)) (some (i : Int))))))
      generalize hH7 : (upd (upd (upd H' u1 (.lst (cutV os (some (sv.1 : Int)) (some (i : Int))))) u2 (.lst (cutV as (some (sv.2.1 : Int)) (some (j : Int))))) u3 (.lst (cutV bs (some (sv.2.2 : Int)) (some (k : Int))))) = H7 at h3 eu1 eu2 eu3
      have s7 := s6.trans h3
      have k7 : ∀ e u, e ≠ cl → e ≠ dc → H5 e = some u → H7 e = some u := fun e u h h' h'' => h3 _ _ (k6 e u h h' h'')
      have t7 := h3 _ _ t6
      have c7 := h3 _ _ c6
      have d7 := h3 _ _ d6
      have mm7 := h3 _ _ mm6
      have gs7 := fun {c : Addr} {u : HO} (e : G c = some u) => s7 _ _ (sG _ _ e)
      have ro := rows_cut hos sv.1 i
      have ra := rows_cut has sv.2.1 j
      have rb := rows_cut hbs sv.2.2 k
      have acut : All2 (IntsV G) (cutV os (some (i : Int)) (some ((i : Int) + 1))) (Hist.cut o i 1) := by
        have := rows_cut hos i (i + 1)
        rw [Nat.add_sub_cancel_left] at this
        exact this
      have hset : Hist.settle o a b (partOf sv (i, j, k)) = if Hist.cut a sv.2.1 (j - sv.2.1) = Hist.cut o sv.1 (i - sv.1) then some (Hist.cut b sv.2.2 (k - sv.2.2)) else if Hist.cut b sv.2.2 (k - sv.2.2) = Hist.cut o sv.1 (i - sv.1) then some (Hist.cut a sv.2.1 (j - sv.2.1)) else if Hist.cut a sv.2.1 (j - sv.2.1) = Hist.cut b sv.2.2 (k - sv.2.2) then some (Hist.cut a sv.2.1 (j - sv.2.1)) else none := rfl
      have hbz := cut_le b sv.2.2 (k - sv.2.2)
      have haz := cut_le a sv.2.1 (j - sv.2.1)
      have h1z := cut_le1 o i 1
      have wz : ws.length = d.length := a6.len
      have cz := acut.len
      have clt : cl ≠ tp := fun z => by rw [z, htp6] at c6; cases c6
      refine ⟨_, rfl, _, rfl, _, rfl, .ref u1, .ref u2, .ref u3, _, _, _, rfl, ⟨u1, _, rfl, eu1, rows_same (sG.trans s7) ro⟩, ⟨u2, _, rfl, eu2, rows_same (sG.trans s7) ra⟩, ⟨u3, _, rfl, eu3, rows_same (sG.trans s7) rb⟩, fun w1 => ?_, fun w1 w2 => ?_, fun w1 w2 w3 => ?_⟩
      · rw [if_pos w1] at hset
        have eu := eu3
        have apw := rb
        have hdz := hbz
        have pz := apw.len
        clear hbz haz
        refine ⟨_, rfl, rfl, _, rfl, if_false_of (decide_eq_false (fun z => nomatch z)) ?_⟩
        refine ⟨_, rfl, m, C, dx, _, _, rfl, mm7, TM.cl, TM.nD, mF_d _ _, .inl ⟨rfl, _, SqL.of d7⟩, _, rfl, _, rfl, _, rfl, _, rfl, _, rfl, _, _, rfl, rfl, _, rfl, oo, os, rfl, SqL.of (gs7 hoo), fun u4 m4 => ⟨_, u4, _, _, rfl, rfl, same_upd m4 _ _ eu, upd_same, size_le (by omega), fun u5 m5 => ⟨dc, u5, ws, _, rfl, rfl, same_upd m5 _ _ (same_upd m4 _ _ d7), upd_same, size_le (by rw [List.length_append]; omega), ?_⟩⟩⟩
        refine ⟨_, rfl, _, _, rfl, rfl, _, rfl, _, _, rfl, rfl, _, rfl, _, _, rfl, rfl, (by show 3 ≤ sizeLine; decide), fun st' nst' => ?_⟩
        have d5n : dc ≠ u5 := ne_of_none (same_upd m4 _ _ d7) m5
        have d4n : dc ≠ u4 := ne_of_none d7 m4
        have c5n : cl ≠ u5 := ne_of_none (same_upd m4 _ _ c7) m5
        have c4n : cl ≠ u4 := ne_of_none c7 m4
        have dst : dc ≠ st' := fun z => by rw [← z, upd_same] at nst'; cases nst'
        have cst : cl ≠ st' := fun z => by rw [← z, upd_ne ncd, upd_ne c5n, upd_ne c4n, c7] at nst'; cases nst'
        have f4 : H u4 = none := s7.free m4
        have f5 : H u5 = none := s7.free (free_upd m5)
        have fs : H st' = none := s7.free (free_upd (free_upd (free_upd nst')))
        refine ⟨st', nx3 (i, j, k), c, _, _, _, _, _, _, _, _, _, rfl, same_in (same_in (same_in (same_in s7 f4) f5) hdc) fs, fun e u h h' h'' => ?_, upd_same, ?_, ?_, a6.append (apw.append acut), ?_, by omega, ?_⟩
        · have e7 := k7 e u h h' h''
          have e4 := ne_of_none e7 m4
          have e5 : e ≠ u5 := ne_of_none (same_upd m4 _ _ e7) m5
          rw [upd_ne (fun z => by rw [← z, upd_ne h', upd_ne e5, upd_ne e4, e7] at nst'; cases nst'), upd_ne h', upd_ne e5, upd_ne e4]
          exact e7
        · rw [upd_ne cst, upd_ne ncd, upd_ne c5n, upd_ne c4n]
          exact c7
        · rw [upd_ne dst, upd_same]
        · rw [← q6, ms_some hset]
        · rw [List.length_append, List.length_append]
          omega
      · have hset : Hist.settle o a b (partOf sv (i, j, k)) = some (Hist.cut a sv.2.1 (j - sv.2.1)) := by
          rw [hset, if_neg w1]
          by_cases w3 : Hist.cut b sv.2.2 (k - sv.2.2) = Hist.cut o sv.1 (i - sv.1)
          · rw [if_pos w3]
          · rw [if_neg w3, if_pos (w2.resolve_left w3)]
        have eu := eu2
        have apw := ra
        have hdz := haz
        have pz := apw.len
        clear hbz haz
        refine ⟨_, rfl, rfl, _, rfl, if_false_of (decide_eq_false (fun z => nomatch z)) ?_⟩
        refine ⟨_, rfl, m, C, dx, _, _, rfl, mm7, TM.cl, TM.nD, mF_d _ _, .inl ⟨rfl, _, SqL.of d7⟩, _, rfl, _, rfl, _, rfl, _, rfl, _, rfl, _, _, rfl, rfl, _, rfl, oo, os, rfl, SqL.of (gs7 hoo), fun u4 m4 => ⟨_, u4, _, _, rfl, rfl, same_upd m4 _ _ eu, upd_same, size_le (by omega), fun u5 m5 => ⟨dc, u5, ws, _, rfl, rfl, same_upd m5 _ _ (same_upd m4 _ _ d7), upd_same, size_le (by rw [List.length_append]; omega), ?_⟩⟩⟩
        refine ⟨_, rfl, _, _, rfl, rfl, _, rfl, _, _, rfl, rfl, _, rfl, _, _, rfl, rfl, (by show 3 ≤ sizeLine; decide), fun st' nst' => ?_⟩
        have d5n : dc ≠ u5 := ne_of_none (same_upd m4 _ _ d7) m5
        have d4n : dc ≠ u4 := ne_of_none d7 m4
        have c5n : cl ≠ u5 := ne_of_none (same_upd m4 _ _ c7) m5
        have c4n : cl ≠ u4 := ne_of_none c7 m4
        have dst : dc ≠ st' := fun z => by rw [← z, upd_same] at nst'; cases nst'
        have cst : cl ≠ st' := fun z => by rw [← z, upd_ne ncd, upd_ne c5n, upd_ne c4n, c7] at nst'; cases nst'
        have f4 : H u4 = none := s7.free m4
        have f5 : H u5 = none := s7.free (free_upd m5)
        have fs : H st' = none := s7.free (free_upd (free_upd (free_upd nst')))
        refine ⟨st', nx3 (i, j, k), c, _, _, _, _, _, _, _, _, _, rfl, same_in (same_in (same_in (same_in s7 f4) f5) hdc) fs, fun e u h h' h'' => ?_, upd_same, ?_, ?_, a6.append (apw.append acut), ?_, by omega, ?_⟩
        · have e7 := k7 e u h h' h''
          have e4 := ne_of_none e7 m4
          have e5 : e ≠ u5 := ne_of_none (same_upd m4 _ _ e7) m5
          rw [upd_ne (fun z => by rw [← z, upd_ne h', upd_ne e5, upd_ne e4, e7] at nst'; cases nst'), upd_ne h', upd_ne e5, upd_ne e4]
          exact e7
        · rw [upd_ne cst, upd_ne ncd, upd_ne c5n, upd_ne c4n]
          exact c7
        · rw [upd_ne dst, upd_same]
        · rw [← q6, ms_some hset]
        · rw [List.length_append, List.length_append]
          omega
      · rw [if_neg w1, if_neg w2, if_neg w3] at hset
        refine ⟨_, rfl, rfl, _, rfl, if_true_of (decide_eq_true rfl) ?_⟩
        refine ⟨_, rfl, m, C, dx, _, _, rfl, mm7, TM.cl, TM.nC, mF_c _ _, .inl ⟨rfl, _, SqL.of c7⟩, _, rfl, t, _, _, _, rfl, rfl, SqT.of t7, atI_n (j := 0) rfl rfl, _, rfl, u1, _, rfl, .inl (SqL.of eu1), _, rfl, t, _, _, _, rfl, rfl, SqT.of t7, atI_n (j := 1) rfl rfl, _, rfl, u2, _, rfl, .inl (SqL.of eu2), _, rfl, t, _, _, _, rfl, rfl, SqT.of t7, atI_n (j := 2) rfl rfl, _, rfl, u3, _, rfl, .inl (SqL.of eu3), (by show 6 ≤ sizeLine; decide), fun u4 m4 => ⟨cl, u4, nvs c, _, rfl, rfl, same_upd m4 _ _ c7, upd_same, size_le (by rw [nvs_len]; show c.length + 6 ≤ _; omega), ?_⟩⟩
        refine ⟨_, rfl, _, _, rfl, rfl, _, rfl, _, _, rfl, rfl, _, rfl, _, _, rfl, rfl, (by show 3 ≤ sizeLine; decide), fun st' nst' => ?_⟩
        have c4n : cl ≠ u4 := ne_of_none c7 m4
        have d4n : dc ≠ u4 := ne_of_none d7 m4
        have cst : cl ≠ st' := fun z => by rw [← z, upd_same] at nst'; cases nst'
        have dst : dc ≠ st' := fun z => by rw [← z, upd_ne ncd.symm, upd_ne d4n, d7] at nst'; cases nst'
        have f4 : H u4 = none := s7.free m4
        have fs : H st' = none := s7.free (free_upd (free_upd nst'))
        refine ⟨st', nx3 (i, j, k), c ++ (partOf sv (i, j, k)).nums, d, ws, _, _, _, _, _, _, _, rfl, same_in (same_in (same_in s7 f4) hcl) fs, fun e u h h' h'' => ?_, upd_same, ?_, ?_, a6, ?_, ?_, by omega⟩
        · have e7 := k7 e u h h' h''
          have e4 := ne_of_none e7 m4
          rw [upd_ne (fun z => by rw [← z, upd_ne h, upd_ne e4, e7] at nst'; cases nst'), upd_ne h, upd_ne e4]
          exact e7
        · rw [upd_ne cst, upd_same, ← nvs_app]
          have z1 : (cutV os (some (sv.1 : Int)) (some (i : Int))).length = i - sv.1 := by
            rw [ro.len]
            unfold Hist.cut
            rw [List.length_take, List.length_drop]
            omega
          have z2 : (cutV as (some (sv.2.1 : Int)) (some (j : Int))).length = j - sv.2.1 := by
            rw [ra.len]
            unfold Hist.cut
            rw [List.length_take, List.length_drop]
            omega
          have z3 : (cutV bs (some (sv.2.2 : Int)) (some (k : Int))).length = k - sv.2.2 := by
            rw [rb.len]
            unfold Hist.cut
            rw [List.length_take, List.length_drop]
            omega
          rw [z1, z2, z3]
          rfl
        · rw [upd_ne dst, upd_ne ncd.symm, upd_ne d4n]
          exact d7
        · rw [← q6, ms_none hset]
        · rw [List.length_append]
          show c.length + 6 ≤ 6 * (n + 1)
          omega
    · rintro σ H' ⟨t, sv, c, d, ws, x5, x6, x7, x8, x9, x10, x11, rfl, s6, k6, t6, c6, d6, a6, q6, l6, l7⟩
      rw [aL.len, List.drop_length] at q6
      rw [aL.len] at l6
      have q6 : (c, d) = run o a b := q6
      have mm6 : H' m = some (.ins C dx (mF cl dc)) := k6 _ _ (ne_of em ecl (fun z => nomatch z)) (ne_of em edc (fun z => nomatch z)) (s15 _ _ em)
      refine ⟨_, rfl, q H' m dx cl dc ws s6 mm6 ?_ ?_ hdc d6 ?_⟩
      · rw [← q6]
        exact c6
      · rw [← q6]
        show c.length ≤ 1000
        omega
      · rw [← q6]
        exact a6

end
end Tb

namespace Tb
open PySem PySem.Spec PyProof.Rows L2
section
variable {P : Program} {w : World} {K : PySem.W.Frag} {mg : Str → Option Value} {base : Heap}
open TbM
theorem for_rev {K : PySem.W.Frag} {a : Addr} {xs : List V} {g : TG} {tb : TS} {D : Ends} {σ : L2.St} {H : Hp} (Pv : Nat → L2.St → Hp → Prop) (h0 : Pv 0 σ H) (hl : ∀ i σ H, i ≤ xs.length → Pv i σ H → SqL K H a xs)
    (hs : ∀ i x σ H, i < xs.length → xs[xs.length - 1 - i]? = some x → Pv i σ H → g x σ H fun σ2 H2 => tb { D with nx := Pv (i + 1), ct := Pv (i + 1), bk := D.nx } σ2 H2) (hd : ∀ σ H, Pv xs.length σ H → D.nx σ H) :
    ∃ W : Nat → Nat → L2.St → Hp → Prop, (∃ m, W 0 m σ H) ∧ ∀ i m σ H, W i m σ H →
      ((Itv K a xs.length).stop i H ∧ D.nx σ H) ∨ ((Itv K a xs.length).go i H ∧ ∃ N : L2.St → Hp → Prop, (∀ σ' H', N σ' H' → ∃ m', m' < m ∧ W (i + 1) m' σ' H') ∧ ∀ x H', (Itv K a xs.length).yld i H x H' → g x σ H' fun σ2 H2 => tb { D with nx := N, ct := N, bk := D.nx } σ2 H2) := by
  refine ⟨fun i m σ H => m = xs.length - i ∧ i ≤ xs.length ∧ Pv i σ H, ⟨xs.length, by simp, Nat.zero_le _, h0⟩, ?_⟩
  rintro i m σ H ⟨rfl, hi, p⟩
  have q := hl i σ H hi p
  by_cases hlt : i < xs.length
  · have hk : xs.length - 1 - i < xs.length := by omega
    refine .inr ⟨⟨hlt, xs, xs[xs.length - 1 - i], q, List.getElem?_eq_getElem hk⟩, Pv (i + 1), fun σ' H' p' => ⟨xs.length - (i + 1), by omega, rfl, hlt, p'⟩, fun x H' y => ?_⟩
    obtain ⟨e, y⟩ := y
    subst e
    exact hs i x σ _ hlt (y xs q) p
  · have e : i = xs.length := by omega
    subst e
    exact .inl ⟨Nat.le_refl _, hd σ H p⟩
/-! ### origins_of -/
theorem getD_of {α : Type} {l : List α} {i : Nat} {x d : α} (h : l[i]? = some x) : l.getD i d = x := by
  rw [List.getD_eq_getElem?_getD, h]
  rfl
theorem sets_more (g : Nat → Nat) {l : List (Nat × Nat)} {f : List Nat} {n : Nat} {p : Nat × Nat} (h : l[n]? = some p) : sets g (l.take (n + 1)) f = (sets g (l.take n) f).set p.2 (g p.1) := by
  unfold sets
  rw [take_more h, List.foldl_append]
  rfl
def spOrg : Sp := fun vs H Q _ => ∃ (v : Nat) (x y z : Addr) (G : Hp) (ds ps os : List V) (docs : List Hist.Doc) (pars known : List (List Nat)), vs = [nv v, .ref x, .ref y, .ref z] ∧ H x = some (.lst ds) ∧ H y = some (.lst ps) ∧ H z = some (.lst os) ∧ Same G H ∧
  All2 (DocV G) ds docs ∧ All2 (IntsV G) ps pars ∧ All2 (IntsV G) os known ∧ v < docs.length ∧ v < pars.length ∧ known.length = v ∧ (∀ p ∈ pars.getD v [], p < v) ∧ (∀ d ∈ docs, d.length ≤ 64) ∧ (∀ p, p < v → (known.getD p []).length = (docs.getD p []).length) ∧
  ∀ H' r, Same H H' → H r = none → H' r = some (.lst (nvs (orig (fun p => docs.getD p []) (fun p => known.getD p []) v (docs.getD v []) (pars.getD v [])))) → Q (.ref r) H'
theorem ok_origins_of (T : Txt mg) {f : Addr} {fd : FuncData} (F : Fun K "origins_of" "origins_of" s_origins_of f fd) (c_way_between : Cal P w K mg base 2 "way_between" spWay) (c_kept_places : Cal P w K mg base 1 "kept_places" spKept) : FnOk P w K mg base CX0 3 f fd ["version", "documents", "parents", "origins"] spOrg := by
  refine F.ok sc_origins_of (fun vs H Q E h => ?_) (fun cdv A outer s H vs Q E hr h => ?_)
  · obtain ⟨v, x, y, z, G, ds, ps, os, docs, pars, known, rfl, _⟩ := h
    rfl
  · obtain ⟨v, x, y, z, G, ds, ps, os, docs, pars, known, rfl, hx, hy, hz, sG, ad, ap, ao, vd, vp, vk, low, fit, row, q⟩ := h
    have gd := List.getElem?_eq_getElem vd
    have gp := List.getElem?_eq_getElem vp
    obtain ⟨dv, gdv, hdv⟩ := ad.get gd
    obtain ⟨pv', gpv, pa, rfl, hpa⟩ := ap.get gp
    have hdv' := hdv
    obtain ⟨da, dls, rfl, hda, hdl⟩ := hdv
    rw [getD_of (d := []) gd, getD_of (d := []) gp] at q
    rw [getD_of (d := []) gp] at low
    have hd64 : docs[v].length ≤ 64 := fit _ (List.getElem_mem vd)
    have dl : dls.length = docs[v].length := hdl.len
    generalize hdoc : docs[v] = dd at *
    generalize hpl : pars[v] = pp at *
    refine ⟨_, (pss_cons (ps_set (i := 4) sc_origins_of.nd rfl (Or.inl rfl) (pe_ix ix_list (pv 1) (pv 0) (fun _ _ => rfl)))
      (pss_cons (ps_set (i := 5) sc_origins_of.nd rfl (Or.inl rfl) (pe_op op_rep (pe_lst (pa_cons (pv 0) pa_nil)) (pe_callB call_len_seq (by rfl) T.m_len PySem.boot_len (pa_cons (pv 4) pa_nil))))
      (pss_cons (ps_for PassesOwn.never rfl (pi_reversed (by rfl) T.m_reversed (pa_cons (pe_ix ix_list (pv 2) (pv 0) (fun _ _ => rfl)) pa_nil)) (pg_name (i := 6) sc_origins_of.nd rfl (Or.inl rfl)) (pss_one (ps_for PassesOwn.never rfl (pi_list (pe_c c_kept_places hr (by decide) (by rfl) (pa_cons (pe_c c_way_between hr (by decide) (by rfl) (pa_cons (pe_ix ix_list (pv 1) (pv 6) (fun _ _ => rfl)) (pa_cons (pv 4) pa_nil))) pa_nil))) (pg_tup rfl (pgs_cons (pg_name (i := 7) sc_origins_of.nd rfl (Or.inl rfl)) (pgs_cons (pg_name (i := 8) sc_origins_of.nd rfl (Or.inl rfl)) pgs_nil))) (pss_one (ps_asg (pe_ix ix_list (pe_ix ix_list (pv 3) (pv 6) (fun _ _ => rfl)) (pv 7) (fun _ _ => rfl)) (pg_sub (pv 5) (pv 8) set_list))))))
      (pss_one (ps_ret (pv 5)))))), ?_⟩
    refine ⟨_, rfl, _, rfl, x, ds, _, _, rfl, rfl, SqL.of hx, atI_n rfl gdv, ?_⟩
    refine ⟨_, rfl, (by show 1 ≤ sizeLine; decide), fun p1 n1 => ⟨_, rfl, da, dls, rfl, .inl (SqL.of (same_upd n1 _ _ (sG _ _ hda))), p1, _, _, rfl, rfl, upd_same, by omega, by show ((dls.length : Nat) : Int) < 2 ^ 63; omega, ?_, fun S nS => ?_⟩⟩
    · show 1 * ((dls.length : Nat) : Int).toNat ≤ sizeLine
      exact size_le (by omega)
    have fS : H S = none := free_upd nS
    have s2 := (same_upd n1 (o := .lst [nv v])).trans (same_upd nS (o := .lst (List.replicate ((dls.length : Nat) : Int).toNat [nv v]).flatten))
    have eS : (upd (upd H p1 (.lst [nv v])) S (.lst (List.replicate ((dls.length : Nat) : Int).toNat [nv v]).flatten)) S = some (.lst (nvs (List.replicate dd.length v))) := by
      rw [upd_same, flat1, nvs_rep]
      show some (HO.lst (List.replicate dls.length (nv v))) = _
      rw [dl]
    refine ⟨_, rfl, _, rfl, y, ps, _, _, rfl, rfl, SqL.of (s2 _ _ hy), atI_n rfl gpv, pa, nvs pp, rfl, SqL.of (s2 _ _ (sG _ _ hpa)), ?_⟩
    refine for_rev (K := K) (a := pa) (xs := nvs pp) (fun n σ H' => ∃ (x6 x7 x8 : Option V), σ = [some (nv v), some (.ref x), some (.ref y), some (.ref z), some (.ref da), some (.ref S), x6, x7, x8] ∧ Same H H' ∧ H' S = some (.lst (nvs (orig (fun p => docs.getD p []) (fun p => known.getD p []) v dd (pp.drop (pp.length - n))))))
      ⟨none, none, none, rfl, s2, by rw [eS, Nat.sub_zero, List.drop_length]; rfl⟩ (fun i σ H' _ ⟨_, _, _, _, s5, _⟩ => SqL.of (s5 _ _ (sG _ _ hpa))) ?_ ?_
    · rintro n u σ H' hn hu ⟨x6, x7, x8, rfl, s5, e5⟩
      rw [nvs_len] at hn hu
      obtain ⟨p, hp, rfl⟩ := nvs_inv hu
      have hpv : p < v := low p (List.mem_of_getElem? hp)
      have gpd := List.getElem?_eq_getElem (l := docs) (i := p) (by omega)
      obtain ⟨pdv, gpdv, hpdv⟩ := ad.get gpd
      have gko := List.getElem?_eq_getElem (l := known) (i := p) (by omega)
      obtain ⟨kv, gkv, ka, rfl, hka⟩ := ao.get gko
      have hrow := row p hpv
      rw [getD_of (d := []) gpd, getD_of (d := []) gko] at hrow
      have hp64 : docs[p].length ≤ 64 := fit _ (List.getElem_mem _)
      have hlen := wn_len docs[p] dd
      refine ⟨_, rfl, _, rfl, x, ds, _, _, rfl, rfl, SqL.of (s5 _ _ hx), atI_n rfl gpdv, _, rfl, _, _, docs[p], dd, rfl, hpdv.same (sG.trans s5), hdv'.same (sG.trans s5), hp64, hd64, fun H1 w1 s6 n6 e6 => ⟨_, wn docs[p] dd, rfl, ⟨w1, rfl, e6⟩, by omega, fun H2 w2 ws s7 n7 e7 a7 => ?_⟩⟩
      have s57 := s6.trans s7
      have eS7 := s57 _ _ e5
      have w2S : w2 ≠ S := fun t => by
        rw [t, s6 _ _ e5] at n7
        cases n7
      have hdr : pp.drop (pp.length - (n + 1)) = p :: pp.drop (pp.length - n) := by
        have e1 : pp.length - (n + 1) = pp.length - 1 - n := by omega
        rw [e1, drop_at hp]
        congr 2
        omega
      refine ⟨w2, rfl, ⟨_, SqL.of e7⟩, for_list (K := K) (a := w2) (xs := ws) (fun k σ H' => ∃ (x7 x8 : Option V), σ = [some (nv v), some (.ref x), some (.ref y), some (.ref z), some (.ref da), some (.ref S), some (nv p), x7, x8] ∧ Same H H' ∧ (∀ e u, e ≠ S → H2 e = some u → H' e = some u) ∧ H' S = some (.lst (nvs (sets (fun i => (known.getD p []).getD i v) ((kpl docs[p] dd).take k) (orig (fun p => docs.getD p []) (fun p => known.getD p []) v dd (pp.drop (pp.length - n)))))))
        ⟨_, _, rfl, s5.trans s57, fun _ _ _ h => h, eS7⟩ (fun i σ H' _ ⟨_, _, _, _, k8, _⟩ => SqL.of (k8 _ _ w2S e7)) ?_ ?_⟩
      · rintro k t σ H3 hk ⟨y7, y8, rfl, s8, k8, e8⟩
        obtain ⟨⟨i, j⟩, hij, tp, rfl, htp⟩ := a7.getL hk
        have hij : (kpl docs[p] dd)[k]? = some (i, j) := hij
        obtain ⟨bi, bj⟩ := kpl_in docs[p] dd (i, j) (List.mem_of_getElem? hij)
        have bi : i < docs[p].length := bi
        have bj : j < dd.length := bj
        have gi := List.getElem?_eq_getElem (l := known[p]) (i := i) (by omega)
        refine ⟨tp, _, rfl, SqT.of (k8 _ _ (ne_of htp eS7 (fun z => nomatch z)) htp), rfl, _, _, rfl, _, _, rfl, rfl, ?_⟩
        refine ⟨_, rfl, _, rfl, z, os, _, _, rfl, rfl, SqL.of (s8 _ _ hz), atI_n rfl gkv, _, rfl, ka, _, _, _, rfl, rfl, SqL.of (s8 _ _ (sG _ _ hka)), atI_n rfl (nvs_get gi), _, rfl, _, rfl, S, _, _, _, rfl, rfl, e8, ixN_n rfl (by rw [nvs_len, sets_len, orig_len]; exact bj), ?_⟩
        refine ⟨_, _, rfl, same_in s8 fS, fun e u h h' => by rw [upd_ne h]; exact k8 e u h h', ?_⟩
        rw [upd_same, nvs_set, sets_more _ hij, getD_of (d := []) gko]
        show _ = some (HO.lst (nvs ((sets (fun i => known[p].getD i v) (List.take k (kpl docs[p] dd)) (orig (fun p => docs.getD p []) (fun p => known.getD p []) v dd (List.drop (pp.length - n) pp))).set j (known[p].getD i v))))
        rw [getD_of (d := v) gi]
      · rintro σ H3 ⟨y7, y8, rfl, s8, k8, e8⟩
        have a7l : ws.length = (kpl docs[p] dd).length := a7.len
        rw [a7l, List.take_length] at e8
        refine ⟨_, _, _, rfl, s8, ?_⟩
        rw [e8, hdr]
        show _ = some (HO.lst (nvs (sets (fun i => (known.getD p []).getD i v) (kpl (docs.getD p []) dd) (orig (fun p => docs.getD p []) (fun p => known.getD p []) v dd (List.drop (pp.length - n) pp)))))
        rw [getD_of (d := []) gpd]
    · rintro σ H' ⟨x6, x7, x8, rfl, s5, e5⟩
      rw [nvs_len, Nat.sub_self, List.drop_zero] at e5
      exact ⟨_, rfl, q H' S s5 fS e5⟩

end
end Tb

namespace Tb
open PySem PySem.Spec PyProof.Rows L2
section
variable {P : Program} {w : World} {K : PySem.W.Frag} {mg : Str → Option Value} {base : Heap}
open TbM
/-! ### forebears_of -/
theorem reach_succ (h : Hist.Book) (k : Nat) (w : List Nat) : Hist.reachFrom h (k + 1) w = if w.contains k = true then k :: Hist.reachFrom h k (Hist.parentsOf h k ++ w) else Hist.reachFrom h k w := rfl
/-- the parents of each version -/
def ParsV (H : Hp) (a : Addr) (h : Hist.Book) : Prop := ∃ ps, H a = some (.lst ps) ∧ All2 (IntsV H) ps (h.map (·.parents))
theorem ParsV.same {H H' : Hp} {a : Addr} {h : Hist.Book} (s : Same H H') (p : ParsV H a h) : ParsV H' a h := by
  obtain ⟨ps, e, r⟩ := p
  exact ⟨ps, s _ _ e, rows_same s r⟩
structure OkB (h : Hist.Book) : Prop where
  low : Low h
  two : ∀ v, (Hist.parentsOf h v).length ≤ 2
  most : h.length ≤ 128
def spFore : Sp := fun vs H Q _ => ∃ (a : Addr) (h : Hist.Book) (v : Nat), vs = [.ref a, nv v] ∧ ParsV H a h ∧ OkB h ∧ v < h.length ∧ ∀ H' r, Same H H' → H r = none → H' r = some (.lst (nvs (Hist.forebears h v))) → Q (.ref r) H'
theorem has_put (kvs : List (Key × V)) (k n : Nat) (y : V) : (valV (putK kvs (Sum.inl (k : Int)) y) (Sum.inl (n : Int))).isSome = true ↔ n = k ∨ (valV kvs (Sum.inl (n : Int))).isSome = true := by
  rw [valV_put]
  by_cases e : n = k
  · rw [if_pos (inl_iff.mpr e)]
    simp [e]
  · rw [if_neg (fun z => e (inl_iff.mp z))]
    simp [e]
theorem ok_forebears_of (T : Txt mg) {f : Addr} {fd : FuncData} (F : Fun K "forebears_of" "forebears_of" s_forebears_of f fd) : FnOk P w K mg base CX0 1 f fd ["parents", "version"] spFore := by
  refine F.ok sc_forebears_of (fun vs H Q E h => ?_) (fun cdv A outer s H vs Q E hr h => ?_)
  · obtain ⟨a, h, v, rfl, _⟩ := h
    rfl
  · have hu := hu_of hr
    obtain ⟨a, h, v, rfl, ⟨ps, ha, hps⟩, ok, hv, q⟩ := h
    have hm := ok.most
    refine ⟨_, (pss_cons (ps_set (i := 2) sc_forebears_of.nd rfl (Or.inl rfl) (pe_disp (pps_cons (pv 1) pe_bl pps_nil) (by rfl) (by rfl) (fun z => by cases z) (by decide)))
      (pss_cons (ps_set (i := 3) sc_forebears_of.nd rfl (Or.inl rfl) (pe_lst pa_nil))
      (pss_cons (ps_for PassesOwn.never rfl (pi_range3 (by rfl) T.m_range (pa_cons (pv 1) (pa_cons (pe_un un_neg pe_int) (pa_cons (pe_un un_neg pe_int) pa_nil)))) (pg_name (i := 4) sc_forebears_of.nd rfl (Or.inl rfl)) (pss_one (ps_if (pt_cmp (pc_din hu (pv 4) (pv 2))) (pss_cons (ps_expr (pe_bm PySem.F.plainAttrs_list PySem.F.slot_list_append PySem.F.type_list_append mt_append (pv 3) (pa_cons (pv 4) pa_nil)))
      (pss_one (ps_for PassesOwn.never rfl (pi_list (pe_ix ix_list (pv 0) (pv 4) (fun _ _ => rfl))) (pg_name (i := 5) sc_forebears_of.nd rfl (Or.inl rfl)) (pss_one (ps_dput hu (pv 2) (pv 5) pe_bl rfl))))) pss_nil)))
      (pss_one (ps_ret (pv 3)))))), ?_⟩
    intro d nd
    refine ⟨_, rfl, upd_same, [(Sum.inl (v : Int), .bl true)], rfl, (by show 1 ≤ 15; decide), ?_⟩
    refine ⟨Nat.zero_le _, fun S nS => ?_⟩
    have hdS : d ≠ S := fun z => by
      rw [← z, upd_same] at nS
      cases nS
    have fS : H S = none := free_upd (free_upd nS)
    have s2 : Same H (upd (upd (upd H d (.dK [])) d (.dK (mergeK [] [(Sum.inl (v : Int), .bl true)]))) S (.lst [])) := same_in (same_in (same_upd nd) nd) fS
    have hR : RgC (v : Int) (-1) (-1) (v + 1) := by
      have := RgC.neg (i := (v : Int)) (j := -1) (by omega) (by omega) (by omega) (by omega)
      rwa [show ((v : Int) - -1).toNat = v + 1 by omega] at this
    refine ⟨_, rfl, _, rfl, _, rfl, _, _, _, v + 1, rfl, hR, ?_⟩
    refine for_rangeC (lo := (v : Int)) (c := -1) (n := v + 1) (fun t σ H' => ∃ (x4 x5 : Option V) (kvs : List (Key × V)) (found want : List Nat), σ = [some (.ref a), some (nv v), some (.ref d), some (.ref S), x4, x5] ∧ Same H H' ∧ H' d = some (.dK kvs) ∧ H' S = some (.lst (nvs found)) ∧ found ++ Hist.reachFrom h (v + 1 - t) want = Hist.forebears h v ∧ found.length ≤ t ∧ kvs.length ≤ 1 + 2 * t ∧ ∀ n : Nat, (valV kvs (Sum.inl (n : Int))).isSome = true ↔ n ∈ want)
      ⟨none, none, mergeK [] [(Sum.inl (v : Int), .bl true)], [], [v], rfl, s2, by rw [upd_ne hdS, upd_same], upd_same, (fore_is hv).symm, Nat.le_refl _, Nat.le_refl _, fun n => ?_⟩ ?_ ?_
    · show (valV (putK [] (Sum.inl (v : Int)) (.bl true)) (Sum.inl (n : Int))).isSome = true ↔ n ∈ [v]
      rw [has_put]
      simp [valV]
    · rintro t σ H' ht ⟨x4, x5, kvs, found, want, rfl, s5, d5, e5, q5, l5, l6, w5⟩
      have hk : ((v : Int) + (t : Nat) * -1) = ((v - t : Nat) : Int) := by omega
      have hkl : v - t < h.length := by omega
      rw [show v + 1 - t = (v - t) + 1 by omega, reach_succ] at q5
      refine ⟨_, rfl, _, rfl, d, _, rfl, (by rw [hk]; exact DGet.k (k := Sum.inl ((v - t : Nat) : Int)) d5), _, rfl, ?_⟩
      by_cases c : v - t ∈ want
      · refine if_true_of ((w5 _).mpr c) ?_
        rw [if_pos (by simpa using c)] at q5
        have gk := pars_get h hkl
        obtain ⟨rv, grv, ra, rfl, hra⟩ := hps.get gk
        refine ⟨_, rfl, .inl ⟨rfl, _, SqL.of e5⟩, _, rfl, S, _, _, rfl, rfl, e5, by rw [nvs_len]; exact size_lt' (by omega), ?_⟩
        have s6 := same_in s5 fS (o := .lst (nvs found ++ [V.int ((v : Int) + (t : Nat) * -1)]))
        have eS6 : (upd H' S (.lst (nvs found ++ [V.int ((v : Int) + (t : Nat) * -1)]))) S = some (.lst (nvs (found ++ [v - t]))) := by
          rw [upd_same, hk]
          show some (HO.lst (nvs found ++ [nv (v - t)])) = _
          rw [nvs_snoc]
        have d6 : (upd H' S (.lst (nvs found ++ [V.int ((v : Int) + (t : Nat) * -1)]))) d = some (.dK kvs) := by
          rw [upd_ne hdS]
          exact d5
        refine ⟨_, rfl, _, rfl, a, ps, _, _, rfl, rfl, SqL.of (s6 _ _ ha), atI_n hk grv, ra, rfl, ⟨_, SqL.of (s6 _ _ hra)⟩, ?_⟩
        refine for_list (K := K) (a := ra) (xs := nvs (Hist.parentsOf h (v - t))) (fun k σ H' => ∃ (x5 : Option V) (kvs : List (Key × V)), σ = [some (.ref a), some (nv v), some (.ref d), some (.ref S), some (.int ((v : Int) + (t : Nat) * -1)), x5] ∧ Same H H' ∧ H' d = some (.dK kvs) ∧ H' S = some (.lst (nvs (found ++ [v - t]))) ∧ kvs.length ≤ 1 + 2 * t + k ∧ ∀ n : Nat, (valV kvs (Sum.inl (n : Int))).isSome = true ↔ n ∈ (Hist.parentsOf h (v - t)).take k ++ want)
          ⟨x5, kvs, rfl, s6, d6, eS6, l6, fun n => by rw [List.take_zero]; exact w5 n⟩ (fun i σ H' _ ⟨_, _, _, s7, _⟩ => SqL.of (s7 _ _ hra)) ?_ ?_
        · rintro k y σ H3 hk3 ⟨y5, kvs3, rfl, s7, d7, e7, l7, w7⟩
          obtain ⟨p, hp, rfl⟩ := nvs_inv hk3
          have hkp := (List.getElem?_eq_some_iff.mp hp).1
          have htwo := ok.two (v - t)
          refine ⟨_, rfl, _, rfl, d, _, rfl, DPut.k (k := Sum.inl (p : Int)) d7 (size_lt' (by omega)), ?_⟩
          refine ⟨_, _, rfl, same_in s7 nd, upd_same, by rw [upd_ne hdS.symm]; exact e7, Nat.le_trans (length_putK ..) (by omega), fun n => ?_⟩
          rw [has_put, w7 n, take_more hp, List.mem_append, List.mem_append, List.mem_append, List.mem_singleton]
          constructor
          · rintro (h | h | h)
            · exact .inl (.inr h)
            · exact .inl (.inl h)
            · exact .inr h
          · rintro ((h | h) | h)
            · exact .inr (.inl h)
            · exact .inl h
            · exact .inr (.inr h)
        · rintro σ H3 ⟨y5, kvs3, rfl, s7, d7, e7, l7, w7⟩
          have htwo := ok.two (v - t)
          rw [nvs_len] at l7 w7
          rw [List.take_length] at w7
          refine ⟨_, _, kvs3, found ++ [v - t], Hist.parentsOf h (v - t) ++ want, rfl, s7, d7, e7, ?_, ?_, by omega, w7⟩
          · rw [← q5, List.append_assoc, show v + 1 - (t + 1) = v - t by omega]
            rfl
          · rw [List.length_append]
            show found.length + 1 ≤ t + 1
            omega
      · refine if_false_of (by rw [Bool.eq_false_iff]; exact fun z => c ((w5 _).mp z)) ?_
        rw [if_neg (by simpa using c)] at q5
        refine ⟨_, _, kvs, found, want, rfl, s5, d5, e5, ?_, by omega, by omega, w5⟩
        rw [← q5, show v + 1 - (t + 1) = v - t by omega]
    · rintro σ H' ⟨x4, x5, kvs, found, want, rfl, s5, d5, e5, q5, l5, l6, w5⟩
      rw [Nat.sub_self] at q5
      have q5 : found ++ [] = Hist.forebears h v := q5
      rw [List.append_nil] at q5
      rw [q5] at e5
      exact ⟨_, rfl, q H' S s5 fS e5⟩
/-! ### nearest_in_common -/
theorem in_nvs (n : Nat) : ∀ l : List Nat, inV (nv n) (nvs l) = l.contains n
  | [] => rfl
  | m :: l => by
    have ih := in_nvs n l
    show (((m : Int) == (n : Int)) || inV (nv n) (nvs l)) = (m :: l).contains n
    rw [ih, List.contains_cons]
    congr 1
    rw [Bool.eq_iff_iff]
    simp
    omega
theorem flat_nvs : ∀ l : List Nat, (nvs l).all flatV = true
  | [] => rfl
  | m :: l => by
    show (true && (nvs l).all flatV) = true
    rw [flat_nvs l]
    rfl
def spNear : Sp := fun vs H Q _ => ∃ (a : Addr) (h : Hist.Book) (u v : Nat), vs = [.ref a, nv u, nv v] ∧ ParsV H a h ∧ OkB h ∧ u < h.length ∧ v < h.length ∧ ∀ H' r, Same H H' → H r = none → H' r = some (.lst (nvs (Hist.nearest h u v))) → Q (.ref r) H'
theorem ok_nearest_in_common (T : Txt mg) {f : Addr} {fd : FuncData} (F : Fun K "nearest_in_common" "nearest_in_common" s_nearest_in_common f fd) (c_forebears_of : Cal P w K mg base 1 "forebears_of" spFore) : FnOk P w K mg base CX0 2 f fd ["parents", "u", "v"] spNear := by
  refine F.ok sc_nearest_in_common (fun vs H Q E h => ?_) (fun cdv A outer s H vs Q E hr h => ?_)
  · obtain ⟨a, h, u, v, rfl, _⟩ := h
    rfl
  · have hu := hu_of hr
    obtain ⟨a, h, u, v, rfl, hpv, ok, hul, hvl, q⟩ := h
    have hpv' := hpv
    obtain ⟨ps, ha, hps⟩ := hpv
    have hm := ok.most
    refine ⟨_, (pss_cons (ps_set (i := 3) sc_nearest_in_common.nd rfl (Or.inr rfl) (pe_c c_forebears_of hr (by decide) (by rfl) (pa_cons (pv 0) (pa_cons (pv 2) pa_nil))))
      (pss_cons (ps_setLc (i := 4) (own := [("number", 6)]) (g := gName 6) rfl sc_nearest_in_common.nd rfl rfl (sw_true rfl rfl rfl (by decide +kernel)) (pi_list (pe_c c_forebears_of hr (by decide) (by rfl) (pa_cons (pv 0) (pa_cons (pv 1) pa_nil)))) (blkOk_by (own := [("number", 6)]) (N := N_nearest_in_common) (sc := defScope s_nearest_in_common) (by decide +kernel)) (fun _ _ _ _ _ => pg_name (i := 6) sc_nearest_in_common.nd rfl (Or.inl rfl)) (fun _ _ _ _ _ => pts_one (pt_cmpR (op_inK K) (pv 6) (pv 3) (by rfl))) (fun _ _ _ _ _ => (pv 6)))
      (pss_cons (ps_set (i := 5) sc_nearest_in_common.nd rfl (Or.inr rfl) pe_dnewK)
      (pss_cons (ps_for PassesOwn.never rfl (pi_list (pv 4)) (pg_name (i := 6) sc_nearest_in_common.nd rfl (Or.inl rfl)) (pss_one (ps_for PassesOwn.never rfl (pi_list (pe_ix ix_list (pv 0) (pv 6) (fun _ _ => rfl))) (pg_name (i := 7) sc_nearest_in_common.nd rfl (Or.inl rfl)) (pss_one (ps_dput hu (pv 5) (pv 7) pe_bl rfl)))))
      (pss_one (ps_ret (pe_lc (own := [("number", 6)]) (g := gName 6) rfl sc_nearest_in_common.nd (pi_list (pv 4)) (blkOk_by (own := [("number", 6)]) (N := N_nearest_in_common) (sc := defScope s_nearest_in_common) (by decide +kernel)) (fun _ _ _ _ _ => pg_name (i := 6) sc_nearest_in_common.nd rfl (Or.inl rfl)) (fun _ _ _ _ _ => pts_one (pt_cmp (pc_dnotin hu (pv 6) (pv 5)))) (fun _ _ _ _ _ => (pv 6))))))))), ?_⟩
    refine ⟨_, rfl, _, rfl, a, h, v, rfl, hpv', ok, hvl, fun H1 fv s1 n1 e1 => ?_⟩
    refine ⟨_, rfl, _, rfl, a, h, u, rfl, hpv'.same s1, ok, hul, fun H2 fu s2 n2 e2 => ⟨fu, rfl, ⟨_, SqL.of e2⟩, fun S nS => ?_⟩⟩
    have s02 := s1.trans s2
    have lu := fore_len h u
    refine lc_list (K := K) (a := fu) (xs := nvs (Hist.forebears h u)) (fun n H' => Same H2 H' ∧ H' S = some (.lst (nvs (((Hist.forebears h u).take n).filter fun x => (Hist.forebears h v).contains x)))) ⟨same_upd nS, upd_same⟩ (fun i H' _ p => p.1.seq (SqL.of e2)) (fun n x H' hn p => ?_) (fun H3 p => ?_)
    · obtain ⟨k, hk, rfl⟩ := nvs_inv hn
      have hnl := (List.getElem?_eq_some_iff.mp hk).1
      refine ⟨rfl, _, rfl, _, rfl, fv, _, rfl, .inl (SqL.of (p.1 _ _ (s2 _ _ e1))), rfl, flat_nvs _, _, rfl, ?_⟩
      have hin : (if false = true then !inV (nv k) (nvs (Hist.forebears h v)) else inV (nv k) (nvs (Hist.forebears h v))) = (Hist.forebears h v).contains k := in_nvs k _
      rw [hin, take_more hk, List.filter_append]
      refine if_bool (fun c => ?_) (fun c => ?_)
      · refine ⟨_, rfl, _, p.2, ?_, same_in p.1 nS, ?_⟩
        · rw [nvs_len]
          have := List.length_filter_le (fun x => (Hist.forebears h v).contains x) ((Hist.forebears h u).take n)
          rw [List.length_take] at this
          exact size_lt' (by omega)
        · rw [upd_same, nvs_snoc, List.filter_cons, List.filter_nil, if_pos c]
      · refine ⟨p.1, ?_⟩
        rw [p.2, List.filter_cons, List.filter_nil, if_neg (by rw [c]; exact Bool.false_ne_true), List.append_nil]
    · rw [nvs_len, List.take_length] at p
      obtain ⟨s3, e3⟩ := p
      have e3 : H3 S = some (.lst (nvs (sharedOf h u v))) := e3
      have fS : H S = none := s02.free nS
      have s03 := s02.trans s3
      have lsh : (sharedOf h u v).length ≤ 128 := by
        have := List.length_filter_le (fun x => (Hist.forebears h v).contains x) (Hist.forebears h u)
        unfold sharedOf
        omega
      intro d nd
      have fd' : H d = none := s03.free nd
      have hSd : S ≠ d := ne_of_none e3 nd
      have s04 := s03.trans (same_upd nd (o := .dK []))
      refine ⟨_, rfl, S, rfl, ⟨_, SqL.of (same_upd nd _ _ e3)⟩, ?_⟩
      refine for_list (K := K) (a := S) (xs := nvs (sharedOf h u v)) (fun n σ H' => ∃ (x6 x7 : Option V) (kvs : List (Key × V)), σ = [some (.ref a), some (nv u), some (nv v), some (.ref fv), some (.ref S), some (.ref d), x6, x7] ∧ Same H H' ∧ H' S = some (.lst (nvs (sharedOf h u v))) ∧ H' d = some (.dK kvs) ∧ kvs.length ≤ 2 * n ∧ ∀ m : Nat, (valV kvs (Sum.inl (m : Int))).isSome = true ↔ m ∈ passedOf h ((sharedOf h u v).take n))
        ⟨none, none, [], rfl, s04, same_upd nd _ _ e3, upd_same, Nat.le_refl _, fun m => by simp [valV, passedOf]⟩ (fun i σ H' _ ⟨_, _, _, _, _, e5, _⟩ => SqL.of e5) ?_ ?_
      · rintro n y σ H5 hn ⟨x6, x7, kvs, rfl, s5, e5, d5, l5, w5⟩
        obtain ⟨k, hk, rfl⟩ := nvs_inv hn
        have hnl := (List.getElem?_eq_some_iff.mp hk).1
        have hkl : k < h.length := by
          have := List.mem_of_getElem? hk
          exact fore_lt (List.mem_filter.mp this).1
        obtain ⟨rv, grv, ra, rfl, hra⟩ := hps.get (pars_get h hkl)
        have htwo := ok.two k
        refine ⟨_, rfl, _, rfl, a, ps, _, _, rfl, rfl, SqL.of (s5 _ _ ha), atI_n rfl grv, ra, rfl, ⟨_, SqL.of (s5 _ _ hra)⟩, ?_⟩
        refine for_list (K := K) (a := ra) (xs := nvs (Hist.parentsOf h k)) (fun j σ H' => ∃ (x7 : Option V) (kvs : List (Key × V)), σ = [some (.ref a), some (nv u), some (nv v), some (.ref fv), some (.ref S), some (.ref d), some (nv k), x7] ∧ Same H H' ∧ H' S = some (.lst (nvs (sharedOf h u v))) ∧ H' d = some (.dK kvs) ∧ kvs.length ≤ 2 * n + j ∧ ∀ m : Nat, (valV kvs (Sum.inl (m : Int))).isSome = true ↔ m ∈ passedOf h ((sharedOf h u v).take n) ++ (Hist.parentsOf h k).take j)
          ⟨x7, kvs, rfl, s5, e5, d5, l5, fun m => by rw [List.take_zero, List.append_nil]; exact w5 m⟩ (fun i σ H' _ ⟨_, _, _, s7, _⟩ => SqL.of (s7 _ _ hra)) ?_ ?_
        · rintro j y σ H6 hj ⟨y7, kvs6, rfl, s6, e6, d6, l6, w6⟩
          obtain ⟨p, hp, rfl⟩ := nvs_inv hj
          have hjp := (List.getElem?_eq_some_iff.mp hp).1
          refine ⟨_, rfl, _, rfl, d, _, rfl, DPut.k (k := Sum.inl (p : Int)) d6 (size_lt' (by omega)), ?_⟩
          refine ⟨_, _, rfl, same_in s6 fd', by rw [upd_ne hSd]; exact e6, upd_same, Nat.le_trans (length_putK ..) (by omega), fun m => ?_⟩
          rw [has_put, w6 m, take_more hp, List.mem_append, List.mem_append, List.mem_append, List.mem_singleton]
          constructor
          · rintro (h | h | h)
            · exact .inr (.inr h)
            · exact .inl h
            · exact .inr (.inl h)
          · rintro (h | h | h)
            · exact .inr (.inl h)
            · exact .inr (.inr h)
            · exact .inl h
        · rintro σ H6 ⟨y7, kvs6, rfl, s6, e6, d6, l6, w6⟩
          rw [nvs_len] at l6 w6
          rw [List.take_length] at w6
          refine ⟨_, _, kvs6, rfl, s6, e6, d6, by omega, fun m => ?_⟩
          rw [w6 m, take_more hk]
          unfold passedOf
          rw [List.flatMap_append]
          simp [List.flatMap_cons]
      · rintro σ H5 ⟨x6, x7, kvs, rfl, s5, e5, d5, l5, w5⟩
        rw [nvs_len] at l5 w5
        rw [List.take_length] at w5
        refine ⟨_, rfl, S, rfl, ⟨_, SqL.of e5⟩, fun R nR => ?_⟩
        have fR : H R = none := s5.free nR
        refine lc_list (K := K) (a := S) (xs := nvs (sharedOf h u v)) (fun n H' => Same H5 H' ∧ H' R = some (.lst (nvs (((sharedOf h u v).take n).filter fun x => !(passedOf h (sharedOf h u v)).contains x)))) ⟨same_upd nR, upd_same⟩ (fun i H' _ p => p.1.seq (SqL.of e5)) (fun n x H' hn p => ?_) (fun H6 p => ?_)
        · obtain ⟨k, hk, rfl⟩ := nvs_inv hn
          have hnl := (List.getElem?_eq_some_iff.mp hk).1
          refine ⟨rfl, _, rfl, _, rfl, d, _, rfl, DGet.k (k := Sum.inl (k : Int)) (p.1 _ _ d5), _, rfl, ?_⟩
          have hin : (!(valV kvs (Sum.inl (k : Int))).isSome) = !(passedOf h (sharedOf h u v)).contains k := by
            congr 1
            rw [Bool.eq_iff_iff, w5 k, List.contains_iff_mem]
          rw [hin, take_more hk, List.filter_append]
          refine if_bool (fun c => ?_) (fun c => ?_)
          · refine ⟨_, rfl, _, p.2, ?_, same_in p.1 nR, ?_⟩
            · rw [nvs_len]
              have := List.length_filter_le (fun x => !(passedOf h (sharedOf h u v)).contains x) ((sharedOf h u v).take n)
              rw [List.length_take] at this
              exact size_lt' (by omega)
            · rw [upd_same, nvs_snoc, List.filter_cons, List.filter_nil, if_pos c]
          · refine ⟨p.1, ?_⟩
            rw [p.2, List.filter_cons, List.filter_nil, if_neg (by rw [c]; exact Bool.false_ne_true), List.append_nil]
        · rw [nvs_len, List.take_length, ← near_is ok.low hul hvl] at p
          exact q H6 R (s5.trans p.1) fR p.2

end
end Tb

namespace Tb
open PySem PySem.Spec PyProof.Rows L2
section
variable {P : Program} {w : World} {K : PySem.W.Frag} {mg : Str → Option Value} {base : Heap}
open TbM
/-! ### State: what lies in the heap -/
structure Ad where
  D : Addr
  P : Addr
  O : Addr
  h : Addr
def sF (A : Ad) : List (Str × V) := [("documents", .ref A.D), ("parents", .ref A.P), ("origins", .ref A.O), ("heads", .ref A.h)]
theorem sF_D (A : Ad) : (sF A).lookup ("documents" : Str) = some (.ref A.D) := lk_here
theorem sF_P (A : Ad) : (sF A).lookup ("parents" : Str) = some (.ref A.P) := (lk_past (by decide +kernel)).trans lk_here
theorem sF_O (A : Ad) : (sF A).lookup ("origins" : Str) = some (.ref A.O) := (lk_past (by decide +kernel)).trans ((lk_past (by decide +kernel)).trans lk_here)
theorem sF_h (A : Ad) : (sF A).lookup ("heads" : Str) = some (.ref A.h) := (lk_past (by decide +kernel)).trans ((lk_past (by decide +kernel)).trans ((lk_past (by decide +kernel)).trans lk_here))
theorem sF_no (A : Ad) {m : Str} (h1 : (m == ("documents" : Str)) = false) (h2 : (m == ("parents" : Str)) = false) (h3 : (m == ("origins" : Str)) = false) (h4 : (m == ("heads" : Str)) = false) : (sF A).lookup m = none :=
  (lk_past h1).trans ((lk_past h2).trans ((lk_past h3).trans ((lk_past h4).trans rfl)))
theorem sF_has (A : Ad) : (sF A).lookup ("has_version" : Str) = none := sF_no A (by decide +kernel) (by decide +kernel) (by decide +kernel) (by decide +kernel)
theorem sF_full (A : Ad) : (sF A).lookup ("is_full" : Str) = none := sF_no A (by decide +kernel) (by decide +kernel) (by decide +kernel) (by decide +kernel)
theorem sF_none (A : Ad) : (sF A).lookup ("is_at_none" : Str) = none := sF_no A (by decide +kernel) (by decide +kernel) (by decide +kernel) (by decide +kernel)
theorem sF_first (A : Ad) : (sF A).lookup ("first_document" : Str) = none := sF_no A (by decide +kernel) (by decide +kernel) (by decide +kernel) (by decide +kernel)
theorem sF_add (A : Ad) : (sF A).lookup ("add_version" : Str) = none := sF_no A (by decide +kernel) (by decide +kernel) (by decide +kernel) (by decide +kernel)
def hv : Option Nat → V
  | none => .non
  | some v => nv v
structure WF (st : Hist.State) : Prop where
  ok : OkB st.book
  fit : ∀ v, v < st.book.length → Hist.fits (Hist.docOf st.book v) = true
  hds : st.heads.length = 8
  hin : ∀ (k u : Nat), st.heads[k]? = some (some u) → u < st.book.length
structure StAt (C : Addr) (G H : Hp) (s : Addr) (A : Ad) (st : Hist.State) : Prop where
  ins : ∃ dx, H s = some (.ins C dx (sF A))
  dp : A.D ≠ A.P
  dO : A.D ≠ A.O
  dh : A.D ≠ A.h
  pO : A.P ≠ A.O
  ph : A.P ≠ A.h
  oh : A.O ≠ A.h
  sub : Same G H
  gD : G A.D = none
  gP : G A.P = none
  gO : G A.O = none
  gh : G A.h = none
  docs : ∃ ds, H A.D = some (.lst ds) ∧ All2 (DocV G) ds (st.book.map (·.doc))
  pars : ∃ ps, H A.P = some (.lst ps) ∧ All2 (IntsV G) ps (st.book.map (·.parents))
  orgs : ∃ os, H A.O = some (.lst os) ∧ All2 (IntsV G) os (Hist.origins st.book)
  hds : H A.h = some (.lst (st.heads.map hv))
  wf : WF st
/-- all but the state's own lists stays -/
def Keep (A : Ad) (H H' : Hp) : Prop := ∀ b o, b ≠ A.D → b ≠ A.P → b ≠ A.O → b ≠ A.h → H b = some o → H' b = some o
theorem Keep.of {A : Ad} {H H' : Hp} (s : Same H H') : Keep A H H' := fun b o _ _ _ _ e => s b o e
theorem Keep.trans {A : Ad} {H H1 H2 : Hp} (a : Keep A H H1) (b : Keep A H1 H2) : Keep A H H2 := fun c o h1 h2 h3 h4 e => b c o h1 h2 h3 h4 (a c o h1 h2 h3 h4 e)
theorem StAt.same {C : Addr} {G H H' : Hp} {s : Addr} {A : Ad} {st : Hist.State} (x : StAt C G H s A st) (e : Same H H') : StAt C G H' s A st := by
  obtain ⟨dx, h0⟩ := x.ins
  obtain ⟨ds, d1, d2⟩ := x.docs
  obtain ⟨ps, p1, p2⟩ := x.pars
  obtain ⟨os, o1, o2⟩ := x.orgs
  exact ⟨⟨dx, e _ _ h0⟩, x.dp, x.dO, x.dh, x.pO, x.ph, x.oh, x.sub.trans e, x.gD, x.gP, x.gO, x.gh, ⟨ds, e _ _ d1, d2⟩, ⟨ps, e _ _ p1, p2⟩, ⟨os, e _ _ o1, o2⟩, e _ _ x.hds, x.wf⟩
theorem same_grow {G H : Hp} {p : Addr} {o : HO} (s : Same G H) (e : H p = some o) : Same G (upd G p o) := fun b u h => by
  by_cases c : b = p
  · subst c
    rw [upd_same, ← e, s _ _ h]
  · rw [upd_ne c]
    exact h
theorem grow_same {G H : Hp} {p : Addr} {o : HO} (s : Same G H) (e : H p = some o) : Same (upd G p o) H := fun b u h => by
  by_cases c : b = p
  · subst c
    rw [upd_same] at h
    rw [e, h]
  · rw [upd_ne c] at h
    exact s _ _ h
/-- more stands fast, and it was new -/
structure Grow (H G G' : Hp) : Prop where
  same : Same G G'
  new : ∀ b o, H b = some o → G b = none → G' b = none
theorem Grow.refl {H G : Hp} : Grow H G G := ⟨Same.refl G, fun _ _ _ h => h⟩
theorem Grow.up {H H1 G G' : Hp} (g : Grow H1 G G') (s : Same H H1) : Grow H G G' := ⟨g.same, fun b o e h => g.new b o (s b o e) h⟩
theorem Grow.trans {H H1 G G1 G2 : Hp} (a : Grow H G G1) (s : Same H H1) (b : Grow H1 G1 G2) : Grow H G G2 := ⟨a.same.trans b.same, fun c o e h => b.new c o (s c o e) (a.new c o e h)⟩
theorem Grow.step {H H1 G : Hp} {p : Addr} {o : HO} (s : Same G H1) (e : H1 p = some o) (n : H p = none) : Grow H G (upd G p o) := ⟨same_grow s e, fun b u h g => by
  rw [upd_ne (ne_of_none h n)]
  exact g⟩
/-- what is new stands fast from now on -/
theorem StAt.freeze {C : Addr} {G H : Hp} {s : Addr} {A : Ad} {st : Hist.State} (x : StAt C G H s A st) {p : Addr} {o : HO} (e : H p = some o) (h1 : A.D ≠ p) (h2 : A.P ≠ p) (h3 : A.O ≠ p) (h4 : A.h ≠ p) : StAt C (upd G p o) H s A st := by
  have g := same_grow x.sub e
  obtain ⟨ds, d1, d2⟩ := x.docs
  obtain ⟨ps, p1, p2⟩ := x.pars
  obtain ⟨os, o1, o2⟩ := x.orgs
  exact ⟨x.ins, x.dp, x.dO, x.dh, x.pO, x.ph, x.oh, grow_same x.sub e, by rw [upd_ne h1]; exact x.gD, by rw [upd_ne h2]; exact x.gP, by rw [upd_ne h3]; exact x.gO, by rw [upd_ne h4]; exact x.gh,
    ⟨ds, d1, d2.mono fun _ _ => DocV.same g⟩, ⟨ps, p1, p2.mono fun _ _ => IntsV.same g⟩, ⟨os, o1, o2.mono fun _ _ => IntsV.same g⟩, x.hds, x.wf⟩
/-- an address that was free is none of the state's lists -/
theorem StAt.ne {C : Addr} {G H : Hp} {s : Addr} {A : Ad} {st : Hist.State} (x : StAt C G H s A st) {p : Addr} (e : H p = none) : A.D ≠ p ∧ A.P ≠ p ∧ A.O ≠ p ∧ A.h ≠ p := by
  obtain ⟨ds, d1, d2⟩ := x.docs
  obtain ⟨ps, p1, p2⟩ := x.pars
  obtain ⟨os, o1, o2⟩ := x.orgs
  exact ⟨ne_of_none d1 e, ne_of_none p1 e, ne_of_none o1 e, ne_of_none x.hds e⟩
/-- a new list stands fast -/
theorem StAt.take {C : Addr} {G H H' : Hp} {s : Addr} {A : Ad} {st : Hist.State} (x : StAt C G H s A st) {p : Addr} {o : HO} (e : H p = none) (sm : Same H H') (e' : H' p = some o) : StAt C (upd G p o) H' s A st := by
  obtain ⟨h1, h2, h3, h4⟩ := x.ne e
  exact (x.same sm).freeze e' h1 h2 h3 h4
theorem StAt.free {C : Addr} {G H H' : Hp} {s : Addr} {A : Ad} {st : Hist.State} (x : StAt C G H' s A st) (k : Keep A H H') {p : Addr} (e : H' p = none) : H p = none := by
  obtain ⟨h1, h2, h3, h4⟩ := x.ne e
  cases q : H p with
  | none => rfl
  | some o =>
    rw [k p o h1.symm h2.symm h3.symm h4.symm q] at e
    cases e
structure TxS (K : PySem.W.Frag) (C : Addr) : Prop where
  cl : Cls K C
  nD : NoAttr K C "documents"
  nP : NoAttr K C "parents"
  nO : NoAttr K C "origins"
  nh : NoAttr K C "heads"
/-! ### State.__init__ -/
theorem wf_start : WF Hist.start := by
  refine ⟨⟨fun v h => by simp [Hist.start] at h, fun v => by simp [Hist.start, Hist.parentsOf], by simp [Hist.start]⟩, fun v h => by simp [Hist.start] at h, rfl, fun k u h => ?_⟩
  have h : (List.replicate 8 (none : Option Nat))[k]? = some (some u) := h
  rw [List.getElem?_replicate] at h
  split at h <;> cases h
def spSInit (C : Addr) : Sp := fun vs H Q _ => ∃ (p dx : Addr), vs = [.ref p] ∧ H p = some (.ins C dx []) ∧
  ∀ (H' : Hp) (A : Ad), StAt C (fun _ => none) H' p A Hist.start → H A.D = none → H A.P = none → H A.O = none → H A.h = none → (∀ b o, H b = some o → b ≠ p → H' b = some o) → Q .non H'
theorem ok_State_init {C : Addr} (T : Txt mg) (TS : TxS K C) {f : Addr} {fd : FuncData} (F : Fun K "__init__" "State.__init__" s_State_init f fd) : FnOk P w K mg base CX0 1 f fd ["self"] (spSInit C) := by
  refine F.ok sc_State_init (fun vs H Q E h => ?_) (fun cdv A outer s H vs Q E hr h => ?_)
  · obtain ⟨p, dx, rfl, _⟩ := h
    rfl
  · obtain ⟨p, dx, rfl, hp, q⟩ := h
    refine ⟨_, (pss_cons (ps_fld (pv 0) (pe_lst pa_nil) rfl)
      (pss_cons (ps_fld (pv 0) (pe_lst pa_nil) rfl)
      (pss_cons (ps_fld (pv 0) (pe_lst pa_nil) rfl)
      (pss_one (ps_fld (pv 0) (pe_op op_rep (pe_lst (pa_cons pe_non pa_nil)) (pe_gi (by rfl) T.gBRANCHES)) rfl))))), ?_⟩
    refine ⟨Nat.zero_le _, fun a na => ⟨_, rfl, p, C, dx, [], rfl, same_upd na _ _ hp, TS.cl, TS.nD, (by show 0 < 1000; decide), ?_⟩⟩
    refine ⟨Nat.zero_le _, fun b nb => ⟨_, rfl, p, C, dx, _, rfl, same_upd nb _ _ upd_same, TS.cl, TS.nP, (by show 1 < 1000; decide), ?_⟩⟩
    refine ⟨Nat.zero_le _, fun c nc => ⟨_, rfl, p, C, dx, _, rfl, same_upd nc _ _ upd_same, TS.cl, TS.nO, (by show 2 < 1000; decide), ?_⟩⟩
    refine ⟨(by show 1 ≤ sizeLine; decide), fun e ne => ⟨e, _, _, rfl, rfl, upd_same, by decide, by decide, (by show 8 ≤ sizeLine; decide), fun d nd => ⟨_, rfl, p, C, dx, _, rfl, same_upd nd _ _ (same_upd ne _ _ upd_same), TS.cl, TS.nh, (by show 3 < 1000; decide), ?_⟩⟩⟩
    have fb : H b = none := free_upd (free_upd nb)
    have fc : H c = none := free_upd (free_upd (free_upd (free_upd nc)))
    have fe : H e = none := free_upd (free_upd (free_upd (free_upd (free_upd (free_upd ne)))))
    have fd' : H d = none := free_upd (free_upd (free_upd (free_upd (free_upd (free_upd (free_upd nd))))))
    have pa : a ≠ p := (ne_of_none hp na).symm
    have pb : b ≠ p := (ne_of_none hp fb).symm
    have pc : c ≠ p := (ne_of_none hp fc).symm
    have pe : e ≠ p := (ne_of_none hp fe).symm
    have pd : d ≠ p := (ne_of_none hp fd').symm
    have ab : a ≠ b := fun z => by rw [← z, upd_ne pa, upd_same] at nb; cases nb
    have ac : a ≠ c := fun z => by rw [← z, upd_ne pa, upd_ne ab, upd_ne pa, upd_same] at nc; cases nc
    have bc : b ≠ c := fun z => by rw [← z, upd_ne pb, upd_same] at nc; cases nc
    have ae : a ≠ e := fun z => by rw [← z, upd_ne pa, upd_ne ac, upd_ne pa, upd_ne ab, upd_ne pa, upd_same] at ne; cases ne
    have be : b ≠ e := fun z => by rw [← z, upd_ne pb, upd_ne bc, upd_ne pb, upd_same] at ne; cases ne
    have ce : c ≠ e := fun z => by rw [← z, upd_ne pc, upd_same] at ne; cases ne
    have ad : a ≠ d := fun z => by rw [← z, upd_ne ae, upd_ne pa, upd_ne ac, upd_ne pa, upd_ne ab, upd_ne pa, upd_same] at nd; cases nd
    have bd : b ≠ d := fun z => by rw [← z, upd_ne be, upd_ne pb, upd_ne bc, upd_ne pb, upd_same] at nd; cases nd
    have cd : c ≠ d := fun z => by rw [← z, upd_ne ce, upd_ne pc, upd_same] at nd; cases nd
    refine q _ ⟨a, b, c, d⟩ ⟨⟨dx, Eq.trans upd_same ?_⟩, ab, ac, ad, bc, bd, cd, (fun _ _ z => by cases z), rfl, rfl, rfl, rfl, ⟨[], ?_, All2.nil⟩, ⟨[], ?_, All2.nil⟩, ⟨[], ?_, All2.nil⟩, ?_, wf_start⟩ na fb fc fd' ?_
    · refine congrArg (fun z => some (HO.ins C dx z)) ?_
      show putF "heads" (.ref d) (putF "origins" (.ref c) (putF "parents" (.ref b) [("documents", .ref a)])) = _
      rw [put_past (f := "parents") (by decide +kernel)]
      show putF "heads" (.ref d) (putF "origins" (.ref c) [("documents", .ref a), ("parents", .ref b)]) = _
      rw [put_past (f := "origins") (by decide +kernel), put_past (f := "origins") (by decide +kernel)]
      show putF "heads" (.ref d) [("documents", .ref a), ("parents", .ref b), ("origins", .ref c)] = _
      rw [put_past (f := "heads") (by decide +kernel), put_past (f := "heads") (by decide +kernel), put_past (f := "heads") (by decide +kernel)]
      rfl
    · rw [upd_ne pa, upd_ne ad, upd_ne ae, upd_ne pa, upd_ne ac, upd_ne pa, upd_ne ab, upd_ne pa, upd_same]
    · rw [upd_ne pb, upd_ne bd, upd_ne be, upd_ne pb, upd_ne bc, upd_ne pb, upd_same]
    · rw [upd_ne pc, upd_ne cd, upd_ne ce, upd_ne pc, upd_same]
    · rw [upd_ne pd, upd_same]
      rfl
    · intro x o ex hx
      rw [upd_ne hx, upd_ne (ne_of_none ex fd'), upd_ne (ne_of_none ex fe), upd_ne hx, upd_ne (ne_of_none ex fc), upd_ne hx, upd_ne (ne_of_none ex fb), upd_ne hx, upd_ne (ne_of_none ex na)]
      exact ex
/-! ### has_version, is_full, is_at_none -/
def spHas (C : Addr) : Sp := fun vs H Q _ => ∃ (s : Addr) (A : Ad) (G : Hp) (st : Hist.State) (v : Nat), vs = [.ref s, nv v] ∧ StAt C G H s A st ∧ Q (.bl (st.has v)) H
theorem ok_State_has_version {C : Addr} (T : Txt mg) (TS : TxS K C) {f : Addr} {fd : FuncData} (F : Fun K "has_version" "State.has_version" s_State_has_version f fd) : FnOk P w K mg base CX0 1 f fd ["self", "version"] (spHas C) := by
  refine F.ok sc_State_has_version (fun vs H Q E h => ?_) (fun cdv A outer s H vs Q E hr h => ?_)
  · obtain ⟨s, A, G, st, v, rfl, _⟩ := h
    rfl
  · obtain ⟨s, A, G, st, v, rfl, x, q⟩ := h
    obtain ⟨dx, h0⟩ := x.ins
    obtain ⟨ds, d1, d2⟩ := x.docs
    refine ⟨_, (pss_one (ps_ret (pe_cmpR op_lt (pv 1) (pe_callB call_len_seq (by rfl) T.m_len PySem.boot_len (pa_cons (pe_fld (pv 0) rfl) pa_nil)) (nomark _)))), ?_⟩
    refine ⟨_, rfl, _, rfl, s, C, dx, _, _, rfl, h0, TS.cl, TS.nD, sF_D A, A.D, ds, rfl, .inl (SqL.of d1), _, _, rfl, rfl, ?_⟩
    have e : decide ((v : Int) < (ds.length : Int)) = st.has v := by
      unfold Hist.State.has
      rw [d2.len, List.length_map]
      exact decide_eq_decide.mpr (by omega)
    show Q (.bl (decide ((v : Int) < (ds.length : Int)))) H
    rw [e]
    exact q
def spFull (C : Addr) : Sp := fun vs H Q _ => ∃ (s : Addr) (A : Ad) (G : Hp) (st : Hist.State), vs = [.ref s] ∧ StAt C G H s A st ∧ Q (.bl (decide (128 ≤ st.book.length))) H
theorem ok_State_is_full {C : Addr} (T : Txt mg) (TS : TxS K C) {f : Addr} {fd : FuncData} (F : Fun K "is_full" "State.is_full" s_State_is_full f fd) : FnOk P w K mg base CX0 1 f fd ["self"] (spFull C) := by
  refine F.ok sc_State_is_full (fun vs H Q E h => ?_) (fun cdv A outer s H vs Q E hr h => ?_)
  · obtain ⟨s, A, G, st, rfl, _⟩ := h
    rfl
  · obtain ⟨s, A, G, st, rfl, x, q⟩ := h
    obtain ⟨dx, h0⟩ := x.ins
    obtain ⟨ds, d1, d2⟩ := x.docs
    refine ⟨_, (pss_one (ps_ret (pe_cmpR op_ge (pe_callB call_len_seq (by rfl) T.m_len PySem.boot_len (pa_cons (pe_fld (pv 0) rfl) pa_nil)) (pe_gi (by rfl) T.gMOST_VERSIONS) (nomark _)))), ?_⟩
    refine ⟨_, rfl, s, C, dx, _, _, rfl, h0, TS.cl, TS.nD, sF_D A, A.D, ds, rfl, .inl (SqL.of d1), _, _, rfl, rfl, ?_⟩
    have e : decide ((128 : Int) ≤ (ds.length : Int)) = decide (128 ≤ st.book.length) := by
      rw [d2.len, List.length_map]
      exact decide_eq_decide.mpr (by omega)
    show Q (.bl (decide ((128 : Int) ≤ (ds.length : Int)))) H
    rw [e]
    exact q
theorem head_at {st : Hist.State} (wf : WF st) {k : Nat} (hk : k < 8) : (st.heads.map hv)[k]? = some (hv (st.head k)) := by
  have hl : k < st.heads.length := by rw [wf.hds]; exact hk
  unfold Hist.State.head
  rw [List.getElem?_map, List.getElem?_eq_getElem hl, List.getD_eq_getElem?_getD, List.getElem?_eq_getElem hl]
  rfl
theorem head_in {st : Hist.State} (wf : WF st) {k u : Nat} (hu : st.head k = some u) : u < st.book.length := by
  unfold Hist.State.head at hu
  rw [List.getD_eq_getElem?_getD] at hu
  cases e : st.heads[k]? with
  | none => rw [e] at hu; cases hu
  | some o =>
    rw [e] at hu
    have hu : o = some u := hu
    rw [hu] at e
    exact wf.hin k u e
def spNone (C : Addr) : Sp := fun vs H Q _ => ∃ (s : Addr) (A : Ad) (G : Hp) (st : Hist.State) (k : Nat), vs = [.ref s, nv k] ∧ StAt C G H s A st ∧ k < 8 ∧ Q (.bl (decide (st.head k = none))) H
theorem ok_State_is_at_none {C : Addr} (T : Txt mg) (TS : TxS K C) {f : Addr} {fd : FuncData} (F : Fun K "is_at_none" "State.is_at_none" s_State_is_at_none f fd) : FnOk P w K mg base CX0 1 f fd ["self", "branch"] (spNone C) := by
  refine F.ok sc_State_is_at_none (fun vs H Q E h => ?_) (fun cdv A outer s H vs Q E hr h => ?_)
  · obtain ⟨s, A, G, st, k, rfl, _⟩ := h
    rfl
  · obtain ⟨s, A, G, st, k, rfl, x, hk, q⟩ := h
    obtain ⟨dx, h0⟩ := x.ins
    refine ⟨_, (pss_one (ps_ret (pe_cmpR op_isN (pe_ix ix_list (pe_fld (pv 0) rfl) (pv 1) (fun _ _ => rfl)) pe_non (nomark _)))), ?_⟩
    refine ⟨_, rfl, s, C, dx, _, _, rfl, h0, TS.cl, TS.nh, sF_h A, _, rfl, A.h, _, _, _, rfl, rfl, SqL.of x.hds, atI_n rfl (head_at x.wf hk), rfl, ?_⟩
    have e : decide (hv (st.head k) = .non) = decide (st.head k = none) := by
      cases st.head k with
      | none => rfl
      | some u => rfl
    rw [e]
    exact q
/-! ### first_document -/
def firstD (b : Hist.Book) : List Nat → Hist.Doc
  | [] => []
  | v :: _ => Hist.docOf b v
def spFirst (C : Addr) : Sp := fun vs H Q _ => ∃ (s : Addr) (A : Ad) (G : Hp) (st : Hist.State) (v : V) (l : List Nat), vs = [.ref s, v] ∧ StAt C G H s A st ∧ IntsV H v l ∧ (∀ n ∈ l, n < st.book.length) ∧
  ∀ (H' G' : Hp) (r : V), Same H H' → Grow H G G' → StAt C G' H' s A st → DocV G' r (firstD st.book l) → Q r H'
theorem ok_State_first_document {C : Addr} (T : Txt mg) (TS : TxS K C) {f : Addr} {fd : FuncData} (F : Fun K "first_document" "State.first_document" s_State_first_document f fd) : FnOk P w K mg base CX0 1 f fd ["self", "versions"] (spFirst C) := by
  refine F.ok sc_State_first_document (fun vs H Q E h => ?_) (fun cdv A outer s H vs Q E hr h => ?_)
  · obtain ⟨s, A, G, st, v, l, rfl, _⟩ := h
    rfl
  · obtain ⟨s, A, G, st, v, l, rfl, x, ⟨a, rfl, ha⟩, hl, q⟩ := h
    obtain ⟨dx, h0⟩ := x.ins
    obtain ⟨ds, d1, d2⟩ := x.docs
    refine ⟨_, (pss_one (ps_ret (pe_ifExp (pt_truth (pv 1) (by intro _; rfl)) (pe_ix ix_list (pe_fld (pv 0) rfl) (pe_ix ix_list (pv 1) pe_int (fun _ _ => rfl)) (fun _ _ => rfl)) (pe_lst pa_nil)))), ?_⟩
    refine ⟨_, rfl, !(nvs l).isEmpty, .inl ⟨nvs l, SqL.of ha, rfl⟩, ?_⟩
    cases l with
    | nil =>
      refine if_false_of rfl ⟨Nat.zero_le _, fun p np => ?_⟩
      exact q _ (upd G p (.lst [])) (.ref p) (same_upd np) (Grow.step (x.sub.trans (same_upd np)) upd_same np) (x.take np (same_upd np) upd_same) ⟨p, [], rfl, upd_same, All2.nil⟩
    | cons n l =>
      have hn := hl n (List.mem_cons_self ..)
      obtain ⟨dv, gdv, hdv⟩ := d2.get (docs_get st.book hn)
      refine if_true_of rfl ⟨_, rfl, s, C, dx, _, _, rfl, h0, TS.cl, TS.nD, sF_D A, _, rfl, a, _, _, _, rfl, rfl, SqL.of ha, atI_n (j := 0) rfl rfl, A.D, ds, _, _, rfl, rfl, SqL.of d1, atI_n rfl gdv, ?_⟩
      exact q H G dv (Same.refl H) Grow.refl x hdv

end
end Tb

namespace Tb
open PySem PySem.Spec PyProof.Rows L2
section
variable {P : Program} {w : World} {K : PySem.W.Frag} {mg : Str → Option Value} {base : Heap}
open TbM
/-! ### add_version -/
theorem docs_D (h : Hist.Book) : (fun p => (h.map (·.doc)).getD p []) = Hist.docOf h := by
  funext v
  unfold Hist.docOf
  rw [List.getD_eq_getElem?_getD, List.getElem?_map]
theorem pars_D (h : Hist.Book) (v : Nat) : (h.map (·.parents)).getD v [] = Hist.parentsOf h v := by
  unfold Hist.parentsOf
  rw [List.getD_eq_getElem?_getD, List.getElem?_map]
theorem fit_len {d : Hist.Doc} (h : Hist.fits d = true) : d.length ≤ 64 := by
  unfold Hist.fits at h
  rw [Bool.and_eq_true] at h
  exact of_decide_eq_true h.1
theorem fit_rows {d : Hist.Doc} (h : Hist.fits d = true) : ∀ l ∈ d, l.length ≤ 64 := by
  unfold Hist.fits at h
  rw [Bool.and_eq_true, List.all_eq_true] at h
  intro l hl
  exact of_decide_eq_true (h.2 l hl)
theorem book_fit {st : Hist.State} (wf : WF st) : ∀ d ∈ st.book.map (·.doc), d.length ≤ 64 := by
  intro d hd
  obtain ⟨i, hi⟩ := List.getElem?_of_mem hd
  have hl : i < st.book.length := by
    have := (List.getElem?_eq_some_iff.mp hi).1
    rwa [List.length_map] at this
  rw [docs_get st.book hl] at hi
  rw [← Option.some.inj hi]
  exact fit_len (wf.fit i hl)
def grown (st : Hist.State) (k : Nat) (ps : List Nat) (d : Hist.Doc) : Hist.State := ⟨st.book ++ [Hist.Version.mk ps d], st.heads.set k (some st.book.length)⟩
theorem wf_grown {st : Hist.State} (wf : WF st) {k : Nat} {ps : List Nat} {d : Hist.Doc} (hb : st.book.length < 128) (hf : Hist.fits d = true) (hp : ∀ p ∈ ps, p < st.book.length) (h2 : ps.length ≤ 2) : WF (grown st k ps d) := by
  refine ⟨⟨fun v hv p hpp => ?_, fun v => ?_, ?_⟩, fun v hv => ?_, ?_, fun j u hj => ?_⟩
  · have hv : v < (st.book ++ [Hist.Version.mk ps d]).length := hv
    rw [List.length_append] at hv
    have hv : v < st.book.length + 1 := hv
    have hpp : p ∈ Hist.parentsOf (st.book ++ [Hist.Version.mk ps d]) v := hpp
    by_cases e : v < st.book.length
    · rw [parentsOf_old e] at hpp
      exact wf.ok.low v e p hpp
    · have e : v = st.book.length := by omega
      subst e
      rw [parentsOf_new] at hpp
      exact hp p hpp
  · show (Hist.parentsOf (st.book ++ [Hist.Version.mk ps d]) v).length ≤ 2
    by_cases e : v < st.book.length
    · rw [parentsOf_old e]
      exact wf.ok.two v
    · by_cases e2 : v = st.book.length
      · subst e2
        rw [parentsOf_new]
        exact h2
      · unfold Hist.parentsOf
        rw [List.getElem?_eq_none (by rw [List.length_append]; show st.book.length + 1 ≤ v; omega)]
        exact Nat.zero_le _
  · show (st.book ++ [Hist.Version.mk ps d]).length ≤ 128
    rw [List.length_append]
    exact hb
  · have hv : v < (st.book ++ [Hist.Version.mk ps d]).length := hv
    rw [List.length_append] at hv
    have hv : v < st.book.length + 1 := hv
    show Hist.fits (Hist.docOf (st.book ++ [Hist.Version.mk ps d]) v) = true
    by_cases e : v < st.book.length
    · rw [docOf_old e]
      exact wf.fit v e
    · have e : v = st.book.length := by omega
      subst e
      rw [docOf_new]
      exact hf
  · show (st.heads.set k (some st.book.length)).length = 8
    rw [List.length_set]
    exact wf.hds
  · have hj : (st.heads.set k (some st.book.length))[j]? = some (some u) := hj
    show u < (st.book ++ [Hist.Version.mk ps d]).length
    rw [List.length_append]
    show u < st.book.length + 1
    by_cases e : k = j
    · subst e
      by_cases hk : k < st.heads.length
      · rw [List.getElem?_set_self hk] at hj
        have : st.book.length = u := Option.some.inj (Option.some.inj hj)
        omega
      · rw [List.getElem?_eq_none (by rw [List.length_set]; omega)] at hj
        cases hj
    · rw [List.getElem?_set_ne e] at hj
      have := wf.hin j u hj
      omega
theorem hv_set (l : List (Option Nat)) (k : Nat) (o : Option Nat) : (l.map hv).set k (hv o) = (l.set k o).map hv := by rw [List.map_set]
def spAddV (C : Addr) : Sp := fun vs H Q _ => ∃ (s : Addr) (A : Ad) (G : Hp) (st : Hist.State) (k : Nat) (u v : V) (d : Hist.Doc) (ps : List Nat), vs = [.ref s, nv k, u, v] ∧ StAt C G H s A st ∧ DocV G u d ∧ IntsV G v ps ∧ k < 8 ∧ st.book.length < 128 ∧ Hist.fits d = true ∧ (∀ p ∈ ps, p < st.book.length) ∧ ps.length ≤ 2 ∧
  ∀ (H' G' : Hp), Keep A H H' → Grow H G G' → StAt C G' H' s A (grown st k ps d) → Q (nv st.book.length) H'
theorem ok_State_add_version {C : Addr} (T : Txt mg) (TS : TxS K C) {f : Addr} {fd : FuncData} (F : Fun K "add_version" "State.add_version" s_State_add_version f fd) (c_origins_of : Cal P w K mg base 3 "origins_of" spOrg) : FnOk P w K mg base CX0 4 f fd ["self", "branch", "document", "parents"] (spAddV C) := by
  refine F.ok sc_State_add_version (fun vs H Q E h => ?_) (fun cdv A outer s H vs Q E hr h => ?_)
  · obtain ⟨s, A, G, st, k, u, v, d, ps, rfl, _⟩ := h
    rfl
  · obtain ⟨s, A, G, st, k, u, v, d, ps, rfl, x, hu, hv', hk, hb, hf, hp, h2, q⟩ := h
    obtain ⟨dx, h0⟩ := x.ins
    obtain ⟨ds, d1, d2⟩ := x.docs
    obtain ⟨pss, p1, p2⟩ := x.pars
    obtain ⟨os, o1, o2⟩ := x.orgs
    have dl : ds.length = st.book.length := by rw [d2.len, List.length_map]
    have pl : pss.length = st.book.length := by rw [p2.len, List.length_map]
    have ol : os.length = st.book.length := by rw [o2.len, origins_len]
    have hDs : s ≠ A.D := ne_of h0 d1 (fun z => nomatch z)
    have hPs : s ≠ A.P := ne_of h0 p1 (fun z => nomatch z)
    have hOs : s ≠ A.O := ne_of h0 o1 (fun z => nomatch z)
    have hhs : s ≠ A.h := ne_of h0 x.hds (fun z => nomatch z)
    refine ⟨_, (pss_cons (ps_set (i := 4) sc_State_add_version.nd rfl (Or.inl rfl) (pe_callB call_len_seq (by rfl) T.m_len PySem.boot_len (pa_cons (pe_fld (pv 0) rfl) pa_nil)))
      (pss_cons (ps_expr (pe_bm PySem.F.plainAttrs_list PySem.F.slot_list_append PySem.F.type_list_append mt_append (pe_fld (pv 0) rfl) (pa_cons (pv 2) pa_nil)))
      (pss_cons (ps_expr (pe_bm PySem.F.plainAttrs_list PySem.F.slot_list_append PySem.F.type_list_append mt_append (pe_fld (pv 0) rfl) (pa_cons (pv 3) pa_nil)))
      (pss_cons (ps_expr (pe_bm PySem.F.plainAttrs_list PySem.F.slot_list_append PySem.F.type_list_append mt_append (pe_fld (pv 0) rfl) (pa_cons (pe_c c_origins_of hr (by decide) (by rfl) (pa_cons (pv 4) (pa_cons (pe_fld (pv 0) rfl) (pa_cons (pe_fld (pv 0) rfl) (pa_cons (pe_fld (pv 0) rfl) pa_nil))))) pa_nil)))
      (pss_cons (ps_asg (pv 4) (pg_sub (pe_fld (pv 0) rfl) (pv 1) set_list))
      (pss_one (ps_ret (pv 4)))))))), ?_⟩
    refine ⟨_, rfl, s, C, dx, _, _, rfl, h0, TS.cl, TS.nD, sF_D A, A.D, ds, rfl, .inl (SqL.of d1), ?_⟩
    refine ⟨_, rfl, s, C, dx, _, _, rfl, h0, TS.cl, TS.nD, sF_D A, .inl ⟨rfl, _, SqL.of d1⟩, _, rfl, A.D, ds, _, rfl, rfl, d1, size_lt' (by omega), ?_⟩
    refine ⟨_, rfl, s, C, dx, _, _, rfl, (by rw [upd_ne hDs]; exact h0), TS.cl, TS.nP, sF_P A, .inl ⟨rfl, _, SqL.of (show _ = some (HO.lst pss) by rw [upd_ne x.dp.symm]; exact p1)⟩, _, rfl, A.P, pss, _, rfl, rfl, (by rw [upd_ne x.dp.symm]; exact p1), size_lt' (by omega), ?_⟩
    have g2 : Same G (upd (upd H A.D (.lst (ds ++ [u]))) A.P (.lst (pss ++ [v]))) := same_in (same_in x.sub x.gD) x.gP
    have k2 : Keep A H (upd (upd H A.D (.lst (ds ++ [u]))) A.P (.lst (pss ++ [v]))) := fun b o h1 h2 h3 h4 e => by
      rw [upd_ne h2, upd_ne h1]
      exact e
    have e0 : (upd (upd H A.D (.lst (ds ++ [u]))) A.P (.lst (pss ++ [v]))) s = some (.ins C dx (sF A)) := k2 _ _ hDs hPs hOs hhs h0
    have eD : (upd (upd H A.D (.lst (ds ++ [u]))) A.P (.lst (pss ++ [v]))) A.D = some (.lst (ds ++ [u])) := by rw [upd_ne x.dp, upd_same]
    have eP : (upd (upd H A.D (.lst (ds ++ [u]))) A.P (.lst (pss ++ [v]))) A.P = some (.lst (pss ++ [v])) := upd_same
    have eO : (upd (upd H A.D (.lst (ds ++ [u]))) A.P (.lst (pss ++ [v]))) A.O = some (.lst os) := by rw [upd_ne x.pO.symm, upd_ne x.dO.symm]; exact o1
    have eh : (upd (upd H A.D (.lst (ds ++ [u]))) A.P (.lst (pss ++ [v]))) A.h = some (.lst (st.heads.map hv)) := by rw [upd_ne x.ph.symm, upd_ne x.dh.symm]; exact x.hds
    generalize hH2 : (upd (upd H A.D (.lst (ds ++ [u]))) A.P (.lst (pss ++ [v]))) = H2 at g2 k2 e0 eD eP eO eh
    have bk : (st.book ++ [Hist.Version.mk ps d]).map (·.doc) = st.book.map (·.doc) ++ [d] := by rw [List.map_append]; rfl
    have bp : (st.book ++ [Hist.Version.mk ps d]).map (·.parents) = st.book.map (·.parents) ++ [ps] := by rw [List.map_append]; rfl
    have ad2 : All2 (DocV G) (ds ++ [u]) ((st.book ++ [Hist.Version.mk ps d]).map (·.doc)) := by rw [bk]; exact d2.snoc hu
    have ap2 : All2 (IntsV G) (pss ++ [v]) ((st.book ++ [Hist.Version.mk ps d]).map (·.parents)) := by rw [bp]; exact p2.snoc hv'
    have wg := wf_grown (k := k) x.wf hb hf hp h2
    refine ⟨_, rfl, s, C, dx, _, _, rfl, e0, TS.cl, TS.nO, sF_O A, .inl ⟨rfl, _, SqL.of eO⟩, _, rfl, _, rfl, s, C, dx, _, _, rfl, e0, TS.cl, TS.nD, sF_D A, _, rfl, s, C, dx, _, _, rfl, e0, TS.cl, TS.nP, sF_P A, _, rfl, s, C, dx, _, _, rfl, e0, TS.cl, TS.nO, sF_O A, ?_⟩
    refine ⟨st.book.length, A.D, A.P, A.O, G, _, _, _, _, _, _, (by show [V.int (ds.length : Nat), _, _, _] = _; rw [dl]; rfl), eD, eP, eO, g2, ad2, ap2, o2, ?_, ?_, origins_len _, ?_, ?_, ?_, ?_⟩
    · rw [List.length_map, List.length_append]
      exact Nat.lt_succ_self _
    · rw [List.length_map, List.length_append]
      exact Nat.lt_succ_self _
    · rw [pars_D, parentsOf_new]
      exact hp
    · exact book_fit wg
    · intro p hpv
      rw [origins_row st.book hpv]
      have := congrFun (docs_D (st.book ++ [Hist.Version.mk ps d])) p
      rw [show ((st.book ++ [Hist.Version.mk ps d]).map (·.doc)).getD p [] = Hist.docOf (st.book ++ [Hist.Version.mk ps d]) p from this, docOf_old hpv]
    · intro H3 r s3 nr er
      have er2 : H3 r = some (.lst (nvs (Hist.originsOf (st.book ++ [Hist.Version.mk ps d]) (Hist.origins st.book) st.book.length))) := by
        rw [er, orig_is, docs_D, pars_D]
        rw [show ((st.book ++ [Hist.Version.mk ps d]).map (·.doc)).getD st.book.length [] = Hist.docOf (st.book ++ [Hist.Version.mk ps d]) st.book.length from congrFun (docs_D _) _]
      have rD := ne_of_none eD nr
      have rP := ne_of_none eP nr
      have rO := ne_of_none eO nr
      have rh := ne_of_none eh nr
      have fr : H r = none := by
        cases e : H r with
        | none => rfl
        | some o =>
          rw [k2 r o rD.symm rP.symm rO.symm rh.symm e] at nr
          cases nr
      refine ⟨A.O, os, _, rfl, rfl, s3 _ _ eO, size_lt' (by omega), ?_⟩
      refine ⟨_, rfl, _, rfl, s, C, dx, _, _, rfl, (by rw [upd_ne hOs]; exact s3 _ _ e0), TS.cl, TS.nh, sF_h A, _, rfl, A.h, _, _, k, rfl, rfl, (by rw [upd_ne x.oh.symm]; exact s3 _ _ eh), ixN_n rfl (by rw [List.length_map, x.wf.hds]; exact hk), ?_⟩
      refine ⟨_, rfl, ?_⟩
      have hq := q (upd (upd H3 A.O (.lst (os ++ [.ref r]))) A.h (.lst ((st.heads.map hv).set k (.int (ds.length : Nat))))) (upd G r (.lst (nvs (Hist.originsOf (st.book ++ [Hist.Version.mk ps d]) (Hist.origins st.book) st.book.length)))) ?_ ⟨same_grow (g2.trans s3) er2, fun b o e g => by rw [upd_ne (ne_of_none e fr)]; exact g⟩ ?_
      · rw [dl]
        rw [dl] at hq
        exact hq
      · intro b o h1 h2 h3 h4 e
        rw [upd_ne h4, upd_ne h3]
        exact s3 _ _ (k2 b o h1 h2 h3 h4 e)
      · have gr := same_grow (g2.trans s3) er2
        refine ⟨⟨dx, by rw [upd_ne hhs, upd_ne hOs]; exact s3 _ _ e0⟩, x.dp, x.dO, x.dh, x.pO, x.ph, x.oh, ?_, by rw [upd_ne rD]; exact x.gD, by rw [upd_ne rP]; exact x.gP, by rw [upd_ne rO]; exact x.gO, by rw [upd_ne rh]; exact x.gh, ⟨ds ++ [u], ?_, ?_⟩, ⟨pss ++ [v], ?_, ?_⟩, ⟨os ++ [.ref r], ?_, ?_⟩, ?_, wg⟩
        · exact same_in (same_in (grow_same (g2.trans s3) er2) (by rw [upd_ne rO]; exact x.gO)) (by rw [upd_ne rh]; exact x.gh)
        · rw [upd_ne x.dh, upd_ne x.dO]
          exact s3 _ _ eD
        · exact ad2.mono fun _ _ => DocV.same gr
        · rw [upd_ne x.ph, upd_ne x.pO]
          exact s3 _ _ eP
        · exact ap2.mono fun _ _ => IntsV.same gr
        · rw [upd_ne x.oh, upd_same]
        · show All2 _ _ (Hist.origins (st.book ++ [Hist.Version.mk ps d]))
          rw [origins_grow x.wf.ok.low]
          exact (o2.mono fun _ _ => IntsV.same gr).snoc ⟨r, rfl, upd_same⟩
        · rw [upd_same, dl]
          show some (HO.lst ((st.heads.map hv).set k (hv (some st.book.length)))) = _
          rw [hv_set]
          rfl

end
end Tb

namespace Tb
open PySem PySem.Spec PyProof.Rows L2
section
variable {P : Program} {w : World} {K : PySem.W.Frag} {mg : Str → Option Value} {base : Heap}
open TbM
/-! ### calls -/
def cI (l : List Nat) : List Int := l.map fun (n : Nat) => (n : Int)
def mkC (p : Int) (ns : List Nat) (rows : List (List Nat)) : List (List Int) := (p :: cI ns) :: rows.map cI
theorem nats_cI (l : List Nat) : HistNeutral.nats (cI l) = l := by
  unfold HistNeutral.nats cI
  rw [List.map_map]
  have : (Int.toNat ∘ fun (n : Nat) => (n : Int)) = id := by
    funext n
    exact Int.toNat_natCast n
  rw [this, List.map_id]
theorem whole_cI (l : List Nat) : HistNeutral.whole (cI l) = true := by
  unfold HistNeutral.whole cI
  rw [List.all_map, List.all_eq_true]
  intro n _
  exact decide_eq_true (Int.natCast_nonneg n)
theorem rows_whole (rows : List (List Nat)) : (rows.map cI).all HistNeutral.whole = true := by
  rw [List.all_map, List.all_eq_true]
  intro l _
  exact whole_cI l
theorem rows_nats (rows : List (List Nat)) : (rows.map cI).map HistNeutral.nats = rows := by
  rw [List.map_map]
  have : (HistNeutral.nats ∘ cI) = id := funext nats_cI
  rw [this, List.map_id]
theorem step_of {st : Hist.State} {c : List (List Int)} {x : Hist.Call} (h : HistNeutral.callOf c = some x) : HistNeutral.step st c = ((Hist.step st x).1, HistNeutral.shown (Hist.step st x).2) := by
  unfold HistNeutral.step
  rw [h]
theorem w1 (a : Nat) : HistNeutral.whole [(a : Int)] = true := whole_cI [a]
theorem w2 (a b : Nat) : HistNeutral.whole [(a : Int), (b : Int)] = true := whole_cI [a, b]
theorem tn (a : Nat) : ((a : Int)).toNat = a := Int.toNat_natCast a
theorem ask0 {ns : List Nat} {rows : List (List Nat)} (h : HistNeutral.asked1 (mkC 0 ns rows) = true) : ∃ a, ns = [a] ∧ HistNeutral.callOf (mkC 0 ns rows) = some (.commit a rows) := by
  rcases ns with _ | ⟨a, _ | ⟨b, r⟩⟩
  · cases rows <;> cases h
  · refine ⟨a, rfl, ?_⟩
    show (if HistNeutral.whole [(a : Int)] = true ∧ (rows.map cI).all HistNeutral.whole = true then some (Hist.Call.commit ((a : Int)).toNat ((rows.map cI).map HistNeutral.nats)) else none) = _
    rw [if_pos ⟨w1 a, rows_whole rows⟩, rows_nats, tn]
  · cases rows <;> cases h
theorem ask12 {ns : List Nat} {rows : List (List Nat)} (h : HistNeutral.asked1 (mkC 12 ns rows) = true) : ∃ a b, ns = [a, b] ∧ a + b ≤ rows.length ∧ HistNeutral.callOf (mkC 12 ns rows) = some (.try_ (rows.take a) ((rows.drop a).take b) (rows.drop (a + b))) := by
  rcases ns with _ | ⟨a, _ | ⟨b, _ | ⟨c, r⟩⟩⟩
  · cases rows <;> cases h
  · cases rows <;> cases h
  · have h : (HistNeutral.natural (a : Int) 64 && HistNeutral.natural (b : Int) 64 && decide ((a : Int) + (b : Int) ≤ ((rows.map cI).length : Int)) && (rows.map cI).all (fun (l : List Int) => l.all (fun (z : Int) => HistNeutral.natural z 8))) = true := h
    rw [Bool.and_eq_true, Bool.and_eq_true] at h
    have h2 : (a : Int) + (b : Int) ≤ ((rows.map cI).length : Int) := of_decide_eq_true h.1.2
    rw [List.length_map] at h2
    have h3 : a + b ≤ rows.length := by omega
    refine ⟨a, b, rfl, h3, ?_⟩
    show (if HistNeutral.whole [(a : Int), (b : Int)] = true ∧ (rows.map cI).all HistNeutral.whole = true ∧ ((a : Int)).toNat + ((b : Int)).toNat ≤ (rows.map cI).length then some (Hist.Call.try_ (((rows.map cI).take ((a : Int)).toNat).map HistNeutral.nats) ((((rows.map cI).drop ((a : Int)).toNat).take ((b : Int)).toNat).map HistNeutral.nats) (((rows.map cI).drop (((a : Int)).toNat + ((b : Int)).toNat)).map HistNeutral.nats)) else none) = _
    rw [tn, tn, if_pos ⟨w2 a b, rows_whole rows, by rw [List.length_map]; exact h3⟩, ← List.map_take, ← List.map_drop, ← List.map_take, ← List.map_drop, rows_nats, rows_nats, rows_nats]
  · cases rows <;> cases h
theorem ask1 {ns : List Nat} {rows : List (List Nat)} (h : HistNeutral.asked1 (mkC 1 ns rows) = true) : ∃ a b, ns = [a, b] ∧ HistNeutral.callOf (mkC 1 ns rows) = some (.branch a b) := by
  rcases ns with _ | ⟨a, _ | ⟨b, _ | ⟨c, r⟩⟩⟩
  · cases rows <;> cases h
  · cases rows <;> cases h
  rotate_left
  · cases rows <;> cases h
  rcases rows with _ | ⟨x, y⟩
  rotate_left
  · cases h
  exact ⟨a, b, rfl, by show (if HistNeutral.whole [(a : Int), (b : Int)] = true then some (Hist.Call.branch ((a : Int)).toNat ((b : Int)).toNat) else none) = _; rw [if_pos (w2 a b), tn, tn]⟩
theorem ask7 {ns : List Nat} {rows : List (List Nat)} (h : HistNeutral.asked1 (mkC 7 ns rows) = true) : ∃ a b, ns = [a, b] ∧ HistNeutral.callOf (mkC 7 ns rows) = some (.common a b) := by
  rcases ns with _ | ⟨a, _ | ⟨b, _ | ⟨c, r⟩⟩⟩
  · cases rows <;> cases h
  · cases rows <;> cases h
  rotate_left
  · cases rows <;> cases h
  rcases rows with _ | ⟨x, y⟩
  rotate_left
  · cases h
  exact ⟨a, b, rfl, by show (if HistNeutral.whole [(a : Int), (b : Int)] = true then some (Hist.Call.common ((a : Int)).toNat ((b : Int)).toNat) else none) = _; rw [if_pos (w2 a b), tn, tn]⟩
theorem ask8 {ns : List Nat} {rows : List (List Nat)} (h : HistNeutral.asked1 (mkC 8 ns rows) = true) : ∃ a b, ns = [a, b] ∧ HistNeutral.callOf (mkC 8 ns rows) = some (.way a b) := by
  rcases ns with _ | ⟨a, _ | ⟨b, _ | ⟨c, r⟩⟩⟩
  · cases rows <;> cases h
  · cases rows <;> cases h
  rotate_left
  · cases rows <;> cases h
  rcases rows with _ | ⟨x, y⟩
  rotate_left
  · cases h
  exact ⟨a, b, rfl, by show (if HistNeutral.whole [(a : Int), (b : Int)] = true then some (Hist.Call.way ((a : Int)).toNat ((b : Int)).toNat) else none) = _; rw [if_pos (w2 a b), tn, tn]⟩
theorem ask9 {ns : List Nat} {rows : List (List Nat)} (h : HistNeutral.asked1 (mkC 9 ns rows) = true) : ∃ a b, ns = [a, b] ∧ HistNeutral.callOf (mkC 9 ns rows) = some (.merge a b) := by
  rcases ns with _ | ⟨a, _ | ⟨b, _ | ⟨c, r⟩⟩⟩
  · cases rows <;> cases h
  · cases rows <;> cases h
  rotate_left
  · cases rows <;> cases h
  rcases rows with _ | ⟨x, y⟩
  rotate_left
  · cases h
  exact ⟨a, b, rfl, by show (if HistNeutral.whole [(a : Int), (b : Int)] = true then some (Hist.Call.merge ((a : Int)).toNat ((b : Int)).toNat) else none) = _; rw [if_pos (w2 a b), tn, tn]⟩
theorem ask10 {ns : List Nat} {rows : List (List Nat)} (h : HistNeutral.asked1 (mkC 10 ns rows) = true) : ∃ a b, ns = [a, b] ∧ HistNeutral.callOf (mkC 10 ns rows) = some (.pick a b) := by
  rcases ns with _ | ⟨a, _ | ⟨b, _ | ⟨c, r⟩⟩⟩
  · cases rows <;> cases h
  · cases rows <;> cases h
  rotate_left
  · cases rows <;> cases h
  rcases rows with _ | ⟨x, y⟩
  rotate_left
  · cases h
  exact ⟨a, b, rfl, by show (if HistNeutral.whole [(a : Int), (b : Int)] = true then some (Hist.Call.pick ((a : Int)).toNat ((b : Int)).toNat) else none) = _; rw [if_pos (w2 a b), tn, tn]⟩
theorem ask11 {ns : List Nat} {rows : List (List Nat)} (h : HistNeutral.asked1 (mkC 11 ns rows) = true) : ∃ a b, ns = [a, b] ∧ HistNeutral.callOf (mkC 11 ns rows) = some (.undo a b) := by
  rcases ns with _ | ⟨a, _ | ⟨b, _ | ⟨c, r⟩⟩⟩
  · cases rows <;> cases h
  · cases rows <;> cases h
  rotate_left
  · cases rows <;> cases h
  rcases rows with _ | ⟨x, y⟩
  rotate_left
  · cases h
  exact ⟨a, b, rfl, by show (if HistNeutral.whole [(a : Int), (b : Int)] = true then some (Hist.Call.undo ((a : Int)).toNat ((b : Int)).toNat) else none) = _; rw [if_pos (w2 a b), tn, tn]⟩
theorem ask2 {ns : List Nat} {rows : List (List Nat)} (h : HistNeutral.asked1 (mkC 2 ns rows) = true) : ∃ a, ns = [a] ∧ HistNeutral.callOf (mkC 2 ns rows) = some (.drop a) := by
  rcases ns with _ | ⟨a, _ | ⟨b, r⟩⟩
  · cases rows <;> cases h
  rotate_left
  · cases rows <;> cases h
  rcases rows with _ | ⟨x, y⟩
  rotate_left
  · cases h
  exact ⟨a, rfl, by show (if HistNeutral.whole [(a : Int)] = true then some (Hist.Call.drop ((a : Int)).toNat) else none) = _; rw [if_pos (w1 a), tn]⟩
theorem ask3 {ns : List Nat} {rows : List (List Nat)} (h : HistNeutral.asked1 (mkC 3 ns rows) = true) : ∃ a, ns = [a] ∧ HistNeutral.callOf (mkC 3 ns rows) = some (.head a) := by
  rcases ns with _ | ⟨a, _ | ⟨b, r⟩⟩
  · cases rows <;> cases h
  rotate_left
  · cases rows <;> cases h
  rcases rows with _ | ⟨x, y⟩
  rotate_left
  · cases h
  exact ⟨a, rfl, by show (if HistNeutral.whole [(a : Int)] = true then some (Hist.Call.head ((a : Int)).toNat) else none) = _; rw [if_pos (w1 a), tn]⟩
theorem ask4 {ns : List Nat} {rows : List (List Nat)} (h : HistNeutral.asked1 (mkC 4 ns rows) = true) : ∃ a, ns = [a] ∧ HistNeutral.callOf (mkC 4 ns rows) = some (.doc a) := by
  rcases ns with _ | ⟨a, _ | ⟨b, r⟩⟩
  · cases rows <;> cases h
  rotate_left
  · cases rows <;> cases h
  rcases rows with _ | ⟨x, y⟩
  rotate_left
  · cases h
  exact ⟨a, rfl, by show (if HistNeutral.whole [(a : Int)] = true then some (Hist.Call.doc ((a : Int)).toNat) else none) = _; rw [if_pos (w1 a), tn]⟩
theorem ask5 {ns : List Nat} {rows : List (List Nat)} (h : HistNeutral.asked1 (mkC 5 ns rows) = true) : ∃ a, ns = [a] ∧ HistNeutral.callOf (mkC 5 ns rows) = some (.parents a) := by
  rcases ns with _ | ⟨a, _ | ⟨b, r⟩⟩
  · cases rows <;> cases h
  rotate_left
  · cases rows <;> cases h
  rcases rows with _ | ⟨x, y⟩
  rotate_left
  · cases h
  exact ⟨a, rfl, by show (if HistNeutral.whole [(a : Int)] = true then some (Hist.Call.parents ((a : Int)).toNat) else none) = _; rw [if_pos (w1 a), tn]⟩
theorem ask6 {ns : List Nat} {rows : List (List Nat)} (h : HistNeutral.asked1 (mkC 6 ns rows) = true) : ∃ a, ns = [a] ∧ HistNeutral.callOf (mkC 6 ns rows) = some (.log a) := by
  rcases ns with _ | ⟨a, _ | ⟨b, r⟩⟩
  · cases rows <;> cases h
  rotate_left
  · cases rows <;> cases h
  rcases rows with _ | ⟨x, y⟩
  rotate_left
  · cases h
  exact ⟨a, rfl, by show (if HistNeutral.whole [(a : Int)] = true then some (Hist.Call.log ((a : Int)).toNat) else none) = _; rw [if_pos (w1 a), tn]⟩
theorem ask13 {ns : List Nat} {rows : List (List Nat)} (h : HistNeutral.asked1 (mkC 13 ns rows) = true) : ∃ a, ns = [a] ∧ HistNeutral.callOf (mkC 13 ns rows) = some (.origins a) := by
  rcases ns with _ | ⟨a, _ | ⟨b, r⟩⟩
  · cases rows <;> cases h
  rotate_left
  · cases rows <;> cases h
  rcases rows with _ | ⟨x, y⟩
  rotate_left
  · cases h
  exact ⟨a, rfl, by show (if HistNeutral.whole [(a : Int)] = true then some (Hist.Call.origins ((a : Int)).toNat) else none) = _; rw [if_pos (w1 a), tn]⟩
theorem ask14 {ns : List Nat} {rows : List (List Nat)} (h : HistNeutral.asked1 (mkC 14 ns rows) = true) : ns = [] ∧ HistNeutral.callOf (mkC 14 ns rows) = some .count := by
  rcases ns with _ | ⟨a, r⟩ <;> rcases rows with _ | ⟨x, y⟩ <;> first | (cases h; done) | skip
  exact ⟨rfl, rfl⟩
/-- what is wanted behind a call's answer -/
def Wants (C s : Addr) (A : Ad) (G H : Hp) (Q : VK) (R : Hist.State × Hist.Answer) : Prop := ∀ (H' G' : Hp) (r : Addr), H r = none → Keep A H H' → Grow H G G' → StAt C G' H' s A R.1 → H' r = some (.lst (zv (HistNeutral.shown R.2))) → Q (.ref r) H'
def spAns (C : Addr) (p : Int) : Sp := fun vs H Q _ => ∃ (s n l : Addr) (A : Ad) (G : Hp) (st : Hist.State) (ns : List Nat) (rows : List (List Nat)), vs = [.ref s, .ref n, .ref l] ∧ StAt C G H s A st ∧ H n = some (.lst (nvs ns)) ∧ DocV G (.ref l) rows ∧ HistNeutral.asked1 (mkC p ns rows) = true ∧
  ∀ (H' G' : Hp) (r : Addr), H r = none → Keep A H H' → Grow H G G' → StAt C G' H' s A (HistNeutral.step st (mkC p ns rows)).1 → H' r = some (.lst (zv (HistNeutral.step st (mkC p ns rows)).2)) → Q (.ref r) H'
theorem refuse {C s : Addr} {A : Ad} {G H H1 : Hp} {Q : VK} {st : Hist.State} {R : Hist.State × Hist.Answer} {z : Int} (x : StAt C G H s A st) (q : Wants C s A G H Q R) (hs : R = (st, Hist.says z)) (s1 : Same H H1) :
    ∀ H' p, Same H1 H' → H1 p = none → H' p = some (.lst ([z].map V.int)) → Q (.ref p) H' := by
  intro H' p s2 np e
  subst hs
  exact q H' G p (s1.free np) (Keep.of (s1.trans s2)) Grow.refl (x.same (s1.trans s2)) e
/-- an answer that changes nothing -/
theorem tell {C s : Addr} {A : Ad} {G H H' : Hp} {Q : VK} {st : Hist.State} {R : Hist.State × Hist.Answer} {a : Hist.Answer} {r : Addr} (x : StAt C G H s A st) (q : Wants C s A G H Q R) (hs : R = (st, a)) (n : H r = none) (s1 : Same H H') (e : H' r = some (.lst (zv (HistNeutral.shown a)))) : Q (.ref r) H' := by
  subst hs
  exact q H' G r n (Keep.of s1) Grow.refl (x.same s1) e
theorem zv_cI (l : List Nat) : nvs l = zv (cI l) := zv_nvs l
theorem shown_one (n : Nat) (l : List Nat) : zv (HistNeutral.shown ⟨(n : Nat), [l]⟩) = nv n :: nv l.length :: nvs l := by
  show V.int (n : Int) :: V.int (l.length : Int) :: zv (cI l ++ []) = _
  rw [List.append_nil, ← zv_cI]
  rfl
theorem tell_shown : ∀ d : Hist.Doc, (d.flatMap fun (l : List Nat) => (l.length : Int) :: l.map fun (n : Nat) => (n : Int)) = cI (tellN d)
  | [] => rfl
  | l :: d => by
    have ih := tell_shown d
    rw [List.flatMap_cons, ih]
    unfold tellN
    rw [List.flatMap_cons]
    show ((l.length : Int) :: cI l) ++ cI (tellN d) = cI ((l.length :: l) ++ tellN d)
    unfold cI
    rw [List.map_append]
    rfl
theorem shown_doc (n : Nat) (d : Hist.Doc) : zv (HistNeutral.shown ⟨(n : Nat), d⟩) = nv n :: nvs (tellN d) := by
  unfold HistNeutral.shown
  rw [tell_shown]
  show V.int (n : Int) :: zv (cI (tellN d)) = _
  rw [← zv_cI]
  rfl
theorem not_t {b : Bool} (h : (!b) = true) : b = false := by cases b <;> first | rfl | cases h
theorem not_f {b : Bool} (h : (!b) = false) : b = true := by cases b <;> first | rfl | cases h
theorem br_lt {k : Nat} (h : Hist.isBranch k = true) : k < 8 := of_decide_eq_true h
theorem has_lt {st : Hist.State} {v : Nat} (h : st.has v = true) : v < st.book.length := of_decide_eq_true h

end
end Tb

namespace Tb
open PySem PySem.Spec PyProof.Rows L2
section
variable {P : Program} {w : World} {K : PySem.W.Frag} {mg : Str → Option Value} {base : Heap}
open TbM
theorem wf_move {st : Hist.State} (wf : WF st) {k : Nat} {o : Option Nat} (h : ∀ u, o = some u → u < st.book.length) : WF (st.move k o) := by
  refine ⟨wf.ok, wf.fit, by show (st.heads.set k o).length = 8; rw [List.length_set]; exact wf.hds, fun j u hj => ?_⟩
  have hj : (st.heads.set k o)[j]? = some (some u) := hj
  by_cases e : k = j
  · subst e
    by_cases hk : k < st.heads.length
    · rw [List.getElem?_set_self hk] at hj
      exact h u (Option.some.inj hj)
    · rw [List.getElem?_eq_none (by rw [List.length_set]; omega)] at hj
      cases hj
  · rw [List.getElem?_set_ne e] at hj
    exact wf.hin j u hj
/-- a branch's version set -/
theorem StAt.move {C : Addr} {G H : Hp} {s : Addr} {A : Ad} {st : Hist.State} (x : StAt C G H s A st) {k : Nat} {o : Option Nat} (h : ∀ u, o = some u → u < st.book.length) : StAt C G (upd H A.h (.lst ((st.heads.map hv).set k (hv o)))) s A (st.move k o) := by
  obtain ⟨dx, h0⟩ := x.ins
  obtain ⟨ds, d1, d2⟩ := x.docs
  obtain ⟨ps, p1, p2⟩ := x.pars
  obtain ⟨os, o1, o2⟩ := x.orgs
  refine ⟨⟨dx, by rw [upd_ne (ne_of h0 x.hds (fun z => nomatch z))]; exact h0⟩, x.dp, x.dO, x.dh, x.pO, x.ph, x.oh, same_in x.sub x.gh, x.gD, x.gP, x.gO, x.gh, ⟨ds, by rw [upd_ne x.dh]; exact d1, d2⟩, ⟨ps, by rw [upd_ne x.ph]; exact p1, p2⟩, ⟨os, by rw [upd_ne x.oh]; exact o1, o2⟩, ?_, wf_move x.wf h⟩
  rw [upd_same, hv_set]
  rfl
theorem keep_h {A : Ad} {H : Hp} {o : HO} : Keep A H (upd H A.h o) := fun b u _ _ _ h4 e => by
  rw [upd_ne h4]
  exact e
/-! ### commit -/
theorem ok_answer_commit {C : Addr} (T : Txt mg) (TS : TxS K C) {f : Addr} {fd : FuncData} (F : Fun K "answer_commit" "answer_commit" s_answer_commit f fd) (c_is_branch : Cal P w K mg base 1 "is_branch" spIsBranch) (c_fits : Cal P w K mg base 1 "fits" spFits) (c_unfit : Cal P w K mg base 1 "unfit" (spList [-1])) (c_full : Cal P w K mg base 1 "full" (spList [-6]))
    (c_is_full : Met P w K mg base 1 C "is_full" (spFull C)) (c_is_at_none : Met P w K mg base 1 C "is_at_none" (spNone C)) (c_add_version : Met P w K mg base 4 C "add_version" (spAddV C)) : FnOk P w K mg base CX0 6 f fd ["state", "numbers", "lists"] (spAns C 0) := by
  refine F.ok sc_answer_commit (fun vs H Q E h => ?_) (fun cdv A outer s H vs Q E hr h => ?_)
  · obtain ⟨s, n, l, A, G, st, ns, rows, rfl, _⟩ := h
    rfl
  · obtain ⟨s, n, l, A, G, st, ns, rows, rfl, x, hn, hd, ask, q⟩ := h
    obtain ⟨k, rfl, hc⟩ := ask0 ask
    rw [step_of hc] at q
    have q : Wants C s A G H Q (Hist.step st (.commit k rows)) := q
    obtain ⟨dx, h0⟩ := x.ins
    have hstep : Hist.step st (.commit k rows) = if Hist.isBranch k = false ∨ Hist.fits rows = false then (st, Hist.says (-1)) else st.grow k (match st.head k with | none => [] | some u => [u]) rows := rfl
    refine ⟨_, (pss_cons (ps_set (i := 3) sc_answer_commit.nd rfl (Or.inl rfl) (pe_ix ix_list (pv 1) pe_int (fun _ _ => rfl)))
      (pss_cons (ps_if (PW.pt (pw_or (pt_not (pt_val (pe_c c_is_branch hr (by decide) (by rfl) (pa_cons (pv 3) pa_nil)))) (pw_or1 (pt_not (pt_val (pe_c c_fits hr (by decide) (by rfl) (pa_cons (pv 2) pa_nil))))))) (pss_one (ps_ret (pe_c0 c_unfit hr (by decide) (by rfl)))) pss_nil)
      (pss_cons (ps_if (pt_val (pe_m0 c_is_full hr (by decide) (pv 0))) (pss_one (ps_ret (pe_c0 c_full hr (by decide) (by rfl)))) pss_nil)
      (pss_cons (ps_set (i := 4) sc_answer_commit.nd rfl (Or.inl rfl) (pe_ifExp (pt_val (pe_m c_is_at_none hr (by decide) (pv 0) (pa_cons (pv 3) pa_nil))) (pe_lst pa_nil) (pe_lst (pa_cons (pe_ix ix_list (pe_fld (pv 0) rfl) (pv 3) (fun _ _ => rfl)) pa_nil))))
      (pss_one (ps_ret (pe_lst (pa_cons (pe_m c_add_version hr (by decide) (pv 0) (pa_cons (pv 3) (pa_cons (pv 2) (pa_cons (pv 4) pa_nil)))) pa_nil)))))))), ?_⟩
    refine ⟨_, rfl, n, _, _, _, rfl, rfl, SqL.of hn, atI_n (j := 0) rfl rfl, _, rfl, k, rfl, _, rfl, ?_⟩
    refine if_bool (fun c => ?_) (fun c => ?_)
    · exact ⟨rfl, refuse x q (by rw [hstep, if_pos (.inl (not_t c))]) (Same.refl H)⟩
    have hb := not_f c
    refine ⟨_, rfl, _, rows, rfl, hd.same x.sub, fun H1 s1 => ⟨_, rfl, if_bool (fun c2 => ?_) (fun c2 => ?_)⟩⟩
    · exact ⟨rfl, refuse x q (by rw [hstep, if_pos (.inr (not_t c2))]) s1⟩
    have hf := not_f c2
    rw [if_neg (by rw [hb, hf]; simp)] at hstep
    refine ⟨_, rfl, s, dx, _, rfl, s1 _ _ h0, sF_full A, s, A, G, st, rfl, x.same s1, _, rfl, ?_⟩
    refine if_dec (fun c3 => ?_) (fun c3 => ?_)
    · exact ⟨rfl, refuse x q (by rw [hstep]; unfold Hist.State.grow; rw [if_pos (.inl c3)]) s1⟩
    have hlt : st.book.length < 128 := by omega
    have hgrow : ∀ p, st.grow k p rows = (grown st k p rows, Hist.says (st.book.length : Nat)) := fun p => by
      unfold Hist.State.grow
      rw [if_neg (by rw [hf]; rintro (z | z); exact c3 z; cases z)]
      rfl
    have x1 := x.same s1
    refine ⟨_, rfl, s, dx, _, rfl, s1 _ _ h0, sF_none A, _, rfl, s, A, G, st, k, rfl, x1, br_lt hb, _, rfl, ?_⟩
    refine if_dec (fun c4 => ?_) (fun c4 => ?_)
    · rw [c4] at hstep
      rw [hgrow] at hstep
      refine ⟨Nat.zero_le _, fun p np => ?_⟩
      have x2 := x1.take np (same_upd np) upd_same (o := .lst [])
      have g2 := Grow.step (x1.sub.trans (same_upd np (o := .lst []))) upd_same np
      refine ⟨_, rfl, s, dx, _, rfl, same_upd np _ _ (s1 _ _ h0), sF_add A, _, rfl, _, rfl, _, rfl, s, A, _, st, k, _, _, rows, [], rfl, x2, hd.same g2.same, ⟨p, rfl, upd_same⟩, br_lt hb, hlt, hf, (fun p hp => by cases hp), Nat.zero_le _, fun H' G' kp gs xs => ⟨(by show 1 ≤ sizeLine; decide), fun r nr => ?_⟩⟩
      rw [hstep] at q
      exact q _ G' r (xs.free ((Keep.of (s1.trans (same_upd np))).trans kp) nr) (((Keep.of s1).trans (Keep.of (same_upd np))).trans (kp.trans (Keep.of (same_upd nr)))) ((g2.up s1).trans (s1.trans (same_upd np)) gs) (xs.same (same_upd nr)) upd_same
    · obtain ⟨u, hu⟩ : ∃ u, st.head k = some u := by
        cases e : st.head k with
        | none => exact absurd e c4
        | some u => exact ⟨u, rfl⟩
      have hul := head_in x.wf hu
      have hat := head_at x.wf (br_lt hb)
      rw [hu] at hat
      rw [hu] at hstep
      rw [hgrow] at hstep
      refine ⟨_, rfl, s, C, dx, _, _, rfl, s1 _ _ h0, TS.cl, TS.nh, sF_h A, _, rfl, A.h, _, _, _, rfl, rfl, SqL.of x1.hds, atI_n rfl hat, (by show 1 ≤ sizeLine; decide), fun p np => ?_⟩
      have x2 := x1.take np (same_upd np) upd_same (o := .lst [nv u])
      have g2 := Grow.step (x1.sub.trans (same_upd np (o := .lst [nv u]))) upd_same np
      refine ⟨_, rfl, s, dx, _, rfl, same_upd np _ _ (s1 _ _ h0), sF_add A, _, rfl, _, rfl, _, rfl, s, A, _, st, k, _, _, rows, [u], rfl, x2, hd.same g2.same, ⟨p, rfl, upd_same⟩, br_lt hb, hlt, hf, (fun p hp => (show p = u by simpa using hp) ▸ hul), (by show 1 ≤ 2; decide), fun H' G' kp gs xs => ⟨(by show 1 ≤ sizeLine; decide), fun r nr => ?_⟩⟩
      rw [hstep] at q
      exact q _ G' r (xs.free ((Keep.of (s1.trans (same_upd np))).trans kp) nr) (((Keep.of s1).trans (Keep.of (same_upd np))).trans (kp.trans (Keep.of (same_upd nr)))) ((g2.up s1).trans (s1.trans (same_upd np)) gs) (xs.same (same_upd nr)) upd_same
/-! ### branch -/
theorem ok_answer_branch {C : Addr} (T : Txt mg) (TS : TxS K C) {f : Addr} {fd : FuncData} (F : Fun K "answer_branch" "answer_branch" s_answer_branch f fd) (c_is_branch : Cal P w K mg base 1 "is_branch" spIsBranch) (c_unfit : Cal P w K mg base 1 "unfit" (spList [-1])) (c_missing : Cal P w K mg base 1 "missing" (spList [-4]))
    (c_has_version : Met P w K mg base 1 C "has_version" (spHas C)) : FnOk P w K mg base CX0 6 f fd ["state", "numbers", "lists"] (spAns C 1) := by
  refine F.ok sc_answer_branch (fun vs H Q E h => ?_) (fun cdv A outer s H vs Q E hr h => ?_)
  · obtain ⟨s, n, l, A, G, st, ns, rows, rfl, _⟩ := h
    rfl
  · obtain ⟨s, n, l, A, G, st, ns, rows, rfl, x, hn, hd, ask, q⟩ := h
    obtain ⟨k, v, rfl, hc⟩ := ask1 ask
    rw [step_of hc] at q
    have q : Wants C s A G H Q (Hist.step st (.branch k v)) := q
    obtain ⟨dx, h0⟩ := x.ins
    have hstep : Hist.step st (.branch k v) = if Hist.isBranch k = false then (st, Hist.says (-1)) else if st.has v = false then (st, Hist.says (-4)) else (st.move k (some v), Hist.says 0) := rfl
    refine ⟨_, (pss_cons (ps_set (i := 3) sc_answer_branch.nd rfl (Or.inl rfl) (pe_ix ix_list (pv 1) pe_int (fun _ _ => rfl)))
      (pss_cons (ps_set (i := 4) sc_answer_branch.nd rfl (Or.inl rfl) (pe_ix ix_list (pv 1) pe_int (fun _ _ => rfl)))
      (pss_cons (ps_if (pt_not (pt_val (pe_c c_is_branch hr (by decide) (by rfl) (pa_cons (pv 3) pa_nil)))) (pss_one (ps_ret (pe_c0 c_unfit hr (by decide) (by rfl)))) pss_nil)
      (pss_cons (ps_if (pt_not (pt_val (pe_m c_has_version hr (by decide) (pv 0) (pa_cons (pv 4) pa_nil)))) (pss_one (ps_ret (pe_c0 c_missing hr (by decide) (by rfl)))) pss_nil)
      (pss_cons (ps_asg (pv 4) (pg_sub (pe_fld (pv 0) rfl) (pv 3) set_list))
      (pss_one (ps_ret (pe_lst (pa_cons pe_int pa_nil))))))))), ?_⟩
    refine ⟨_, rfl, n, _, _, _, rfl, rfl, SqL.of hn, atI_n (j := 0) rfl rfl, _, rfl, n, _, _, _, rfl, rfl, SqL.of hn, atI_n (j := 1) rfl rfl, _, rfl, k, rfl, _, rfl, ?_⟩
    refine if_bool (fun c => ?_) (fun c => ?_)
    · exact ⟨rfl, refuse x q (by rw [hstep, if_pos (not_t c)]) (Same.refl H)⟩
    have hb := not_f c
    rw [if_neg (by rw [hb]; simp)] at hstep
    refine ⟨_, rfl, s, dx, _, rfl, h0, sF_has A, _, rfl, s, A, G, st, v, rfl, x, _, rfl, ?_⟩
    refine if_bool (fun c2 => ?_) (fun c2 => ?_)
    · exact ⟨rfl, refuse x q (by rw [hstep, if_pos (not_t c2)]) (Same.refl H)⟩
    have hv' := not_f c2
    rw [if_neg (by rw [hv']; simp)] at hstep
    refine ⟨_, rfl, _, rfl, s, C, dx, _, _, rfl, h0, TS.cl, TS.nh, sF_h A, _, rfl, A.h, _, _, k, rfl, rfl, x.hds, ixN_n rfl (by rw [List.length_map, x.wf.hds]; exact br_lt hb), ?_⟩
    refine ⟨(by show 1 ≤ sizeLine; decide), fun r nr => ?_⟩
    rw [hstep] at q
    have xm := x.move (k := k) (o := some v) (fun u e => by rw [← Option.some.inj e]; exact has_lt hv')
    exact q _ G r (free_upd nr) (keep_h.trans (Keep.of (same_upd nr))) Grow.refl (xm.same (same_upd nr)) upd_same
/-! ### drop -/
theorem ok_answer_drop {C : Addr} (T : Txt mg) (TS : TxS K C) {f : Addr} {fd : FuncData} (F : Fun K "answer_drop" "answer_drop" s_answer_drop f fd) (c_is_branch : Cal P w K mg base 1 "is_branch" spIsBranch) (c_unfit : Cal P w K mg base 1 "unfit" (spList [-1])) (c_missing : Cal P w K mg base 1 "missing" (spList [-4]))
    (c_is_at_none : Met P w K mg base 1 C "is_at_none" (spNone C)) : FnOk P w K mg base CX0 6 f fd ["state", "numbers", "lists"] (spAns C 2) := by
  refine F.ok sc_answer_drop (fun vs H Q E h => ?_) (fun cdv A outer s H vs Q E hr h => ?_)
  · obtain ⟨s, n, l, A, G, st, ns, rows, rfl, _⟩ := h
    rfl
  · obtain ⟨s, n, l, A, G, st, ns, rows, rfl, x, hn, hd, ask, q⟩ := h
    obtain ⟨k, rfl, hc⟩ := ask2 ask
    rw [step_of hc] at q
    have q : Wants C s A G H Q (Hist.step st (.drop k)) := q
    obtain ⟨dx, h0⟩ := x.ins
    have hstep : Hist.step st (.drop k) = if Hist.isBranch k = false then (st, Hist.says (-1)) else match st.head k with | none => (st, Hist.says (-4)) | some _ => (st.move k none, Hist.says 0) := rfl
    refine ⟨_, (pss_cons (ps_set (i := 3) sc_answer_drop.nd rfl (Or.inl rfl) (pe_ix ix_list (pv 1) pe_int (fun _ _ => rfl)))
      (pss_cons (ps_if (pt_not (pt_val (pe_c c_is_branch hr (by decide) (by rfl) (pa_cons (pv 3) pa_nil)))) (pss_one (ps_ret (pe_c0 c_unfit hr (by decide) (by rfl)))) pss_nil)
      (pss_cons (ps_if (pt_val (pe_m c_is_at_none hr (by decide) (pv 0) (pa_cons (pv 3) pa_nil))) (pss_one (ps_ret (pe_c0 c_missing hr (by decide) (by rfl)))) pss_nil)
      (pss_cons (ps_asg pe_non (pg_sub (pe_fld (pv 0) rfl) (pv 3) set_list))
      (pss_one (ps_ret (pe_lst (pa_cons pe_int pa_nil)))))))), ?_⟩
    refine ⟨_, rfl, n, _, _, _, rfl, rfl, SqL.of hn, atI_n (j := 0) rfl rfl, _, rfl, k, rfl, _, rfl, ?_⟩
    refine if_bool (fun c => ?_) (fun c => ?_)
    · exact ⟨rfl, refuse x q (by rw [hstep, if_pos (not_t c)]) (Same.refl H)⟩
    have hb := not_f c
    rw [if_neg (by rw [hb]; simp)] at hstep
    refine ⟨_, rfl, s, dx, _, rfl, h0, sF_none A, _, rfl, s, A, G, st, k, rfl, x, br_lt hb, _, rfl, ?_⟩
    refine if_dec (fun c4 => ?_) (fun c4 => ?_)
    · rw [c4] at hstep
      exact ⟨rfl, refuse x q hstep (Same.refl H)⟩
    · obtain ⟨u, hu⟩ : ∃ u, st.head k = some u := by
        cases e : st.head k with
        | none => exact absurd e c4
        | some u => exact ⟨u, rfl⟩
      rw [hu] at hstep
      have hstep : Hist.step st (.drop k) = (st.move k none, Hist.says 0) := hstep
      refine ⟨_, rfl, s, C, dx, _, _, rfl, h0, TS.cl, TS.nh, sF_h A, _, rfl, A.h, _, _, k, rfl, rfl, x.hds, ixN_n rfl (by rw [List.length_map, x.wf.hds]; exact br_lt hb), ?_⟩
      refine ⟨(by show 1 ≤ sizeLine; decide), fun r nr => ?_⟩
      rw [hstep] at q
      have xm := x.move (k := k) (o := none) (fun u e => by cases e)
      exact q _ G r (free_upd nr) (keep_h.trans (Keep.of (same_upd nr))) Grow.refl (xm.same (same_upd nr)) upd_same
/-! ### head -/
theorem ok_answer_head {C : Addr} (T : Txt mg) (TS : TxS K C) {f : Addr} {fd : FuncData} (F : Fun K "answer_head" "answer_head" s_answer_head f fd) (c_is_branch : Cal P w K mg base 1 "is_branch" spIsBranch) (c_unfit : Cal P w K mg base 1 "unfit" (spList [-1])) (c_missing : Cal P w K mg base 1 "missing" (spList [-4]))
    (c_is_at_none : Met P w K mg base 1 C "is_at_none" (spNone C)) : FnOk P w K mg base CX0 6 f fd ["state", "numbers", "lists"] (spAns C 3) := by
  refine F.ok sc_answer_head (fun vs H Q E h => ?_) (fun cdv A outer s H vs Q E hr h => ?_)
  · obtain ⟨s, n, l, A, G, st, ns, rows, rfl, _⟩ := h
    rfl
  · obtain ⟨s, n, l, A, G, st, ns, rows, rfl, x, hn, hd, ask, q⟩ := h
    obtain ⟨k, rfl, hc⟩ := ask3 ask
    rw [step_of hc] at q
    have q : Wants C s A G H Q (Hist.step st (.head k)) := q
    obtain ⟨dx, h0⟩ := x.ins
    have hstep : Hist.step st (.head k) = if Hist.isBranch k = false then (st, Hist.says (-1)) else match st.head k with | none => (st, Hist.says (-4)) | some u => (st, Hist.says (u : Nat)) := rfl
    refine ⟨_, (pss_cons (ps_set (i := 3) sc_answer_head.nd rfl (Or.inl rfl) (pe_ix ix_list (pv 1) pe_int (fun _ _ => rfl)))
      (pss_cons (ps_if (pt_not (pt_val (pe_c c_is_branch hr (by decide) (by rfl) (pa_cons (pv 3) pa_nil)))) (pss_one (ps_ret (pe_c0 c_unfit hr (by decide) (by rfl)))) pss_nil)
      (pss_cons (ps_if (pt_val (pe_m c_is_at_none hr (by decide) (pv 0) (pa_cons (pv 3) pa_nil))) (pss_one (ps_ret (pe_c0 c_missing hr (by decide) (by rfl)))) pss_nil)
      (pss_one (ps_ret (pe_lst (pa_cons (pe_ix ix_list (pe_fld (pv 0) rfl) (pv 3) (fun _ _ => rfl)) pa_nil))))))), ?_⟩
    refine ⟨_, rfl, n, _, _, _, rfl, rfl, SqL.of hn, atI_n (j := 0) rfl rfl, _, rfl, k, rfl, _, rfl, ?_⟩
    refine if_bool (fun c => ?_) (fun c => ?_)
    · exact ⟨rfl, refuse x q (by rw [hstep, if_pos (not_t c)]) (Same.refl H)⟩
    have hb := not_f c
    rw [if_neg (by rw [hb]; simp)] at hstep
    refine ⟨_, rfl, s, dx, _, rfl, h0, sF_none A, _, rfl, s, A, G, st, k, rfl, x, br_lt hb, _, rfl, ?_⟩
    refine if_dec (fun c4 => ?_) (fun c4 => ?_)
    · rw [c4] at hstep
      exact ⟨rfl, refuse x q hstep (Same.refl H)⟩
    · obtain ⟨u, hu⟩ : ∃ u, st.head k = some u := by
        cases e : st.head k with
        | none => exact absurd e c4
        | some u => exact ⟨u, rfl⟩
      rw [hu] at hstep
      have hstep : Hist.step st (.head k) = (st, Hist.says (u : Nat)) := hstep
      have hat := head_at x.wf (br_lt hb)
      rw [hu] at hat
      refine ⟨_, rfl, s, C, dx, _, _, rfl, h0, TS.cl, TS.nh, sF_h A, _, rfl, A.h, _, _, _, rfl, rfl, SqL.of x.hds, atI_n rfl hat, (by show 1 ≤ sizeLine; decide), fun r nr => ?_⟩
      exact tell x q hstep nr (same_upd nr) upd_same

end
end Tb

namespace Tb
open PySem PySem.Spec PyProof.Rows L2
section
variable {P : Program} {w : World} {K : PySem.W.Frag} {mg : Str → Option Value} {base : Heap}
open TbM
/-- the parents as their own reader asks them -/
theorem StAt.parsV {C : Addr} {G H : Hp} {s : Addr} {A : Ad} {st : Hist.State} (x : StAt C G H s A st) : ParsV H A.P st.book := by
  obtain ⟨ps, p1, p2⟩ := x.pars
  exact ⟨ps, p1, rows_same x.sub p2⟩
/-! ### doc -/
theorem ok_answer_doc {C : Addr} (T : Txt mg) (TS : TxS K C) {f : Addr} {fd : FuncData} (F : Fun K "answer_doc" "answer_doc" s_answer_doc f fd) (c_missing : Cal P w K mg base 1 "missing" (spList [-4])) (c_counted_lines : Cal P w K mg base 2 "counted_lines" spCountedLines)
    (c_has_version : Met P w K mg base 1 C "has_version" (spHas C)) : FnOk P w K mg base CX0 6 f fd ["state", "numbers", "lists"] (spAns C 4) := by
  refine F.ok sc_answer_doc (fun vs H Q E h => ?_) (fun cdv A outer s H vs Q E hr h => ?_)
  · obtain ⟨s, n, l, A, G, st, ns, rows, rfl, _⟩ := h
    rfl
  · obtain ⟨s, n, l, A, G, st, ns, rows, rfl, x, hn, hd, ask, q⟩ := h
    obtain ⟨v, rfl, hc⟩ := ask4 ask
    rw [step_of hc] at q
    have q : Wants C s A G H Q (Hist.step st (.doc v)) := q
    obtain ⟨dx, h0⟩ := x.ins
    obtain ⟨ds, d1, d2⟩ := x.docs
    have hstep : Hist.step st (.doc v) = if st.has v = false then (st, Hist.says (-4)) else (st, ⟨((Hist.docOf st.book v).length : Nat), Hist.docOf st.book v⟩) := rfl
    refine ⟨_, (pss_cons (ps_set (i := 3) sc_answer_doc.nd rfl (Or.inl rfl) (pe_ix ix_list (pv 1) pe_int (fun _ _ => rfl)))
      (pss_cons (ps_if (pt_not (pt_val (pe_m c_has_version hr (by decide) (pv 0) (pa_cons (pv 3) pa_nil)))) (pss_one (ps_ret (pe_c0 c_missing hr (by decide) (by rfl)))) pss_nil)
      (pss_one (ps_ret (pe_c c_counted_lines hr (by decide) (by rfl) (pa_cons (pe_ix ix_list (pe_fld (pv 0) rfl) (pv 3) (fun _ _ => rfl)) pa_nil)))))), ?_⟩
    refine ⟨_, rfl, n, _, _, _, rfl, rfl, SqL.of hn, atI_n (j := 0) rfl rfl, _, rfl, s, dx, _, rfl, h0, sF_has A, _, rfl, s, A, G, st, v, rfl, x, _, rfl, ?_⟩
    refine if_bool (fun c => ?_) (fun c => ?_)
    · exact ⟨rfl, refuse x q (by rw [hstep, if_pos (not_t c)]) (Same.refl H)⟩
    have hb := not_f c
    rw [if_neg (by rw [hb]; simp)] at hstep
    have hv' := has_lt hb
    obtain ⟨dv, gdv, hdv⟩ := d2.get (docs_get st.book hv')
    have hf := x.wf.fit v hv'
    refine ⟨_, rfl, s, C, dx, _, _, rfl, h0, TS.cl, TS.nD, sF_D A, _, rfl, A.D, ds, _, _, rfl, rfl, SqL.of d1, atI_n rfl gdv, _, _, rfl, hdv.same x.sub, fit_rows hf, fit_len hf, fun H' r s1 nr e1 => ?_⟩
    exact tell x q hstep nr s1 (by rw [e1, shown_doc])
/-! ### parents -/
theorem ok_answer_parents {C : Addr} (T : Txt mg) (TS : TxS K C) {f : Addr} {fd : FuncData} (F : Fun K "answer_parents" "answer_parents" s_answer_parents f fd) (c_missing : Cal P w K mg base 1 "missing" (spList [-4])) (c_counted : Cal P w K mg base 1 "counted" spCounted)
    (c_has_version : Met P w K mg base 1 C "has_version" (spHas C)) : FnOk P w K mg base CX0 6 f fd ["state", "numbers", "lists"] (spAns C 5) := by
  refine F.ok sc_answer_parents (fun vs H Q E h => ?_) (fun cdv A outer s H vs Q E hr h => ?_)
  · obtain ⟨s, n, l, A, G, st, ns, rows, rfl, _⟩ := h
    rfl
  · obtain ⟨s, n, l, A, G, st, ns, rows, rfl, x, hn, hd, ask, q⟩ := h
    obtain ⟨v, rfl, hc⟩ := ask5 ask
    rw [step_of hc] at q
    have q : Wants C s A G H Q (Hist.step st (.parents v)) := q
    obtain ⟨dx, h0⟩ := x.ins
    obtain ⟨ps, p1, p2⟩ := x.pars
    have hstep : Hist.step st (.parents v) = if st.has v = false then (st, Hist.says (-4)) else (st, ⟨((Hist.parentsOf st.book v).length : Nat), [Hist.parentsOf st.book v]⟩) := rfl
    refine ⟨_, (pss_cons (ps_set (i := 3) sc_answer_parents.nd rfl (Or.inl rfl) (pe_ix ix_list (pv 1) pe_int (fun _ _ => rfl)))
      (pss_cons (ps_if (pt_not (pt_val (pe_m c_has_version hr (by decide) (pv 0) (pa_cons (pv 3) pa_nil)))) (pss_one (ps_ret (pe_c0 c_missing hr (by decide) (by rfl)))) pss_nil)
      (pss_one (ps_ret (pe_c c_counted hr (by decide) (by rfl) (pa_cons (pe_ix ix_list (pe_fld (pv 0) rfl) (pv 3) (fun _ _ => rfl)) pa_nil)))))), ?_⟩
    refine ⟨_, rfl, n, _, _, _, rfl, rfl, SqL.of hn, atI_n (j := 0) rfl rfl, _, rfl, s, dx, _, rfl, h0, sF_has A, _, rfl, s, A, G, st, v, rfl, x, _, rfl, ?_⟩
    refine if_bool (fun c => ?_) (fun c => ?_)
    · exact ⟨rfl, refuse x q (by rw [hstep, if_pos (not_t c)]) (Same.refl H)⟩
    have hb := not_f c
    rw [if_neg (by rw [hb]; simp)] at hstep
    have hv' := has_lt hb
    obtain ⟨pv', gpv, hpv⟩ := p2.get (pars_get st.book hv')
    have h2 := x.wf.ok.two v
    refine ⟨_, rfl, s, C, dx, _, _, rfl, h0, TS.cl, TS.nP, sF_P A, _, rfl, A.P, ps, _, _, rfl, rfl, SqL.of p1, atI_n rfl gpv, _, _, rfl, hpv.same x.sub, by omega, fun H' r s1 nr e1 => ?_⟩
    exact tell x q hstep nr s1 (by rw [e1, shown_one])
/-! ### log -/
theorem ok_answer_log {C : Addr} (T : Txt mg) (TS : TxS K C) {f : Addr} {fd : FuncData} (F : Fun K "answer_log" "answer_log" s_answer_log f fd) (c_missing : Cal P w K mg base 1 "missing" (spList [-4])) (c_counted : Cal P w K mg base 1 "counted" spCounted) (c_forebears_of : Cal P w K mg base 1 "forebears_of" spFore)
    (c_has_version : Met P w K mg base 1 C "has_version" (spHas C)) : FnOk P w K mg base CX0 6 f fd ["state", "numbers", "lists"] (spAns C 6) := by
  refine F.ok sc_answer_log (fun vs H Q E h => ?_) (fun cdv A outer s H vs Q E hr h => ?_)
  · obtain ⟨s, n, l, A, G, st, ns, rows, rfl, _⟩ := h
    rfl
  · obtain ⟨s, n, l, A, G, st, ns, rows, rfl, x, hn, hd, ask, q⟩ := h
    obtain ⟨v, rfl, hc⟩ := ask6 ask
    rw [step_of hc] at q
    have q : Wants C s A G H Q (Hist.step st (.log v)) := q
    obtain ⟨dx, h0⟩ := x.ins
    have hstep : Hist.step st (.log v) = if st.has v = false then (st, Hist.says (-4)) else (st, ⟨((Hist.forebears st.book v).length : Nat), [Hist.forebears st.book v]⟩) := rfl
    refine ⟨_, (pss_cons (ps_set (i := 3) sc_answer_log.nd rfl (Or.inl rfl) (pe_ix ix_list (pv 1) pe_int (fun _ _ => rfl)))
      (pss_cons (ps_if (pt_not (pt_val (pe_m c_has_version hr (by decide) (pv 0) (pa_cons (pv 3) pa_nil)))) (pss_one (ps_ret (pe_c0 c_missing hr (by decide) (by rfl)))) pss_nil)
      (pss_one (ps_ret (pe_c c_counted hr (by decide) (by rfl) (pa_cons (pe_c c_forebears_of hr (by decide) (by rfl) (pa_cons (pe_fld (pv 0) rfl) (pa_cons (pv 3) pa_nil))) pa_nil)))))), ?_⟩
    refine ⟨_, rfl, n, _, _, _, rfl, rfl, SqL.of hn, atI_n (j := 0) rfl rfl, _, rfl, s, dx, _, rfl, h0, sF_has A, _, rfl, s, A, G, st, v, rfl, x, _, rfl, ?_⟩
    refine if_bool (fun c => ?_) (fun c => ?_)
    · exact ⟨rfl, refuse x q (by rw [hstep, if_pos (not_t c)]) (Same.refl H)⟩
    have hb := not_f c
    rw [if_neg (by rw [hb]; simp)] at hstep
    have hl := fore_len st.book v
    have hm := x.wf.ok.most
    refine ⟨_, rfl, s, C, dx, _, _, rfl, h0, TS.cl, TS.nP, sF_P A, _, rfl, A.P, st.book, v, rfl, x.parsV, x.wf.ok, has_lt hb, fun H1 r1 s1 n1 e1 => ⟨_, _, rfl, ⟨r1, rfl, e1⟩, by omega, fun H' r s2 nr e2 => ?_⟩⟩
    exact tell x q hstep (s1.free nr) (s1.trans s2) (by rw [e2, shown_one])
/-! ### common -/
theorem ok_answer_common {C : Addr} (T : Txt mg) (TS : TxS K C) {f : Addr} {fd : FuncData} (F : Fun K "answer_common" "answer_common" s_answer_common f fd) (c_missing : Cal P w K mg base 1 "missing" (spList [-4])) (c_counted : Cal P w K mg base 1 "counted" spCounted) (c_nearest_in_common : Cal P w K mg base 2 "nearest_in_common" spNear)
    (c_has_version : Met P w K mg base 1 C "has_version" (spHas C)) : FnOk P w K mg base CX0 6 f fd ["state", "numbers", "lists"] (spAns C 7) := by
  refine F.ok sc_answer_common (fun vs H Q E h => ?_) (fun cdv A outer s H vs Q E hr h => ?_)
  · obtain ⟨s, n, l, A, G, st, ns, rows, rfl, _⟩ := h
    rfl
  · obtain ⟨s, n, l, A, G, st, ns, rows, rfl, x, hn, hd, ask, q⟩ := h
    obtain ⟨u, v, rfl, hc⟩ := ask7 ask
    rw [step_of hc] at q
    have q : Wants C s A G H Q (Hist.step st (.common u v)) := q
    obtain ⟨dx, h0⟩ := x.ins
    have hstep : Hist.step st (.common u v) = if (st.has u && st.has v) = false then (st, Hist.says (-4)) else (st, ⟨((Hist.nearest st.book u v).length : Nat), [Hist.nearest st.book u v]⟩) := rfl
    refine ⟨_, (pss_cons (ps_set (i := 3) sc_answer_common.nd rfl (Or.inl rfl) (pe_ix ix_list (pv 1) pe_int (fun _ _ => rfl)))
      (pss_cons (ps_set (i := 4) sc_answer_common.nd rfl (Or.inl rfl) (pe_ix ix_list (pv 1) pe_int (fun _ _ => rfl)))
      (pss_cons (ps_if (PW.pt (pw_or (pt_not (pt_val (pe_m c_has_version hr (by decide) (pv 0) (pa_cons (pv 3) pa_nil)))) (pw_or1 (pt_not (pt_val (pe_m c_has_version hr (by decide) (pv 0) (pa_cons (pv 4) pa_nil))))))) (pss_one (ps_ret (pe_c0 c_missing hr (by decide) (by rfl)))) pss_nil)
      (pss_one (ps_ret (pe_c c_counted hr (by decide) (by rfl) (pa_cons (pe_c c_nearest_in_common hr (by decide) (by rfl) (pa_cons (pe_fld (pv 0) rfl) (pa_cons (pv 3) (pa_cons (pv 4) pa_nil)))) pa_nil))))))), ?_⟩
    refine ⟨_, rfl, n, _, _, _, rfl, rfl, SqL.of hn, atI_n (j := 0) rfl rfl, _, rfl, n, _, _, _, rfl, rfl, SqL.of hn, atI_n (j := 1) rfl rfl, _, rfl, s, dx, _, rfl, h0, sF_has A, _, rfl, s, A, G, st, u, rfl, x, _, rfl, ?_⟩
    refine if_bool (fun c => ?_) (fun c => ?_)
    · exact ⟨rfl, refuse x q (by rw [hstep, if_pos (by rw [not_t c]; rfl)]) (Same.refl H)⟩
    have hb := not_f c
    refine ⟨_, rfl, s, dx, _, rfl, h0, sF_has A, _, rfl, s, A, G, st, v, rfl, x, _, rfl, ?_⟩
    refine if_bool (fun c2 => ?_) (fun c2 => ?_)
    · exact ⟨rfl, refuse x q (by rw [hstep, if_pos (by rw [not_t c2, Bool.and_false])]) (Same.refl H)⟩
    have hb2 := not_f c2
    rw [if_neg (by rw [hb, hb2]; simp)] at hstep
    have hl := near_len (h := st.book) (u := u) (v := v)
    have hm := x.wf.ok.most
    refine ⟨_, rfl, s, C, dx, _, _, rfl, h0, TS.cl, TS.nP, sF_P A, _, rfl, _, rfl, A.P, st.book, u, v, rfl, x.parsV, x.wf.ok, has_lt hb, has_lt hb2, fun H1 r1 s1 n1 e1 => ⟨_, _, rfl, ⟨r1, rfl, e1⟩, by omega, fun H' r s2 nr e2 => ?_⟩⟩
    exact tell x q hstep (s1.free nr) (s1.trans s2) (by rw [e2, shown_one])
/-! ### origins -/
theorem ok_answer_origins {C : Addr} (T : Txt mg) (TS : TxS K C) {f : Addr} {fd : FuncData} (F : Fun K "answer_origins" "answer_origins" s_answer_origins f fd) (c_missing : Cal P w K mg base 1 "missing" (spList [-4])) (c_counted : Cal P w K mg base 1 "counted" spCounted)
    (c_has_version : Met P w K mg base 1 C "has_version" (spHas C)) : FnOk P w K mg base CX0 6 f fd ["state", "numbers", "lists"] (spAns C 13) := by
  refine F.ok sc_answer_origins (fun vs H Q E h => ?_) (fun cdv A outer s H vs Q E hr h => ?_)
  · obtain ⟨s, n, l, A, G, st, ns, rows, rfl, _⟩ := h
    rfl
  · obtain ⟨s, n, l, A, G, st, ns, rows, rfl, x, hn, hd, ask, q⟩ := h
    obtain ⟨v, rfl, hc⟩ := ask13 ask
    rw [step_of hc] at q
    have q : Wants C s A G H Q (Hist.step st (.origins v)) := q
    obtain ⟨dx, h0⟩ := x.ins
    obtain ⟨os, o1, o2⟩ := x.orgs
    have hstep : Hist.step st (.origins v) = if st.has v = false then (st, Hist.says (-4)) else (st, ⟨(((Hist.origins st.book).getD v []).length : Nat), [(Hist.origins st.book).getD v []]⟩) := rfl
    refine ⟨_, (pss_cons (ps_set (i := 3) sc_answer_origins.nd rfl (Or.inl rfl) (pe_ix ix_list (pv 1) pe_int (fun _ _ => rfl)))
      (pss_cons (ps_if (pt_not (pt_val (pe_m c_has_version hr (by decide) (pv 0) (pa_cons (pv 3) pa_nil)))) (pss_one (ps_ret (pe_c0 c_missing hr (by decide) (by rfl)))) pss_nil)
      (pss_one (ps_ret (pe_c c_counted hr (by decide) (by rfl) (pa_cons (pe_ix ix_list (pe_fld (pv 0) rfl) (pv 3) (fun _ _ => rfl)) pa_nil)))))), ?_⟩
    refine ⟨_, rfl, n, _, _, _, rfl, rfl, SqL.of hn, atI_n (j := 0) rfl rfl, _, rfl, s, dx, _, rfl, h0, sF_has A, _, rfl, s, A, G, st, v, rfl, x, _, rfl, ?_⟩
    refine if_bool (fun c => ?_) (fun c => ?_)
    · exact ⟨rfl, refuse x q (by rw [hstep, if_pos (not_t c)]) (Same.refl H)⟩
    have hb := not_f c
    rw [if_neg (by rw [hb]; simp)] at hstep
    have hv' := has_lt hb
    have hrow := origins_row st.book hv'
    have hfit := fit_len (x.wf.fit v hv')
    have hvo : v < (Hist.origins st.book).length := by rw [origins_len]; exact hv'
    have go := List.getElem?_eq_getElem hvo
    obtain ⟨ov, gov, hov⟩ := o2.get go
    rw [getD_of (d := []) go] at hstep hrow
    refine ⟨_, rfl, s, C, dx, _, _, rfl, h0, TS.cl, TS.nO, sF_O A, _, rfl, A.O, os, _, _, rfl, rfl, SqL.of o1, atI_n rfl gov, _, _, rfl, hov.same x.sub, by omega, fun H' r s1 nr e1 => ?_⟩
    exact tell x q hstep nr s1 (by rw [e1, shown_one])
/-! ### count -/
def hn1 : Option Nat → Nat := fun o => match o with
  | none => 0
  | some v => v + 1
theorem ok_answer_count {C : Addr} (T : Txt mg) (TS : TxS K C) {f : Addr} {fd : FuncData} (F : Fun K "answer_count" "answer_count" s_answer_count f fd) : FnOk P w K mg base CX0 6 f fd ["state", "numbers", "lists"] (spAns C 14) := by
  refine F.ok sc_answer_count (fun vs H Q E h => ?_) (fun cdv A outer s H vs Q E hr h => ?_)
  · obtain ⟨s, n, l, A, G, st, ns, rows, rfl, _⟩ := h
    rfl
  · obtain ⟨s, n, l, A, G, st, ns, rows, rfl, x, hn, hd, ask, q⟩ := h
    obtain ⟨rfl, hc⟩ := ask14 ask
    rw [step_of hc] at q
    have q : Wants C s A G H Q (Hist.step st .count) := q
    obtain ⟨dx, h0⟩ := x.ins
    obtain ⟨ds, d1, d2⟩ := x.docs
    have hstep : Hist.step st .count = (st, ⟨(st.book.length : Nat), [st.heads.map hn1]⟩) := rfl
    have h8 := x.wf.hds
    have hm := x.wf.ok.most
    refine ⟨_, (pss_cons (ps_setLc (i := 3) (own := [("version", 4)]) (g := gName 4) rfl sc_answer_count.nd rfl rfl (sw_true rfl rfl rfl (by decide +kernel)) (pi_list (pe_fld (pv 0) rfl)) (blkOk_by (own := [("version", 4)]) (N := N_answer_count) (sc := defScope s_answer_count) (by decide +kernel)) (fun _ _ _ _ _ => pg_name (i := 4) sc_answer_count.nd rfl (Or.inl rfl)) (fun _ _ _ _ _ => pts_nil) (fun _ _ _ _ _ => (pe_ifExp (pt_cmpR op_isN (pv 4) pe_non (nomark _)) pe_int (pe_op op_add (pv 4) pe_int))))
      (pss_one (ps_ret (pe_op op_cat (pe_lst (pa_cons (pe_callB call_len_seq (by rfl) T.m_len PySem.boot_len (pa_cons (pe_fld (pv 0) rfl) pa_nil)) (pa_cons (pe_callB call_len_seq (by rfl) T.m_len PySem.boot_len (pa_cons (pv 3) pa_nil)) pa_nil))) (pv 3))))), ?_⟩
    refine ⟨_, rfl, s, C, dx, _, _, rfl, h0, TS.cl, TS.nh, sF_h A, A.h, rfl, ⟨_, SqL.of x.hds⟩, fun D hD => ?_⟩
    refine lc_list (K := K) (a := A.h) (xs := st.heads.map hv) (fun i H' => Same H H' ∧ H' D = some (.lst (nvs ((st.heads.take i).map hn1)))) ⟨same_upd hD, upd_same⟩ (fun i H' _ p => p.1.seq (SqL.of x.hds)) (fun i y H' hi p => ?_) (fun H1 p => ?_)
    · rw [List.getElem?_map] at hi
      cases e : st.heads[i]? with
      | none => rw [e] at hi; cases hi
      | some o =>
        rw [e] at hi
        have hy : hv o = y := Option.some.inj hi
        subst hy
        have hil := (List.getElem?_eq_some_iff.mp e).1
        have fin : ∀ z : V, z = nv (hn1 o) → ∃ acc, H' D = some (.lst acc) ∧ acc.length < sizeLine ∧ (Same H (upd H' D (.lst (acc ++ [z]))) ∧ (upd H' D (.lst (acc ++ [z]))) D = some (.lst (nvs ((st.heads.take (i + 1)).map hn1)))) := fun z hz => by
          refine ⟨_, p.2, ?_, same_in p.1 hD, ?_⟩
          · rw [nvs_len, List.length_map, List.length_take]
            exact size_lt' (by omega)
          · rw [upd_same, hz, nvs_snoc, take_more e, List.map_append]
            rfl
        refine ⟨rfl, _, rfl, rfl, _, rfl, ?_⟩
        cases o with
        | none => exact if_true_of (decide_eq_true rfl) (fin _ rfl)
        | some v => exact if_false_of (decide_eq_false (fun z => nomatch z)) ⟨_, rfl, _, _, rfl, rfl, fin _ rfl⟩
    · obtain ⟨s1, e1⟩ := p
      rw [List.length_map, List.take_length] at e1
      refine ⟨_, rfl, s, C, dx, _, _, rfl, s1 _ _ h0, TS.cl, TS.nD, sF_D A, A.D, ds, rfl, .inl (SqL.of (s1 _ _ d1)), _, rfl, D, _, rfl, .inl (SqL.of e1), (by show 2 ≤ sizeLine; decide), fun p np => ?_⟩
      refine ⟨_, rfl, p, D, _, _, rfl, rfl, upd_same, same_upd np _ _ e1, ?_, fun r nr => ?_⟩
      · rw [nvs_len, List.length_map, h8]
        show 2 + 8 ≤ sizeLine
        decide
      · refine tell x q hstep (s1.free (free_upd nr)) (s1.trans ((same_upd np).trans (same_upd nr))) ?_
        rw [upd_same, shown_one, nvs_len, d2.len, List.length_map]
        rfl

end
end Tb

namespace Tb
open PySem PySem.Spec PyProof.Rows L2
section
variable {P : Program} {w : World} {K : PySem.W.Frag} {mg : Str → Option Value} {base : Heap}
open TbM
theorem added_mem {w : List Nat} {b : Hist.Doc} {l : List Nat} (h : l ∈ addedN w b) : l ∈ b := by
  unfold addedN at h
  obtain ⟨j, _, e⟩ := List.mem_filterMap.mp h
  split at e
  · exact List.mem_of_getElem? e
  · cases e
theorem added_len (w : List Nat) (b : Hist.Doc) : (addedN w b).length ≤ b.length := by
  unfold addedN
  have := List.length_filterMap_le (fun j => if (w.filter fun s => decide (s ≠ 1))[j]? = some 2 then b[j]? else none) (List.range b.length)
  rw [List.length_range] at this
  exact this
/-! ### way -/
theorem ok_answer_way {C : Addr} (T : Txt mg) (TS : TxS K C) {f : Addr} {fd : FuncData} (F : Fun K "answer_way" "answer_way" s_answer_way f fd) (c_missing : Cal P w K mg base 1 "missing" (spList [-4])) (c_way_between : Cal P w K mg base 2 "way_between" spWay) (c_each_line : Cal P w K mg base 1 "each_line" spEachLine) (c_added_lines : Cal P w K mg base 1 "added_lines" spAdded) (c_kept_places : Cal P w K mg base 1 "kept_places" spKept)
    (c_has_version : Met P w K mg base 1 C "has_version" (spHas C)) : FnOk P w K mg base CX0 6 f fd ["state", "numbers", "lists"] (spAns C 8) := by
  refine F.ok sc_answer_way (fun vs H Q E h => ?_) (fun cdv A outer s H vs Q E hr h => ?_)
  · obtain ⟨s, n, l, A, G, st, ns, rows, rfl, _⟩ := h
    rfl
  · obtain ⟨s, n, l, A, G, st, ns, rows, rfl, x, hn, hd, ask, q⟩ := h
    obtain ⟨u, v, rfl, hc⟩ := ask8 ask
    rw [step_of hc] at q
    have q : Wants C s A G H Q (Hist.step st (.way u v)) := q
    obtain ⟨dx, h0⟩ := x.ins
    obtain ⟨ds, d1, d2⟩ := x.docs
    have hstep : Hist.step st (.way u v) = if (st.has u && st.has v) = false then (st, Hist.says (-4)) else (st, ⟨(Hist.kept (Hist.way (Hist.docOf st.book u) (Hist.docOf st.book v)) : Nat), wn (Hist.docOf st.book u) (Hist.docOf st.book v) :: (Hist.way (Hist.docOf st.book u) (Hist.docOf st.book v)).filterMap addOf⟩) := rfl
    refine ⟨_, (pss_cons (ps_set (i := 3) sc_answer_way.nd rfl (Or.inl rfl) (pe_ix ix_list (pv 1) pe_int (fun _ _ => rfl)))
      (pss_cons (ps_set (i := 4) sc_answer_way.nd rfl (Or.inl rfl) (pe_ix ix_list (pv 1) pe_int (fun _ _ => rfl)))
      (pss_cons (ps_if (PW.pt (pw_or (pt_not (pt_val (pe_m c_has_version hr (by decide) (pv 0) (pa_cons (pv 3) pa_nil)))) (pw_or1 (pt_not (pt_val (pe_m c_has_version hr (by decide) (pv 0) (pa_cons (pv 4) pa_nil))))))) (pss_one (ps_ret (pe_c0 c_missing hr (by decide) (by rfl)))) pss_nil)
      (pss_cons (ps_set (i := 5) sc_answer_way.nd rfl (Or.inl rfl) (pe_c c_way_between hr (by decide) (by rfl) (pa_cons (pe_ix ix_list (pe_fld (pv 0) rfl) (pv 3) (fun _ _ => rfl)) (pa_cons (pe_ix ix_list (pe_fld (pv 0) rfl) (pv 4) (fun _ _ => rfl)) pa_nil))))
      (pss_cons (ps_set (i := 6) sc_answer_way.nd rfl (Or.inl rfl) (pe_c c_each_line hr (by decide) (by rfl) (pa_cons (pe_c c_added_lines hr (by decide) (by rfl) (pa_cons (pv 5) (pa_cons (pe_ix ix_list (pe_fld (pv 0) rfl) (pv 4) (fun _ _ => rfl)) pa_nil))) pa_nil)))
      (pss_one (ps_ret (pe_op op_cat (pe_op op_cat (pe_lst (pa_cons (pe_callB call_len_seq (by rfl) T.m_len PySem.boot_len (pa_cons (pe_c c_kept_places hr (by decide) (by rfl) (pa_cons (pv 5) pa_nil)) pa_nil)) (pa_cons (pe_callB call_len_seq (by rfl) T.m_len PySem.boot_len (pa_cons (pv 5) pa_nil)) pa_nil))) (pv 5)) (pv 6))))))))), ?_⟩
    refine ⟨_, rfl, n, _, _, _, rfl, rfl, SqL.of hn, atI_n (j := 0) rfl rfl, _, rfl, n, _, _, _, rfl, rfl, SqL.of hn, atI_n (j := 1) rfl rfl, _, rfl, s, dx, _, rfl, h0, sF_has A, _, rfl, s, A, G, st, u, rfl, x, _, rfl, ?_⟩
    refine if_bool (fun c => ?_) (fun c => ?_)
    · exact ⟨rfl, refuse x q (by rw [hstep, if_pos (by rw [not_t c]; rfl)]) (Same.refl H)⟩
    have hb := not_f c
    refine ⟨_, rfl, s, dx, _, rfl, h0, sF_has A, _, rfl, s, A, G, st, v, rfl, x, _, rfl, ?_⟩
    refine if_bool (fun c2 => ?_) (fun c2 => ?_)
    · exact ⟨rfl, refuse x q (by rw [hstep, if_pos (by rw [not_t c2, Bool.and_false])]) (Same.refl H)⟩
    have hb2 := not_f c2
    rw [if_neg (by rw [hb, hb2]; simp)] at hstep
    obtain ⟨du, gdu, hdu⟩ := d2.get (docs_get st.book (has_lt hb))
    obtain ⟨dv, gdv, hdv⟩ := d2.get (docs_get st.book (has_lt hb2))
    have fu := x.wf.fit u (has_lt hb)
    have fv := x.wf.fit v (has_lt hb2)
    generalize Hist.docOf st.book u = U at *
    generalize Hist.docOf st.book v = W at *
    have lu := fit_len fu
    have lv := fit_len fv
    have wl := wn_len U W
    refine ⟨_, rfl, s, C, dx, _, _, rfl, h0, TS.cl, TS.nD, sF_D A, _, rfl, A.D, ds, _, _, rfl, rfl, SqL.of d1, atI_n rfl gdu, _, rfl, s, C, dx, _, _, rfl, h0, TS.cl, TS.nD, sF_D A, _, rfl, A.D, ds, _, _, rfl, rfl, SqL.of d1, atI_n rfl gdv, _, _, U, W, rfl, hdu.same x.sub, hdv.same x.sub, lu, lv, fun H1 p1 s1 n1 e1 => ?_⟩
    refine ⟨_, rfl, _, rfl, s, C, dx, _, _, rfl, s1 _ _ h0, TS.cl, TS.nD, sF_D A, _, rfl, A.D, ds, _, _, rfl, rfl, SqL.of (s1 _ _ d1), atI_n rfl gdv, _, _, wn U W, W, rfl, ⟨p1, rfl, e1⟩, hdv.same (x.sub.trans s1), by omega, made_len U W, fun H2 p2 s2 a2 => ⟨_, _, rfl, a2, fun l hl => fit_rows fv l (added_mem hl), Nat.le_trans (added_len _ _) lv, fun H3 p3 s3 n3 e3 => ?_⟩⟩
    have s13 := s2.trans s3
    refine ⟨_, rfl, _, wn U W, rfl, ⟨p1, rfl, s13 _ _ e1⟩, by omega, fun H4 p4 ws4 s4 n4 e4 a4 => ⟨p4, ws4, rfl, .inl (SqL.of e4), _, rfl, p1, _, rfl, .inl (SqL.of (s4 _ _ (s13 _ _ e1))), (by show 2 ≤ sizeLine; decide), fun r1 m1 => ?_⟩⟩
    have e14 := s4 _ _ (s13 _ _ e1)
    have e34 := s4 _ _ e3
    have tl := tell_len (addedN (wn U W) W) (fun l hl => fit_rows fv l (added_mem hl)) (Nat.le_trans (added_len _ _) lv)
    refine ⟨_, rfl, r1, p1, _, _, rfl, rfl, upd_same, same_upd m1 _ _ e14, ?_, fun r2 m2 => ?_⟩
    · rw [nvs_len]
      exact size_le (by show 2 + _ ≤ _; omega)
    refine ⟨_, rfl, r2, p3, _, _, rfl, rfl, upd_same, same_upd m2 _ _ (same_upd m1 _ _ e34), ?_, fun r3 m3 => ?_⟩
    · rw [List.length_append, nvs_len, nvs_len]
      exact size_le (by show 2 + _ + _ ≤ _; omega)
    refine tell x q hstep (s1.free (s13.free (s4.free (free_upd (free_upd m3))))) (s1.trans (s13.trans (s4.trans ((same_upd m1).trans ((same_upd m2).trans (same_upd m3)))))) ?_
    rw [upd_same]
    have hk : ws4.length = Hist.kept (Hist.way U W) := by
      rw [a4.len]
      exact kp_count _ 0 0
    rw [hk, nvs_len, added_is]
    unfold HistNeutral.shown
    show some (HO.lst (([V.int (Hist.kept (Hist.way U W) : Nat), V.int ((wn U W).length : Nat)] ++ nvs (wn U W)) ++ nvs (tellN ((Hist.way U W).filterMap addOf)))) = some (HO.lst (V.int (Hist.kept (Hist.way U W) : Nat) :: zv ((wn U W :: (Hist.way U W).filterMap addOf).flatMap fun (l : List Nat) => (l.length : Int) :: l.map fun (n : Nat) => (n : Int))))
    rw [tell_shown, ← zv_cI]
    show _ = some (HO.lst (V.int (Hist.kept (Hist.way U W) : Nat) :: nvs (((wn U W).length :: wn U W) ++ tellN ((Hist.way U W).filterMap addOf))))
    rw [← nvs_app]
    rfl
/-! ### try -/
theorem cutV_to (xs : List V) (e : Nat) : cutV xs none (some (e : Int)) = xs.take e := by
  unfold cutV
  rw [HT.sIx_none, HT.sIx_nat, List.drop_zero, Nat.sub_zero]
  by_cases h : e ≤ xs.length
  · rw [Nat.min_eq_left h]
  · rw [Nat.min_eq_right (by omega), List.take_length, List.take_of_length_le (by omega)]
theorem cutV_from (xs : List V) (s : Nat) : cutV xs (some (s : Int)) none = xs.drop s := by
  unfold cutV
  rw [HT.sIx_none, HT.sIx_nat]
  by_cases h : s ≤ xs.length
  · rw [Nat.min_eq_left h, List.take_of_length_le (by rw [List.length_drop]; exact Nat.le_refl _)]
  · rw [Nat.min_eq_right (by omega), List.drop_length, List.drop_eq_nil_of_le (by omega), List.take_nil]
theorem shown_clash (c : List Nat) : zv (HistNeutral.shown ⟨-3, [c]⟩) = V.int (-3) :: nv c.length :: nvs c := by
  show V.int (-3) :: V.int (c.length : Int) :: zv (cI c ++ []) = _
  rw [List.append_nil, ← zv_cI]
  rfl
theorem ok_answer_try {C CM : Addr} (T : Txt mg) (TM : TxM K CM) {f : Addr} {fd : FuncData} (F : Fun K "answer_try" "answer_try" s_answer_try f fd) (c_unfit : Cal P w K mg base 1 "unfit" (spList [-1])) (c_full : Cal P w K mg base 1 "full" (spList [-6])) (c_fits : Cal P w K mg base 1 "fits" spFits) (c_merged_from : Cal P w K mg base 4 "merged_from" (spMFrom CM)) (c_clashing : Cal P w K mg base 1 "clashing" spClashing) (c_counted_lines : Cal P w K mg base 2 "counted_lines" spCountedLines) : FnOk P w K mg base CX0 6 f fd ["state", "numbers", "lists"] (spAns C 12) := by
  refine F.ok sc_answer_try (fun vs H Q E h => ?_) (fun cdv A outer s H vs Q E hr h => ?_)
  · obtain ⟨s, n, l, A, G, st, ns, rows, rfl, _⟩ := h
    rfl
  · obtain ⟨s, n, l, A, G, st, ns, rows, rfl, x, hn, hd, ask, q⟩ := h
    obtain ⟨a, b, rfl, hab, hc⟩ := ask12 ask
    rw [step_of hc] at q
    have q : Wants C s A G H Q (Hist.step st (.try_ (rows.take a) ((rows.drop a).take b) (rows.drop (a + b)))) := q
    obtain ⟨l', ls, el, hl, hls⟩ := hd.same x.sub
    cases el
    have rO : All2 (IntsV H) (cutV ls none (some (a : Int))) (rows.take a) := by rw [cutV_to]; exact hls.take a
    have rA : All2 (IntsV H) (cutV ls (some (a : Int)) (some ((a : Int) + (b : Int)))) ((rows.drop a).take b) := by
      have := cutV_nat ls a (a + b)
      rw [show (((a + b : Nat)) : Int) = (a : Int) + (b : Int) from Int.natCast_add a b, Nat.add_sub_cancel_left] at this
      rw [this]
      exact (hls.drop a).take b
    have rB : All2 (IntsV H) (cutV ls (some ((a : Int) + (b : Int))) none) (rows.drop (a + b)) := by
      have := cutV_from ls (a + b)
      rw [show (((a + b : Nat)) : Int) = (a : Int) + (b : Int) from Int.natCast_add a b] at this
      rw [this]
      exact hls.drop (a + b)
    have hstep : Hist.step st (.try_ (rows.take a) ((rows.drop a).take b) (rows.drop (a + b))) = if (Hist.fits (rows.take a) && (Hist.fits ((rows.drop a).take b) && Hist.fits (rows.drop (a + b)))) = false then (st, Hist.says (-1)) else match Hist.merge (rows.take a) ((rows.drop a).take b) (rows.drop (a + b)) with
        | .error l => (st, ⟨-3, [l.flatMap Hist.Part.nums]⟩)
        | .ok d => if Hist.fits d = false then (st, Hist.says (-6)) else (st, ⟨(d.length : Nat), d⟩) := rfl
    generalize rows.take a = dO at *
    generalize (rows.drop a).take b = dA at *
    generalize rows.drop (a + b) = dB at *
    refine ⟨_, (pss_cons (ps_set (i := 3) sc_answer_try.nd rfl (Or.inl rfl) (pe_ix ix_list (pv 1) pe_int (fun _ _ => rfl)))
      (pss_cons (ps_set (i := 4) sc_answer_try.nd rfl (Or.inl rfl) (pe_op op_add (pe_ix ix_list (pv 1) pe_int (fun _ _ => rfl)) (pe_ix ix_list (pv 1) pe_int (fun _ _ => rfl))))
      (pss_cons (ps_set (i := 5) sc_answer_try.nd rfl (Or.inl rfl) (pe_slice sl_list (pv 2) po_none (po_some (pv 3))))
      (pss_cons (ps_set (i := 6) sc_answer_try.nd rfl (Or.inl rfl) (pe_slice sl_list (pv 2) (po_some (pv 3)) (po_some (pv 4))))
      (pss_cons (ps_set (i := 7) sc_answer_try.nd rfl (Or.inl rfl) (pe_slice sl_list (pv 2) (po_some (pv 4)) po_none))
      (pss_cons (ps_if (PW.pt (pw_or (pt_not (pt_val (pe_c c_fits hr (by decide) (by rfl) (pa_cons (pv 5) pa_nil)))) (pw_or (pt_not (pt_val (pe_c c_fits hr (by decide) (by rfl) (pa_cons (pv 6) pa_nil)))) (pw_or1 (pt_not (pt_val (pe_c c_fits hr (by decide) (by rfl) (pa_cons (pv 7) pa_nil)))))))) (pss_one (ps_ret (pe_c0 c_unfit hr (by decide) (by rfl)))) pss_nil)
      (pss_cons (ps_set (i := 8) sc_answer_try.nd rfl (Or.inl rfl) (pe_c c_merged_from hr (by decide) (by rfl) (pa_cons (pv 5) (pa_cons (pv 6) (pa_cons (pv 7) pa_nil)))))
      (pss_cons (ps_if (pt_truth (pe_fld (pv 8) rfl) (by intro _; rfl)) (pss_one (ps_ret (pe_c c_clashing hr (by decide) (by rfl) (pa_cons (pe_fld (pv 8) rfl) pa_nil)))) pss_nil)
      (pss_cons (ps_if (pt_not (pt_val (pe_c c_fits hr (by decide) (by rfl) (pa_cons (pe_fld (pv 8) rfl) pa_nil)))) (pss_one (ps_ret (pe_c0 c_full hr (by decide) (by rfl)))) pss_nil)
      (pss_one (ps_ret (pe_c c_counted_lines hr (by decide) (by rfl) (pa_cons (pe_fld (pv 8) rfl) pa_nil))))))))))))), ?_⟩
    refine ⟨_, rfl, n, _, _, _, rfl, rfl, SqL.of hn, atI_n (j := 0) rfl rfl, _, rfl, n, _, _, _, rfl, rfl, SqL.of hn, atI_n (j := 0) rfl rfl, _, rfl, n, _, _, _, rfl, rfl, SqL.of hn, atI_n (j := 1) rfl rfl, _, _, rfl, rfl, ?_⟩
    refine ⟨_, rfl, _, rfl, _, rfl, l, ls, rfl, SqL.of hl, fun p1 n1 => ?_⟩
    have t1 := same_upd n1 (o := .lst (cutV ls none (some (a : Int))))
    refine ⟨_, rfl, _, rfl, _, rfl, _, rfl, _, rfl, l, ls, rfl, SqL.of (t1 _ _ hl), fun p2 n2 => ?_⟩
    have t2 := t1.trans (same_upd n2 (o := .lst (cutV ls (some (a : Int)) (some ((a : Int) + (b : Int))))))
    refine ⟨_, rfl, _, rfl, _, rfl, l, ls, rfl, SqL.of (t2 _ _ hl), fun p3 n3 => ?_⟩
    have t3 := t2.trans (same_upd n3 (o := .lst (cutV ls (some ((a : Int) + (b : Int))) none)))
    have e3 : (upd (upd (upd H p1 (.lst (cutV ls none (some (a : Int))))) p2 (.lst (cutV ls (some (a : Int)) (some ((a : Int) + (b : Int)))))) p3 (.lst (cutV ls (some ((a : Int) + (b : Int))) none))) p3 = some (.lst (cutV ls (some ((a : Int) + (b : Int))) none)) := upd_same
    have e2 : (upd (upd (upd H p1 (.lst (cutV ls none (some (a : Int))))) p2 (.lst (cutV ls (some (a : Int)) (some ((a : Int) + (b : Int)))))) p3 (.lst (cutV ls (some ((a : Int) + (b : Int))) none))) p2 = some (.lst (cutV ls (some (a : Int)) (some ((a : Int) + (b : Int))))) := same_upd n3 _ _ upd_same
    have e1 : (upd (upd (upd H p1 (.lst (cutV ls none (some (a : Int))))) p2 (.lst (cutV ls (some (a : Int)) (some ((a : Int) + (b : Int)))))) p3 (.lst (cutV ls (some ((a : Int) + (b : Int))) none))) p1 = some (.lst (cutV ls none (some (a : Int)))) := same_upd n3 _ _ (same_upd n2 _ _ upd_same)
    generalize hH3 : (upd (upd (upd H p1 (.lst (cutV ls none (some (a : Int))))) p2 (.lst (cutV ls (some (a : Int)) (some ((a : Int) + (b : Int)))))) p3 (.lst (cutV ls (some ((a : Int) + (b : Int))) none))) = H3 at t3 e1 e2 e3
    have vO : DocV H3 (.ref p1) dO := ⟨p1, _, rfl, e1, rows_same t3 rO⟩
    have vA : DocV H3 (.ref p2) dA := ⟨p2, _, rfl, e2, rows_same t3 rA⟩
    have vB : DocV H3 (.ref p3) dB := ⟨p3, _, rfl, e3, rows_same t3 rB⟩
    refine ⟨_, rfl, _, dO, rfl, vO, fun H4 s4 => ⟨_, rfl, if_bool (fun c => ?_) (fun c => ?_)⟩⟩
    · exact ⟨rfl, refuse x q (by rw [hstep, if_pos (by rw [not_t c]; rfl)]) (t3.trans s4)⟩
    have fO := not_f c
    refine ⟨_, rfl, _, dA, rfl, vA.same s4, fun H5 s5 => ⟨_, rfl, if_bool (fun c2 => ?_) (fun c2 => ?_)⟩⟩
    · exact ⟨rfl, refuse x q (by rw [hstep, if_pos (by rw [not_t c2, fO]; rfl)]) (t3.trans (s4.trans s5))⟩
    have fA := not_f c2
    refine ⟨_, rfl, _, dB, rfl, vB.same (s4.trans s5), fun H6 s6 => ⟨_, rfl, if_bool (fun c3 => ?_) (fun c3 => ?_)⟩⟩
    · exact ⟨rfl, refuse x q (by rw [hstep, if_pos (by rw [not_t c3, fO, fA]; rfl)]) (t3.trans (s4.trans (s5.trans s6)))⟩
    have fB := not_f c3
    rw [if_neg (by rw [fO, fA, fB]; simp)] at hstep
    have t6 := t3.trans (s4.trans (s5.trans s6))
    have s36 := s4.trans (s5.trans s6)
    refine ⟨_, rfl, _, rfl, _, rfl, H6, _, _, _, dO, dA, dB, rfl, Same.refl H6, vO.same s36, vA.same s36, vB.same s36, fit_len fO, fit_len fA, fit_len fB, fun H7 m mdx cl dc ws s7 em ec lc ndc ed aw => ?_⟩
    have t7 := t6.trans s7
    refine ⟨_, rfl, m, CM, mdx, _, _, rfl, em, TM.cl, TM.nC, mF_c cl dc, !(nvs (run dO dA dB).1).isEmpty, .inl ⟨_, SqL.of ec, rfl⟩, ?_⟩
    rcases merge_run dO dA dB with ⟨r0, hm⟩ | ⟨r1, le, hm, hle⟩
    · rw [r0]
      refine if_false_of rfl ?_
      rw [hm] at hstep
      have hstep : Hist.step st (.try_ dO dA dB) = if Hist.fits (run dO dA dB).2 = false then (st, Hist.says (-6)) else (st, ⟨((run dO dA dB).2.length : Nat), (run dO dA dB).2⟩) := hstep
      have vD : DocV H7 (.ref dc) (run dO dA dB).2 := ⟨dc, ws, rfl, ed, rows_same s7 aw⟩
      refine ⟨_, rfl, m, CM, mdx, _, _, rfl, em, TM.cl, TM.nD, mF_d cl dc, _, _, rfl, vD, fun H8 s8 => ⟨_, rfl, if_bool (fun c4 => ?_) (fun c4 => ?_)⟩⟩
      · exact ⟨rfl, refuse x q (by rw [hstep, if_pos (not_t c4)]) (t7.trans s8)⟩
      have fD := not_f c4
      rw [if_neg (by rw [fD]; simp)] at hstep
      refine ⟨_, rfl, m, CM, mdx, _, _, rfl, s8 _ _ em, TM.cl, TM.nD, mF_d cl dc, _, _, rfl, vD.same s8, fit_rows fD, fit_len fD, fun H9 r s9 nr e9 => ?_⟩
      exact tell x q hstep (t7.free (s8.free nr)) (t7.trans (s8.trans s9)) (by rw [e9, shown_doc])
    · have hne : (!(nvs (run dO dA dB).1).isEmpty) = true := by
        cases hr : (run dO dA dB).1 with
        | nil => exact absurd hr r1
        | cons y z => rfl
      refine if_true_of hne ?_
      rw [hm] at hstep
      have hstep : Hist.step st (.try_ dO dA dB) = (st, ⟨-3, [le.flatMap Hist.Part.nums]⟩) := hstep
      rw [hle] at hstep
      refine ⟨_, rfl, m, CM, mdx, _, _, rfl, em, TM.cl, TM.nC, mF_c cl dc, _, _, rfl, ⟨cl, rfl, ec⟩, by omega, fun H8 r s8 nr e8 => ?_⟩
      exact tell x q hstep (t7.free nr) (t7.trans s8) (by rw [e8, shown_clash])

end
end Tb

namespace Tb
open PySem PySem.Spec PyProof.Rows L2
section
variable {P : Program} {w : World} {K : PySem.W.Frag} {mg : Str → Option Value} {base : Heap}
open TbM
/-! ### refused_ahead -/
def spRefA (C : Addr) : Sp := fun vs H Q _ => ∃ (s : Addr) (A : Ad) (G : Hp) (st : Hist.State) (k v : Nat), vs = [.ref s, nv k, nv v] ∧ StAt C G H s A st ∧
  (Hist.isBranch k = false → ∀ H' p, Same H H' → H p = none → H' p = some (.lst ([(-1 : Int)].map V.int)) → Q (.ref p) H') ∧
  (Hist.isBranch k = true → (st.head k = none ∨ st.has v = false) → ∀ H' p, Same H H' → H p = none → H' p = some (.lst ([(-4 : Int)].map V.int)) → Q (.ref p) H') ∧
  (Hist.isBranch k = true → st.head k ≠ none → st.has v = true → Q .non H)
theorem ok_refused_ahead {C : Addr} (T : Txt mg) {f : Addr} {fd : FuncData} (F : Fun K "refused_ahead" "refused_ahead" s_refused_ahead f fd) (c_is_branch : Cal P w K mg base 1 "is_branch" spIsBranch) (c_unfit : Cal P w K mg base 1 "unfit" (spList [-1])) (c_missing : Cal P w K mg base 1 "missing" (spList [-4]))
    (c_has_version : Met P w K mg base 1 C "has_version" (spHas C)) (c_is_at_none : Met P w K mg base 1 C "is_at_none" (spNone C)) : FnOk P w K mg base CX0 2 f fd ["state", "branch", "version"] (spRefA C) := by
  refine F.ok sc_refused_ahead (fun vs H Q E h => ?_) (fun cdv A outer s H vs Q E hr h => ?_)
  · obtain ⟨s, A, G, st, k, v, rfl, _⟩ := h
    rfl
  · obtain ⟨s, A, G, st, k, v, rfl, x, q1, q2, q3⟩ := h
    obtain ⟨dx, h0⟩ := x.ins
    refine ⟨_, (pss_cons (ps_if (pt_not (pt_val (pe_c c_is_branch hr (by decide) (by rfl) (pa_cons (pv 1) pa_nil)))) (pss_one (ps_ret (pe_c0 c_unfit hr (by decide) (by rfl)))) pss_nil)
      (pss_cons (ps_if (PW.pt (pw_or (pt_val (pe_m c_is_at_none hr (by decide) (pv 0) (pa_cons (pv 1) pa_nil))) (pw_or1 (pt_not (pt_val (pe_m c_has_version hr (by decide) (pv 0) (pa_cons (pv 2) pa_nil))))))) (pss_one (ps_ret (pe_c0 c_missing hr (by decide) (by rfl)))) pss_nil)
      (pss_one (ps_ret pe_non)))), ?_⟩
    refine ⟨_, rfl, k, rfl, _, rfl, if_bool (fun c => ?_) (fun c => ?_)⟩
    · exact ⟨rfl, q1 (not_t c)⟩
    have hb := not_f c
    refine ⟨_, rfl, s, dx, _, rfl, h0, sF_none A, _, rfl, s, A, G, st, k, rfl, x, br_lt hb, _, rfl, if_dec (fun c2 => ?_) (fun c2 => ?_)⟩
    · exact ⟨rfl, q2 hb (.inl c2)⟩
    refine ⟨_, rfl, s, dx, _, rfl, h0, sF_has A, _, rfl, s, A, G, st, v, rfl, x, _, rfl, if_bool (fun c3 => ?_) (fun c3 => ?_)⟩
    · exact ⟨rfl, q2 hb (.inr (not_t c3))⟩
    · exact q3 hb c2 (not_f c3)
/-! ### make_merged -/
def spMk (C : Addr) : Sp := fun vs H Q _ => ∃ (s : Addr) (A : Ad) (G : Hp) (st : Hist.State) (k u : Nat) (vo vb vm : V) (o b : Hist.Doc) (mp : List Nat), vs = [.ref s, nv k, vo, vb, vm] ∧ StAt C G H s A st ∧ Hist.isBranch k = true ∧ st.head k = some u ∧ DocV G vo o ∧ DocV G vb b ∧ IntsV H vm mp ∧ o.length ≤ 64 ∧ b.length ≤ 64 ∧ (∀ p ∈ mp, p < st.book.length) ∧ mp.length ≤ 1 ∧
  Wants C s A G H Q (st.joined k (u :: mp) (Hist.merge o (Hist.docOf st.book u) b))
theorem ok_make_merged {C CM : Addr} (T : Txt mg) (TS : TxS K C) (TM : TxM K CM) {f : Addr} {fd : FuncData} (F : Fun K "make_merged" "make_merged" s_make_merged f fd) (c_full : Cal P w K mg base 1 "full" (spList [-6])) (c_fits : Cal P w K mg base 1 "fits" spFits) (c_merged_from : Cal P w K mg base 4 "merged_from" (spMFrom CM)) (c_clashing : Cal P w K mg base 1 "clashing" spClashing)
    (c_is_full : Met P w K mg base 1 C "is_full" (spFull C)) (c_add_version : Met P w K mg base 4 C "add_version" (spAddV C)) : FnOk P w K mg base CX0 5 f fd ["state", "branch", "o", "b", "more_parents"] (spMk C) := by
  refine F.ok sc_make_merged (fun vs H Q E h => ?_) (fun cdv A outer s H vs Q E hr h => ?_)
  · obtain ⟨s, A, G, st, k, u, vo, vb, vm, o, b, mp, rfl, _⟩ := h
    rfl
  · obtain ⟨s, A, G, st, k, u, vo, vb, vm, o, b, mp, rfl, x, hb, hu, ho, hbd, ⟨am, rfl, ham⟩, lo, lb, hmp, hm1, q⟩ := h
    obtain ⟨dx, h0⟩ := x.ins
    obtain ⟨ds, d1, d2⟩ := x.docs
    have hul := head_in x.wf hu
    have hat := head_at x.wf (br_lt hb)
    rw [hu] at hat
    obtain ⟨dv, gdv, hdv⟩ := d2.get (docs_get st.book hul)
    have fu := x.wf.fit u hul
    generalize Hist.docOf st.book u = U at *
    refine ⟨_, (pss_cons (ps_set (i := 5) sc_make_merged.nd rfl (Or.inl rfl) (pe_ix ix_list (pe_fld (pv 0) rfl) (pv 1) (fun _ _ => rfl)))
      (pss_cons (ps_set (i := 6) sc_make_merged.nd rfl (Or.inl rfl) (pe_c c_merged_from hr (by decide) (by rfl) (pa_cons (pv 2) (pa_cons (pe_ix ix_list (pe_fld (pv 0) rfl) (pv 5) (fun _ _ => rfl)) (pa_cons (pv 3) pa_nil)))))
      (pss_cons (ps_if (pt_truth (pe_fld (pv 6) rfl) (by intro _; rfl)) (pss_one (ps_ret (pe_c c_clashing hr (by decide) (by rfl) (pa_cons (pe_fld (pv 6) rfl) pa_nil)))) pss_nil)
      (pss_cons (ps_if (PW.pt (pw_or (pt_val (pe_m0 c_is_full hr (by decide) (pv 0))) (pw_or1 (pt_not (pt_val (pe_c c_fits hr (by decide) (by rfl) (pa_cons (pe_fld (pv 6) rfl) pa_nil))))))) (pss_one (ps_ret (pe_c0 c_full hr (by decide) (by rfl)))) pss_nil)
      (pss_one (ps_ret (pe_lst (pa_cons (pe_m c_add_version hr (by decide) (pv 0) (pa_cons (pv 1) (pa_cons (pe_fld (pv 6) rfl) (pa_cons (pe_op op_cat (pe_lst (pa_cons (pv 5) pa_nil)) (pv 4)) pa_nil)))) pa_nil)))))))), ?_⟩
    refine ⟨_, rfl, s, C, dx, _, _, rfl, h0, TS.cl, TS.nh, sF_h A, _, rfl, A.h, _, _, _, rfl, rfl, SqL.of x.hds, atI_n rfl hat, ?_⟩
    refine ⟨_, rfl, _, rfl, s, C, dx, _, _, rfl, h0, TS.cl, TS.nD, sF_D A, _, rfl, A.D, ds, _, _, rfl, rfl, SqL.of d1, atI_n rfl gdv, _, rfl, G, _, _, _, o, U, b, rfl, x.sub, ho, hdv, hbd, lo, fit_len fu, lb, fun H1 m mdx cl dc ws s1 em ec lc ndc ed aw => ?_⟩
    have x1 := x.same s1
    refine ⟨_, rfl, m, CM, mdx, _, _, rfl, em, TM.cl, TM.nC, mF_c cl dc, !(nvs (run o U b).1).isEmpty, .inl ⟨_, SqL.of ec, rfl⟩, ?_⟩
    rcases merge_run o U b with ⟨r0, hm⟩ | ⟨r1, le, hm, hle⟩
    · rw [r0]
      refine if_false_of rfl ?_
      rw [hm] at q
      have q : Wants C s A G H Q (st.grow k (u :: mp) (run o U b).2) := q
      have x2 := x.take ndc s1 ed
      have g2 := Grow.step x1.sub ed ndc
      have vD : DocV (upd G dc (.lst ws)) (.ref dc) (run o U b).2 := ⟨dc, ws, rfl, upd_same, rows_same g2.same aw⟩
      refine ⟨_, rfl, s, dx, _, rfl, s1 _ _ h0, sF_full A, s, A, G, st, rfl, x1, _, rfl, if_dec (fun c => ?_) (fun c => ?_)⟩
      · exact ⟨rfl, refuse x q (by unfold Hist.State.grow; rw [if_pos (.inl c)]) s1⟩
      refine ⟨_, rfl, m, CM, mdx, _, _, rfl, em, TM.cl, TM.nD, mF_d cl dc, _, _, rfl, vD.same x2.sub, fun H2 s2 => ⟨_, rfl, if_bool (fun c2 => ?_) (fun c2 => ?_)⟩⟩
      · exact ⟨rfl, refuse x q (by unfold Hist.State.grow; rw [if_pos (.inr (not_t c2))]) (s1.trans s2)⟩
      have fD := not_f c2
      have hgrow : st.grow k (u :: mp) (run o U b).2 = (grown st k (u :: mp) (run o U b).2, Hist.says (st.book.length : Nat)) := by
        unfold Hist.State.grow
        rw [if_neg (by rw [fD]; rintro (z | z); exact c z; cases z)]
        rfl
      rw [hgrow] at q
      have x3 := x2.same s2
      have s12 := s1.trans s2
      refine ⟨_, rfl, s, dx, _, rfl, s12 _ _ h0, sF_add A, _, rfl, _, rfl, m, CM, mdx, _, _, rfl, s2 _ _ em, TM.cl, TM.nD, mF_d cl dc, _, rfl, (by show 1 ≤ sizeLine; decide), fun p3 n3 => ⟨_, rfl, p3, am, _, _, rfl, rfl, upd_same, same_upd n3 _ _ (s12 _ _ ham), size_le (by rw [nvs_len]; show 1 + _ ≤ _; omega), fun p4 n4 => ?_⟩⟩
      have s34 := (same_upd n3 (o := .lst [nv u])).trans (same_upd n4 (o := .lst ([nv u] ++ nvs mp)))
      have x4 := x3.take (free_upd n4) s34 upd_same
      have g4 := Grow.step (x3.sub.trans s34) (upd_same (H := upd H2 p3 (.lst [nv u])) (a := p4) (o := .lst ([nv u] ++ nvs mp))) (free_upd n4)
      refine ⟨s, A, _, st, k, _, _, _, u :: mp, rfl, x4, vD.same g4.same, ⟨p4, rfl, upd_same⟩, br_lt hb, by omega, fD, ?_, by show mp.length + 1 ≤ 2; omega, fun H' G' kp gs xs => ⟨(by show 1 ≤ sizeLine; decide), fun r nr => ?_⟩⟩
      · intro p hp
        rcases List.mem_cons.mp hp with e | e
        · rw [e]
          exact hul
        · exact hmp p e
      · exact q _ G' r (xs.free ((Keep.of (s12.trans s34)).trans kp) nr) ((Keep.of (s12.trans s34)).trans (kp.trans (Keep.of (same_upd nr)))) (g2.trans s12 (g4.trans s34 gs)) (xs.same (same_upd nr)) upd_same
    · have hne : (!(nvs (run o U b).1).isEmpty) = true := by
        cases hr : (run o U b).1 with
        | nil => exact absurd hr r1
        | cons y z => rfl
      refine if_true_of hne ?_
      rw [hm] at q
      have q : Wants C s A G H Q (st, ⟨-3, [le.flatMap Hist.Part.nums]⟩) := q
      rw [hle] at q
      refine ⟨_, rfl, m, CM, mdx, _, _, rfl, em, TM.cl, TM.nC, mF_c cl dc, _, _, rfl, ⟨cl, rfl, ec⟩, by omega, fun H8 r s8 nr e8 => ?_⟩
      exact tell x q rfl (s1.free nr) (s1.trans s8) (by rw [e8, shown_clash])
/-! ### merge -/
theorem at_branch_of {st : Hist.State} {k v u : Nat} {g : Nat → Hist.State × Hist.Answer} (hb : Hist.isBranch k = true) (hu : st.head k = some u) (hv : st.has v = true) : Hist.atBranch st k v g = g u := by
  unfold Hist.atBranch
  rw [if_neg (by rw [hb]; simp), hu]
  show (if st.has v = false then (st, Hist.says (-4)) else g u) = g u
  rw [if_neg (by rw [hv]; simp)]
theorem at_branch1 {st : Hist.State} {k v : Nat} {g : Nat → Hist.State × Hist.Answer} (hb : Hist.isBranch k = false) : Hist.atBranch st k v g = (st, Hist.says (-1)) := by
  unfold Hist.atBranch
  rw [if_pos hb]
theorem at_branch4 {st : Hist.State} {k v : Nat} {g : Nat → Hist.State × Hist.Answer} (hb : Hist.isBranch k = true) (h : st.head k = none ∨ st.has v = false) : Hist.atBranch st k v g = (st, Hist.says (-4)) := by
  unfold Hist.atBranch
  rw [if_neg (by rw [hb]; simp)]
  cases e : st.head k with
  | none => rfl
  | some u =>
    rcases h with h | h
    · rw [e] at h
      cases h
    · show (if st.has v = false then (st, Hist.says (-4)) else g u) = _
      rw [if_pos h]
theorem some_of {α : Type} {o : Option α} (h : o ≠ none) : ∃ u, o = some u := by
  cases o with
  | none => exact absurd rfl h
  | some u => exact ⟨u, rfl⟩
theorem first_is (b : Hist.Book) (l : List Nat) : (match l with | [] => [] | x :: _ => Hist.docOf b x) = firstD b l := by cases l <;> rfl
theorem first_fit {st : Hist.State} (wf : WF st) {l : List Nat} (h : ∀ n ∈ l, n < st.book.length) : (firstD st.book l).length ≤ 64 := by
  cases l with
  | nil => exact Nat.zero_le _
  | cons n l => exact fit_len (wf.fit n (h n (List.mem_cons_self ..)))
theorem ok_answer_merge {C : Addr} (T : Txt mg) (TS : TxS K C) {f : Addr} {fd : FuncData} (F : Fun K "answer_merge" "answer_merge" s_answer_merge f fd) (c_refused_ahead : Cal P w K mg base 2 "refused_ahead" (spRefA C)) (c_forebears_of : Cal P w K mg base 1 "forebears_of" spFore) (c_nearest_in_common : Cal P w K mg base 2 "nearest_in_common" spNear) (c_make_merged : Cal P w K mg base 5 "make_merged" (spMk C))
    (c_first_document : Met P w K mg base 1 C "first_document" (spFirst C)) : FnOk P w K mg base CX0 6 f fd ["state", "numbers", "lists"] (spAns C 9) := by
  refine F.ok sc_answer_merge (fun vs H Q E h => ?_) (fun cdv A outer s H vs Q E hr h => ?_)
  · obtain ⟨s, n, l, A, G, st, ns, rows, rfl, _⟩ := h
    rfl
  · obtain ⟨s, n, l, A, G, st, ns, rows, rfl, x, hn, hd, ask, q⟩ := h
    obtain ⟨k, v, rfl, hc⟩ := ask9 ask
    rw [step_of hc] at q
    have q : Wants C s A G H Q (Hist.step st (.merge k v)) := q
    obtain ⟨dx, h0⟩ := x.ins
    have hstep : Hist.step st (.merge k v) = Hist.atBranch st k v fun u => if Hist.isForebear st.book v u = true then (st, Hist.says (u : Nat)) else if Hist.isForebear st.book u v = true then (st.move k (some v), Hist.says (v : Nat)) else st.joined k [u, v] (Hist.merge (match Hist.nearest st.book u v with | [] => [] | x :: _ => Hist.docOf st.book x) (Hist.docOf st.book u) (Hist.docOf st.book v)) := rfl
    refine ⟨_, (pss_cons (ps_set (i := 3) sc_answer_merge.nd rfl (Or.inl rfl) (pe_ix ix_list (pv 1) pe_int (fun _ _ => rfl)))
      (pss_cons (ps_set (i := 4) sc_answer_merge.nd rfl (Or.inl rfl) (pe_ix ix_list (pv 1) pe_int (fun _ _ => rfl)))
      (pss_cons (ps_set (i := 5) sc_answer_merge.nd rfl (Or.inl rfl) (pe_c c_refused_ahead hr (by decide) (by rfl) (pa_cons (pv 0) (pa_cons (pv 3) (pa_cons (pv 4) pa_nil)))))
      (pss_cons (ps_if (pt_cmpR op_notN (pv 5) pe_non (nomark _)) (pss_one (ps_ret (pv 5))) pss_nil)
      (pss_cons (ps_set (i := 6) sc_answer_merge.nd rfl (Or.inl rfl) (pe_ix ix_list (pe_fld (pv 0) rfl) (pv 3) (fun _ _ => rfl)))
      (pss_cons (ps_if (pt_cmpR op_in_seq (pv 4) (pe_c c_forebears_of hr (by decide) (by rfl) (pa_cons (pe_fld (pv 0) rfl) (pa_cons (pv 6) pa_nil))) (by rfl)) (pss_one (ps_ret (pe_lst (pa_cons (pv 6) pa_nil)))) pss_nil)
      (pss_cons (ps_if (pt_cmpR op_in_seq (pv 6) (pe_c c_forebears_of hr (by decide) (by rfl) (pa_cons (pe_fld (pv 0) rfl) (pa_cons (pv 4) pa_nil))) (by rfl)) (pss_cons (ps_asg (pv 4) (pg_sub (pe_fld (pv 0) rfl) (pv 3) set_list))
      (pss_one (ps_ret (pe_lst (pa_cons (pv 4) pa_nil))))) pss_nil)
      (pss_cons (ps_set (i := 7) sc_answer_merge.nd rfl (Or.inl rfl) (pe_m c_first_document hr (by decide) (pv 0) (pa_cons (pe_c c_nearest_in_common hr (by decide) (by rfl) (pa_cons (pe_fld (pv 0) rfl) (pa_cons (pv 6) (pa_cons (pv 4) pa_nil)))) pa_nil)))
      (pss_one (ps_ret (pe_c c_make_merged hr (by decide) (by rfl) (pa_cons (pv 0) (pa_cons (pv 3) (pa_cons (pv 7) (pa_cons (pe_ix ix_list (pe_fld (pv 0) rfl) (pv 4) (fun _ _ => rfl)) (pa_cons (pe_lst (pa_cons (pv 4) pa_nil)) pa_nil)))))))))))))))), ?_⟩
    refine ⟨_, rfl, n, _, _, _, rfl, rfl, SqL.of hn, atI_n (j := 0) rfl rfl, _, rfl, n, _, _, _, rfl, rfl, SqL.of hn, atI_n (j := 1) rfl rfl, _, rfl, _, rfl, _, rfl, s, A, G, st, k, v, rfl, x, fun c H1 p s1 np e1 => ?_, fun c c' H1 p s1 np e1 => ?_, fun hb hno hv' => ?_⟩
    · refine ⟨_, rfl, rfl, _, rfl, if_true_of (by rw [decide_eq_false (fun z => nomatch z)]; rfl) ⟨_, rfl, ?_⟩⟩
      exact refuse x q (by rw [hstep, at_branch1 c]) (Same.refl H) H1 p s1 np e1
    · refine ⟨_, rfl, rfl, _, rfl, if_true_of (by rw [decide_eq_false (fun z => nomatch z)]; rfl) ⟨_, rfl, ?_⟩⟩
      exact refuse x q (by rw [hstep, at_branch4 c c']) (Same.refl H) H1 p s1 np e1
    refine ⟨_, rfl, rfl, _, rfl, if_false_of (by rw [decide_eq_true rfl]; rfl) ?_⟩
    obtain ⟨u, hu⟩ := some_of hno
    rw [at_branch_of hb hu hv', first_is] at hstep
    have hul := head_in x.wf hu
    have hvl := has_lt hv'
    have hat := head_at x.wf (br_lt hb)
    rw [hu] at hat
    have hat : (st.heads.map hv)[k]? = some (nv u) := hat
    refine ⟨_, rfl, s, C, dx, _, _, rfl, h0, TS.cl, TS.nh, sF_h A, _, rfl, A.h, _, _, _, rfl, rfl, SqL.of x.hds, atI_n rfl hat, ?_⟩
    refine ⟨_, rfl, _, rfl, s, C, dx, _, _, rfl, h0, TS.cl, TS.nP, sF_P A, _, rfl, A.P, st.book, u, rfl, x.parsV, x.wf.ok, hul, fun H1 r1 s1 n1 e1 => ⟨r1, _, rfl, .inl (SqL.of e1), rfl, flat_nvs _, _, rfl, ?_⟩⟩
    have hin : (if false = true then !inV (nv v) (nvs (Hist.forebears st.book u)) else inV (nv v) (nvs (Hist.forebears st.book u))) = Hist.isForebear st.book v u := in_nvs v _
    rw [hin]
    refine if_bool (fun c => ?_) (fun c => ?_)
    · rw [if_pos c] at hstep
      refine ⟨_, rfl, (by show 1 ≤ sizeLine; decide), fun r nr => ?_⟩
      exact tell x q hstep (s1.free nr) (s1.trans (same_upd nr)) upd_same
    rw [if_neg (by rw [c]; simp)] at hstep
    have x1 := x.same s1
    refine ⟨_, rfl, _, rfl, s, C, dx, _, _, rfl, s1 _ _ h0, TS.cl, TS.nP, sF_P A, _, rfl, A.P, st.book, v, rfl, x1.parsV, x.wf.ok, hvl, fun H2 r2 s2 n2 e2 => ⟨r2, _, rfl, .inl (SqL.of e2), rfl, flat_nvs _, _, rfl, ?_⟩⟩
    have hin2 : (if false = true then !inV (nv u) (nvs (Hist.forebears st.book v)) else inV (nv u) (nvs (Hist.forebears st.book v))) = Hist.isForebear st.book u v := in_nvs u _
    rw [hin2]
    have s12 := s1.trans s2
    have x2 := x.same s12
    refine if_bool (fun c2 => ?_) (fun c2 => ?_)
    · rw [if_pos c2] at hstep
      refine ⟨_, rfl, _, rfl, s, C, dx, _, _, rfl, s12 _ _ h0, TS.cl, TS.nh, sF_h A, _, rfl, A.h, _, _, k, rfl, rfl, x2.hds, ixN_n rfl (by rw [List.length_map, x.wf.hds]; exact br_lt hb), ?_⟩
      refine ⟨_, rfl, (by show 1 ≤ sizeLine; decide), fun r nr => ?_⟩
      rw [hstep] at q
      have xm := x2.move (k := k) (o := some v) (fun u e => by rw [← Option.some.inj e]; exact hvl)
      exact q _ G r (s12.free (free_upd nr)) ((Keep.of s12).trans (keep_h.trans (Keep.of (same_upd nr)))) Grow.refl (xm.same (same_upd nr)) upd_same
    rw [if_neg (by rw [c2]; simp)] at hstep
    refine ⟨_, rfl, s, dx, _, rfl, s12 _ _ h0, sF_first A, _, rfl, s, C, dx, _, _, rfl, s12 _ _ h0, TS.cl, TS.nP, sF_P A, _, rfl, _, rfl, A.P, st.book, u, v, rfl, x2.parsV, x.wf.ok, hul, hvl, fun H3 r3 s3 n3 e3 => ?_⟩
    have s13 := s12.trans s3
    have nl : ∀ n ∈ Hist.nearest st.book u v, n < st.book.length := fun n hn => near_lt hn
    refine ⟨s, A, G, st, _, _, rfl, x.same s13, ⟨r3, rfl, e3⟩, nl, fun H4 G4 r4 s4 g4 x4 d4 => ?_⟩
    have s14 := s13.trans s4
    obtain ⟨ds, d1, d2⟩ := x4.docs
    obtain ⟨dv, gdv, hdv⟩ := d2.get (docs_get st.book hvl)
    refine ⟨_, rfl, _, rfl, _, rfl, _, rfl, s, C, dx, _, _, rfl, s14 _ _ h0, TS.cl, TS.nD, sF_D A, _, rfl, A.D, ds, _, _, rfl, rfl, SqL.of d1, atI_n rfl gdv, _, rfl, (by show 1 ≤ sizeLine; decide), fun p5 n5 => ?_⟩
    refine ⟨s, A, G4, st, k, u, _, _, _, _, _, [v], rfl, x4.same (same_upd n5), hb, hu, d4, hdv, ⟨p5, rfl, upd_same⟩, first_fit x.wf nl, fit_len (x.wf.fit v hvl), (fun p hp => (show p = v by simpa using hp) ▸ hvl), Nat.le_refl _, ?_⟩
    rw [hstep] at q
    intro H' G' r nr kp gs xs er
    exact q H' G' r (s14.free (free_upd nr)) ((Keep.of (s14.trans (same_upd n5))).trans kp) ((g4.up s13).trans (s14.trans (same_upd n5)) gs) xs er
/-! ### pick, undo -/
theorem before_is (b : Hist.Book) (v : Nat) : Hist.beforeOf b v = firstD b (Hist.parentsOf b v) := by
  unfold Hist.beforeOf
  cases Hist.parentsOf b v <;> rfl
theorem ok_answer_pick {C : Addr} (T : Txt mg) (TS : TxS K C) {f : Addr} {fd : FuncData} (F : Fun K "answer_pick" "answer_pick" s_answer_pick f fd) (c_refused_ahead : Cal P w K mg base 2 "refused_ahead" (spRefA C)) (c_make_merged : Cal P w K mg base 5 "make_merged" (spMk C))
    (c_first_document : Met P w K mg base 1 C "first_document" (spFirst C)) : FnOk P w K mg base CX0 6 f fd ["state", "numbers", "lists"] (spAns C 10) := by
  refine F.ok sc_answer_pick (fun vs H Q E h => ?_) (fun cdv A outer s H vs Q E hr h => ?_)
  · obtain ⟨s, n, l, A, G, st, ns, rows, rfl, _⟩ := h
    rfl
  · obtain ⟨s, n, l, A, G, st, ns, rows, rfl, x, hn, hd, ask, q⟩ := h
    obtain ⟨k, v, rfl, hc⟩ := ask10 ask
    rw [step_of hc] at q
    have q : Wants C s A G H Q (Hist.step st (.pick k v)) := q
    obtain ⟨dx, h0⟩ := x.ins
    have hstep : Hist.step st (.pick k v) = Hist.atBranch st k v fun u => st.joined k [u] (Hist.merge (Hist.beforeOf st.book v) (Hist.docOf st.book u) (Hist.docOf st.book v)) := rfl
    refine ⟨_, (pss_cons (ps_set (i := 3) sc_answer_pick.nd rfl (Or.inl rfl) (pe_ix ix_list (pv 1) pe_int (fun _ _ => rfl)))
      (pss_cons (ps_set (i := 4) sc_answer_pick.nd rfl (Or.inl rfl) (pe_ix ix_list (pv 1) pe_int (fun _ _ => rfl)))
      (pss_cons (ps_set (i := 5) sc_answer_pick.nd rfl (Or.inl rfl) (pe_c c_refused_ahead hr (by decide) (by rfl) (pa_cons (pv 0) (pa_cons (pv 3) (pa_cons (pv 4) pa_nil)))))
      (pss_cons (ps_if (pt_cmpR op_notN (pv 5) pe_non (nomark _)) (pss_one (ps_ret (pv 5))) pss_nil)
      (pss_cons (ps_set (i := 6) sc_answer_pick.nd rfl (Or.inl rfl) (pe_m c_first_document hr (by decide) (pv 0) (pa_cons (pe_ix ix_list (pe_fld (pv 0) rfl) (pv 4) (fun _ _ => rfl)) pa_nil)))
      (pss_one (ps_ret (pe_c c_make_merged hr (by decide) (by rfl) (pa_cons (pv 0) (pa_cons (pv 3) (pa_cons (pv 6) (pa_cons (pe_ix ix_list (pe_fld (pv 0) rfl) (pv 4) (fun _ _ => rfl)) (pa_cons (pe_lst pa_nil) pa_nil))))))))))))), ?_⟩
    refine ⟨_, rfl, n, _, _, _, rfl, rfl, SqL.of hn, atI_n (j := 0) rfl rfl, _, rfl, n, _, _, _, rfl, rfl, SqL.of hn, atI_n (j := 1) rfl rfl, _, rfl, _, rfl, _, rfl, s, A, G, st, k, v, rfl, x, fun c H1 p s1 np e1 => ?_, fun c c' H1 p s1 np e1 => ?_, fun hb hno hv' => ?_⟩
    · refine ⟨_, rfl, rfl, _, rfl, if_true_of (by rw [decide_eq_false (fun z => nomatch z)]; rfl) ⟨_, rfl, ?_⟩⟩
      exact refuse x q (by rw [hstep, at_branch1 c]) (Same.refl H) H1 p s1 np e1
    · refine ⟨_, rfl, rfl, _, rfl, if_true_of (by rw [decide_eq_false (fun z => nomatch z)]; rfl) ⟨_, rfl, ?_⟩⟩
      exact refuse x q (by rw [hstep, at_branch4 c c']) (Same.refl H) H1 p s1 np e1
    refine ⟨_, rfl, rfl, _, rfl, if_false_of (by rw [decide_eq_true rfl]; rfl) ?_⟩
    obtain ⟨u, hu⟩ := some_of hno
    rw [at_branch_of hb hu hv', before_is] at hstep
    have hvl := has_lt hv'
    obtain ⟨ps, p1, p2⟩ := x.pars
    obtain ⟨pv', gpv, hpv⟩ := p2.get (pars_get st.book hvl)
    have nl : ∀ n ∈ Hist.parentsOf st.book v, n < st.book.length := fun n hn => Nat.lt_trans (x.wf.ok.low v hvl n hn) hvl
    refine ⟨_, rfl, s, dx, _, rfl, h0, sF_first A, _, rfl, s, C, dx, _, _, rfl, h0, TS.cl, TS.nP, sF_P A, _, rfl, A.P, ps, _, _, rfl, rfl, SqL.of p1, atI_n rfl gpv, s, A, G, st, _, _, rfl, x, hpv.same x.sub, nl, fun H4 G4 r4 s4 g4 x4 d4 => ?_⟩
    obtain ⟨ds, d1, d2⟩ := x4.docs
    obtain ⟨dv, gdv, hdv⟩ := d2.get (docs_get st.book hvl)
    refine ⟨_, rfl, _, rfl, _, rfl, _, rfl, s, C, dx, _, _, rfl, s4 _ _ h0, TS.cl, TS.nD, sF_D A, _, rfl, A.D, ds, _, _, rfl, rfl, SqL.of d1, atI_n rfl gdv, Nat.zero_le _, fun p5 n5 => ?_⟩
    refine ⟨s, A, G4, st, k, u, _, _, _, _, _, [], rfl, x4.same (same_upd n5), hb, hu, d4, hdv, ⟨p5, rfl, upd_same⟩, first_fit x.wf nl, fit_len (x.wf.fit v hvl), (fun p hp => by cases hp), Nat.zero_le _, ?_⟩
    rw [hstep] at q
    intro H' G' r nr kp gs xs er
    exact q H' G' r (s4.free (free_upd nr)) ((Keep.of (s4.trans (same_upd n5))).trans kp) (g4.trans (s4.trans (same_upd n5)) gs) xs er
theorem ok_answer_undo {C : Addr} (T : Txt mg) (TS : TxS K C) {f : Addr} {fd : FuncData} (F : Fun K "answer_undo" "answer_undo" s_answer_undo f fd) (c_refused_ahead : Cal P w K mg base 2 "refused_ahead" (spRefA C)) (c_make_merged : Cal P w K mg base 5 "make_merged" (spMk C))
    (c_first_document : Met P w K mg base 1 C "first_document" (spFirst C)) : FnOk P w K mg base CX0 6 f fd ["state", "numbers", "lists"] (spAns C 11) := by
  refine F.ok sc_answer_undo (fun vs H Q E h => ?_) (fun cdv A outer s H vs Q E hr h => ?_)
  · obtain ⟨s, n, l, A, G, st, ns, rows, rfl, _⟩ := h
    rfl
  · obtain ⟨s, n, l, A, G, st, ns, rows, rfl, x, hn, hd, ask, q⟩ := h
    obtain ⟨k, v, rfl, hc⟩ := ask11 ask
    rw [step_of hc] at q
    have q : Wants C s A G H Q (Hist.step st (.undo k v)) := q
    obtain ⟨dx, h0⟩ := x.ins
    have hstep : Hist.step st (.undo k v) = Hist.atBranch st k v fun u => st.joined k [u] (Hist.merge (Hist.docOf st.book v) (Hist.docOf st.book u) (Hist.beforeOf st.book v)) := rfl
    refine ⟨_, (pss_cons (ps_set (i := 3) sc_answer_undo.nd rfl (Or.inl rfl) (pe_ix ix_list (pv 1) pe_int (fun _ _ => rfl)))
      (pss_cons (ps_set (i := 4) sc_answer_undo.nd rfl (Or.inl rfl) (pe_ix ix_list (pv 1) pe_int (fun _ _ => rfl)))
      (pss_cons (ps_set (i := 5) sc_answer_undo.nd rfl (Or.inl rfl) (pe_c c_refused_ahead hr (by decide) (by rfl) (pa_cons (pv 0) (pa_cons (pv 3) (pa_cons (pv 4) pa_nil)))))
      (pss_cons (ps_if (pt_cmpR op_notN (pv 5) pe_non (nomark _)) (pss_one (ps_ret (pv 5))) pss_nil)
      (pss_cons (ps_set (i := 6) sc_answer_undo.nd rfl (Or.inl rfl) (pe_m c_first_document hr (by decide) (pv 0) (pa_cons (pe_ix ix_list (pe_fld (pv 0) rfl) (pv 4) (fun _ _ => rfl)) pa_nil)))
      (pss_one (ps_ret (pe_c c_make_merged hr (by decide) (by rfl) (pa_cons (pv 0) (pa_cons (pv 3) (pa_cons (pe_ix ix_list (pe_fld (pv 0) rfl) (pv 4) (fun _ _ => rfl)) (pa_cons (pv 6) (pa_cons (pe_lst pa_nil) pa_nil))))))))))))), ?_⟩
    refine ⟨_, rfl, n, _, _, _, rfl, rfl, SqL.of hn, atI_n (j := 0) rfl rfl, _, rfl, n, _, _, _, rfl, rfl, SqL.of hn, atI_n (j := 1) rfl rfl, _, rfl, _, rfl, _, rfl, s, A, G, st, k, v, rfl, x, fun c H1 p s1 np e1 => ?_, fun c c' H1 p s1 np e1 => ?_, fun hb hno hv' => ?_⟩
    · refine ⟨_, rfl, rfl, _, rfl, if_true_of (by rw [decide_eq_false (fun z => nomatch z)]; rfl) ⟨_, rfl, ?_⟩⟩
      exact refuse x q (by rw [hstep, at_branch1 c]) (Same.refl H) H1 p s1 np e1
    · refine ⟨_, rfl, rfl, _, rfl, if_true_of (by rw [decide_eq_false (fun z => nomatch z)]; rfl) ⟨_, rfl, ?_⟩⟩
      exact refuse x q (by rw [hstep, at_branch4 c c']) (Same.refl H) H1 p s1 np e1
    refine ⟨_, rfl, rfl, _, rfl, if_false_of (by rw [decide_eq_true rfl]; rfl) ?_⟩
    obtain ⟨u, hu⟩ := some_of hno
    rw [at_branch_of hb hu hv', before_is] at hstep
    have hvl := has_lt hv'
    obtain ⟨ps, p1, p2⟩ := x.pars
    obtain ⟨pv', gpv, hpv⟩ := p2.get (pars_get st.book hvl)
    have nl : ∀ n ∈ Hist.parentsOf st.book v, n < st.book.length := fun n hn => Nat.lt_trans (x.wf.ok.low v hvl n hn) hvl
    refine ⟨_, rfl, s, dx, _, rfl, h0, sF_first A, _, rfl, s, C, dx, _, _, rfl, h0, TS.cl, TS.nP, sF_P A, _, rfl, A.P, ps, _, _, rfl, rfl, SqL.of p1, atI_n rfl gpv, s, A, G, st, _, _, rfl, x, hpv.same x.sub, nl, fun H4 G4 r4 s4 g4 x4 d4 => ?_⟩
    obtain ⟨ds, d1, d2⟩ := x4.docs
    obtain ⟨dv, gdv, hdv⟩ := d2.get (docs_get st.book hvl)
    refine ⟨_, rfl, _, rfl, _, rfl, s, C, dx, _, _, rfl, s4 _ _ h0, TS.cl, TS.nD, sF_D A, _, rfl, A.D, ds, _, _, rfl, rfl, SqL.of d1, atI_n rfl gdv, _, rfl, Nat.zero_le _, fun p5 n5 => ?_⟩
    refine ⟨s, A, G4, st, k, u, _, _, _, _, _, [], rfl, x4.same (same_upd n5), hb, hu, hdv, d4, ⟨p5, rfl, upd_same⟩, fit_len (x.wf.fit v hvl), first_fit x.wf nl, (fun p hp => by cases hp), Nat.zero_le _, ?_⟩
    rw [hstep] at q
    intro H' G' r nr kp gs xs er
    exact q H' G' r (s4.free (free_upd nr)) ((Keep.of (s4.trans (same_upd n5))).trans kp) (g4.trans (s4.trans (same_upd n5)) gs) xs er

end
end Tb

namespace Tb
open PySem PySem.Spec PyProof.Rows L2
section
variable {P : Program} {w : World} {K : PySem.W.Frag} {mg : Str → Option Value} {base : Heap}
open TbM
/-! ### Reader -/
structure TxR (K : PySem.W.Frag) (C : Addr) : Prop where
  cl : Cls K C
  nN : NoAttr K C "numbers"
  nP : NoAttr K C "place"
def rF (a : Addr) (n : Nat) : List (Str × V) := [("numbers", .ref a), ("place", nv n)]
theorem rF_N (a : Addr) (n : Nat) : (rF a n).lookup ("numbers" : Str) = some (.ref a) := lk_here
theorem rF_P (a : Addr) (n : Nat) : (rF a n).lookup ("place" : Str) = some (nv n) := (lk_past (by decide +kernel)).trans lk_here
theorem rF_no (a : Addr) (n : Nat) {m : Str} (h1 : (m == ("numbers" : Str)) = false) (h2 : (m == ("place" : Str)) = false) : (rF a n).lookup m = none := (lk_past h1).trans ((lk_past h2).trans rfl)
theorem rF_put (a : Addr) (n m : Nat) : putF "place" (nv m) (rF a n) = rF a m := (put_past (by decide +kernel)).trans (congrArg _ put_here)
/-- all but the reader stays -/
def KeepR (r : Addr) (H H' : Hp) : Prop := ∀ b o, H b = some o → b ≠ r → H' b = some o
theorem KeepR.trans {r : Addr} {H H1 H2 : Hp} (a : KeepR r H H1) (b : KeepR r H1 H2) : KeepR r H H2 := fun c o e h => b c o (a c o e h) h
theorem KeepR.of {r : Addr} {H H' : Hp} (s : Same H H') : KeepR r H H' := fun b o e _ => s b o e
theorem KeepR.free {r : Addr} {H H' : Hp} (k : KeepR r H H') {p : Addr} (h : H' p = none) (hr : p ≠ r) : H p = none := by
  cases e : H p with
  | none => rfl
  | some o =>
    rw [k p o e hr] at h
    cases h
theorem KeepR.seq {r : Addr} {H H' : Hp} (k : KeepR r H H') {a : Addr} {xs : List V} {o : HO} (hr : H r = some o) (hn : ∀ u, o ≠ .lst u) (hz : ∀ z u, o ≠ .frz z u) (h : SqL K H a xs) : SqL K H' a xs := by
  rcases h with (h | ⟨z, h⟩) | h
  · exact .inl (.inl (k _ _ h (fun e => by rw [e, hr] at h; exact hn _ (Option.some.inj h))))
  · exact .inl (.inr ⟨z, k _ _ h (fun e => by rw [e, hr] at h; exact hz _ _ (Option.some.inj h))⟩)
  · exact .inr h
def spRInit (C : Addr) : Sp := fun vs H Q _ => ∃ (p dx a : Addr), vs = [.ref p, .ref a] ∧ H p = some (.ins C dx []) ∧ ∀ (H' : Hp), H' p = some (.ins C dx (rF a 0)) → KeepR p H H' → (∀ b, H b = none → H' b = none) → Q .non H'
theorem ok_Reader_init {C : Addr} (TR : TxR K C) {f : Addr} {fd : FuncData} (F : Fun K "__init__" "Reader.__init__" s_Reader_init f fd) : FnOk P w K mg base CX0 1 f fd ["self", "numbers"] (spRInit C) := by
  refine F.ok sc_Reader_init (fun vs H Q E h => ?_) (fun cdv A outer s H vs Q E hr h => ?_)
  · obtain ⟨p, dx, a, rfl, _⟩ := h
    rfl
  · obtain ⟨p, dx, a, rfl, hp, q⟩ := h
    refine ⟨_, (pss_cons (ps_fld (pv 0) (pv 1) rfl)
      (pss_one (ps_fld (pv 0) pe_int rfl))), ?_⟩
    refine ⟨_, rfl, _, rfl, p, C, dx, [], rfl, hp, TR.cl, TR.nN, (by show 0 < 1000; decide), ?_⟩
    refine ⟨_, rfl, p, C, dx, _, rfl, upd_same, TR.cl, TR.nP, (by show 1 < 1000; decide), ?_⟩
    refine q _ (Eq.trans upd_same (congrArg (fun z => some (HO.ins C dx z)) (put_past (by decide +kernel)))) (fun b o e hb => by rw [upd_ne hb, upd_ne hb]; exact e) (fun b hb => ?_)
    have : b ≠ p := fun z => by rw [z, hp] at hb; cases hb
    rw [upd_ne this, upd_ne this]
    exact hb
def spAtEnd (K : PySem.W.Frag) (C : Addr) : Sp := fun vs H Q _ => ∃ (r dx a : Addr) (l : List Int) (n : Nat), vs = [.ref r] ∧ H r = some (.ins C dx (rF a n)) ∧ SqL K H a (l.map V.int) ∧ Q (.bl (decide (n = l.length))) H
theorem ok_Reader_at_end {C : Addr} (T : Txt mg) (TR : TxR K C) {f : Addr} {fd : FuncData} (F : Fun K "at_end" "Reader.at_end" s_Reader_at_end f fd) : FnOk P w K mg base CX0 1 f fd ["self"] (spAtEnd K C) := by
  refine F.ok sc_Reader_at_end (fun vs H Q E h => ?_) (fun cdv A outer s H vs Q E hr h => ?_)
  · obtain ⟨r, dx, a, l, n, rfl, _⟩ := h
    rfl
  · obtain ⟨r, dx, a, l, n, rfl, hr', ha, q⟩ := h
    refine ⟨_, (pss_one (ps_ret (pe_cmpR op_eq (pe_fld (pv 0) rfl) (pe_callB call_len_seq (by rfl) T.m_len PySem.boot_len (pa_cons (pe_fld (pv 0) rfl) pa_nil)) (nomark _)))), ?_⟩
    refine ⟨_, rfl, r, C, dx, _, _, rfl, hr', TR.cl, TR.nP, rF_P a n, _, rfl, r, C, dx, _, _, rfl, hr', TR.cl, TR.nN, rF_N a n, a, _, rfl, .inl ha, rfl, ?_⟩
    have e : decide (nv n = V.int ((l.map V.int).length : Nat)) = decide (n = l.length) := by
      rw [List.length_map]
      exact decide_eq_decide.mpr nvi_eq
    rw [e]
    exact q
def spTakeN (K : PySem.W.Frag) (C : Addr) : Sp := fun vs H Q _ => ∃ (r dx a : Addr) (l : List Int) (n : Nat) (z : Int), vs = [.ref r] ∧ H r = some (.ins C dx (rF a n)) ∧ SqL K H a (l.map V.int) ∧ l[n]? = some z ∧
  ∀ (H' : Hp), H' r = some (.ins C dx (rF a (n + 1))) → KeepR r H H' → (∀ b, H b = none → H' b = none) → Q (.int z) H'
theorem zv_get {l : List Int} {i : Nat} {z : Int} (h : l[i]? = some z) : (l.map V.int)[i]? = some (V.int z) := by
  rw [List.getElem?_map, h]
  rfl
theorem ok_Reader_take_number {C : Addr} (T : Txt mg) (TR : TxR K C) {f : Addr} {fd : FuncData} (F : Fun K "take_number" "Reader.take_number" s_Reader_take_number f fd) : FnOk P w K mg base CX0 1 f fd ["self"] (spTakeN K C) := by
  refine F.ok sc_Reader_take_number (fun vs H Q E h => ?_) (fun cdv A outer s H vs Q E hr h => ?_)
  · obtain ⟨r, dx, a, l, n, z, rfl, _⟩ := h
    rfl
  · obtain ⟨r, dx, a, l, n, z, rfl, hr', ha, hz, q⟩ := h
    refine ⟨_, (pss_cons (ps_set (i := 1) sc_Reader_take_number.nd rfl (Or.inl rfl) (pe_ix ix_list (pe_fld (pv 0) rfl) (pe_fld (pv 0) rfl) (fun _ _ => rfl)))
      (pss_cons (ps_fld (pv 0) (pe_op op_add (pe_fld (pv 0) rfl) pe_int) rfl)
      (pss_one (ps_ret (pv 1))))), ?_⟩
    refine ⟨_, rfl, r, C, dx, _, _, rfl, hr', TR.cl, TR.nN, rF_N a n, _, rfl, r, C, dx, _, _, rfl, hr', TR.cl, TR.nP, rF_P a n, a, _, _, _, rfl, rfl, ha, atI_n rfl (zv_get hz), ?_⟩
    refine ⟨_, rfl, r, C, dx, _, _, rfl, hr', TR.cl, TR.nP, rF_P a n, _, _, rfl, rfl, _, rfl, r, C, dx, _, rfl, hr', TR.cl, TR.nP, (by show 2 < 1000; decide), ?_⟩
    refine ⟨_, rfl, q _ (Eq.trans upd_same (congrArg (fun z => some (HO.ins C dx z)) (rF_put a n (n + 1)))) (fun b o e hb => by rw [upd_ne hb]; exact e) (fun b hb => ?_)⟩
    have : b ≠ r := fun z => by rw [z, hr'] at hb; cases hb
    rw [upd_ne this]
    exact hb
def spTakeL (K : PySem.W.Frag) (C : Addr) : Sp := fun vs H Q _ => ∃ (r dx a : Addr) (l : List Int) (n m : Nat), vs = [.ref r] ∧ H r = some (.ins C dx (rF a n)) ∧ SqL K H a (l.map V.int) ∧ l[n]? = some (m : Int) ∧ n + 1 + m ≤ l.length ∧
  ∀ (H' : Hp) (p : Addr), H' r = some (.ins C dx (rF a (n + 1 + m))) → KeepR r H H' → H p = none → H' p = some (.lst (((l.drop (n + 1)).take m).map V.int)) → Q (.ref p) H'
theorem ok_Reader_take_list {C : Addr} (T : Txt mg) (TR : TxR K C) {f : Addr} {fd : FuncData} (F : Fun K "take_list" "Reader.take_list" s_Reader_take_list f fd) (c_take_number : Met P w K mg base 1 C "take_number" (spTakeN K C)) : FnOk P w K mg base CX0 2 f fd ["self"] (spTakeL K C) := by
  refine F.ok sc_Reader_take_list (fun vs H Q E h => ?_) (fun cdv A outer s H vs Q E hr h => ?_)
  · obtain ⟨r, dx, a, l, n, m, rfl, _⟩ := h
    rfl
  · obtain ⟨r, dx, a, l, n, m, rfl, hr', ha, hz, hle, q⟩ := h
    refine ⟨_, (pss_cons (ps_set (i := 1) sc_Reader_take_list.nd rfl (Or.inl rfl) (pe_m0 c_take_number hr (by decide) (pv 0)))
      (pss_cons (ps_set (i := 2) sc_Reader_take_list.nd rfl (Or.inl rfl) (pe_fld (pv 0) rfl))
      (pss_cons (ps_fld (pv 0) (pe_op op_add (pv 2) (pv 1)) rfl)
      (pss_one (ps_ret (pe_slice sl_list (pe_fld (pv 0) rfl) (po_some (pv 2)) (po_some (pe_fld (pv 0) rfl)))))))), ?_⟩
    refine ⟨_, rfl, r, dx, _, rfl, hr', rF_no a n (by decide +kernel) (by decide +kernel), r, dx, a, l, n, _, rfl, hr', ha, hz, fun H1 e1 k1 f1 => ?_⟩
    have ha1 := k1.seq hr' (fun _ z => nomatch z) (fun _ _ z => nomatch z) ha
    refine ⟨_, rfl, r, C, dx, _, _, rfl, e1, TR.cl, TR.nP, rF_P a (n + 1), ?_⟩
    refine ⟨_, rfl, _, rfl, _, _, rfl, rfl, _, rfl, r, C, dx, _, rfl, e1, TR.cl, TR.nP, (by show 2 < 1000; decide), ?_⟩
    have e2 : (upd H1 r (.ins C dx (putF "place" (.int (((n + 1 : Nat) : Int) + (m : Int))) (rF a (n + 1))))) r = some (.ins C dx (rF a (n + 1 + m))) := Eq.trans upd_same (congrArg (fun z => some (HO.ins C dx z)) (rF_put a (n + 1) (n + 1 + m)))
    have k2 : KeepR r H1 (upd H1 r (.ins C dx (putF "place" (.int (((n + 1 : Nat) : Int) + (m : Int))) (rF a (n + 1))))) := fun b o e hb => by rw [upd_ne hb]; exact e
    have ha2 := k2.seq e1 (fun _ z => nomatch z) (fun _ _ z => nomatch z) ha1
    generalize hH2 : (upd H1 r (.ins C dx (putF "place" (.int (((n + 1 : Nat) : Int) + (m : Int))) (rF a (n + 1))))) = H2 at e2 k2 ha2
    refine ⟨_, rfl, r, C, dx, _, _, rfl, e2, TR.cl, TR.nN, rF_N a _, _, rfl, _, rfl, _, rfl, r, C, dx, _, _, rfl, e2, TR.cl, TR.nP, rF_P a _, _, rfl, a, _, rfl, ha2, fun p np => ?_⟩
    have hpr : p ≠ r := fun z => by rw [z, e2] at np; cases np
    refine q _ p (by rw [upd_ne hpr.symm]; exact e2) (k1.trans (k2.trans (KeepR.of (same_upd np)))) (k1.free (k2.free np hpr) hpr) ?_
    rw [upd_same]
    show some (HO.lst (cutV (l.map V.int) (some ((n + 1 : Nat) : Int)) (some ((n + 1 + m : Nat) : Int)))) = _
    rw [cutV_nat, Nat.add_sub_cancel_left, List.map_take, List.map_drop]
/-! ### take_lists -/
theorem row_at {l : List Int} {n : Nat} {x s : List Int} (h : PyFlat.row (l.drop n) = some (x, s)) : ∃ m : Nat, l[n]? = some (m : Int) ∧ n + 1 + m ≤ l.length ∧ x = (l.drop (n + 1)).take m ∧ s = l.drop (n + 1 + m) := by
  by_cases hn : n < l.length
  · have g := List.getElem?_eq_getElem hn
    rw [drop_at g] at h
    have h : (if 0 ≤ l[n] ∧ l[n].toNat ≤ (l.drop (n + 1)).length then some ((l.drop (n + 1)).take l[n].toNat, (l.drop (n + 1)).drop l[n].toNat) else none) = some (x, s) := h
    by_cases c : 0 ≤ l[n] ∧ l[n].toNat ≤ (l.drop (n + 1)).length
    · rw [if_pos c] at h
      obtain ⟨e1, e2⟩ := Prod.mk.inj (Option.some.inj h)
      have c2 := c.2
      rw [List.length_drop] at c2
      refine ⟨l[n].toNat, ?_, by omega, e1.symm, ?_⟩
      · rw [g, Int.toNat_of_nonneg c.1]
      · rw [← e2, List.drop_drop]
    · rw [if_neg c] at h
      cases h
  · rw [List.drop_eq_nil_of_le (by omega)] at h
    cases h
theorem rows_step {k : Nat} {q : List Int} {xs : List (List Int)} {t : List Int} (h : PyFlat.rows (k + 1) q = some (xs, t)) : ∃ x s ys, PyFlat.row q = some (x, s) ∧ PyFlat.rows k s = some (ys, t) ∧ xs = x :: ys := by
  have h : (match PyFlat.row q with
    | none => none
    | some (x, s) => match PyFlat.rows k s with
      | none => none
      | some (xs, t) => some (x :: xs, t)) = some (xs, t) := h
  cases e : PyFlat.row q with
  | none => rw [e] at h; cases h
  | some p =>
    obtain ⟨x, s⟩ := p
    rw [e] at h
    have h : (match PyFlat.rows k s with
      | none => none
      | some (xs, t) => some (x :: xs, t)) = some (xs, t) := h
    cases e2 : PyFlat.rows k s with
    | none => rw [e2] at h; cases h
    | some p2 =>
      obtain ⟨ys, u⟩ := p2
      rw [e2] at h
      obtain ⟨h1, h2⟩ := Prod.mk.inj (Option.some.inj (show some (x :: ys, u) = some (xs, t) from h))
      exact ⟨x, s, ys, rfl, by rw [e2, h2], h1.symm⟩
theorem rows_le {l : List Int} : ∀ {k n : Nat} {xs : List (List Int)} {t : List Int}, PyFlat.rows k (l.drop n) = some (xs, t) → k + n ≤ l.length + n
  | 0, n, xs, t, _ => by omega
  | k + 1, n, xs, t, h => by
    obtain ⟨x, s, ys, h1, h2, _⟩ := rows_step h
    obtain ⟨m, _, hm, _, rfl⟩ := row_at h1
    by_cases hk : k = 0
    · omega
    · have := rows_bound h2
      omega
where rows_bound {l : List Int} : ∀ {k n : Nat} {xs : List (List Int)} {t : List Int}, PyFlat.rows k (l.drop n) = some (xs, t) → n ≤ l.length ∨ k = 0 → k + n ≤ l.length ∨ k = 0
  | 0, n, xs, t, _, _ => .inr rfl
  | k + 1, n, xs, t, h, _ => by
    obtain ⟨x, s, ys, h1, h2, _⟩ := rows_step h
    obtain ⟨m, _, hm, _, rfl⟩ := row_at h1
    rcases rows_bound h2 (.inl (by omega)) with q | q <;> (left; omega)
/-- new lists, as they were read -/
def NewV (H H' : Hp) (v : V) (x : List Int) : Prop := ∃ b, v = .ref b ∧ H b = none ∧ H' b = some (.lst (x.map V.int))
def spTakeLs (K : PySem.W.Frag) (C : Addr) : Sp := fun vs H Q _ => ∃ (r dx a : Addr) (l : List Int) (n k : Nat) (xs : List (List Int)) (t : List Int), vs = [.ref r] ∧ H r = some (.ins C dx (rF a n)) ∧ SqL K H a (l.map V.int) ∧ l.length ≤ 16000 ∧ l[n]? = some (k : Int) ∧ PyFlat.rows k (l.drop (n + 1)) = some (xs, t) ∧
  ∀ (H' : Hp) (p : Addr) (n' : Nat) (ws : List V), H' r = some (.ins C dx (rF a n')) → n' ≤ l.length → n < n' → l.drop n' = t → KeepR r H H' → H p = none → H' p = some (.lst ws) → All2 (NewV H H') ws xs → Q (.ref p) H'
theorem ok_Reader_take_lists {C : Addr} (T : Txt mg) (TR : TxR K C) {f : Addr} {fd : FuncData} (F : Fun K "take_lists" "Reader.take_lists" s_Reader_take_lists f fd) (c_take_number : Met P w K mg base 1 C "take_number" (spTakeN K C)) (c_take_list : Met P w K mg base 2 C "take_list" (spTakeL K C)) : FnOk P w K mg base CX0 3 f fd ["self"] (spTakeLs K C) := by
  refine F.ok sc_Reader_take_lists (fun vs H Q E h => ?_) (fun cdv A outer s H vs Q E hr h => ?_)
  · obtain ⟨r, dx, a, l, n, k, xs, t, rfl, _⟩ := h
    rfl
  · obtain ⟨r, dx, a, l, n, k, xs, t, rfl, hr', ha, hl, hz, hrows, q⟩ := h
    have hn : n < l.length := (List.getElem?_eq_some_iff.mp hz).1
    have hk := rows_le hrows
    refine ⟨_, (pss_cons (ps_set (i := 1) sc_Reader_take_lists.nd rfl (Or.inl rfl) (pe_m0 c_take_number hr (by decide) (pv 0)))
      (pss_one (ps_ret (pe_lc (own := [("turn", 2)]) (g := gName 2) rfl sc_Reader_take_lists.nd (pi_range1 (by rfl) T.m_range (pa_cons (pv 1) pa_nil)) (blkOk_by (own := [("turn", 2)]) (N := N_Reader_take_lists) (sc := defScope s_Reader_take_lists) (by decide +kernel)) (fun _ _ _ _ _ => pg_name (i := 2) sc_Reader_take_lists.nd rfl (Or.inl rfl)) (fun _ _ _ _ _ => pts_nil) (fun _ _ _ _ _ => (pe_m0 c_take_list hr (by decide) (pv 0))))))), ?_⟩
    refine ⟨_, rfl, r, dx, _, rfl, hr', rF_no a n (by decide +kernel) (by decide +kernel), r, dx, a, l, n, _, rfl, hr', ha, hz, fun H1 e1 k1 f1 => ?_⟩
    refine ⟨_, rfl, _, rfl, by omega, by omega, fun D nD => ?_⟩
    have hDr : D ≠ r := fun z => by rw [z, e1] at nD; cases nD
    have fD : H D = none := k1.free nD hDr
    refine lc_range (lo := 0) (n := k) (fun i H' => ∃ (n' : Nat) (done rest : List (List Int)) (ws : List V), H' r = some (.ins C dx (rF a n')) ∧ n' ≤ l.length ∧ n < n' ∧ KeepR r H H' ∧ PyFlat.rows (k - i) (l.drop n') = some (rest, t) ∧ done ++ rest = xs ∧ done.length = i ∧ H' D = some (.lst ws) ∧ All2 (fun v x => ∃ b, v = .ref b ∧ H b = none ∧ b ≠ D ∧ H' b = some (.lst (x.map V.int))) ws done)
      ⟨n + 1, [], xs, [], by rw [upd_ne hDr.symm]; exact e1, hn, Nat.lt_succ_self _, k1.trans (KeepR.of (same_upd nD)), hrows, rfl, rfl, upd_same, All2.nil⟩ (fun i H' hi p => ?_) (fun H' p => ?_)
    · obtain ⟨n', done, rest, ws, e5, l5, g5, k5, r5, q5, d5, w5, a5⟩ := p
      rw [show k - i = (k - (i + 1)) + 1 by omega] at r5
      obtain ⟨x, s', ys, h1, h2, rfl⟩ := rows_step r5
      obtain ⟨m, hm, hm2, rfl, rfl⟩ := row_at h1
      have ha5 := k5.seq hr' (fun _ z => nomatch z) (fun _ _ z => nomatch z) ha
      refine ⟨rfl, _, rfl, r, dx, _, rfl, e5, rF_no a n' (by decide +kernel) (by decide +kernel), r, dx, a, l, n', m, rfl, e5, ha5, hm, hm2, fun H2 p e6 k6 np e7 => ?_⟩
      have w6 := k6 _ _ w5 hDr
      have hpD : p ≠ D := fun z => by rw [z, w5] at np; cases np
      have hpr : p ≠ r := fun z => by rw [z, e5] at np; cases np
      have lw : ws.length = i := by rw [a5.len, d5]
      refine ⟨ws, w6, size_lt' (by omega), n' + 1 + m, done ++ [(l.drop (n' + 1)).take m], ys, ws ++ [.ref p], by rw [upd_ne hDr.symm]; exact e6, hm2, by omega, ?_, h2, by rw [List.append_assoc]; exact q5, by rw [List.length_append, d5]; rfl, upd_same, ?_⟩
      · intro b o e hb
        rw [upd_ne (ne_of_none e fD)]
        exact k6 _ _ (k5 b o e hb) hb
      · refine (a5.mono fun v x ⟨b, h1, h2, h3, h4⟩ => ⟨b, h1, h2, h3, ?_⟩).snoc ⟨p, rfl, k5.free np hpr, hpD, ?_⟩
        · rw [upd_ne hpD]
          exact e7
        · rw [upd_ne h3]
          exact k6 _ _ h4 (fun z => by rw [z, e5] at h4; cases h4)
    · obtain ⟨n', done, rest, ws, e5, l5, g5, k5, r5, q5, d5, w5, a5⟩ := p
      rw [Nat.sub_self] at r5
      obtain ⟨h1, h2⟩ := Prod.mk.inj (Option.some.inj (show some (([] : List (List Int)), l.drop n') = some (rest, t) from r5))
      rw [← h1, List.append_nil] at q5
      rw [q5] at a5
      exact q H' D n' ws e5 l5 g5 h2 k5 fD w5 (a5.mono fun v x ⟨b, h1, h2, h3, h4⟩ => ⟨b, h1, h2, h4⟩)

end
end Tb

namespace Tb
open PySem PySem.Spec PyProof.Rows L2
section
variable {P : Program} {w : World} {K : PySem.W.Frag} {mg : Str → Option Value} {base : Heap}
open TbM
/-! ### answer_call -/
theorem ask_lt {p : Nat} {ns : List Nat} {rows : List (List Nat)} (h : HistNeutral.asked1 (mkC (p : Int) ns rows) = true) : p < 15 := by
  unfold mkC HistNeutral.asked1 at h
  split at h
  all_goals first
    | (rename_i heq; have e := (List.cons.inj (List.cons.inj heq).1).1; omega)
    | cases h
def spAny (C : Addr) : Sp := fun vs H Q _ => ∃ (s n l : Addr) (A : Ad) (G : Hp) (st : Hist.State) (p : Nat) (ns : List Nat) (rows : List (List Nat)), vs = [.ref s, nv p, .ref n, .ref l] ∧ StAt C G H s A st ∧ H n = some (.lst (nvs ns)) ∧ DocV G (.ref l) rows ∧ HistNeutral.asked1 (mkC (p : Int) ns rows) = true ∧
  ∀ (H' G' : Hp) (r : Addr), H r = none → Keep A H H' → Grow H G G' → StAt C G' H' s A (HistNeutral.step st (mkC (p : Int) ns rows)).1 → H' r = some (.lst (zv (HistNeutral.step st (mkC (p : Int) ns rows)).2)) → Q (.ref r) H'
theorem ok_answer_call {C tp : Addr} (T : Txt mg) {fs : List Addr} (gCALLS : mg "CALLS" = some (.ref tp)) (hT : ∀ H, SqT K H tp (fs.map V.ref)) (hl : fs.length = 15) (hF : ∀ (i : Nat) (f : Addr), fs[i]? = some f → CalAt P w K mg base 6 f (spAns C (i : Int))) {f : Addr} {fd : FuncData} (F : Fun K "answer_call" "answer_call" s_answer_call f fd) : FnOk P w K mg base CX0 7 f fd ["state", "number", "numbers", "lists"] (spAny C) := by
  refine F.ok sc_answer_call (fun vs H Q E h => ?_) (fun cdv A outer s H vs Q E hr h => ?_)
  · obtain ⟨s, n, l, A, G, st, p, ns, rows, rfl, _⟩ := h
    rfl
  · obtain ⟨s, n, l, A, G, st, p, ns, rows, rfl, x, hn, hd, ask, q⟩ := h
    have hp := ask_lt ask
    have g := List.getElem?_eq_getElem (l := fs) (i := p) (by omega)
    have g2 : (fs.map V.ref)[p]? = some (.ref fs[p]) := by
      rw [List.getElem?_map, g]
      rfl
    refine ⟨_, (pss_one (ps_ret (pe_dispatch (k := 6) hr (by decide) (pe_ix ix_tup (pe_glob (v := .ref tp) (by rfl) gCALLS rfl) (pv 1) (fun _ _ => rfl)) (pa_cons (pv 0) (pa_cons (pv 2) (pa_cons (pv 3) pa_nil)))))), ?_⟩
    exact ⟨_, rfl, tp, _, _, _, rfl, rfl, hT H, atI_n rfl g2, fs[p], _, rfl, hF p _ g, _, rfl, _, rfl, _, rfl, s, n, l, A, G, st, ns, rows, rfl, x, hn, hd, ask, q⟩

end
end Tb

namespace Tb
open PySem PySem.Spec PyProof.Rows L2
section
variable {P : Program} {w : World} {K : PySem.W.Frag} {mg : Str → Option Value} {base : Heap}
open TbM
/-! ### answers -/
theorem call_at {l : List Int} {n : Nat} {c : List (List Int)} {t : List Int} (hn : n < l.length) (h : PyWide.call (l.drop n) = some (c, t)) : ∃ (z : Int) (m k : Nat) (xs : List (List Int)), l[n]? = some z ∧ l[n + 1]? = some (m : Int) ∧ n + 1 + 1 + m ≤ l.length ∧ l[n + 1 + 1 + m]? = some (k : Int) ∧ PyFlat.rows k (l.drop (n + 1 + 1 + m + 1)) = some (xs, t) ∧ c = (z :: (l.drop (n + 1 + 1)).take m) :: xs := by
  have g := List.getElem?_eq_getElem hn
  rw [drop_at g] at h
  have h : (match PyFlat.row (l.drop (n + 1)) with
    | none => none
    | some (_, []) => none
    | some (ns, k :: t) => if 0 ≤ k then (match PyFlat.rows k.toNat t with
      | none => none
      | some (xs, u) => some ((l[n] :: ns) :: xs, u)) else none) = some (c, t) := h
  cases e : PyFlat.row (l.drop (n + 1)) with
  | none => rw [e] at h; cases h
  | some p =>
    obtain ⟨ns, s⟩ := p
    rw [e] at h
    obtain ⟨m, hm, hm2, rfl, rfl⟩ := row_at e
    by_cases hk : n + 1 + 1 + m < l.length
    · have gk := List.getElem?_eq_getElem hk
      rw [drop_at gk] at h
      have h : (if 0 ≤ l[n + 1 + 1 + m] then (match PyFlat.rows l[n + 1 + 1 + m].toNat (l.drop (n + 1 + 1 + m + 1)) with
        | none => none
        | some (xs, u) => some ((l[n] :: (l.drop (n + 1 + 1)).take m) :: xs, u)) else none) = some (c, t) := h
      by_cases ck : 0 ≤ l[n + 1 + 1 + m]
      · rw [if_pos ck] at h
        cases e2 : PyFlat.rows l[n + 1 + 1 + m].toNat (l.drop (n + 1 + 1 + m + 1)) with
        | none => rw [e2] at h; cases h
        | some p2 =>
          obtain ⟨xs, u⟩ := p2
          rw [e2] at h
          obtain ⟨h1, h2⟩ := Prod.mk.inj (Option.some.inj (show some ((l[n] :: (l.drop (n + 1 + 1)).take m) :: xs, u) = some (c, t) from h))
          exact ⟨l[n], m, l[n + 1 + 1 + m].toNat, xs, g, hm, hm2, by rw [gk, Int.toNat_of_nonneg ck], by rw [e2, h2], h1.symm⟩
      · rw [if_neg ck] at h
        cases h
    · rw [show l.drop (n + 1 + 1 + m) = [] from List.drop_eq_nil_of_le (by omega)] at h
      cases h
theorem calls_at {l : List Int} {n f : Nat} {cs : List (List (List Int))} (hn : n < l.length) (h : PyWide.calls f (l.drop n) = some cs) : ∃ (f' : Nat) (c : List (List Int)) (t : List Int) (cs' : List (List (List Int))), PyWide.call (l.drop n) = some (c, t) ∧ PyWide.calls f' t = some cs' ∧ cs = c :: cs' := by
  have g := List.getElem?_eq_getElem hn
  rw [drop_at g] at h ⊢
  cases f with
  | zero => cases h
  | succ f =>
    have h : (match PyWide.call (l[n] :: l.drop (n + 1)) with
      | none => none
      | some (c, t) => match PyWide.calls f t with
        | none => none
        | some cs => some (c :: cs)) = some cs := h
    cases e : PyWide.call (l[n] :: l.drop (n + 1)) with
    | none => rw [e] at h; cases h
    | some p =>
      obtain ⟨c, t⟩ := p
      rw [e] at h
      have h : (match PyWide.calls f t with
        | none => none
        | some cs => some (c :: cs)) = some cs := h
      cases e2 : PyWide.calls f t with
      | none => rw [e2] at h; cases h
      | some cs' =>
        rw [e2] at h
        exact ⟨f, c, t, cs', rfl, e2, (Option.some.inj h).symm⟩
theorem calls_nil {f : Nat} : PyWide.calls f [] = some [] := by cases f <;> rfl
/-- whole numbers as such -/
def toN (l : List Int) : List Nat := l.map Int.toNat
theorem cI_toN {l : List Int} (h : ∀ z ∈ l, 0 ≤ z) : cI (toN l) = l := by
  unfold cI toN
  rw [List.map_map]
  have : l.map ((fun (n : Nat) => (n : Int)) ∘ Int.toNat) = l.map id := List.map_congr_left fun z hz => Int.toNat_of_nonneg (h z hz)
  rw [this, List.map_id]
theorem nvs_toN {l : List Int} (h : ∀ z ∈ l, 0 ≤ z) : l.map V.int = nvs (toN l) := by
  rw [zv_cI, cI_toN h]
  rfl
theorem rows_nn {l : List Int} (h : ∀ z ∈ l, 0 ≤ z) : ∀ {k n : Nat} {xs : List (List Int)} {t : List Int}, PyFlat.rows k (l.drop n) = some (xs, t) → ∀ x ∈ xs, ∀ z ∈ x, 0 ≤ z
  | 0, n, xs, t, e => by
    obtain ⟨h1, _⟩ := Prod.mk.inj (Option.some.inj (show some (([] : List (List Int)), l.drop n) = some (xs, t) from e))
    rw [← h1]
    intro x hx
    cases hx
  | k + 1, n, xs, t, e => by
    obtain ⟨x, s, ys, h1, h2, rfl⟩ := rows_step e
    obtain ⟨m, _, _, rfl, rfl⟩ := row_at h1
    intro y hy
    rcases List.mem_cons.mp hy with e | hy
    · rw [e]
      intro z hz
      exact h z (List.mem_of_mem_drop (List.mem_of_mem_take hz))
    · exact rows_nn h h2 y hy
theorem rows_cI {xs : List (List Int)} (h : ∀ x ∈ xs, ∀ z ∈ x, 0 ≤ z) : (xs.map toN).map cI = xs := by
  rw [List.map_map]
  have : xs.map (cI ∘ toN) = xs.map id := List.map_congr_left fun x hx => cI_toN (h x hx)
  rw [this, List.map_id]
/-- what stands fast behind a reading: as before, and all that is new -/
def clo (G H H' : Hp) : Hp := fun b => match H b with
  | some _ => G b
  | none => H' b
theorem clo_old {G H H' : Hp} {b : Addr} {o : HO} (h : H b = some o) : clo G H H' b = G b := by unfold clo; rw [h]
theorem clo_new {G H H' : Hp} {b : Addr} (h : H b = none) : clo G H H' b = H' b := by unfold clo; rw [h]
theorem clo_same {G H H' : Hp} (s : Same G H) : Same G (clo G H H') := fun b o e => by rw [clo_old (s _ _ e)]; exact e
theorem StAt.reread {C : Addr} {G H H' : Hp} {s r : Addr} {A : Ad} {st : Hist.State} (x : StAt C G H s A st) (k : KeepR r H H') (hs : s ≠ r) (hD : A.D ≠ r) (hP : A.P ≠ r) (hO : A.O ≠ r) (hh : A.h ≠ r) (gr : G r = none) : StAt C (clo G H H') H' s A st := by
  obtain ⟨dx, h0⟩ := x.ins
  obtain ⟨ds, d1, d2⟩ := x.docs
  obtain ⟨ps, p1, p2⟩ := x.pars
  obtain ⟨os, o1, o2⟩ := x.orgs
  have g := clo_same (H' := H') x.sub
  refine ⟨⟨dx, k _ _ h0 hs⟩, x.dp, x.dO, x.dh, x.pO, x.ph, x.oh, fun b o e => ?_, by rw [clo_old d1]; exact x.gD, by rw [clo_old p1]; exact x.gP, by rw [clo_old o1]; exact x.gO, by rw [clo_old x.hds]; exact x.gh, ⟨ds, k _ _ d1 hD, d2.mono fun _ _ => DocV.same g⟩, ⟨ps, k _ _ p1 hP, p2.mono fun _ _ => IntsV.same g⟩, ⟨os, k _ _ o1 hO, o2.mono fun _ _ => IntsV.same g⟩, k _ _ x.hds hh, x.wf⟩
  cases hb : H b with
  | none =>
    rw [clo_new hb] at e
    exact e
  | some u =>
    rw [clo_old hb] at e
    exact k _ _ (x.sub _ _ e) (fun z => by rw [z, gr] at e; cases e)
def spAnswers (K : PySem.W.Frag) : Sp := fun vs H Q _ => ∃ (a : Addr) (l : List Int), vs = [.ref a] ∧ SqL K H a (l.map V.int) ∧ (∀ z ∈ l, 0 ≤ z) ∧ l.length ≤ 16000 ∧ PyWrsway.answers_asked l = true ∧
  ∀ (H' : Hp) (p : Addr), H' p = some (.lst ((PyWrsway.answers l).map V.int)) → Q (.ref p) H'
theorem told_cons (x : List Int) (xs : List (List Int)) : PyFlat.told (x :: xs) = (x.length : Int) :: (x ++ PyFlat.told xs) := rfl
/-- between two calls -/
structure Iv (CR CS : Addr) (H0 : Hp) (a r dx s t : Addr) (A : Ad) (l : List Int) (n : Nat) (H : Hp) : Prop where
  ex : ∃ (done : List Int) (st : Hist.State) (G : Hp) (cs : List (List (List Int))) (f : Nat), Same H0 H ∧ H r = some (.ins CR dx (rF a n)) ∧ n ≤ l.length ∧ StAt CS G H s A st ∧ G r = none ∧ G t = none ∧ H t = some (.lst (zv done)) ∧ PyWide.calls f (l.drop n) = some cs ∧ cs.all HistNeutral.asked1 = true ∧ done ++ PyFlat.told (PyFlat.played HistNeutral.step st cs) = PyWrsway.answers l
theorem ok_answers {CR CS : Addr} (T : Txt mg) {f : Addr} {fd : FuncData} (F : Fun K "answers" "answers" s_answers f fd) (c_Reader : Mak P w K mg base 1 "Reader" CR (spRInit CR)) (c_State : Mak P w K mg base 1 "State" CS (spSInit CS)) (c_answer_call : Cal P w K mg base 7 "answer_call" (spAny CS))
    (c_at_end : Met P w K mg base 1 CR "at_end" (spAtEnd K CR)) (c_take_number : Met P w K mg base 1 CR "take_number" (spTakeN K CR)) (c_take_list : Met P w K mg base 2 CR "take_list" (spTakeL K CR)) (c_take_lists : Met P w K mg base 3 CR "take_lists" (spTakeLs K CR)) : FnOk P w K mg base CX0 8 f fd ["calls"] (spAnswers K) := by
  refine F.ok sc_answers (fun vs H Q E h => ?_) (fun cdv A outer s H vs Q E hr h => ?_)
  · obtain ⟨a, l, rfl, _⟩ := h
    rfl
  · obtain ⟨a, l, rfl, ha, hnn, hlen, ask, q⟩ := h
    -- what is asked
    obtain ⟨cs0, hcs, hask, hshort⟩ : ∃ cs0, PyWide.calls l.length l = some cs0 ∧ cs0.all HistNeutral.asked1 = true ∧ (PyWrsway.answers l).length ≤ 10000000 := by
      unfold PyWrsway.answers_asked PyWrsway.calls at ask
      cases e : PyWide.calls l.length l with
      | none => rw [e] at ask; cases ask
      | some cs =>
        rw [e] at ask
        have ask : (!cs.isEmpty && cs.all PyWrsway.fits && PyFlat.atMost 400 cs && HistNeutral.asked cs && PyFlat.short 10000000 (PyWrsway.answers l)) = true := ask
        rw [Bool.and_eq_true, Bool.and_eq_true] at ask
        exact ⟨cs, rfl, ask.1.2, of_decide_eq_true ask.2⟩
    have hans : PyWrsway.answers l = PyFlat.told (PyFlat.played HistNeutral.step HistNeutral.start cs0) := by
      unfold PyWrsway.answers PyWrsway.calls
      rw [hcs]
    refine ⟨_, (pss_cons (ps_set (i := 1) sc_answers.nd rfl (Or.inl rfl) (pe_k c_Reader hr (by decide) (by rfl) (pa_cons (pv 0) pa_nil)))
      (pss_cons (ps_set (i := 2) sc_answers.nd rfl (Or.inl rfl) (pe_k0 c_State hr (by decide) (by rfl)))
      (pss_cons (ps_set (i := 3) sc_answers.nd rfl (Or.inl rfl) (pe_lst pa_nil))
      (pss_cons (ps_while PassesOwn.never (pt_not (pt_val (pe_m0 c_at_end hr (by decide) (pv 1)))) (pss_cons (ps_set (i := 4) sc_answers.nd rfl (Or.inl rfl) (pe_m0 c_take_number hr (by decide) (pv 1)))
      (pss_cons (ps_set (i := 5) sc_answers.nd rfl (Or.inl rfl) (pe_m0 c_take_list hr (by decide) (pv 1)))
      (pss_cons (ps_set (i := 6) sc_answers.nd rfl (Or.inl rfl) (pe_m0 c_take_lists hr (by decide) (pv 1)))
      (pss_cons (ps_set (i := 7) sc_answers.nd rfl (Or.inl rfl) (pe_c c_answer_call hr (by decide) (by rfl) (pa_cons (pv 2) (pa_cons (pv 4) (pa_cons (pv 5) (pa_cons (pv 6) pa_nil))))))
      (pss_cons (ps_expr (pe_bm PySem.F.plainAttrs_list PySem.F.slot_list_append PySem.F.type_list_append mt_append (pv 3) (pa_cons (pe_callB call_len_seq (by rfl) T.m_len PySem.boot_len (pa_cons (pv 7) pa_nil)) pa_nil)))
      (pss_one (ps_expr (pe_bm PySem.F.plainAttrs_list PySem.F.slot_list_extend PySem.F.type_list_extend mt_extend (pv 3) (pa_cons (pv 7) pa_nil))))))))))
      (pss_one (ps_ret (pv 3))))))), ?_⟩
    refine ⟨_, rfl, fun r dx nr ndx ner => ⟨r, dx, a, rfl, upd_same, fun H1 e1 k1 f1 => ⟨rfl, ?_⟩⟩⟩
    have s1 : Same H H1 := Same.made nr ndx k1
    intro s ds ns nds nes
    refine ⟨s, ds, rfl, upd_same, fun H2 A x2 fD fP fO fh k2 => ⟨rfl, ?_⟩⟩
    have s12 : Same H1 H2 := Same.made ns nds k2
    have s2 : Same H H2 := s1.trans s12
    refine ⟨Nat.zero_le _, fun t nt => ?_⟩
    have f1D : H1 A.D = none := free_upd (free_upd fD)
    have f1P : H1 A.P = none := free_upd (free_upd fP)
    have f1O : H1 A.O = none := free_upd (free_upd fO)
    have f1h : H1 A.h = none := free_upd (free_upd fh)
    have hsr : s ≠ r := fun z => by rw [z, e1] at ns; cases ns
    have hDr : A.D ≠ r := (ne_of_none e1 f1D).symm
    have hPr : A.P ≠ r := (ne_of_none e1 f1P).symm
    have hOr : A.O ≠ r := (ne_of_none e1 f1O).symm
    have hhr : A.h ≠ r := (ne_of_none e1 f1h).symm
    obtain ⟨tD, tP, tO, th⟩ := x2.ne nt
    have htr : t ≠ r := fun z => by rw [z, s12 _ _ e1] at nt; cases nt
    have hst : s ≠ t := by
      obtain ⟨d, h0⟩ := x2.ins
      exact ne_of_none h0 nt
    have gr : H r = none := nr
    have gt : H t = none := s2.free nt
    have gD : H A.D = none := s1.free f1D
    have gP : H A.P = none := s1.free f1P
    have gO : H A.O = none := s1.free f1O
    have gh : H A.h = none := s1.free f1h
    refine ⟨fun m σ H' => ∃ (n : Nat) (x4 x5 x6 x7 : Option V), σ = [some (.ref a), some (.ref r), some (.ref s), some (.ref t), x4, x5, x6, x7] ∧ Iv CR CS H a r dx s t A l n H' ∧ m = l.length - n,
      ⟨l.length, 0, none, none, none, none, rfl, ⟨[], Hist.start, fun _ => none, cs0, l.length, s2.trans (same_upd nt), same_upd nt _ _ (s12 _ _ e1), Nat.zero_le _, x2.same (same_upd nt), rfl, rfl, upd_same, hcs, hask, hans.symm⟩, rfl⟩, ?_⟩
    rintro m σ H' ⟨n, x4, x5, x6, x7, rfl, ⟨done, st, G, cs, ff, s5, e5, n5, x5', gr5, gt5, t5, c5, a5, q5⟩, rfl⟩
    have ha5 := s5.seq ha
    refine ⟨_, rfl, r, dx, _, rfl, e5, rF_no a n (by decide +kernel) (by decide +kernel), r, dx, a, l, n, rfl, e5, ha5, _, rfl, if_ndec (fun c => ?_) (fun c => ?_)⟩
    · have hn : n < l.length := by omega
      obtain ⟨f', cc, tt, cs', h1, h2, rfl⟩ := calls_at hn c5
      obtain ⟨z, m, k, xs, g1, g2, g3, g4, g5, rfl⟩ := call_at hn h1
      refine ⟨fun σ' H'' => ∃ (n' : Nat) (x4 x5 x6 x7 : Option V), σ' = [some (.ref a), some (.ref r), some (.ref s), some (.ref t), x4, x5, x6, x7] ∧ Iv CR CS H a r dx s t A l n' H'' ∧ n < n',
        fun σ' H'' ⟨n', y4, y5, y6, y7, h1, h2, h3⟩ => ⟨_, by omega, n', y4, y5, y6, y7, h1, h2, rfl⟩, ?_⟩
      -- the call's number, its numbers, its lists
      refine ⟨_, rfl, r, dx, _, rfl, e5, rF_no a n (by decide +kernel) (by decide +kernel), r, dx, a, l, n, z, rfl, e5, ha5, g1, fun H6 e6 k6 f6 => ?_⟩
      have ha6 := k6.seq e5 (fun _ z => nomatch z) (fun _ _ z => nomatch z) ha5
      refine ⟨_, rfl, r, dx, _, rfl, e6, rF_no a _ (by decide +kernel) (by decide +kernel), r, dx, a, l, n + 1, m, rfl, e6, ha6, g2, g3, fun H7 pn e7 k7 npn epn => ?_⟩
      have ha7 := k7.seq e6 (fun _ z => nomatch z) (fun _ _ z => nomatch z) ha6
      refine ⟨_, rfl, r, dx, _, rfl, e7, rF_no a _ (by decide +kernel) (by decide +kernel), r, dx, a, l, n + 1 + 1 + m, k, xs, tt, rfl, e7, ha7, hlen, g4, g5, fun H8 pl n' ws e8 l8 g8 d8 k8 npl epl a8 => ?_⟩
      have k58 : KeepR r H' H8 := k6.trans (k7.trans k8)
      have k57 : KeepR r H' H7 := k6.trans k7
      have x8 := x5'.reread k58 hsr hDr hPr hOr hhr gr5
      have sG := clo_same (H' := H8) x5'.sub
      have plr : pl ≠ r := fun z => by rw [z, e7] at npl; cases npl
      have pnr : pn ≠ r := fun z => by rw [z, e6] at npn; cases npn
      have fpl : H' pl = none := k57.free npl plr
      have hxs := rows_nn hnn g5
      have hz : 0 ≤ z := hnn z (List.mem_of_getElem? g1)
      have hns : ∀ y ∈ (l.drop (n + 1 + 1)).take m, 0 ≤ y := fun y hy => hnn y (List.mem_of_mem_drop (List.mem_of_mem_take hy))
      have hdoc : DocV (clo G H' H8) (.ref pl) (xs.map toN) := by
        refine ⟨pl, ws, rfl, by rw [clo_new fpl]; exact epl, by rw [a8.len, List.length_map], fun i v y ev ey => ?_⟩
        rw [List.getElem?_map] at ey
        cases ex : xs[i]? with
        | none => rw [ex] at ey; cases ey
        | some x =>
          rw [ex] at ey
          have ey : toN x = y := Option.some.inj ey
          obtain ⟨b, hb1, hb2, hb3⟩ := a8.at_ i v x ev ex
          have hbr : b ≠ r := fun z => by rw [z, e7] at hb2; cases hb2
          refine ⟨b, hb1, ?_⟩
          rw [clo_new (k57.free hb2 hbr), hb3, ← ey, nvs_toN (hxs x (List.mem_of_getElem? ex))]
      have hmk : mkC (z.toNat : Int) (toN ((l.drop (n + 1 + 1)).take m)) (xs.map toN) = (z :: (l.drop (n + 1 + 1)).take m) :: xs := by
        unfold mkC
        rw [cI_toN hns, rows_cI hxs, Int.toNat_of_nonneg hz]
      rw [List.all_cons, Bool.and_eq_true] at a5
      have hask1 := a5.1
      rw [← hmk] at hask1
      have hzn : V.int z = nv z.toNat := by
        unfold nv
        rw [Int.toNat_of_nonneg hz]
      refine ⟨_, rfl, _, rfl, _, rfl, _, rfl, s, pn, pl, A, _, st, z.toNat, _, _, (by rw [hzn]; rfl), x8, ?_, hdoc, hask1, fun H9 G9 ra nra kp9 gr9 x9 e9 => ?_⟩
      · rw [k8 _ _ epn pnr, nvs_toN hns]
      rw [hmk] at x9 e9
      have r9 : H9 r = some (.ins CR dx (rF a n')) := kp9 _ _ hDr.symm hPr.symm hOr.symm hhr.symm e8
      have t8 : H8 t = some (.lst (zv done)) := k58 _ _ t5 htr
      have t9 : H9 t = some (.lst (zv done)) := kp9 _ _ tD.symm tP.symm tO.symm th.symm t8
      have s9 : Same H H9 := fun b o e => kp9 b o (ne_of_none e gD) (ne_of_none e gP) (ne_of_none e gO) (ne_of_none e gh) (k58 b o (s5 b o e) (ne_of_none e gr))
      have G9r : G9 r = none := gr9.new r _ e8 (by rw [clo_old e5]; exact gr5)
      have G9t : G9 t = none := gr9.new t _ t8 (by rw [clo_old t5]; exact gt5)
      have htot : done.length + ((HistNeutral.step st ((z :: (l.drop (n + 1 + 1)).take m) :: xs)).2.length + 1) ≤ 10000000 := by
        have e := congrArg List.length q5
        rw [List.length_append] at e
        have e2 : (PyFlat.told (PyFlat.played HistNeutral.step st (((z :: (l.drop (n + 1 + 1)).take m) :: xs) :: cs'))).length = (HistNeutral.step st ((z :: (l.drop (n + 1 + 1)).take m) :: xs)).2.length + (PyFlat.told (PyFlat.played HistNeutral.step (HistNeutral.step st ((z :: (l.drop (n + 1 + 1)).take m) :: xs)).1 cs')).length + 1 := by
          show ((((HistNeutral.step st ((z :: (l.drop (n + 1 + 1)).take m) :: xs)).2.length : Nat) : Int) :: ((HistNeutral.step st ((z :: (l.drop (n + 1 + 1)).take m) :: xs)).2 ++ PyFlat.told (PyFlat.played HistNeutral.step (HistNeutral.step st ((z :: (l.drop (n + 1 + 1)).take m) :: xs)).1 cs'))).length = _
          rw [List.length_cons, List.length_append]
        omega
      have q9 : (done ++ (((HistNeutral.step st ((z :: (l.drop (n + 1 + 1)).take m) :: xs)).2.length : Nat) : Int) :: (HistNeutral.step st ((z :: (l.drop (n + 1 + 1)).take m) :: xs)).2) ++ PyFlat.told (PyFlat.played HistNeutral.step (HistNeutral.step st ((z :: (l.drop (n + 1 + 1)).take m) :: xs)).1 cs') = PyWrsway.answers l := by
        rw [← q5, List.append_assoc]
        rfl
      generalize HistNeutral.step st ((z :: (l.drop (n + 1 + 1)).take m) :: xs) = R at x9 e9 htot q9
      have hra : ra ≠ t := fun z => by rw [z, t8] at nra; cases nra
      -- told.append(len(answer)); told.extend(answer)
      refine ⟨_, rfl, .inl ⟨rfl, _, SqL.of t9⟩, _, rfl, ra, _, rfl, .inl (SqL.of e9), t, _, _, rfl, rfl, t9, ?_, ?_⟩
      · unfold zv
        rw [List.length_map]
        exact size_lt' (by omega)
      have lz : (zv R.2).length = R.2.length := List.length_map ..
      have lz2 : (zv done).length = done.length := List.length_map ..
      refine ⟨_, rfl, .inl ⟨rfl, _, SqL.of upd_same⟩, _, rfl, t, ra, _, zv R.2, rfl, rfl, upd_same, (by rw [upd_ne hra]; exact e9), ?_, n', _, _, _, _, rfl, ⟨done ++ ((R.2.length : Nat) : Int) :: R.2, R.1, G9, cs', f', same_in (same_in s9 gt) gt, ?_, l8, ?_, G9r, G9t, ?_, by rw [d8]; exact h2, a5.2, q9⟩, by omega⟩
      · rw [List.length_append, lz, lz2]
        exact size_le (by show _ + 1 + _ ≤ _; omega)
      · rw [upd_ne htr.symm, upd_ne htr.symm]
        exact r9
      · obtain ⟨d0, h0⟩ := x9.ins
        obtain ⟨ds', d1, d2⟩ := x9.docs
        obtain ⟨ps', p1, p2⟩ := x9.pars
        obtain ⟨os', o1, o2⟩ := x9.orgs
        exact ⟨⟨d0, by rw [upd_ne hst, upd_ne hst]; exact h0⟩, x9.dp, x9.dO, x9.dh, x9.pO, x9.ph, x9.oh, same_in (same_in x9.sub G9t) G9t, x9.gD, x9.gP, x9.gO, x9.gh, ⟨ds', by rw [upd_ne tD, upd_ne tD]; exact d1, d2⟩, ⟨ps', by rw [upd_ne tP, upd_ne tP]; exact p1, p2⟩, ⟨os', by rw [upd_ne tO, upd_ne tO]; exact o1, o2⟩, by rw [upd_ne th, upd_ne th]; exact x9.hds, x9.wf⟩
      · rw [upd_same, lz]
        unfold zv
        rw [List.map_append, List.append_assoc]
        rfl
    · subst c
      rw [List.drop_length, calls_nil] at c5
      have c5 : [] = cs := Option.some.inj c5
      subst c5
      have q5 : done ++ [] = PyWrsway.answers l := q5
      rw [List.append_nil] at q5
      refine ⟨_, rfl, q H' t ?_⟩
      rw [t5, ← q5]
      rfl

end
end Tb

namespace Tb
open PySem PySem.Spec PyProof.Rows L2
section
variable {P : Program} {w : World} {K : PySem.W.Frag} {mg : Str → Option Value} {base : Heap}
open TbM
theorem inInt_ge {hi z : Int} (h : PySem.W.Codec.inInt 0 hi z = true) : 0 ≤ z := (PySem.W.Codec.inInt_iff.mp h).1
/-! ### The end: what the top has written -/
structure DefG (K : PySem.W.Frag) (x : Str) (st : Stmt) (f : Addr) : Prop where
  at_ : PySem.W.nsIn K mainGlobals x = some (some (.ref f))
  ex : ∃ fd, Fun K x x st f fd
  kp : PySem.W.keepIn K (.ref f) = true
theorem defG {x : Str} {st : Stmt} {f : Addr} {oc : Value} {od an : Option Addr} {osl : Array (Option Value)} {kV doc pm cdv ct : Value} (a : PySem.W.nsIn K mainGlobals x = some (some (.ref f))) (l : K.lookup f = some ⟨oc, od, .func (PySem.W.fnOf x x (defArgs st) (defBody st) (defScope st) .none kV doc pm an cdv ct), osl⟩)
    (c : PySem.W.codeIn K cdv x = true) (k : PySem.W.keepIn K (.ref f) = true) : DefG K x st f := ⟨a, ⟨_, fun_mk l c k⟩, k⟩
structure MetG (K : PySem.W.Frag) (C : Addr) (m qual : Str) (st : Stmt) (f : Addr) : Prop where
  at_ : PySem.W.findIn K (.ref C) m = some (some (.ref f))
  fn : PySem.W.isFn K (.ref f) = true
  ex : ∃ fd, Fun K m qual st f fd
  kp : PySem.W.keepIn K (.ref f) = true
theorem metG {C : Addr} {m qual : Str} {st : Stmt} {f : Addr} {oc : Value} {od an : Option Addr} {osl : Array (Option Value)} {kV doc pm cdv ct : Value} (a : PySem.W.findIn K (.ref C) m = some (some (.ref f))) (i : PySem.W.isFn K (.ref f) = true) (l : K.lookup f = some ⟨oc, od, .func (PySem.W.fnOf m qual (defArgs st) (defBody st) (defScope st) .none kV doc pm an cdv ct), osl⟩)
    (c : PySem.W.codeIn K cdv qual = true) (k : PySem.W.keepIn K (.ref f) = true) : MetG K C m qual st f := ⟨a, i, ⟨_, fun_mk l c k⟩, k⟩
structure ClsG (K : PySem.W.Frag) (x : Str) (C : Addr) : Prop where
  at_ : PySem.W.nsIn K mainGlobals x = some (some (.ref C))
  cl : Cls K C
  makes : PySem.W.makesIn K C = true
  kp : PySem.W.keepIn K (.ref C) = true
theorem clsG {x : Str} {C : Addr} (a : PySem.W.nsIn K mainGlobals x = some (some (.ref C))) (pg : PySem.W.plainGet K C Str.empty = true) (hd : PySem.W.hasDictIn K C = true) (po : PySem.W.plainOver K C = true) (sa : PySem.W.findIn K (.ref C) "__setattr__" = some (some (.builtin "object.__setattr__"))) (mk : PySem.W.makesIn K C = true) (kc : PySem.W.keepIn K (.ref C) = true) : ClsG K x C := ⟨a, ⟨pg, hd, po, sa⟩, mk, kc⟩
theorem DefG.cal {x : Str} {st : Stmt} {f : Addr} {k : Nat} {ps : List Str} {sp : Sp} (d : DefG K x st f) (m : mg x = some (.ref f)) (hb : ∀ (kV doc pm : Value) (an : Option Addr) (cdv ct : Value) (us : List Value), us.length = ps.length → bindArgs (PySem.W.fnOf x x (defArgs st) (defBody st) (defScope st) .none kV doc pm an cdv ct) ⟨us, []⟩ = pure (ps.zip us))
    (ok : ∀ fd, Fun K x x st f fd → FnOk P w K mg base CX0 k f fd ps sp) : Cal P w K mg base k x sp := by
  obtain ⟨fd, F⟩ := d.ex
  exact ⟨f, fd, ps, ok fd F, m, d.kp, F.binds hb⟩
theorem DefG.calAt {x : Str} {st : Stmt} {f : Addr} {k : Nat} {ps : List Str} {sp : Sp} (d : DefG K x st f) (hb : ∀ (kV doc pm : Value) (an : Option Addr) (cdv ct : Value) (us : List Value), us.length = ps.length → bindArgs (PySem.W.fnOf x x (defArgs st) (defBody st) (defScope st) .none kV doc pm an cdv ct) ⟨us, []⟩ = pure (ps.zip us))
    (ok : ∀ fd, Fun K x x st f fd → FnOk P w K mg base CX0 k f fd ps sp) : CalAt P w K mg base k f sp := by
  obtain ⟨fd, F⟩ := d.ex
  exact ⟨fd, ps, ok fd F, d.kp, F.binds hb⟩
theorem MetG.met {C : Addr} {m qual : Str} {st : Stmt} {f : Addr} {k : Nat} {ps : List Str} {sp : Sp} (d : MetG K C m qual st f) (c : Cls K C) (hb : ∀ (kV doc pm : Value) (an : Option Addr) (cdv ct : Value) (us : List Value), us.length = ps.length → bindArgs (PySem.W.fnOf m qual (defArgs st) (defBody st) (defScope st) .none kV doc pm an cdv ct) ⟨us, []⟩ = pure (ps.zip us))
    (ok : ∀ fd, Fun K m qual st f fd → FnOk P w K mg base CX0 k f fd ps sp) : Met P w K mg base k C m sp := by
  obtain ⟨fd, F⟩ := d.ex
  exact ⟨f, fd, ps, c, ⟨d.at_, d.fn, d.kp⟩, ok fd F, F.binds hb⟩
theorem MetG.mak {C : Addr} {x qual : Str} {st : Stmt} {f : Addr} {k : Nat} {ps : List Str} {sp : Sp} (d : MetG K C "__init__" qual st f) (g : ClsG K x C) (m : mg x = some (.ref C)) (hb : ∀ (kV doc pm : Value) (an : Option Addr) (cdv ct : Value) (us : List Value), us.length = ps.length → bindArgs (PySem.W.fnOf "__init__" qual (defArgs st) (defBody st) (defScope st) .none kV doc pm an cdv ct) ⟨us, []⟩ = pure (ps.zip us))
    (ok : ∀ fd, Fun K "__init__" qual st f fd → FnOk P w K mg base CX0 k f fd ps sp) : Mak P w K mg base k x C sp := by
  obtain ⟨fd, F⟩ := d.ex
  exact ⟨f, fd, ps, ⟨g.makes, d.at_, d.fn, g.kp⟩, ok fd F, m, F.binds hb⟩
theorem all_mk {h : Heap} {fa C_Merged C_State C_Reader tp f_Merged_init f_State_init f_Reader_init f_has_version f_is_full f_is_at_none f_first_document f_add_version f_at_end f_take_number f_take_list f_take_lists f_fits f_forebears_of f_nearest_in_common f_most_kept f_way_between f_kept_places f_added_lines f_standing_fast f_settled f_merged_from f_unfit f_missing f_clashing f_full f_origins_of f_is_branch f_counted f_each_line f_counted_lines f_refused_ahead f_make_merged f_answer_call f_answers f_answer_commit f_answer_branch f_answer_drop f_answer_head f_answer_doc f_answer_parents f_answer_log f_answer_common f_answer_way f_answer_merge f_answer_pick f_answer_undo f_answer_try f_answer_origins f_answer_count : Addr} {t_MOST_LINES t_MOST_BYTES t_KEPT t_DROPPED t_ADDED t_MOST_VERSIONS t_BRANCHES : Tok} {od : Option Addr} {nn : Nat} {osl : Array (Option Value)} (X : K.In h) (G : h.Ns mainGlobals mg) (hfa : mg "answers" = some (.ref fa))
    (g_Merged : ClsG K "Merged" C_Merged)
    (g_State : ClsG K "State" C_State)
    (g_Reader : ClsG K "Reader" C_Reader)
    (n_Merged_clashes : PySem.W.findIn K (.ref C_Merged) "clashes" = some none)
    (n_Merged_document : PySem.W.findIn K (.ref C_Merged) "document" = some none)
    (n_State_documents : PySem.W.findIn K (.ref C_State) "documents" = some none)
    (n_State_parents : PySem.W.findIn K (.ref C_State) "parents" = some none)
    (n_State_origins : PySem.W.findIn K (.ref C_State) "origins" = some none)
    (n_State_heads : PySem.W.findIn K (.ref C_State) "heads" = some none)
    (n_Reader_numbers : PySem.W.findIn K (.ref C_Reader) "numbers" = some none)
    (n_Reader_place : PySem.W.findIn K (.ref C_Reader) "place" = some none)
    (v_MOST_LINES : PySem.W.nsIn K mainGlobals "MOST_LINES" = some (some (.int 64 t_MOST_LINES)))
    (v_MOST_BYTES : PySem.W.nsIn K mainGlobals "MOST_BYTES" = some (some (.int 64 t_MOST_BYTES)))
    (v_KEPT : PySem.W.nsIn K mainGlobals "KEPT" = some (some (.int 0 t_KEPT)))
    (v_DROPPED : PySem.W.nsIn K mainGlobals "DROPPED" = some (some (.int 1 t_DROPPED)))
    (v_ADDED : PySem.W.nsIn K mainGlobals "ADDED" = some (some (.int 2 t_ADDED)))
    (v_MOST_VERSIONS : PySem.W.nsIn K mainGlobals "MOST_VERSIONS" = some (some (.int 128 t_MOST_VERSIONS)))
    (v_BRANCHES : PySem.W.nsIn K mainGlobals "BRANCHES" = some (some (.int 8 t_BRANCHES)))
    (b_len : PySem.W.nsIn K mainGlobals "len" = some none)
    (b_all : PySem.W.nsIn K mainGlobals "all" = some none)
    (b_max : PySem.W.nsIn K mainGlobals "max" = some none)
    (b_range : PySem.W.nsIn K mainGlobals "range" = some none)
    (b_reversed : PySem.W.nsIn K mainGlobals "reversed" = some none)
    (d_Merged_init : MetG K C_Merged "__init__" "Merged.__init__" s_Merged_init f_Merged_init)
    (d_State_init : MetG K C_State "__init__" "State.__init__" s_State_init f_State_init)
    (d_has_version : MetG K C_State "has_version" "State.has_version" s_State_has_version f_has_version)
    (d_is_full : MetG K C_State "is_full" "State.is_full" s_State_is_full f_is_full)
    (d_is_at_none : MetG K C_State "is_at_none" "State.is_at_none" s_State_is_at_none f_is_at_none)
    (d_first_document : MetG K C_State "first_document" "State.first_document" s_State_first_document f_first_document)
    (d_add_version : MetG K C_State "add_version" "State.add_version" s_State_add_version f_add_version)
    (d_Reader_init : MetG K C_Reader "__init__" "Reader.__init__" s_Reader_init f_Reader_init)
    (d_at_end : MetG K C_Reader "at_end" "Reader.at_end" s_Reader_at_end f_at_end)
    (d_take_number : MetG K C_Reader "take_number" "Reader.take_number" s_Reader_take_number f_take_number)
    (d_take_list : MetG K C_Reader "take_list" "Reader.take_list" s_Reader_take_list f_take_list)
    (d_take_lists : MetG K C_Reader "take_lists" "Reader.take_lists" s_Reader_take_lists f_take_lists)
    (d_fits : DefG K "fits" s_fits f_fits)
    (d_forebears_of : DefG K "forebears_of" s_forebears_of f_forebears_of)
    (d_nearest_in_common : DefG K "nearest_in_common" s_nearest_in_common f_nearest_in_common)
    (d_most_kept : DefG K "most_kept" s_most_kept f_most_kept)
    (d_way_between : DefG K "way_between" s_way_between f_way_between)
    (d_kept_places : DefG K "kept_places" s_kept_places f_kept_places)
    (d_added_lines : DefG K "added_lines" s_added_lines f_added_lines)
    (d_standing_fast : DefG K "standing_fast" s_standing_fast f_standing_fast)
    (d_settled : DefG K "settled" s_settled f_settled)
    (d_merged_from : DefG K "merged_from" s_merged_from f_merged_from)
    (d_unfit : DefG K "unfit" s_unfit f_unfit)
    (d_missing : DefG K "missing" s_missing f_missing)
    (d_clashing : DefG K "clashing" s_clashing f_clashing)
    (d_full : DefG K "full" s_full f_full)
    (d_origins_of : DefG K "origins_of" s_origins_of f_origins_of)
    (d_is_branch : DefG K "is_branch" s_is_branch f_is_branch)
    (d_counted : DefG K "counted" s_counted f_counted)
    (d_each_line : DefG K "each_line" s_each_line f_each_line)
    (d_counted_lines : DefG K "counted_lines" s_counted_lines f_counted_lines)
    (d_refused_ahead : DefG K "refused_ahead" s_refused_ahead f_refused_ahead)
    (d_make_merged : DefG K "make_merged" s_make_merged f_make_merged)
    (d_answer_call : DefG K "answer_call" s_answer_call f_answer_call)
    (d_answers : DefG K "answers" s_answers f_answers)
    (d_answer_commit : DefG K "answer_commit" s_answer_commit f_answer_commit)
    (d_answer_branch : DefG K "answer_branch" s_answer_branch f_answer_branch)
    (d_answer_drop : DefG K "answer_drop" s_answer_drop f_answer_drop)
    (d_answer_head : DefG K "answer_head" s_answer_head f_answer_head)
    (d_answer_doc : DefG K "answer_doc" s_answer_doc f_answer_doc)
    (d_answer_parents : DefG K "answer_parents" s_answer_parents f_answer_parents)
    (d_answer_log : DefG K "answer_log" s_answer_log f_answer_log)
    (d_answer_common : DefG K "answer_common" s_answer_common f_answer_common)
    (d_answer_way : DefG K "answer_way" s_answer_way f_answer_way)
    (d_answer_merge : DefG K "answer_merge" s_answer_merge f_answer_merge)
    (d_answer_pick : DefG K "answer_pick" s_answer_pick f_answer_pick)
    (d_answer_undo : DefG K "answer_undo" s_answer_undo f_answer_undo)
    (d_answer_try : DefG K "answer_try" s_answer_try f_answer_try)
    (d_answer_origins : DefG K "answer_origins" s_answer_origins f_answer_origins)
    (d_answer_count : DefG K "answer_count" s_answer_count f_answer_count)
    (a_CALLS : PySem.W.nsIn K mainGlobals "CALLS" = some (some (.ref tp)))
    (l_CALLS : K.lookup tp = some ⟨.type "tuple", od, .seq #[.ref f_answer_commit, .ref f_answer_branch, .ref f_answer_drop, .ref f_answer_head, .ref f_answer_doc, .ref f_answer_parents, .ref f_answer_log, .ref f_answer_common, .ref f_answer_way, .ref f_answer_merge, .ref f_answer_pick, .ref f_answer_undo, .ref f_answer_try, .ref f_answer_origins, .ref f_answer_count] nn, osl⟩) :
    ∃ fd : FuncData, (∀ (s : Shared) (us : List Value), us.length = (["calls"] : List Str).length → BindsTo s fd ⟨us, []⟩ ((["calls"] : List Str).zip us)) ∧ ∀ base : Heap, K.In base → base.Ns mainGlobals mg → FnOk P w K mg base CX0 8 fa fd ["calls"] (spAnswers K) := by
  have e := hfa.symm.trans (PySem.W.mg_of X G d_answers.at_)
  cases e
  have T : Txt mg := ⟨⟨_, PySem.W.mg_of X G v_MOST_LINES⟩, ⟨_, PySem.W.mg_of X G v_MOST_BYTES⟩, ⟨_, PySem.W.mg_of X G v_KEPT⟩, ⟨_, PySem.W.mg_of X G v_DROPPED⟩, ⟨_, PySem.W.mg_of X G v_ADDED⟩, ⟨_, PySem.W.mg_of X G v_MOST_VERSIONS⟩, ⟨_, PySem.W.mg_of X G v_BRANCHES⟩, PySem.W.mg_none_of X G b_len, PySem.W.mg_none_of X G b_all, PySem.W.mg_none_of X G b_max, PySem.W.mg_none_of X G b_range, PySem.W.mg_none_of X G b_reversed⟩
  have TM : TxM K C_Merged := ⟨g_Merged.cl, n_Merged_clashes, n_Merged_document⟩
  have TS : TxS K C_State := ⟨g_State.cl, n_State_documents, n_State_parents, n_State_origins, n_State_heads⟩
  have TR : TxR K C_Reader := ⟨g_Reader.cl, n_Reader_numbers, n_Reader_place⟩
  have gCALLS := PySem.W.mg_of X G a_CALLS
  have hT : ∀ H, SqT K H tp (([f_answer_commit, f_answer_branch, f_answer_drop, f_answer_head, f_answer_doc, f_answer_parents, f_answer_log, f_answer_common, f_answer_way, f_answer_merge, f_answer_pick, f_answer_undo, f_answer_try, f_answer_origins, f_answer_count] : List Addr).map V.ref) := fun H => .inr ⟨_, _, nn, l_CALLS, rfl, rfl, (by show 15 ≤ sizeLine; decide), (by exact .cons rfl (.cons rfl (.cons rfl (.cons rfl (.cons rfl (.cons rfl (.cons rfl (.cons rfl (.cons rfl (.cons rfl (.cons rfl (.cons rfl (.cons rfl (.cons rfl (.cons rfl (.nil))))))))))))))))⟩
  obtain ⟨fd0, F0⟩ := d_answers.ex
  refine ⟨fd0, ?_, fun base _ _ => ?_⟩
  · obtain ⟨oc, od', kV, doc, pm, an, cdv, ct, osl', rfl, lk, hcd⟩ := F0.ex
    exact fun s us hu => match us, hu with | [_], _ => .of_eq rfl
  have c_fits : Cal P w K mg base 1 "fits" spFits := d_fits.cal (PySem.W.mg_of X G d_fits.at_) (ps := ["document"]) (fun _ _ _ _ _ _ us hl => match us, hl with | [_], _ => rfl) (fun fd F => ok_fits T F)
  have c_unfit : Cal P w K mg base 1 "unfit" (spList [-1]) := d_unfit.cal (PySem.W.mg_of X G d_unfit.at_) (ps := []) (fun _ _ _ _ _ _ us hl => match us, hl with | [], _ => rfl) (fun fd F => ok_unfit F)
  have c_missing : Cal P w K mg base 1 "missing" (spList [-4]) := d_missing.cal (PySem.W.mg_of X G d_missing.at_) (ps := []) (fun _ _ _ _ _ _ us hl => match us, hl with | [], _ => rfl) (fun fd F => ok_missing F)
  have c_full : Cal P w K mg base 1 "full" (spList [-6]) := d_full.cal (PySem.W.mg_of X G d_full.at_) (ps := []) (fun _ _ _ _ _ _ us hl => match us, hl with | [], _ => rfl) (fun fd F => ok_full F)
  have c_clashing : Cal P w K mg base 1 "clashing" spClashing := d_clashing.cal (PySem.W.mg_of X G d_clashing.at_) (ps := ["clashes"]) (fun _ _ _ _ _ _ us hl => match us, hl with | [_], _ => rfl) (fun fd F => ok_clashing T F)
  have c_counted : Cal P w K mg base 1 "counted" spCounted := d_counted.cal (PySem.W.mg_of X G d_counted.at_) (ps := ["numbers"]) (fun _ _ _ _ _ _ us hl => match us, hl with | [_], _ => rfl) (fun fd F => ok_counted T F)
  have c_is_branch : Cal P w K mg base 1 "is_branch" spIsBranch := d_is_branch.cal (PySem.W.mg_of X G d_is_branch.at_) (ps := ["branch"]) (fun _ _ _ _ _ _ us hl => match us, hl with | [_], _ => rfl) (fun fd F => ok_is_branch T F)
  have c_each_line : Cal P w K mg base 1 "each_line" spEachLine := d_each_line.cal (PySem.W.mg_of X G d_each_line.at_) (ps := ["document"]) (fun _ _ _ _ _ _ us hl => match us, hl with | [_], _ => rfl) (fun fd F => ok_each_line T F)
  have c_counted_lines : Cal P w K mg base 2 "counted_lines" spCountedLines := d_counted_lines.cal (PySem.W.mg_of X G d_counted_lines.at_) (ps := ["document"]) (fun _ _ _ _ _ _ us hl => match us, hl with | [_], _ => rfl) (fun fd F => ok_counted_lines T F c_each_line)
  have c_kept_places : Cal P w K mg base 1 "kept_places" spKept := d_kept_places.cal (PySem.W.mg_of X G d_kept_places.at_) (ps := ["steps"]) (fun _ _ _ _ _ _ us hl => match us, hl with | [_], _ => rfl) (fun fd F => ok_kept_places T F)
  have c_added_lines : Cal P w K mg base 1 "added_lines" spAdded := d_added_lines.cal (PySem.W.mg_of X G d_added_lines.at_) (ps := ["steps", "b"]) (fun _ _ _ _ _ _ us hl => match us, hl with | [_, _], _ => rfl) (fun fd F => ok_added_lines T F)
  have c_most_kept : Cal P w K mg base 1 "most_kept" spMost := d_most_kept.cal (PySem.W.mg_of X G d_most_kept.at_) (ps := ["a", "b"]) (fun _ _ _ _ _ _ us hl => match us, hl with | [_, _], _ => rfl) (fun fd F => ok_most_kept T F)
  have c_way_between : Cal P w K mg base 2 "way_between" spWay := d_way_between.cal (PySem.W.mg_of X G d_way_between.at_) (ps := ["a", "b"]) (fun _ _ _ _ _ _ us hl => match us, hl with | [_, _], _ => rfl) (fun fd F => ok_way_between T F c_most_kept)
  have c_standing_fast : Cal P w K mg base 3 "standing_fast" spFast := d_standing_fast.cal (PySem.W.mg_of X G d_standing_fast.at_) (ps := ["o", "a", "b"]) (fun _ _ _ _ _ _ us hl => match us, hl with | [_, _, _], _ => rfl) (fun fd F => ok_standing_fast T F c_way_between c_kept_places)
  have c_settled : Cal P w K mg base 1 "settled" spSettled := d_settled.cal (PySem.W.mg_of X G d_settled.at_) (ps := ["of_o", "of_a", "of_b"]) (fun _ _ _ _ _ _ us hl => match us, hl with | [_, _, _], _ => rfl) (fun fd F => ok_settled T F)
  have c_Merged : Mak P w K mg base 1 "Merged" C_Merged (spMInit C_Merged) := d_Merged_init.mak g_Merged (PySem.W.mg_of X G g_Merged.at_) (ps := ["self"]) (fun _ _ _ _ _ _ us hl => match us, hl with | [_], _ => rfl) (fun fd F => ok_Merged_init TM F)
  have c_merged_from : Cal P w K mg base 4 "merged_from" (spMFrom C_Merged) := d_merged_from.cal (PySem.W.mg_of X G d_merged_from.at_) (ps := ["o", "a", "b"]) (fun _ _ _ _ _ _ us hl => match us, hl with | [_, _, _], _ => rfl) (fun fd F => ok_merged_from T TM F c_Merged c_standing_fast c_settled)
  have c_origins_of : Cal P w K mg base 3 "origins_of" spOrg := d_origins_of.cal (PySem.W.mg_of X G d_origins_of.at_) (ps := ["version", "documents", "parents", "origins"]) (fun _ _ _ _ _ _ us hl => match us, hl with | [_, _, _, _], _ => rfl) (fun fd F => ok_origins_of T F c_way_between c_kept_places)
  have c_forebears_of : Cal P w K mg base 1 "forebears_of" spFore := d_forebears_of.cal (PySem.W.mg_of X G d_forebears_of.at_) (ps := ["parents", "version"]) (fun _ _ _ _ _ _ us hl => match us, hl with | [_, _], _ => rfl) (fun fd F => ok_forebears_of T F)
  have c_nearest_in_common : Cal P w K mg base 2 "nearest_in_common" spNear := d_nearest_in_common.cal (PySem.W.mg_of X G d_nearest_in_common.at_) (ps := ["parents", "u", "v"]) (fun _ _ _ _ _ _ us hl => match us, hl with | [_, _, _], _ => rfl) (fun fd F => ok_nearest_in_common T F c_forebears_of)
  have c_State : Mak P w K mg base 1 "State" C_State (spSInit C_State) := d_State_init.mak g_State (PySem.W.mg_of X G g_State.at_) (ps := ["self"]) (fun _ _ _ _ _ _ us hl => match us, hl with | [_], _ => rfl) (fun fd F => ok_State_init T TS F)
  have c_has_version : Met P w K mg base 1 C_State "has_version" (spHas C_State) := d_has_version.met g_State.cl (ps := ["self", "version"]) (fun _ _ _ _ _ _ us hl => match us, hl with | [_, _], _ => rfl) (fun fd F => ok_State_has_version T TS F)
  have c_is_full : Met P w K mg base 1 C_State "is_full" (spFull C_State) := d_is_full.met g_State.cl (ps := ["self"]) (fun _ _ _ _ _ _ us hl => match us, hl with | [_], _ => rfl) (fun fd F => ok_State_is_full T TS F)
  have c_is_at_none : Met P w K mg base 1 C_State "is_at_none" (spNone C_State) := d_is_at_none.met g_State.cl (ps := ["self", "branch"]) (fun _ _ _ _ _ _ us hl => match us, hl with | [_, _], _ => rfl) (fun fd F => ok_State_is_at_none T TS F)
  have c_first_document : Met P w K mg base 1 C_State "first_document" (spFirst C_State) := d_first_document.met g_State.cl (ps := ["self", "versions"]) (fun _ _ _ _ _ _ us hl => match us, hl with | [_, _], _ => rfl) (fun fd F => ok_State_first_document T TS F)
  have c_add_version : Met P w K mg base 4 C_State "add_version" (spAddV C_State) := d_add_version.met g_State.cl (ps := ["self", "branch", "document", "parents"]) (fun _ _ _ _ _ _ us hl => match us, hl with | [_, _, _, _], _ => rfl) (fun fd F => ok_State_add_version T TS F c_origins_of)
  have c_refused_ahead : Cal P w K mg base 2 "refused_ahead" (spRefA C_State) := d_refused_ahead.cal (PySem.W.mg_of X G d_refused_ahead.at_) (ps := ["state", "branch", "version"]) (fun _ _ _ _ _ _ us hl => match us, hl with | [_, _, _], _ => rfl) (fun fd F => ok_refused_ahead T F c_is_branch c_unfit c_missing c_has_version c_is_at_none)
  have c_make_merged : Cal P w K mg base 5 "make_merged" (spMk C_State) := d_make_merged.cal (PySem.W.mg_of X G d_make_merged.at_) (ps := ["state", "branch", "o", "b", "more_parents"]) (fun _ _ _ _ _ _ us hl => match us, hl with | [_, _, _, _, _], _ => rfl) (fun fd F => ok_make_merged T TS TM F c_full c_fits c_merged_from c_clashing c_is_full c_add_version)
  have c_Reader : Mak P w K mg base 1 "Reader" C_Reader (spRInit C_Reader) := d_Reader_init.mak g_Reader (PySem.W.mg_of X G g_Reader.at_) (ps := ["self", "numbers"]) (fun _ _ _ _ _ _ us hl => match us, hl with | [_, _], _ => rfl) (fun fd F => ok_Reader_init TR F)
  have c_at_end : Met P w K mg base 1 C_Reader "at_end" (spAtEnd K C_Reader) := d_at_end.met g_Reader.cl (ps := ["self"]) (fun _ _ _ _ _ _ us hl => match us, hl with | [_], _ => rfl) (fun fd F => ok_Reader_at_end T TR F)
  have c_take_number : Met P w K mg base 1 C_Reader "take_number" (spTakeN K C_Reader) := d_take_number.met g_Reader.cl (ps := ["self"]) (fun _ _ _ _ _ _ us hl => match us, hl with | [_], _ => rfl) (fun fd F => ok_Reader_take_number T TR F)
  have c_take_list : Met P w K mg base 2 C_Reader "take_list" (spTakeL K C_Reader) := d_take_list.met g_Reader.cl (ps := ["self"]) (fun _ _ _ _ _ _ us hl => match us, hl with | [_], _ => rfl) (fun fd F => ok_Reader_take_list T TR F c_take_number)
  have c_take_lists : Met P w K mg base 3 C_Reader "take_lists" (spTakeLs K C_Reader) := d_take_lists.met g_Reader.cl (ps := ["self"]) (fun _ _ _ _ _ _ us hl => match us, hl with | [_], _ => rfl) (fun fd F => ok_Reader_take_lists T TR F c_take_number c_take_list)
  have q_commit : CalAt P w K mg base 6 f_answer_commit (spAns C_State 0) := d_answer_commit.calAt (ps := ["state", "numbers", "lists"]) (fun _ _ _ _ _ _ us hl => match us, hl with | [_, _, _], _ => rfl) (fun fd F => ok_answer_commit T TS F c_is_branch c_fits c_unfit c_full c_is_full c_is_at_none c_add_version)
  have q_branch : CalAt P w K mg base 6 f_answer_branch (spAns C_State 1) := d_answer_branch.calAt (ps := ["state", "numbers", "lists"]) (fun _ _ _ _ _ _ us hl => match us, hl with | [_, _, _], _ => rfl) (fun fd F => ok_answer_branch T TS F c_is_branch c_unfit c_missing c_has_version)
  have q_drop : CalAt P w K mg base 6 f_answer_drop (spAns C_State 2) := d_answer_drop.calAt (ps := ["state", "numbers", "lists"]) (fun _ _ _ _ _ _ us hl => match us, hl with | [_, _, _], _ => rfl) (fun fd F => ok_answer_drop T TS F c_is_branch c_unfit c_missing c_is_at_none)
  have q_head : CalAt P w K mg base 6 f_answer_head (spAns C_State 3) := d_answer_head.calAt (ps := ["state", "numbers", "lists"]) (fun _ _ _ _ _ _ us hl => match us, hl with | [_, _, _], _ => rfl) (fun fd F => ok_answer_head T TS F c_is_branch c_unfit c_missing c_is_at_none)
  have q_doc : CalAt P w K mg base 6 f_answer_doc (spAns C_State 4) := d_answer_doc.calAt (ps := ["state", "numbers", "lists"]) (fun _ _ _ _ _ _ us hl => match us, hl with | [_, _, _], _ => rfl) (fun fd F => ok_answer_doc T TS F c_missing c_counted_lines c_has_version)
  have q_parents : CalAt P w K mg base 6 f_answer_parents (spAns C_State 5) := d_answer_parents.calAt (ps := ["state", "numbers", "lists"]) (fun _ _ _ _ _ _ us hl => match us, hl with | [_, _, _], _ => rfl) (fun fd F => ok_answer_parents T TS F c_missing c_counted c_has_version)
  have q_log : CalAt P w K mg base 6 f_answer_log (spAns C_State 6) := d_answer_log.calAt (ps := ["state", "numbers", "lists"]) (fun _ _ _ _ _ _ us hl => match us, hl with | [_, _, _], _ => rfl) (fun fd F => ok_answer_log T TS F c_missing c_counted c_forebears_of c_has_version)
  have q_common : CalAt P w K mg base 6 f_answer_common (spAns C_State 7) := d_answer_common.calAt (ps := ["state", "numbers", "lists"]) (fun _ _ _ _ _ _ us hl => match us, hl with | [_, _, _], _ => rfl) (fun fd F => ok_answer_common T TS F c_missing c_counted c_nearest_in_common c_has_version)
  have q_way : CalAt P w K mg base 6 f_answer_way (spAns C_State 8) := d_answer_way.calAt (ps := ["state", "numbers", "lists"]) (fun _ _ _ _ _ _ us hl => match us, hl with | [_, _, _], _ => rfl) (fun fd F => ok_answer_way T TS F c_missing c_way_between c_each_line c_added_lines c_kept_places c_has_version)
  have q_merge : CalAt P w K mg base 6 f_answer_merge (spAns C_State 9) := d_answer_merge.calAt (ps := ["state", "numbers", "lists"]) (fun _ _ _ _ _ _ us hl => match us, hl with | [_, _, _], _ => rfl) (fun fd F => ok_answer_merge T TS F c_refused_ahead c_forebears_of c_nearest_in_common c_make_merged c_first_document)
  have q_pick : CalAt P w K mg base 6 f_answer_pick (spAns C_State 10) := d_answer_pick.calAt (ps := ["state", "numbers", "lists"]) (fun _ _ _ _ _ _ us hl => match us, hl with | [_, _, _], _ => rfl) (fun fd F => ok_answer_pick T TS F c_refused_ahead c_make_merged c_first_document)
  have q_undo : CalAt P w K mg base 6 f_answer_undo (spAns C_State 11) := d_answer_undo.calAt (ps := ["state", "numbers", "lists"]) (fun _ _ _ _ _ _ us hl => match us, hl with | [_, _, _], _ => rfl) (fun fd F => ok_answer_undo T TS F c_refused_ahead c_make_merged c_first_document)
  have q_try : CalAt P w K mg base 6 f_answer_try (spAns C_State 12) := d_answer_try.calAt (ps := ["state", "numbers", "lists"]) (fun _ _ _ _ _ _ us hl => match us, hl with | [_, _, _], _ => rfl) (fun fd F => ok_answer_try T TM F c_unfit c_full c_fits c_merged_from c_clashing c_counted_lines)
  have q_origins : CalAt P w K mg base 6 f_answer_origins (spAns C_State 13) := d_answer_origins.calAt (ps := ["state", "numbers", "lists"]) (fun _ _ _ _ _ _ us hl => match us, hl with | [_, _, _], _ => rfl) (fun fd F => ok_answer_origins T TS F c_missing c_counted c_has_version)
  have q_count : CalAt P w K mg base 6 f_answer_count (spAns C_State 14) := d_answer_count.calAt (ps := ["state", "numbers", "lists"]) (fun _ _ _ _ _ _ us hl => match us, hl with | [_, _, _], _ => rfl) (fun fd F => ok_answer_count T TS F)
  have hF : ∀ (i : Nat) (f : Addr), ([f_answer_commit, f_answer_branch, f_answer_drop, f_answer_head, f_answer_doc, f_answer_parents, f_answer_log, f_answer_common, f_answer_way, f_answer_merge, f_answer_pick, f_answer_undo, f_answer_try, f_answer_origins, f_answer_count] : List Addr)[i]? = some f → CalAt P w K mg base 6 f (spAns C_State (i : Int)) := fun i f hi => match i, hi with
    | 0, hi => (Option.some.inj hi) ▸ q_commit
    | 1, hi => (Option.some.inj hi) ▸ q_branch
    | 2, hi => (Option.some.inj hi) ▸ q_drop
    | 3, hi => (Option.some.inj hi) ▸ q_head
    | 4, hi => (Option.some.inj hi) ▸ q_doc
    | 5, hi => (Option.some.inj hi) ▸ q_parents
    | 6, hi => (Option.some.inj hi) ▸ q_log
    | 7, hi => (Option.some.inj hi) ▸ q_common
    | 8, hi => (Option.some.inj hi) ▸ q_way
    | 9, hi => (Option.some.inj hi) ▸ q_merge
    | 10, hi => (Option.some.inj hi) ▸ q_pick
    | 11, hi => (Option.some.inj hi) ▸ q_undo
    | 12, hi => (Option.some.inj hi) ▸ q_try
    | 13, hi => (Option.some.inj hi) ▸ q_origins
    | 14, hi => (Option.some.inj hi) ▸ q_count
    | i + 15, hi => by simp at hi
  have c_answer_call : Cal P w K mg base 7 "answer_call" (spAny C_State) := d_answer_call.cal (PySem.W.mg_of X G d_answer_call.at_) (ps := ["state", "number", "numbers", "lists"]) (fun _ _ _ _ _ _ us hl => match us, hl with | [_, _, _, _], _ => rfl) (fun fd F => ok_answer_call T gCALLS hT rfl hF F)
  exact ok_answers T F0 c_Reader c_State c_answer_call c_at_end c_take_number c_take_list c_take_lists

end
end Tb

open PySem PySem.W PyProof.Rows
set_option maxRecDepth 100000 in
set_option maxHeartbeats 8000000 in
theorem PySem.Challenge.cw_textbranches_s01_answers_holds : PySem.Challenge.rw_textbranches_s01_answers.Holds := by
  w_on; k_headS; (case hw => exact ⟨[.list [.int 14, .int 0, .int 0]], by decide +kernel, by decide +kernel⟩)
  k_fillS
  refine L2.walk_specK (r := PySem.Challenge.rw_textbranches_s01_answers) (k := 8) (CX := L2.CX0) (ps := ["calls"]) (sp := Tb.spAnswers) (by decide +kernel) rfl rfl ⟨rfl, by decide, by decide⟩ (fun w h Y => PySem.W.kIn_of Y) ?F ?S (fun _ _ _ _ z => z)
  case F =>
    intro w mg fa h Y KX G hmg
    refine' Tb.all_mk KX G hmg ?g_Merged ?g_State ?g_Reader ?n_Merged_clashes ?n_Merged_document ?n_State_documents ?n_State_parents ?n_State_origins ?n_State_heads ?n_Reader_numbers ?n_Reader_place ?v_MOST_LINES ?v_MOST_BYTES ?v_KEPT ?v_DROPPED ?v_ADDED ?v_MOST_VERSIONS ?v_BRANCHES ?b_len ?b_all ?b_max ?b_range ?b_reversed ?d_Merged_init ?d_State_init ?d_has_version ?d_is_full ?d_is_at_none ?d_first_document ?d_add_version ?d_Reader_init ?d_at_end ?d_take_number ?d_take_list ?d_take_lists ?d_fits ?d_forebears_of ?d_nearest_in_common ?d_most_kept ?d_way_between ?d_kept_places ?d_added_lines ?d_standing_fast ?d_settled ?d_merged_from ?d_unfit ?d_missing ?d_clashing ?d_full ?d_origins_of ?d_is_branch ?d_counted ?d_each_line ?d_counted_lines ?d_refused_ahead ?d_make_merged ?d_answer_call ?d_answers ?d_answer_commit ?d_answer_branch ?d_answer_drop ?d_answer_head ?d_answer_doc ?d_answer_parents ?d_answer_log ?d_answer_common ?d_answer_way ?d_answer_merge ?d_answer_pick ?d_answer_undo ?d_answer_try ?d_answer_origins ?d_answer_count ?a_CALLS ?l_CALLS
    (case g_Merged => (refine' Tb.clsG ?a ?pg ?hd ?po ?sa ?mk ?kc; (case a => k_is); (case pg => k_is); (case hd => k_is); (case po => k_is); (case sa => k_is); (case mk => k_is); (case kc => k_is)))
    (case g_State => (refine' Tb.clsG ?a ?pg ?hd ?po ?sa ?mk ?kc; (case a => k_is); (case pg => k_is); (case hd => k_is); (case po => k_is); (case sa => k_is); (case mk => k_is); (case kc => k_is)))
    (case g_Reader => (refine' Tb.clsG ?a ?pg ?hd ?po ?sa ?mk ?kc; (case a => k_is); (case pg => k_is); (case hd => k_is); (case po => k_is); (case sa => k_is); (case mk => k_is); (case kc => k_is)))
    (case n_Merged_clashes => k_is)
    (case n_Merged_document => k_is)
    (case n_State_documents => k_is)
    (case n_State_parents => k_is)
    (case n_State_origins => k_is)
    (case n_State_heads => k_is)
    (case n_Reader_numbers => k_is)
    (case n_Reader_place => k_is)
    (case v_MOST_LINES => k_is)
    (case v_MOST_BYTES => k_is)
    (case v_KEPT => k_is)
    (case v_DROPPED => k_is)
    (case v_ADDED => k_is)
    (case v_MOST_VERSIONS => k_is)
    (case v_BRANCHES => k_is)
    (case b_len => k_is)
    (case b_all => k_is)
    (case b_max => k_is)
    (case b_range => k_is)
    (case b_reversed => k_is)
    (case d_Merged_init => (refine' Tb.metG ?a ?i ?l ?c ?k; (case a => k_is); (case i => k_is); (case l => k_is); (case c => k_is); (case k => k_is)))
    (case d_State_init => (refine' Tb.metG ?a ?i ?l ?c ?k; (case a => k_is); (case i => k_is); (case l => k_is); (case c => k_is); (case k => k_is)))
    (case d_has_version => (refine' Tb.metG ?a ?i ?l ?c ?k; (case a => k_is); (case i => k_is); (case l => k_is); (case c => k_is); (case k => k_is)))
    (case d_is_full => (refine' Tb.metG ?a ?i ?l ?c ?k; (case a => k_is); (case i => k_is); (case l => k_is); (case c => k_is); (case k => k_is)))
    (case d_is_at_none => (refine' Tb.metG ?a ?i ?l ?c ?k; (case a => k_is); (case i => k_is); (case l => k_is); (case c => k_is); (case k => k_is)))
    (case d_first_document => (refine' Tb.metG ?a ?i ?l ?c ?k; (case a => k_is); (case i => k_is); (case l => k_is); (case c => k_is); (case k => k_is)))
    (case d_add_version => (refine' Tb.metG ?a ?i ?l ?c ?k; (case a => k_is); (case i => k_is); (case l => k_is); (case c => k_is); (case k => k_is)))
    (case d_Reader_init => (refine' Tb.metG ?a ?i ?l ?c ?k; (case a => k_is); (case i => k_is); (case l => k_is); (case c => k_is); (case k => k_is)))
    (case d_at_end => (refine' Tb.metG ?a ?i ?l ?c ?k; (case a => k_is); (case i => k_is); (case l => k_is); (case c => k_is); (case k => k_is)))
    (case d_take_number => (refine' Tb.metG ?a ?i ?l ?c ?k; (case a => k_is); (case i => k_is); (case l => k_is); (case c => k_is); (case k => k_is)))
    (case d_take_list => (refine' Tb.metG ?a ?i ?l ?c ?k; (case a => k_is); (case i => k_is); (case l => k_is); (case c => k_is); (case k => k_is)))
    (case d_take_lists => (refine' Tb.metG ?a ?i ?l ?c ?k; (case a => k_is); (case i => k_is); (case l => k_is); (case c => k_is); (case k => k_is)))
    (case d_fits => (refine' Tb.defG ?a ?l ?c ?k; (case a => k_is); (case l => k_is); (case c => k_is); (case k => k_is)))
    (case d_forebears_of => (refine' Tb.defG ?a ?l ?c ?k; (case a => k_is); (case l => k_is); (case c => k_is); (case k => k_is)))
    (case d_nearest_in_common => (refine' Tb.defG ?a ?l ?c ?k; (case a => k_is); (case l => k_is); (case c => k_is); (case k => k_is)))
    (case d_most_kept => (refine' Tb.defG ?a ?l ?c ?k; (case a => k_is); (case l => k_is); (case c => k_is); (case k => k_is)))
    (case d_way_between => (refine' Tb.defG ?a ?l ?c ?k; (case a => k_is); (case l => k_is); (case c => k_is); (case k => k_is)))
    (case d_kept_places => (refine' Tb.defG ?a ?l ?c ?k; (case a => k_is); (case l => k_is); (case c => k_is); (case k => k_is)))
    (case d_added_lines => (refine' Tb.defG ?a ?l ?c ?k; (case a => k_is); (case l => k_is); (case c => k_is); (case k => k_is)))
    (case d_standing_fast => (refine' Tb.defG ?a ?l ?c ?k; (case a => k_is); (case l => k_is); (case c => k_is); (case k => k_is)))
    (case d_settled => (refine' Tb.defG ?a ?l ?c ?k; (case a => k_is); (case l => k_is); (case c => k_is); (case k => k_is)))
    (case d_merged_from => (refine' Tb.defG ?a ?l ?c ?k; (case a => k_is); (case l => k_is); (case c => k_is); (case k => k_is)))
    (case d_unfit => (refine' Tb.defG ?a ?l ?c ?k; (case a => k_is); (case l => k_is); (case c => k_is); (case k => k_is)))
    (case d_missing => (refine' Tb.defG ?a ?l ?c ?k; (case a => k_is); (case l => k_is); (case c => k_is); (case k => k_is)))
    (case d_clashing => (refine' Tb.defG ?a ?l ?c ?k; (case a => k_is); (case l => k_is); (case c => k_is); (case k => k_is)))
    (case d_full => (refine' Tb.defG ?a ?l ?c ?k; (case a => k_is); (case l => k_is); (case c => k_is); (case k => k_is)))
    (case d_origins_of => (refine' Tb.defG ?a ?l ?c ?k; (case a => k_is); (case l => k_is); (case c => k_is); (case k => k_is)))
    (case d_is_branch => (refine' Tb.defG ?a ?l ?c ?k; (case a => k_is); (case l => k_is); (case c => k_is); (case k => k_is)))
    (case d_counted => (refine' Tb.defG ?a ?l ?c ?k; (case a => k_is); (case l => k_is); (case c => k_is); (case k => k_is)))
    (case d_each_line => (refine' Tb.defG ?a ?l ?c ?k; (case a => k_is); (case l => k_is); (case c => k_is); (case k => k_is)))
    (case d_counted_lines => (refine' Tb.defG ?a ?l ?c ?k; (case a => k_is); (case l => k_is); (case c => k_is); (case k => k_is)))
    (case d_refused_ahead => (refine' Tb.defG ?a ?l ?c ?k; (case a => k_is); (case l => k_is); (case c => k_is); (case k => k_is)))
    (case d_make_merged => (refine' Tb.defG ?a ?l ?c ?k; (case a => k_is); (case l => k_is); (case c => k_is); (case k => k_is)))
    (case d_answer_call => (refine' Tb.defG ?a ?l ?c ?k; (case a => k_is); (case l => k_is); (case c => k_is); (case k => k_is)))
    (case d_answers => (refine' Tb.defG ?a ?l ?c ?k; (case a => k_is); (case l => k_is); (case c => k_is); (case k => k_is)))
    (case d_answer_commit => (refine' Tb.defG ?a ?l ?c ?k; (case a => k_is); (case l => k_is); (case c => k_is); (case k => k_is)))
    (case d_answer_branch => (refine' Tb.defG ?a ?l ?c ?k; (case a => k_is); (case l => k_is); (case c => k_is); (case k => k_is)))
    (case d_answer_drop => (refine' Tb.defG ?a ?l ?c ?k; (case a => k_is); (case l => k_is); (case c => k_is); (case k => k_is)))
    (case d_answer_head => (refine' Tb.defG ?a ?l ?c ?k; (case a => k_is); (case l => k_is); (case c => k_is); (case k => k_is)))
    (case d_answer_doc => (refine' Tb.defG ?a ?l ?c ?k; (case a => k_is); (case l => k_is); (case c => k_is); (case k => k_is)))
    (case d_answer_parents => (refine' Tb.defG ?a ?l ?c ?k; (case a => k_is); (case l => k_is); (case c => k_is); (case k => k_is)))
    (case d_answer_log => (refine' Tb.defG ?a ?l ?c ?k; (case a => k_is); (case l => k_is); (case c => k_is); (case k => k_is)))
    (case d_answer_common => (refine' Tb.defG ?a ?l ?c ?k; (case a => k_is); (case l => k_is); (case c => k_is); (case k => k_is)))
    (case d_answer_way => (refine' Tb.defG ?a ?l ?c ?k; (case a => k_is); (case l => k_is); (case c => k_is); (case k => k_is)))
    (case d_answer_merge => (refine' Tb.defG ?a ?l ?c ?k; (case a => k_is); (case l => k_is); (case c => k_is); (case k => k_is)))
    (case d_answer_pick => (refine' Tb.defG ?a ?l ?c ?k; (case a => k_is); (case l => k_is); (case c => k_is); (case k => k_is)))
    (case d_answer_undo => (refine' Tb.defG ?a ?l ?c ?k; (case a => k_is); (case l => k_is); (case c => k_is); (case k => k_is)))
    (case d_answer_try => (refine' Tb.defG ?a ?l ?c ?k; (case a => k_is); (case l => k_is); (case c => k_is); (case k => k_is)))
    (case d_answer_origins => (refine' Tb.defG ?a ?l ?c ?k; (case a => k_is); (case l => k_is); (case c => k_is); (case k => k_is)))
    (case d_answer_count => (refine' Tb.defG ?a ?l ?c ?k; (case a => k_is); (case l => k_is); (case c => k_is); (case k => k_is)))
    (case a_CALLS => k_is)
    (case l_CALLS => k_is)
  case S =>
    intro K H xs a hO hwi hask hx
    cases hx with
    | cons h1 h2 =>
      cases h2
      cases h1 with
      | lst hs ha =>
        have e := L2.ints_dw a.1 _ ha
        subst e
        have q : ((Codec.inLen 0 16000 a.1 && a.1.all (Codec.inInt 0 18446744073709551615)) && true) = true := hwi
        rw [Bool.and_eq_true, Bool.and_eq_true] at q
        refine ⟨_, a.1, rfl, hs, fun z hz => ?_, (Codec.inNat_iff.mp q.1.1).2, hask, fun H' p hp => .lst (L2.SqL.of hp) (L2.dw_ints _)⟩
        exact (Tb.inInt_ge (List.all_eq_true.mp q.1.2 z hz))
#print axioms PySem.Challenge.cw_textbranches_s01_answers_holds
