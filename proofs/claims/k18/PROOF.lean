import PyProof.Rows.All
import Wide.All
import OpenK.AllK
import Wide.FinOn
import HandS.Base
import HandS.Call
import HandS.List
import HandS.Comp
import HandS.Ends
import HandS.Dict
import HandS.Iter
import HandS.Text
import HandS.Words
import HandS.WordsList
import HandS.WordsDict
import HandS.Evl
import HandS.Style
import HandS.IsInst
import PySem.Challenge.RW_squaremark_k18_whole_sums_and_products
set_option Elab.async false
set_option linter.all false
set_option maxRecDepth 100000
set_option maxHeartbeats 4000000
/-! the draws' row: a list [script, int, int, int] that is told by what is true of it -/
namespace Sq
open PySem PySem.Spec PyProof.Rows L2 Evl

/-! ### heaps -/
theorem same_ex {H H' : Hp} (h : Same H H') : Ex H H' := h
theorem dn_seq (ns : List Int) (i : Nat) (n : Int) (h : ns[i]? = some n) : (ns.map V.int)[i]? = some (.int n) := by
  rw [List.getElem?_map, h]
  rfl

/-! ### the row -/
def RowB (i x y : Int) : Prop := 0 ≤ i ∧ 0 ≤ x ∧ x < 2147483647 ∧ 0 ≤ y
def rowL (a : Addr) (i x y : Int) : HO := .lst [.ref a, .int i, .int x, .int y]
def rowF (r a : Addr) : HO := .ext fun h => ∃ (t1 t2 t3 : Tok) (i x y : Int) (n : Nat), RowB i x y ∧ h.get? r = some { cls := .type "list", data := .seq #[.ref a, .int i t1, .int x t2, .int y t3] n }
section
variable {P : Program} {w : World} {H H' : Hp} {h h' : Heap} {r a : Addr}
theorem row_open (o : ObjOk P w H h r (rowF r a)) : ∃ i x y, RowB i x y ∧ ObjOk P w H' h r (rowL a i x y) := by
  obtain ⟨⟨t1, t2, t3, i, x, y, n, b, e⟩, _, _⟩ := o
  exact ⟨i, x, y, b, by show 4 ≤ sizeLine; decide, [.ref a, .int i t1, .int x t2, .int y t3], n, .cons rfl (.cons ⟨_, rfl⟩ (.cons ⟨_, rfl⟩ (.cons ⟨_, rfl⟩ .nil))), e⟩
theorem row_close {i x y : Int} (b : RowB i x y) (o : ObjOk P w H h r (rowL a i x y)) : ObjOk P w H' h r (rowF r a) := by
  obtain ⟨_, its, n, rv, e⟩ := o
  cases rv with
  | cons r0 rv =>
    cases rv with
    | cons r1 rv =>
      cases rv with
      | cons r2 rv =>
        cases rv with
        | cons r3 rv =>
          cases rv
          cases r0
          obtain ⟨t1, rfl⟩ := r1
          obtain ⟨t2, rfl⟩ := r2
          obtain ⟨t3, rfl⟩ := r3
          refine ⟨⟨t1, t2, t3, i, x, y, n, b, e⟩, ⟨_, e⟩, fun h1 h2 q k => ?_⟩
          obtain ⟨t1, t2, t3, i, x, y, n, b, e⟩ := q
          exact ⟨t1, t2, t3, i, x, y, n, b, k _ e⟩
end
/-- another word for what stands at an address that may change -/
theorem hok_swap {P : Program} {w : World} {H : Hp} {h : Heap} {r : Addr} {o : HO} (ok : HOk P w H h) (mu : Mut (H r)) (new : ObjOk P w (upd H r o) h r o) : HOk P w (upd H r o) h := by
  have he : ∃ u, h.get? r = some u := by
    cases q : H r with
    | none => rw [q] at mu; exact mu.elim
    | some u =>
      have z := ok r u q
      have l := z.lt
      cases e : h.get? r with
      | some v => exact ⟨v, rfl⟩
      | none =>
        exfalso
        cases u with
        | lst xs => obtain ⟨_, _, _, _, e'⟩ := z; rw [e] at e'; cases e'
        | tup xs => rw [q] at mu; exact mu
        | dK kvs => obtain ⟨_, _, _, _, o, _, _, e', _⟩ := z; rw [e] at e'; cases e'
        | dT kvs => obtain ⟨_, _, _, _, o, _, _, e', _⟩ := z; rw [e] at e'; cases e'
        | set S n => obtain ⟨o, _, _, _, e', _⟩ := z; rw [e] at e'; cases e'
        | ins C dx fs => obtain ⟨_, _, _, e', _⟩ := z; rw [e] at e'; cases e'
        | own y => rw [q] at mu; exact mu
        | xd fs => rw [q] at mu; exact mu
        | rng lo hi => rw [q] at mu; exact mu
        | frz ob u => rw [q] at mu; exact mu
        | tbl ps => rw [q] at mu; exact mu
        | met f y => rw [q] at mu; exact mu
        | ext φ => obtain ⟨_, ⟨_, e'⟩, _⟩ := z; rw [e] at e'; cases e'
  exact ok.write mu (.inl rfl) (fun b u _ q => q) he new
theorem un_swap {fs ex : List Addr} {P : Program} {w : World} {H : Hp} {h : Heap} {r : Addr} {o u : HO} (ok : HOk P w H h) (mu : Mut (H r)) (hr : ∃ v, h.get? r = some v) : Un fs ex H (upd H r o) h h :=
  Un.write mu (.inl rfl) (fun b u _ q => q) hr
theorem upd_self {H : Hp} {r : Addr} {o : HO} (h : H r = some o) : upd H r o = H := by
  funext b
  unfold upd
  split
  · rename_i e
    rw [e, h]
  · rfl

section
variable {P : Program} {w : World} {K : PySem.W.Frag} {mg : Str → Option Value} {base : Heap}
/-- a promise over a row that is told by what is true of it, from one over a list -/
theorem fn_rows {k : Nat} {f : Addr} {fd : FuncData} {ps : List Str} {sp sp' : Sp} (F : FnOk P w K mg base CX0 k f fd ps sp) (hl : ∀ vs H Q E, sp' vs H Q E → vs.length = ps.length)
    (h : ∀ vs H Q E, sp' vs H Q E → ∃ r a, H r = some (rowF r a) ∧ ∀ i x y, RowB i x y → sp vs (upd H r (rowL a i x y)) (fun v H' => ∃ i' x' y', RowB i' x' y' ∧ H' r = some (rowL a i' x' y') ∧ Q v (upd H' r (rowF r a))) E) :
    FnOk P w K mg base CX0 k f fd ps sp' := by
  refine ⟨hl, fun A outer s H args us vs Q E hr he hb hv hs => ?_⟩
  obtain ⟨r, a, hR, hk⟩ := h vs H Q E hs
  obtain ⟨i, x, y, b, ob⟩ := row_open (H' := upd H r (rowL a 0 0 0)) (he.hok r _ hR)
  have ob' : ObjOk P w (upd H r (rowL a i x y)) s.heap r (rowL a i x y) := ob
  have mu : Mut (H r) := by rw [hR]; exact trivial
  have hget : ∃ v, s.heap.get? r = some v := by
    obtain ⟨_, _, n, _, e⟩ := ob
    exact ⟨_, e⟩
  have hok1 := hok_swap he.hok mu ob'
  have e0 : Env0 P w K mg base A outer s (upd H r (rowL a i x y)) := by
    refine ⟨he.frames, he.mod, fun c o e => ⟨(he.bs c o e).1, ?_⟩, he.bsz, he.funs, fun c hc => ?_, hok1, he.bare⟩
    · have z := (he.bs c o e).2
      rw [upd_ne (fun q => by rw [q, hR] at z; cases z)]
      exact z
    · have z := he.frf c hc
      rw [upd_ne (fun q => by rw [q, hR] at z; cases z)]
      exact z
  refine codeAny_mono (F.run A outer s _ args us vs _ E hr e0 hb hv (hk i x y b)) fun res s' hq => ?_
  cases res with
  | error e => exact hq
  | ok fl =>
    cases fl with
    | next => exact hq
    | brk => exact hq
    | cont => exact hq
    | ret u =>
      obtain ⟨v, H', os, bare, un, hok, rv, i', x', y', b', hr', q⟩ := hq
      have mu' : Mut (H' r) := by rw [hr']; exact trivial
      have ob2 : ObjOk P w (upd H' r (rowF r a)) s'.heap r (rowF r a) := row_close b' (hok r _ hr')
      have hget' : ∃ v, s'.heap.get? r = some v := ob2.2.1
      refine ⟨v, upd H' r (rowF r a), os, bare, ?_, hok_swap hok mu' ob2, rv, q⟩
      exact ((Un.write mu (.inl rfl) (fun _ _ _ z => z) hget).trans un).trans (Un.write mu' (.inl rfl) (fun _ _ _ z => z) hget')
end
section
variable {X : Cx}
/-- from here on the list at r is told by what is true of it -/
def tAbs (u : TS) : TS := fun D σ H => ∃ r a i x y, RowB i x y ∧ H r = some (rowL a i x y) ∧ u D σ (upd H r (rowF r a))
theorem pss_abs {rest : List Stmt} {u : TS} (h : PSs X rest u) : PSs X rest (tAbs u) := by
  refine ⟨fun pins s σ H D I q => ?_⟩
  obtain ⟨r, a, i, x, y, b, hr, q⟩ := q
  have ob := I.hok r _ hr
  have mu : Mut (H r) := by rw [hr]; exact trivial
  have ob2 : ObjOk X.prog X.w (upd H r (rowF r a)) s.heap r (rowF r a) := row_close b ob
  obtain ⟨hp, g, d, t, o⟩ := s
  have J : Inv X pins σ (upd H r (rowF r a)) ⟨hp, g, d, t, o⟩ := I.write (t' := t) mu (.inl rfl) (fun _ _ _ z => z) ob2.2.1 ob2
  exact h.run pins _ σ _ D J q
end
/-- the draws' row stands at r -/
def RowAt (K : PySem.W.Frag) (H : Hp) (r : Addr) : Prop := ∃ (a : Addr) (ns : List Int), H r = some (rowF r a) ∧ SqL K H a (ns.map V.int)
theorem RowAt.ex {K : PySem.W.Frag} {H H' : Hp} {r : Addr} (h : RowAt K H r) (e : Ex H H') : RowAt K H' r := by
  obtain ⟨a, ns, h1, h2⟩ := h
  exact ⟨a, ns, e _ _ h1, ex_l e h2⟩
/-- a draw below m: any number from 0 to m - 1 -/
def spTaken (K : PySem.W.Frag) : Sp := fun vs H Q _ => ∃ (r : Addr) (m : Int), vs = [.ref r, .int m] ∧ 0 < m ∧ m < 1073741824 ∧ RowAt K H r ∧ ∀ z, 0 ≤ z → z < m → RetV (.int z) H Q

/-! ### a def by all that a call of it wants -/
structure Dfn (P : Program) (w : World) (K : PySem.W.Frag) (mg : Str → Option Value) (base : Heap) (k : Nat) (x : Str) (ps : List Str) (sp : Sp) : Prop where
  ex : ∃ f fd, FnOk P w K mg base CX0 k f fd ps sp ∧ mg x = some (.ref f) ∧ PySem.W.keepIn K (.ref f) = true ∧ Binds K fd ps []
theorem Dfn.mk' {P : Program} {w : World} {K : PySem.W.Frag} {mg : Str → Option Value} {base : Heap} {k : Nat} {x : Str} {ps : List Str} {sp : Sp} {f : Addr} {fd : FuncData}
    (F : FnOk P w K mg base CX0 k f fd ps sp) (g : mg x = some (.ref f)) (kp : PySem.W.keepIn K (.ref f) = true) (b : Binds K fd ps []) : Dfn P w K mg base k x ps sp := ⟨f, fd, F, g, kp, b⟩
section
variable {X : Cx} {k j : Nat} {x : Str} {ps : List Str} {sp : Sp} {p pos : Pos} {e : Expr} {es : List Expr} {t : TA}
theorem pe_callD (D : Dfn X.prog X.w X.K X.mg X.base k x ps sp) (hr : Room j X.A) (hk : k ≤ j) (hg : Gl X x) (ha : PA X (e :: es) t) (hdb : (x == ("__debug__" : Str)) = false := by decide)
    (he : starEach (e :: es) X.env = (false, eval e X.env) :: starEach es X.env := by rfl) (hpl : (backTo pos (starEach es X.env)).any (·.1) = false := by rfl) : PE X (.Call (.Name x p) (e :: es) [] pos) (tCall sp [] E0 t) := by
  obtain ⟨f, fd, F, g, kp, b⟩ := D.ex
  exact pe_call F (hr.mono hk) hg g kp b .nil pass0 ha hdb he hpl
end
theorem ev_callD {sp : Sp} {vs : List V} {ta : TA} {σ : L2.St} {H : Hp} {z : V} (h : EvA ta σ H vs) (hs : SpV sp vs H z) : Ev (tCall sp [] E0 ta) σ H z := ev_call h (by rw [List.append_nil]; exact hs)
end Sq

/-! arithmetic of symbols -/
namespace Sq
open PySem PySem.Spec PyProof.Rows L2 Evl
def powT : List Int := [1, 2, 4, 8, 3, 6, 12, 11, 5, 10, 7, 14, 15, 13, 9, 1, 2, 4, 8, 3, 6, 12, 11, 5, 10, 7, 14, 15, 13, 9]
def expT : List Int := [0, 0, 1, 4, 2, 8, 5, 10, 3, 14, 9, 7, 6, 13, 11, 12]
def eT (a : Int) : Int := expT.getD a.toNat 0
def pT (a : Int) : Int := powT.getD a.toNat 0
def Sym (a : Int) : Prop := 0 ≤ a ∧ a ≤ 15
def gadd (a b : Int) : Int := Builtin.bitXor a b
def gmul (a b : Int) : Int := if a = 0 ∨ b = 0 then 0 else pT (eT a + eT b)
def gdiv (a b : Int) : Int := if a = 0 then 0 else pT (eT a - eT b + 15)
theorem Sym.fin {a : Int} (h : Sym a) : ∃ i : Fin 16, a = (i.val : Int) := ⟨⟨a.toNat, by have := h.1; have := h.2; omega⟩, by have := h.1; show a = (a.toNat : Int); omega⟩
theorem sym_of (i : Fin 16) : Sym (i.val : Int) := ⟨by omega, by have := i.isLt; omega⟩
instance (a : Int) : Decidable (Sym a) := inferInstanceAs (Decidable (0 ≤ a ∧ a ≤ 15))
theorem sym1 {p : Int → Prop} (h : ∀ i : Fin 16, p (i.val : Int)) {a : Int} (ha : Sym a) : p a := by
  obtain ⟨i, rfl⟩ := ha.fin
  exact h i
theorem sym2 {p : Int → Int → Prop} (h : ∀ i j : Fin 16, p (i.val : Int) (j.val : Int)) {a b : Int} (ha : Sym a) (hb : Sym b) : p a b := by
  obtain ⟨i, rfl⟩ := ha.fin
  obtain ⟨j, rfl⟩ := hb.fin
  exact h i j
theorem sym3 {p : Int → Int → Int → Prop} (h : ∀ i j k : Fin 16, p (i.val : Int) (j.val : Int) (k.val : Int)) {a b c : Int} (ha : Sym a) (hb : Sym b) (hc : Sym c) : p a b c := by
  obtain ⟨i, rfl⟩ := ha.fin
  obtain ⟨j, rfl⟩ := hb.fin
  obtain ⟨k, rfl⟩ := hc.fin
  exact h i j k
theorem sym_add {a b : Int} (ha : Sym a) (hb : Sym b) : Sym (gadd a b) := sym2 (p := fun a b => Sym (gadd a b)) (by decide +kernel) ha hb
theorem sym_mul {a b : Int} (ha : Sym a) (hb : Sym b) : Sym (gmul a b) := sym2 (p := fun a b => Sym (gmul a b)) (by decide +kernel) ha hb
theorem sym_div {a b : Int} (ha : Sym a) (hb : Sym b) : Sym (gdiv a b) := sym2 (p := fun a b => Sym (gdiv a b)) (by decide +kernel) ha hb
theorem gadd_comm {a b : Int} (ha : Sym a) (hb : Sym b) : gadd a b = gadd b a := sym2 (p := fun a b => gadd a b = gadd b a) (by decide +kernel) ha hb
theorem gadd_assoc {a b c : Int} (ha : Sym a) (hb : Sym b) (hc : Sym c) : gadd (gadd a b) c = gadd a (gadd b c) := sym3 (p := fun a b c => gadd (gadd a b) c = gadd a (gadd b c)) (by decide +kernel) ha hb hc
theorem gadd_self {a : Int} (ha : Sym a) : gadd a a = 0 := sym1 (p := fun a => gadd a a = 0) (by decide +kernel) ha
theorem gadd_zero {a : Int} (ha : Sym a) : gadd a 0 = a := sym1 (p := fun a => gadd a 0 = a) (by decide +kernel) ha
theorem gmul_comm {a b : Int} (ha : Sym a) (hb : Sym b) : gmul a b = gmul b a := sym2 (p := fun a b => gmul a b = gmul b a) (by decide +kernel) ha hb
theorem gmul_assoc {a b c : Int} (ha : Sym a) (hb : Sym b) (hc : Sym c) : gmul (gmul a b) c = gmul a (gmul b c) := sym3 (p := fun a b c => gmul (gmul a b) c = gmul a (gmul b c)) (by decide +kernel) ha hb hc
theorem gmul_add {a b c : Int} (ha : Sym a) (hb : Sym b) (hc : Sym c) : gmul a (gadd b c) = gadd (gmul a b) (gmul a c) := sym3 (p := fun a b c => gmul a (gadd b c) = gadd (gmul a b) (gmul a c)) (by decide +kernel) ha hb hc
theorem gmul_one {a : Int} (ha : Sym a) : gmul a 1 = a := sym1 (p := fun a => gmul a 1 = a) (by decide +kernel) ha
theorem gmul_zero {a : Int} (ha : Sym a) : gmul a 0 = 0 := sym1 (p := fun a => gmul a 0 = 0) (by decide +kernel) ha
theorem gmul_two {a : Int} (ha : Sym a) : gmul a 2 = if a < 8 then 2 * a else gadd (2 * a - 16) 3 := sym1 (p := fun a => gmul a 2 = if a < 8 then 2 * a else gadd (2 * a - 16) 3) (by decide +kernel) ha
theorem gdiv_mul {a b : Int} (ha : Sym a) (hb : Sym b) (h0 : b ≠ 0) : gdiv (gmul a b) b = a := sym2 (p := fun a b => b ≠ 0 → gdiv (gmul a b) b = a) (by decide +kernel) ha hb h0
theorem gmul_div {a b : Int} (ha : Sym a) (hb : Sym b) (h0 : b ≠ 0) : gmul (gdiv a b) b = a := sym2 (p := fun a b => b ≠ 0 → gmul (gdiv a b) b = a) (by decide +kernel) ha hb h0
theorem gdiv_self {a : Int} (ha : Sym a) (h0 : a ≠ 0) : gdiv a a = 1 := sym1 (p := fun a => a ≠ 0 → gdiv a a = 1) (by decide +kernel) ha h0
theorem gdiv_div {a b c : Int} (ha : Sym a) (hb : Sym b) (hc : Sym c) (h0 : b ≠ 0) (h1 : c ≠ 0) : gdiv (gdiv a b) c = gdiv a (gmul b c) := sym3 (p := fun a b c => b ≠ 0 → c ≠ 0 → gdiv (gdiv a b) c = gdiv a (gmul b c)) (by decide +kernel) ha hb hc h0 h1
theorem gmul_eq0 {a b : Int} (ha : Sym a) (hb : Sym b) (h0 : a ≠ 0) (h1 : b ≠ 0) : gmul a b ≠ 0 := sym2 (p := fun a b => a ≠ 0 → b ≠ 0 → gmul a b ≠ 0) (by decide +kernel) ha hb h0 h1
def gpow (a : Int) : Nat → Int
  | 0 => 1
  | n + 1 => gmul (gpow a n) a
theorem gpow_sym {a : Int} (ha : Sym a) : ∀ n, Sym (gpow a n)
  | 0 => (show Sym 1 by decide)
  | n + 1 => sym_mul (gpow_sym ha n) ha
theorem gpow_15 {a : Int} (ha : Sym a) : gpow a 15 = if a = 0 then 0 else 1 := sym1 (p := fun a => gpow a 15 = if a = 0 then 0 else 1) (by decide +kernel) ha
theorem eT_b {a : Int} (ha : Sym a) : 0 ≤ eT a ∧ eT a ≤ 14 := sym1 (p := fun a => 0 ≤ eT a ∧ eT a ≤ 14) (by decide +kernel) ha
theorem tab_at {T : List Int} {i : Int} (h0 : 0 ≤ i) (h1 : i.toNat < T.length) : atI (T.map V.int) i = some (.int (T.getD i.toNat 0)) := by
  refine at_of (j := i.toNat) (by omega) ?_
  rw [List.getElem?_map, List.getElem?_eq_getElem h1]
  show some (V.int _) = some (V.int _)
  rw [List.getD_eq_getElem?_getD, List.getElem?_eq_getElem h1]
  rfl
theorem exp_at {a : Int} (ha : Sym a) : atI (expT.map V.int) a = some (.int (eT a)) := tab_at ha.1 (by show a.toNat < 16; have := ha.1; have := ha.2; omega)
theorem pow_at {a : Int} (h0 : 0 ≤ a) (h1 : a ≤ 29) : atI (powT.map V.int) a = some (.int (pT a)) := tab_at h0 (by show a.toNat < 30; omega)
end Sq

/-! further words of evaluation; the promises of the arithmetic of symbols -/
namespace Sq
open PySem PySem.Spec PyProof.Rows L2 Evl
section
variable {K : PySem.W.Frag} {σ : L2.St} {H H' : Hp} {ta tb tc te : TE} {t u : TT} {x y z v : V} {r r' : R2}
theorem rc_int {i : Int} : RC (fun xs H Q => (∃ i, xs = [.int i] ∧ Q (.int i) H) ∨ ∃ k, xs = [.bl k] ∧ Q (.int (if k then 1 else 0)) H) [.int i] H (.int i) := fun H1 _ _ q => .inl ⟨i, rfl, q H1 (Ex.refl H1)⟩
theorem rc_intB {b : Bool} : RC (fun xs H Q => (∃ i, xs = [.int i] ∧ Q (.int i) H) ∨ ∃ k, xs = [.bl k] ∧ Q (.int (if k then 1 else 0)) H) [.bl b] H (.int (if b then 1 else 0)) := fun H1 _ _ q => .inr ⟨b, rfl, q H1 (Ex.refl H1)⟩
theorem ev_chain {k l : Bool} (ha : Ev ta σ H x) (hb : Ev tb σ H y) (h1 : RV r x y H (.bl k)) (hc : k = true → Ev tc σ H z) (h2 : k = true → RV r' y z H (.bl l)) : Ev (tChain r r' ta tb tc) σ H (.bl (k && l)) := fun H1 e Q q =>
  ha H1 e _ fun H2 e2 => hb H2 (e.trans e2) _ fun H3 e3 => h1 H3 ((e.trans e2).trans e3) _ fun H4 e4 => ⟨k, rfl, by
    have e' : Ex H H4 := ((e.trans e2).trans e3).trans e4
    cases k with
    | true =>
      show tc σ H4 _
      exact hc rfl H4 e' _ fun H5 e5 => h2 rfl H5 (e'.trans e5) _ fun H6 e6 => q H6 ((((e2.trans e3).trans e4).trans e5).trans e6)
    | false =>
      show Q (.bl false) H4
      exact q H4 ((e2.trans e3).trans e4)⟩
theorem ev_ite {b : Bool} {x1 y1 : V} (h : EvT t σ H b) (h1 : b = true → Ev ta σ H x1) (h2 : b = false → Ev tb σ H y1) : Ev (tIf t ta tb) σ H (if b = true then x1 else y1) :=
  ev_if h (fun e => by rw [if_pos e]; exact h1 e) (fun e => by rw [if_neg (by rw [e]; decide)]; exact h2 e)
theorem ev_iteI {b : Bool} {x1 y1 : Int} (h : EvT t σ H b) (h1 : b = true → Ev ta σ H (.int x1)) (h2 : b = false → Ev tb σ H (.int y1)) : Ev (tIf t ta tb) σ H (.int (if b = true then x1 else y1)) :=
  ev_if h (fun e => by rw [if_pos e]; exact h1 e) (fun e => by rw [if_neg (by rw [e]; decide)]; exact h2 e)
theorem row_keep {a r : Addr} {ns : List Int} {i x y : Int} {o : HO} (h : SqL K H a (ns.map V.int)) (hr : H r = some (rowL a i x y)) : SqL K (upd H r o) a (ns.map V.int) := by
  rcases h with h | h
  · refine .inl ?_
    have hne : a ≠ r := by
      rintro rfl
      rcases h with h | ⟨o', h⟩
      · rw [hr] at h
        have e : ([.ref a, .int i, .int x, .int y] : List V) = ns.map V.int := by injection h with h; injection h
        cases ns with
        | nil => cases e
        | cons n ns => injection e with e _; cases e
      · rw [hr] at h; cases h
    rcases h with h | ⟨o', h⟩
    · exact .inl (by rw [upd_ne hne]; exact h)
    · exact .inr ⟨o', by rw [upd_ne hne]; exact h⟩
  · exact .inr h
theorem row_keepF {a r : Addr} {xs : List V} {o : HO} (h : SqL K H a xs) (hr : H r = some (rowF r a)) : SqL K (upd H r o) a xs := by
  rcases h with h | h
  · refine .inl ?_
    have hne : a ≠ r := by
      rintro rfl
      rcases h with h | ⟨o', h⟩
      · rw [hr] at h; cases h
      · rw [hr] at h; cases h
    rcases h with h | ⟨o', h⟩
    · exact .inl (by rw [upd_ne hne]; exact h)
    · exact .inr ⟨o', by rw [upd_ne hne]; exact h⟩
  · exact .inr h
end
/-! ### the promises -/
def spI1 (p : Int → Prop) (f : Int → V) : Sp := fun vs H Q _ => ∃ i, vs = [.int i] ∧ p i ∧ RetV (f i) H Q
def spI2 (p : Int → Int → Prop) (f : Int → Int → V) : Sp := fun vs H Q _ => ∃ i j, vs = [.int i, .int j] ∧ p i j ∧ RetV (f i j) H Q
theorem spv_I1 {p : Int → Prop} {f : Int → V} {i : Int} {H : Hp} (h : p i) : SpV (spI1 p f) [.int i] H (f i) := fun H1 _ _ q _ => ⟨i, rfl, h, q⟩
theorem spv_I2 {p : Int → Int → Prop} {f : Int → Int → V} {i j : Int} {H : Hp} (h : p i j) : SpV (spI2 p f) [.int i, .int j] H (f i j) := fun H1 _ _ q _ => ⟨i, j, rfl, h, q⟩
def Sym2 (a b : Int) : Prop := Sym a ∧ Sym b
def SymD (a b : Int) : Prop := Sym a ∧ Sym b ∧ b ≠ 0
abbrev spAdd : Sp := spI2 Sym2 fun a b => .int (gadd a b)
abbrev spMul : Sp := spI2 Sym2 fun a b => .int (gmul a b)
abbrev spDiv : Sp := spI2 SymD fun a b => .int (gdiv a b)
def isSym (v : V) : Bool := match v with | .int i => decide (0 ≤ i) && decide (i ≤ 15) | _ => false
def isNum (v : V) : Bool := match v with | .int _ => true | _ => false
/-- values that no check of a kind trips over: flat ones -/
def flatK : V → Bool | .non => true | .bl _ => true | .int _ => true | .str _ => true | _ => false
def spV1 (p : V → Prop) (f : V → V) : Sp := fun vs H Q _ => ∃ v, vs = [v] ∧ p v ∧ RetV (f v) H Q
theorem spv_V1 {p : V → Prop} {f : V → V} {v : V} {H : Hp} (h : p v) : SpV (spV1 p f) [v] H (f v) := fun H1 _ _ q _ => ⟨v, rfl, h, q⟩
/-- the check of two symbols that are symbols -/
def spReq2 : Sp := fun vs H Q _ => ∃ i j, vs = [.int i, .int j] ∧ Sym i ∧ Sym j ∧ RetV .non H Q
theorem spv_req2 {i j : Int} {H : Hp} (h1 : Sym i) (h2 : Sym j) : SpV spReq2 [.int i, .int j] H .non := fun H1 _ _ q _ => ⟨i, j, rfl, h1, h2, q⟩
def spLaw (K : PySem.W.Frag) : Sp := fun vs H Q _ => ∃ (a : Addr) (ns : List Int), vs = [.ref a] ∧ SqL K H a (ns.map V.int) ∧ ns.length ≤ 63 ∧ ∀ H', Q (.bl true) H'
/-! ### a tuple of the module's own -/
def absAll : List Value → Option (List V)
  | [] => some []
  | u :: us => match absV u, absAll us with
    | some v, some vs => some (v :: vs)
    | _, _ => none
theorem absV_rel {u : Value} {v : V} (h : absV u = some v) : RelV v u := by
  cases u <;> simp only [absV] at h <;> (first | (cases h; first | rfl | exact ⟨_, rfl⟩) | exact nomatch h)
theorem absAll_rel : ∀ {us : List Value} {vs : List V}, absAll us = some vs → Vals vs us
  | [], vs, h => by
    cases h
    exact .nil
  | u :: us, vs, h => by
    simp only [absAll] at h
    split at h
    · rename_i v vs' h1 h2
      cases h
      exact .cons (absV_rel h1) (absAll_rel h2)
    · exact nomatch h
def tupOf (o : Obj) : Option (List V) := match o.cls, o.data with
  | .type "tuple", .seq its _ => if its.size ≤ 100000 then absAll its.toList else none
  | _, _ => none
theorem tupOf_sq {K : PySem.W.Frag} {H : Hp} {a : Addr} {o : Obj} {xs : List V} (h : K.lookup a = some o) (e : tupOf o = some xs) : SqT K H a xs := by
  unfold tupOf at e
  split at e
  · rename_i its n hc hd
    split at e
    · rename_i hz
      exact .inr ⟨o, its, n, h, hc, hd, sz_of hz, absAll_rel e⟩
    · exact nomatch e
  · exact nomatch e
end Sq
namespace Sq
open PySem PySem.Spec PyProof.Rows L2 Evl
/-! ### kinds -/
def KdOk (K : PySem.W.Frag) (H : Hp) (v : V) : Prop := v = .non ∨ (∃ b, v = .bl b) ∨ (∃ i, v = .int i) ∨ (∃ x, v = .str x) ∨ ∃ p, v = .ref p ∧ ((∃ xs, SqT K H p xs) ∨ ∃ xs, SqL K H p xs)
theorem ty_tup {K : PySem.W.Frag} {H : Hp} {p : Addr} {xs : List V} (h : SqT K H p xs) : TyX K H (.ref p) (.type "tuple") := by
  rcases h with (h | ⟨o, h⟩) | ⟨o, its, n, h, hc, _⟩
  · exact .base (.tup h)
  · exact .fTuple h
  · exact .kTuple h hc
theorem ty_lst {K : PySem.W.Frag} {H : Hp} {p : Addr} {xs : List V} (h : SqL K H p xs) : TyX K H (.ref p) (.type "list") := by
  rcases h with (h | ⟨o, h⟩) | ⟨o, its, n, h, hc, _⟩
  · exact .base (.lst h)
  · exact .base (.frz h)
  · exact .kList h hc
theorem rc_isi {K : PySem.W.Frag} {H : Hp} {v : V} {T c : String} {b : Bool} (h : ∀ H1, Ex H H1 → TyX K H1 v (.type T)) (k : kitB T c = some b) : RC (rIsi K) [v, .ty c] H (.bl b) := fun H1 e _ q =>
  ⟨v, .ty c, .type T, .type c, b, rfl, .ty c, h H1 e, kit_ty k, q H1 (Ex.refl H1)⟩
def spNum (K : PySem.W.Frag) : Sp := fun vs H Q _ => ∃ v, vs = [v] ∧ KdOk K H v ∧ RetV (.bl (isNum v)) H Q
def spSym (K : PySem.W.Frag) : Sp := fun vs H Q _ => ∃ v, vs = [v] ∧ KdOk K H v ∧ RetV (.bl (isSym v)) H Q
theorem KdOk.ex {K : PySem.W.Frag} {H H' : Hp} {v : V} (h : KdOk K H v) (e : Ex H H') : KdOk K H' v := by
  rcases h with h | h | h | h | ⟨p, h, ⟨xs, q⟩ | ⟨xs, q⟩⟩
  · exact .inl h
  · exact .inr (.inl h)
  · exact .inr (.inr (.inl h))
  · exact .inr (.inr (.inr (.inl h)))
  · exact .inr (.inr (.inr (.inr ⟨p, h, .inl ⟨xs, ex_t e q⟩⟩)))
  · exact .inr (.inr (.inr (.inr ⟨p, h, .inr ⟨xs, ex_l e q⟩⟩)))
theorem kd_int {K : PySem.W.Frag} {H : Hp} {i : Int} : KdOk K H (.int i) := .inr (.inr (.inl ⟨i, rfl⟩))
theorem spv_num {K : PySem.W.Frag} {H : Hp} {v : V} (h : KdOk K H v) : SpV (spNum K) [v] H (.bl (isNum v)) := fun H1 e _ q _ => ⟨v, rfl, h.ex e, q⟩
theorem spv_sym {K : PySem.W.Frag} {H : Hp} {v : V} (h : KdOk K H v) : SpV (spSym K) [v] H (.bl (isSym v)) := fun H1 e _ q _ => ⟨v, rfl, h.ex e, q⟩
theorem isSym_of {i : Int} (h : Sym i) : isSym (.int i) = true := by
  show (decide (0 ≤ i) && decide (i ≤ 15)) = true
  rw [decide_eq_true h.1, decide_eq_true h.2]
  rfl
end Sq
namespace Sq
open PySem PySem.Spec PyProof.Rows L2 Evl
/-- the draws by the list itself: what changes is at r alone -/
def spTakenL (K : PySem.W.Frag) : Sp := fun vs H Q _ => ∃ (r a : Addr) (m i x y : Int) (ns : List Int), vs = [.ref r, .int m] ∧ 0 < m ∧ m < 1073741824 ∧ RowB i x y ∧ H r = some (rowL a i x y) ∧ SqL K H a (ns.map V.int) ∧
  ∀ z i' x' y' H', 0 ≤ z → z < m → RowB i' x' y' → H' r = some (rowL a i' x' y') → (∀ b o, b ≠ r → H b = some o → H' b = some o) → Q (.int z) H'
theorem taken_rows {K : PySem.W.Frag} {vs : List V} {H : Hp} {Q : VK} {E : XK} (h : spTaken K vs H Q E) : ∃ r a, H r = some (rowF r a) ∧ ∀ i x y, RowB i x y → spTakenL K vs (upd H r (rowL a i x y)) (fun v H' => ∃ i' x' y', RowB i' x' y' ∧ H' r = some (rowL a i' x' y') ∧ Q v (upd H' r (rowF r a))) E := by
  obtain ⟨r, m, rfl, h0, h1, ⟨a, ns, hr, hs⟩, q⟩ := h
  refine ⟨r, a, hr, fun i x y b => ⟨r, a, m, i, x, y, ns, rfl, h0, h1, b, upd_same, row_keepF hs hr, fun z i' x' y' H' z0 z1 b' hr' hk => ⟨i', x', y', b', hr', q z z0 z1 _ fun c o e => ?_⟩⟩⟩
  by_cases hc : c = r
  · subst hc
    rw [upd_same, ← e, hr]
  · rw [upd_ne hc]
    exact hk c o hc (by rw [upd_ne hc]; exact e)
theorem fmod_range {z m : Int} (h : 0 < m) : 0 ≤ z.fmod m ∧ z.fmod m < m := ⟨Int.fmod_nonneg_of_pos z h, Int.fmod_lt_of_pos z h⟩
end Sq
namespace Sq
open PySem PySem.Spec PyProof.Rows L2 Evl
section
variable {D : Ends} {tz : TS} {te : TE} {ta : TA} {σ : L2.St} {H : Hp} {i j l : Nat}
theorem q_asgR (h : te σ H fun v H1 => tz D (σ.set i (some v)) H1) : tSeq (tAsg te (gName i)) tz D σ H := h
theorem q_par2R (h : ta σ H fun vs H1 => ∃ u v, vs = [u, v] ∧ tz D ((σ.set i (some u)).set j (some v)) H1) : tSeq (tPar i j ta) tz D σ H := h
theorem q_par3R (h : ta σ H fun vs H1 => ∃ u v w, vs = [u, v, w] ∧ tz D (((σ.set i (some u)).set j (some v)).set l (some w)) H1) : tSeq (tPar3 i j l ta) tz D σ H := h
end
end Sq
namespace Sq
open PySem PySem.Spec PyProof.Rows L2 Evl
section
variable {D : Ends} {tz tu : TS} {t : TT} {σ : L2.St} {H : Hp} {b : Bool}
/-- an if without else whose branch goes on as the rest does: the rest is shown once -/
theorem q_whenT (h : EvT t σ H b) (k : ∀ H1, Ex H H1 → tz D σ H1) (h1 : (∀ H1, Ex H H1 → tz D σ H1) → b = true → ∀ H1, Ex H H1 → tu { D with nx := tz D } σ H1) : tSeq (tIfS t tu tNext) tz D σ H :=
  q_when h (h1 k) fun _ => k
end
end Sq

namespace Qk18
open PySem PySem.Spec PyProof.Rows L2 Evl Sq
local macro_rules | `(tactic| walk_at "sq_sym") => `(tactic| first | assumption | ((with_reducible apply sym_add) <;> walk_at "sq_sym") | ((with_reducible apply sym_mul) <;> walk_at "sq_sym") | ((with_reducible apply sym_div) <;> walk_at "sq_sym") | (show Sym _; decide) | (constructor <;> omega))
local macro_rules | `(tactic| walk_at "sq_c") => `(tactic| first | assumption | decide | omega | (show CDivN _ _; exact ⟨by omega, by omega⟩) | (show CPow _ _; exact ⟨by decide, by decide, by decide⟩) | (show CMul _ _; first | (exact .inl ⟨by omega, by omega⟩) | (exact .inr ⟨by omega, by omega⟩)))
local macro_rules | `(tactic| walk_at "sq_rv") => `(tactic| first
  | (with_reducible exact rv_I0)
  | ((with_reducible apply rv_ne); rfl)
  | ((with_reducible apply rv_eq); rfl)
  | (with_reducible exact ru_neg)
  | ((with_reducible apply rv_ixT); (assumption); first | assumption | rfl)
  | ((with_reducible apply rv_ixL); (assumption); first | assumption | rfl)
  | ((with_reducible apply rv_I); walk_at "sq_c"))
local macro_rules | `(tactic| walk_at "sq_spv") => `(tactic| first
  | assumption
  | ((with_reducible apply spv_I2); (first | (show Sym2 _ _; constructor <;> walk_at "sq_sym") | (show SymD _ _; refine ⟨?_, ?_, ?_⟩; (walk_at "sq_sym"); (walk_at "sq_sym"); (first | assumption | decide))))
  | ((with_reducible apply spv_req2) <;> walk_at "sq_sym")
  | ((with_reducible apply spv_sym); first | assumption | exact kd_int)
  | ((with_reducible apply spv_num); first | assumption | exact kd_int))
local macro_rules | `(tactic| walk_at "sq_ea") => `(tactic| first | (with_reducible exact ea_nil) | ((with_reducible apply ea_cons); (walk_at "sq_ev"); (walk_at "sq_ea")))
local macro_rules | `(tactic| walk_at "sq_rc") => `(tactic| first | exact rc_int | exact rc_intB)
local macro_rules | `(tactic| walk_at "sq_ev") => `(tactic| first
  | (with_reducible exact ev_c)
  | ((with_reducible apply ev_var); rfl)
  | ((with_reducible apply ev_op); (walk_at "sq_ev"); (walk_at "sq_ev"); (walk_at "sq_rv"))
  | ((with_reducible apply ev_callD); (walk_at "sq_ea"); (walk_at "sq_spv"))
  | ((with_reducible apply ev_cb); (walk_at "sq_ea"); (walk_at "sq_rc"))
  | ((with_reducible apply ev_iteI); (walk_at "sq_et"); (intro _; (walk_at "sq_ev")); (intro _; (walk_at "sq_ev")))
  | ((with_reducible apply ev_andV); (walk_at "sq_ev"); (intro _; (walk_at "sq_ev")))
  | ((with_reducible apply ev_orV); (walk_at "sq_ev"); (intro _; (walk_at "sq_ev")))
  | ((with_reducible apply ev_notV); (walk_at "sq_ev"))
  | ((with_reducible apply ev_chain); (walk_at "sq_ev"); (walk_at "sq_ev"); (walk_at "sq_rv"); (intro _; (walk_at "sq_ev")); (intro _; (walk_at "sq_rv"))))
local macro_rules | `(tactic| walk_at "sq_et") => `(tactic| first
  | ((with_reducible apply et_test); (walk_at "sq_ev"))
  | ((with_reducible apply et_B); (walk_at "sq_ev"))
  | ((with_reducible apply et_or); (walk_at "sq_et"); (intro _; (walk_at "sq_et")))
  | ((with_reducible apply et_and); (walk_at "sq_et"); (intro _; (walk_at "sq_et")))
  | ((with_reducible apply et_not); (walk_at "sq_et")))

def topS (i : Nat) : Stmt := PySem.Challenge.pw_squaremark_k18_whole_sums_and_products.main.body.getD i (.Pass ⟨0, 0, 0, 0⟩)
abbrev s_add : Stmt := topS 6
theorem sc_add : FnScope ["left", "right"] ["left", "right"] (defScope s_add) := ⟨rfl, rfl, rfl, by decide +kernel, rfl, by decide +kernel, by decide +kernel⟩
abbrev s_multiply : Stmt := topS 7
theorem sc_multiply : FnScope ["left", "right"] ["left", "right"] (defScope s_multiply) := ⟨rfl, rfl, rfl, by decide +kernel, rfl, by decide +kernel, by decide +kernel⟩
abbrev s_divide : Stmt := topS 8
theorem sc_divide : FnScope ["left", "right"] ["left", "right"] (defScope s_divide) := ⟨rfl, rfl, rfl, by decide +kernel, rfl, by decide +kernel, by decide +kernel⟩
abbrev s_is_number : Stmt := topS 9
theorem sc_is_number : FnScope ["value"] ["value"] (defScope s_is_number) := ⟨rfl, rfl, rfl, by decide +kernel, rfl, by decide +kernel, by decide +kernel⟩
abbrev s_is_symbol : Stmt := topS 10
theorem sc_is_symbol : FnScope ["value"] ["value"] (defScope s_is_symbol) := ⟨rfl, rfl, rfl, by decide +kernel, rfl, by decide +kernel, by decide +kernel⟩
abbrev s_times : Stmt := topS 11
theorem sc_times : FnScope ["left", "right"] ["left", "right"] (defScope s_times) := ⟨rfl, rfl, rfl, by decide +kernel, rfl, by decide +kernel, by decide +kernel⟩
abbrev s_over : Stmt := topS 12
theorem sc_over : FnScope ["left", "right"] ["left", "right"] (defScope s_over) := ⟨rfl, rfl, rfl, by decide +kernel, rfl, by decide +kernel, by decide +kernel⟩
abbrev s__require_symbols : Stmt := topS 13
theorem sc__require_symbols : FnScope ["left", "right"] ["left", "right"] (defScope s__require_symbols) := ⟨rfl, rfl, rfl, by decide +kernel, rfl, by decide +kernel, by decide +kernel⟩
abbrev s__law_taken : Stmt := topS 15
theorem sc__law_taken : FnScope ["_law_row", "_law_many", "_law_found", "_law_cell"] ["_law_row", "_law_many"] (defScope s__law_taken) := ⟨rfl, rfl, rfl, by decide +kernel, rfl, by decide +kernel, by decide +kernel⟩
abbrev s_law : Stmt := topS 16
theorem sc_law : FnScope ["_law_script", "_law_row", "_law_turn", "_law_a", "_law_b", "_law_c", "_law_power", "_law_step"] ["_law_script"] (defScope s_law) := ⟨rfl, rfl, rfl, by decide +kernel, rfl, by decide +kernel, by decide +kernel⟩
structure Tx (K : PySem.W.Frag) (mg : Str → Option Value) (a__POWERS : Addr) (a__EXPONENTS : Addr) : Prop where
  n_isinstance : mg "isinstance" = none
  n_int : mg "int" = none
  n_bool : mg "bool" = none
  n_len : mg "len" = none
  n_range : mg "range" = none
  g__POWERS : mg "_POWERS" = some (.ref a__POWERS)
  t__POWERS : ∀ H, SqT K H a__POWERS (([1, 2, 4, 8, 3, 6, 12, 11, 5, 10, 7, 14, 15, 13, 9, 1, 2, 4, 8, 3, 6, 12, 11, 5, 10, 7, 14, 15, 13, 9] : List Int).map V.int)
  g__EXPONENTS : mg "_EXPONENTS" = some (.ref a__EXPONENTS)
  t__EXPONENTS : ∀ H, SqT K H a__EXPONENTS (([0, 0, 1, 4, 2, 8, 5, 10, 3, 14, 9, 7, 6, 13, 11, 12] : List Int).map V.int)
section
variable {P : Program} {w : World} {K : PySem.W.Frag} {mg : Str → Option Value} {base : Heap} {a__POWERS a__EXPONENTS : Addr}
theorem ok_add {f : Addr} {fd : FuncData} (F : Fun K "add" "add" s_add f fd) (T : Tx K mg a__POWERS a__EXPONENTS)
    (D__require_symbols : Dfn P w K mg base 3 "_require_symbols" ["left", "right"] spReq2) :
    FnOk P w K mg base CX0 4 f fd ["left", "right"] spAdd := by
  refine F.ok sc_add (fun vs H Q E h => ?_) (fun cdv A outer s H vs Q E hr h => ?_)
  · obtain ⟨i, j, rfl, ⟨hi, hj⟩, q⟩ := h
    rfl
  · obtain ⟨i, j, rfl, ⟨hi, hj⟩, q⟩ := h
    refine ⟨_, (pss_cons (ps_expr (pe_callD D__require_symbols hr (by decide) (by rfl) (pa_cons (pv 0) (pa_cons (pv 1) pa_nil))))
    (pss_one (ps_ret (pe_op op_xor (pv 0) (pv 1))))), ?_⟩

    exact q_drop (ev_callD (ea_cons (ev_var rfl) (ea_cons (ev_var rfl) ea_nil)) (spv_req2 hi hj)) fun H1 e1 => s_ret (ev_op (ev_var rfl) (ev_var rfl) rv_I0) fun H2 e2 => q H2 (e1.trans e2)
theorem ok_multiply {f : Addr} {fd : FuncData} (F : Fun K "multiply" "multiply" s_multiply f fd) (T : Tx K mg a__POWERS a__EXPONENTS)
    (D__require_symbols : Dfn P w K mg base 3 "_require_symbols" ["left", "right"] spReq2)
    (D_times : Dfn P w K mg base 1 "times" ["left", "right"] spMul) :
    FnOk P w K mg base CX0 4 f fd ["left", "right"] spMul := by
  refine F.ok sc_multiply (fun vs H Q E h => ?_) (fun cdv A outer s H vs Q E hr h => ?_)
  · obtain ⟨i, j, rfl, ⟨hi, hj⟩, q⟩ := h
    rfl
  · obtain ⟨i, j, rfl, ⟨hi, hj⟩, q⟩ := h
    refine ⟨_, (pss_cons (ps_expr (pe_callD D__require_symbols hr (by decide) (by rfl) (pa_cons (pv 0) (pa_cons (pv 1) pa_nil))))
    (pss_one (ps_ret (pe_callD D_times hr (by decide) (by rfl) (pa_cons (pv 0) (pa_cons (pv 1) pa_nil)))))), ?_⟩

    exact q_drop (ev_callD (ea_cons (ev_var rfl) (ea_cons (ev_var rfl) ea_nil)) (spv_req2 hi hj)) fun H1 e1 => s_ret (ev_callD (ea_cons (ev_var rfl) (ea_cons (ev_var rfl) ea_nil)) (spv_I2 ⟨hi, hj⟩)) fun H2 e2 => q H2 (e1.trans e2)
theorem ok_divide {f : Addr} {fd : FuncData} (F : Fun K "divide" "divide" s_divide f fd) (T : Tx K mg a__POWERS a__EXPONENTS)
    (D__require_symbols : Dfn P w K mg base 3 "_require_symbols" ["left", "right"] spReq2)
    (D_over : Dfn P w K mg base 1 "over" ["left", "right"] spDiv) :
    FnOk P w K mg base CX0 4 f fd ["left", "right"] spDiv := by
  refine F.ok sc_divide (fun vs H Q E h => ?_) (fun cdv A outer s H vs Q E hr h => ?_)
  · obtain ⟨i, j, rfl, ⟨hi, hj, h0⟩, q⟩ := h
    rfl
  · obtain ⟨i, j, rfl, ⟨hi, hj, h0⟩, q⟩ := h
    refine ⟨_, (pss_cons (ps_expr (pe_callD D__require_symbols hr (by decide) (by rfl) (pa_cons (pv 0) (pa_cons (pv 1) pa_nil))))
    (pss_cons (ps_if (pt_cmpR op_eq (pv 1) pe_int (nomark _))
    (pss_one ps_never)
    pss_nil)
    (pss_one (ps_ret (pe_callD D_over hr (by decide) (by rfl) (pa_cons (pv 0) (pa_cons (pv 1) pa_nil))))))), ?_⟩

    exact q_drop (ev_callD (ea_cons (ev_var rfl) (ea_cons (ev_var rfl) ea_nil)) (spv_req2 hi hj)) fun H1 e1 =>
      q_when (b := false) (et_is (et_test (ev_op (ev_var rfl) ev_c (rv_eq rfl))) (decide_eq_false fun z => h0 (V.int.inj z))) (fun z => nomatch z) fun _ H2 e2 =>
      s_ret (ev_callD (ea_cons (ev_var rfl) (ea_cons (ev_var rfl) ea_nil)) (spv_I2 ⟨hi, hj, h0⟩)) fun H3 e3 => q H3 ((e1.trans e2).trans e3)
theorem ok_is_number {f : Addr} {fd : FuncData} (F : Fun K "is_number" "is_number" s_is_number f fd) (T : Tx K mg a__POWERS a__EXPONENTS) :
    FnOk P w K mg base CX0 1 f fd ["value"] (spNum K) := by
  refine F.ok sc_is_number (fun vs H Q E h => ?_) (fun cdv A outer s H vs Q E hr h => ?_)
  · obtain ⟨v, rfl, kd, q⟩ := h
    rfl
  · obtain ⟨v, rfl, kd, q⟩ := h
    refine ⟨_, (pss_one (ps_ret (pe_and (pe_callB call_isi (by rfl) T.n_isinstance (by decide +kernel) (pa_cons (pv 0) (pa_cons (pe_bltn (v := .ty "int") (by rfl) T.n_int (by decide +kernel) rfl) pa_nil))) (pe_one (pe_not (pe_callB call_isi (by rfl) T.n_isinstance (by decide +kernel) (pa_cons (pv 0) (pa_cons (pe_bltn (v := .ty "bool") (by rfl) T.n_bool (by decide +kernel) rfl) pa_nil)))))))), ?_⟩

    rcases id kd with rfl | ⟨b, rfl⟩ | ⟨i, rfl⟩ | ⟨x, rfl⟩ | ⟨p, rfl, ⟨xs, hs⟩ | ⟨xs, hs⟩⟩
    · exact s_ret (ev_andV (ev_cb (ea_cons (ev_var rfl) (ea_cons ev_c ea_nil)) (rc_isi (T := "NoneType") (b := false) (fun _ _ => .base .non) (by decide +kernel))) (b := false) fun z => nomatch z) fun H1 e1 => q H1 e1
    · exact s_ret (ev_andV (ev_cb (ea_cons (ev_var rfl) (ea_cons ev_c ea_nil)) (rc_isi (T := "bool") (b := true) (fun _ _ => .base (.bl b)) (by decide +kernel))) fun _ => ev_notV (ev_cb (ea_cons (ev_var rfl) (ea_cons ev_c ea_nil)) (rc_isi (T := "bool") (b := true) (fun _ _ => .base (.bl b)) (by decide +kernel)))) fun H1 e1 => q H1 e1
    · exact s_ret (ev_andV (ev_cb (ea_cons (ev_var rfl) (ea_cons ev_c ea_nil)) (rc_isi (T := "int") (b := true) (fun _ _ => .base (.int i)) (by decide +kernel))) fun _ => ev_notV (ev_cb (ea_cons (ev_var rfl) (ea_cons ev_c ea_nil)) (rc_isi (T := "int") (b := false) (fun _ _ => .base (.int i)) (by decide +kernel)))) fun H1 e1 => q H1 e1
    · exact s_ret (ev_andV (ev_cb (ea_cons (ev_var rfl) (ea_cons ev_c ea_nil)) (rc_isi (T := "str") (b := false) (fun _ _ => .base (.str x)) (by decide +kernel))) (b := false) fun z => nomatch z) fun H1 e1 => q H1 e1
    · exact s_ret (ev_andV (ev_cb (ea_cons (ev_var rfl) (ea_cons ev_c ea_nil)) (rc_isi (T := "tuple") (b := false) (fun _ e => ty_tup (ex_t e hs)) (by decide +kernel))) (b := false) fun z => nomatch z) fun H1 e1 => q H1 e1
    · exact s_ret (ev_andV (ev_cb (ea_cons (ev_var rfl) (ea_cons ev_c ea_nil)) (rc_isi (T := "list") (b := false) (fun _ e => ty_lst (ex_l e hs)) (by decide +kernel))) (b := false) fun z => nomatch z) fun H1 e1 => q H1 e1
theorem ok_is_symbol {f : Addr} {fd : FuncData} (F : Fun K "is_symbol" "is_symbol" s_is_symbol f fd) (T : Tx K mg a__POWERS a__EXPONENTS)
    (D_is_number : Dfn P w K mg base 1 "is_number" ["value"] (spNum K)) :
    FnOk P w K mg base CX0 2 f fd ["value"] (spSym K) := by
  refine F.ok sc_is_symbol (fun vs H Q E h => ?_) (fun cdv A outer s H vs Q E hr h => ?_)
  · obtain ⟨v, rfl, kd, q⟩ := h
    rfl
  · obtain ⟨v, rfl, kd, q⟩ := h
    refine ⟨_, (pss_one (ps_ret (pe_and (pe_callD D_is_number hr (by decide) (by rfl) (pa_cons (pv 0) pa_nil)) (pe_one (pe_chain op_le op_le pe_int (pv 0) pe_int))))), ?_⟩

    have hn := spv_num kd
    rcases id kd with rfl | ⟨b, rfl⟩ | ⟨i, rfl⟩ | ⟨x, rfl⟩ | ⟨p, rfl, hs⟩
    · exact s_ret (ev_andV (a := false) (b := false) (ev_callD (ea_cons (ev_var rfl) ea_nil) hn) fun z => nomatch z) fun H1 e1 => q H1 e1
    · exact s_ret (ev_andV (a := false) (b := false) (ev_callD (ea_cons (ev_var rfl) ea_nil) hn) fun z => nomatch z) fun H1 e1 => q H1 e1
    · exact s_ret (ev_andV (a := true) (ev_callD (ea_cons (ev_var rfl) ea_nil) hn) fun _ => ev_chain ev_c (ev_var rfl) rv_I0 (fun _ => ev_c) fun _ => rv_I0) fun H1 e1 => q H1 e1
    · exact s_ret (ev_andV (a := false) (b := false) (ev_callD (ea_cons (ev_var rfl) ea_nil) hn) fun z => nomatch z) fun H1 e1 => q H1 e1
    · exact s_ret (ev_andV (a := false) (b := false) (ev_callD (ea_cons (ev_var rfl) ea_nil) hn) fun z => nomatch z) fun H1 e1 => q H1 e1
theorem ok_times {f : Addr} {fd : FuncData} (F : Fun K "times" "times" s_times f fd) (T : Tx K mg a__POWERS a__EXPONENTS) :
    FnOk P w K mg base CX0 1 f fd ["left", "right"] spMul := by
  refine F.ok sc_times (fun vs H Q E h => ?_) (fun cdv A outer s H vs Q E hr h => ?_)
  · obtain ⟨i, j, rfl, ⟨hi, hj⟩, q⟩ := h
    rfl
  · obtain ⟨i, j, rfl, ⟨hi, hj⟩, q⟩ := h
    refine ⟨_, (pss_cons (ps_if (PW.pt (pw_or (pt_cmpR op_eq (pv 0) pe_int (nomark _)) (pw_or1 (pt_cmpR op_eq (pv 1) pe_int (nomark _)))))
    (pss_one (ps_ret pe_int))
    pss_nil)
    (pss_one (ps_ret (pe_ix ix_tup (pe_glob (v := .ref _) (by rfl) T.g__POWERS rfl) (pe_op op_add (pe_ix ix_tup (pe_glob (v := .ref _) (by rfl) T.g__EXPONENTS rfl) (pv 0) (fun _ _ => rfl)) (pe_ix ix_tup (pe_glob (v := .ref _) (by rfl) T.g__EXPONENTS rfl) (pv 1) (fun _ _ => rfl))) (fun _ _ => rfl))))), ?_⟩

    have tp := T.t__POWERS
    have te := T.t__EXPONENTS
    have b1 := eT_b hi
    have b2 := eT_b hj
    refine q_when (b := decide (i = 0 ∨ j = 0)) (et_is (et_or (et_test (ev_op (ev_var rfl) ev_c (rv_eq rfl))) fun _ => et_test (ev_op (ev_var rfl) ev_c (rv_eq rfl))) ?_) (fun z H1 e1 => s_ret ev_c fun H2 e2 => ?_) (fun z H1 e1 => s_ret (ev_op ev_c (ev_op (ev_op ev_c (ev_var rfl) (rv_ixT (te _) (exp_at hi))) (ev_op ev_c (ev_var rfl) (rv_ixT (te _) (exp_at hj))) rv_I0) (rv_ixT (tp _) (pow_at (by omega) (by omega)))) fun H2 e2 => ?_)
    · rw [Bool.eq_iff_iff]
      simp
    · have e : gmul i j = 0 := if_pos (of_decide_eq_true z)
      rw [← e]
      exact q _ (e1.trans e2)
    · have e : gmul i j = pT (eT i + eT j) := if_neg (of_decide_eq_false z)
      rw [← e]
      exact q _ (e1.trans e2)
theorem ok_over {f : Addr} {fd : FuncData} (F : Fun K "over" "over" s_over f fd) (T : Tx K mg a__POWERS a__EXPONENTS) :
    FnOk P w K mg base CX0 1 f fd ["left", "right"] spDiv := by
  refine F.ok sc_over (fun vs H Q E h => ?_) (fun cdv A outer s H vs Q E hr h => ?_)
  · obtain ⟨i, j, rfl, ⟨hi, hj, h0⟩, q⟩ := h
    rfl
  · obtain ⟨i, j, rfl, ⟨hi, hj, h0⟩, q⟩ := h
    refine ⟨_, (pss_cons (ps_if (pt_cmpR op_eq (pv 0) pe_int (nomark _))
    (pss_one (ps_ret pe_int))
    pss_nil)
    (pss_one (ps_ret (pe_ix ix_tup (pe_glob (v := .ref _) (by rfl) T.g__POWERS rfl) (pe_op op_add (pe_op op_sub (pe_ix ix_tup (pe_glob (v := .ref _) (by rfl) T.g__EXPONENTS rfl) (pv 0) (fun _ _ => rfl)) (pe_ix ix_tup (pe_glob (v := .ref _) (by rfl) T.g__EXPONENTS rfl) (pv 1) (fun _ _ => rfl))) pe_int) (fun _ _ => rfl))))), ?_⟩

    have tp := T.t__POWERS
    have te := T.t__EXPONENTS
    have b1 := eT_b hi
    have b2 := eT_b hj
    refine q_when (b := decide (V.int i = V.int 0)) (et_test (ev_op (ev_var rfl) ev_c (rv_eq rfl))) (fun z H1 e1 => s_ret ev_c fun H2 e2 => ?_) (fun z H1 e1 => s_ret (ev_op ev_c (ev_op (ev_op (ev_op ev_c (ev_var rfl) (rv_ixT (te _) (exp_at hi))) (ev_op ev_c (ev_var rfl) (rv_ixT (te _) (exp_at hj))) rv_I0) ev_c rv_I0) (rv_ixT (tp _) (pow_at (by omega) (by omega)))) fun H2 e2 => ?_)
    · have e : gdiv i j = 0 := if_pos (V.int.inj (of_decide_eq_true z))
      rw [← e]
      exact q _ (e1.trans e2)
    · have e : gdiv i j = pT (eT i - eT j + 15) := if_neg fun y => of_decide_eq_false z (congrArg V.int y)
      rw [← e]
      exact q _ (e1.trans e2)
theorem ok__require_symbols {f : Addr} {fd : FuncData} (F : Fun K "_require_symbols" "_require_symbols" s__require_symbols f fd) (T : Tx K mg a__POWERS a__EXPONENTS)
    (D_is_symbol : Dfn P w K mg base 2 "is_symbol" ["value"] (spSym K)) :
    FnOk P w K mg base CX0 3 f fd ["left", "right"] spReq2 := by
  refine F.ok sc__require_symbols (fun vs H Q E h => ?_) (fun cdv A outer s H vs Q E hr h => ?_)
  · obtain ⟨i, j, rfl, hi, hj, q⟩ := h
    rfl
  · obtain ⟨i, j, rfl, hi, hj, q⟩ := h
    refine ⟨_, (pss_one (ps_if (PW.pt (pw_or (pt_not (pt_val (pe_callD D_is_symbol hr (by decide) (by rfl) (pa_cons (pv 0) pa_nil)))) (pw_or1 (pt_not (pt_val (pe_callD D_is_symbol hr (by decide) (by rfl) (pa_cons (pv 1) pa_nil)))))))
    (pss_one ps_never)
    pss_nil)), ?_⟩

    have h1 := isSym_of hi
    have h2 := isSym_of hj
    refine s_when (b := false) (et_is (et_or (et_not (et_B (ev_callD (ea_cons (ev_var rfl) ea_nil) (spv_sym kd_int)))) fun _ => et_not (et_B (ev_callD (ea_cons (ev_var rfl) ea_nil) (spv_sym kd_int)))) ?_) (fun z => nomatch z) fun _ H1 e1 => q H1 e1
    rw [h1, h2]
    rfl
theorem ok__law_taken {f : Addr} {fd : FuncData} (F : Fun K "_law_taken" "_law_taken" s__law_taken f fd) (T : Tx K mg a__POWERS a__EXPONENTS) :
    FnOk P w K mg base CX0 1 f fd ["_law_row", "_law_many"] (spTaken K) := by
  refine fn_rows (sp := (spTakenL K)) ?_ (fun vs H Q E h => ?_) (fun vs H Q E h => ?_)
  rotate_left
  · obtain ⟨r, m, rfl, h0, h1, hrow, q⟩ := h
    rfl
  · exact taken_rows h
  refine F.ok sc__law_taken (fun vs H Q E h => ?_) (fun cdv A outer s H vs Q E hr h => ?_)
  · obtain ⟨r, a, m, i, x, y, ns, rfl, h0, h1, ⟨b1, b2, b3, b4⟩, hr, hs, q⟩ := h
    rfl
  · obtain ⟨r, a, m, i, x, y, ns, rfl, h0, h1, ⟨b1, b2, b3, b4⟩, hr, hs, q⟩ := h
    refine ⟨_, (pss_cons (ps_if (pt_cmpR op_gt (pe_ix ix_list (pv 0) pe_int (fun _ _ => rfl)) pe_int (nomark _))
    (pss_cons (ps_set (i := 2) sc__law_taken.nd rfl (.inl rfl) (pe_op op_modN (pe_callTy call_int1 (by rfl) T.n_int (by decide +kernel) (pa_cons (pe_ix ix_list (pv 0) pe_int (fun _ _ => rfl)) pa_nil)) (pv 1)))
    (pss_cons (ps_asg (pe_op op_fdivN (pe_ix ix_list (pv 0) pe_int (fun _ _ => rfl)) (pv 1)) (pg_sub (pv 0) pe_int set_list))
    (pss_one (ps_ret (pv 2)))))
    pss_nil)
    (pss_cons (ps_asg (pe_op op_add (pe_ix ix_list (pv 0) pe_int (fun _ _ => rfl)) pe_int) (pg_sub (pv 0) pe_int set_list))
    (pss_cons (ps_if (pt_cmpR op_gt (pe_ix ix_list (pv 0) pe_int (fun _ _ => rfl)) (pe_callB call_len_seq (by rfl) T.n_len PySem.boot_len (pa_cons (pe_ix ix_list (pv 0) pe_int (fun _ _ => rfl)) pa_nil)) (nomark _))
    (pss_cons (ps_asg (pe_op op_modN (pe_callTy call_int1 (by rfl) T.n_int (by decide +kernel) (pa_cons (pe_op op_add (pe_op op_mul (pe_ix ix_list (pv 0) pe_int (fun _ _ => rfl)) pe_int) pe_int) pa_nil)) pe_int) (pg_sub (pv 0) pe_int set_list))
    (pss_one (ps_ret (pe_op op_modN (pe_callTy call_int1 (by rfl) T.n_int (by decide +kernel) (pa_cons (pe_op op_fdivN (pe_ix ix_list (pv 0) pe_int (fun _ _ => rfl)) pe_int) pa_nil)) (pv 1)))))
    pss_nil)
    (pss_cons (ps_set (i := 3) sc__law_taken.nd rfl (.inl rfl) (pe_ix ix_list (pe_ix ix_list (pv 0) pe_int (fun _ _ => rfl)) (pe_op op_sub (pe_ix ix_list (pv 0) pe_int (fun _ _ => rfl)) pe_int) (fun _ _ => rfl)))
    (pss_cons (ps_asg (pe_op op_modN (pe_callTy call_int1 (by rfl) T.n_int (by decide +kernel) (pa_cons (pe_op op_add (pe_op op_add (pe_op op_mul (pe_ix ix_list (pv 0) pe_int (fun _ _ => rfl)) pe_int) (pv 3)) pe_int) pa_nil)) pe_int) (pg_sub (pv 0) pe_int set_list))
    (pss_cons (ps_if (pt_cmpR op_ge (pv 3) (pe_op op_pow pe_int pe_int) (nomark _))
    (pss_one (ps_asg (pe_op op_fdivN (pv 3) (pv 1)) (pg_sub (pv 0) pe_int set_list)))
    pss_nil)
    (pss_one (ps_ret (pe_op op_modN (pe_callTy call_int1 (by rfl) T.n_int (by decide +kernel) (pa_cons (pv 3) pa_nil)) (pv 1)))))))))), ?_⟩

    have hm : m ≠ 0 := by omega
    have R : ∀ {H' : Hp} {i x y : Int} {j : Int} {v : V}, H' r = some (rowL a i x y) → atI [.ref a, .int i, .int x, .int y] j = some v → RV (rIxL K) (.ref r) (.int j) H' v := fun e1 e2 => rv_ixL (sq_of e1) e2
    refine q_when (et_test (ev_op (ev_op (ev_var rfl) ev_c (R hr rfl)) ev_c rv_I0)) (fun c H1 e1 => ?_) (fun c H1 e1 => ?_)
    · have hr1 := e1 _ _ hr
      refine q_asg (ev_op (ev_cb (ea_cons (ev_op (ev_var rfl) ev_c (R hr1 rfl)) ea_nil) rc_int) (ev_var rfl) (rv_I hm)) fun H2 e2 => ?_
      have hr2 := e2 _ _ hr1
      refine q_setL (j := 3) hr2 (ev_op (ev_op (ev_var rfl) ev_c (R hr2 rfl)) (ev_var rfl) (rv_I (show CDivN _ _ from ⟨hm, by omega⟩))) (ev_var rfl) ev_c (by show 3 < 4; decide) fun H3 e3 => ?_
      refine s_ret (ev_var rfl) fun H4 e4 => ?_
      refine q _ i x (y.fdiv m) H4 (fmod_range h0).1 (fmod_range h0).2 ⟨b1, b2, b3, Int.fdiv_nonneg b4 (by omega)⟩ (e4 _ _ upd_same) fun c o hc e => e4 _ _ ?_
      rw [upd_ne hc]
      exact e3 _ _ (e2 _ _ (e1 _ _ e))
    · have hr1 := e1 _ _ hr
      refine q_setL (j := 1) hr1 (ev_op (ev_op (ev_var rfl) ev_c (R hr1 rfl)) ev_c rv_I0) (ev_var rfl) ev_c (by show 1 < 4; decide) fun H2 e2 => ?_
      have hr2 : (upd H2 r (.lst (([.ref a, .int i, .int x, .int y] : List V).set 1 (.int (i + 1))))) r = some (rowL a (i + 1) x y) := upd_same
      have hs2 : SqL K (upd H2 r (.lst (([.ref a, .int i, .int x, .int y] : List V).set 1 (.int (i + 1))))) a (ns.map V.int) := row_keep (ex_l (e1.trans e2) hs) (e2 _ _ hr1)
      have k2 : ∀ c o, c ≠ r → H c = some o → (upd H2 r (.lst (([.ref a, .int i, .int x, .int y] : List V).set 1 (.int (i + 1))))) c = some o := fun c o hc e => by
        rw [upd_ne hc]
        exact e2 _ _ (e1 _ _ e)
      generalize (upd H2 r (.lst (([.ref a, .int i, .int x, .int y] : List V).set 1 (.int (i + 1))))) = G at hr2 hs2 k2 ⊢
      refine q_when (et_test (ev_op (ev_op (ev_var rfl) ev_c (R hr2 rfl)) (ev_len (ev_op (ev_var rfl) ev_c (R hr2 rfl)) hs2) rv_I0)) (fun c1 H3 e3 => ?_) (fun c1 H3 e3 => ?_)
      · have hr3 := e3 _ _ hr2
        refine q_setL (j := 2) hr3 (ev_op (ev_cb (ea_cons (ev_op (ev_op (ev_op (ev_var rfl) ev_c (R hr3 rfl)) ev_c (rv_I (show CMul _ _ from .inl ⟨by omega, by omega⟩))) ev_c rv_I0) ea_nil) rc_int) ev_c (rv_I (by decide))) (ev_var rfl) ev_c (by show 2 < 4; decide) fun H4 e4 => ?_
        refine s_ret (ev_op (ev_cb (ea_cons (ev_op (ev_op (ev_var rfl) ev_c (R upd_same rfl)) ev_c (rv_I (show CDivN _ _ from ⟨by decide, by decide⟩))) ea_nil) rc_int) (ev_var rfl) (rv_I hm)) fun H5 e5 => ?_
        refine q _ (i + 1) ((x * 48271 + 11).fmod 2147483647) y H5 (fmod_range h0).1 (fmod_range h0).2 ⟨by omega, (fmod_range (by decide)).1, (fmod_range (by decide)).2, b4⟩ (e5 _ _ upd_same) fun c o hc e => e5 _ _ ?_
        rw [upd_ne hc]
        exact e4 _ _ (e3 _ _ (k2 c o hc e))
      · have hr3 := e3 _ _ hr2
        have hlt : i.toNat < ns.length := by
          have z := of_decide_eq_false c1
          rw [List.length_map] at z
          omega
        have hat : atI (ns.map V.int) (i + 1 - 1) = some (.int ns[i.toNat]) := at_of (j := i.toNat) (by omega) (dn_seq ns _ _ (List.getElem?_eq_getElem hlt))
        generalize ns[i.toNat] = n at hat
        refine q_asg (ev_op (ev_op (ev_var rfl) ev_c (R hr3 rfl)) (ev_op (ev_op (ev_var rfl) ev_c (R hr3 rfl)) ev_c rv_I0) (rv_ixL (ex_l e3 hs2) hat)) fun H4 e4 => ?_
        have hr4 := e4 _ _ hr3
        refine q_setL (j := 2) hr4 (ev_op (ev_cb (ea_cons (ev_op (ev_op (ev_op (ev_op (ev_var rfl) ev_c (R hr4 rfl)) ev_c (rv_I (show CMul _ _ from .inl ⟨by omega, by omega⟩))) (ev_var rfl) rv_I0) ev_c rv_I0) ea_nil) rc_int) ev_c (rv_I (by decide))) (ev_var rfl) ev_c (by show 2 < 4; decide) fun H5 e5 => ?_
        have k5 : ∀ c o, c ≠ r → H c = some o → H5 c = some o := fun c o hc e => e5 _ _ (e4 _ _ (e3 _ _ (k2 c o hc e)))
        refine q_when (et_test (ev_op (ev_var rfl) (ev_op ev_c ev_c (rv_I (show CPow _ _ from ⟨by decide, by decide, by decide⟩))) rv_I0)) (fun c2 H6 e6 => ?_) (fun c2 H6 e6 => ?_)
        · have hn : 0 ≤ n := by
            have z := of_decide_eq_true c2
            have w : (0 : Int) ≤ 10 ^ (18 : Int).toNat := by decide
            omega
          refine s_setL (j := 3) (e6 _ _ upd_same) (ev_op (ev_var rfl) (ev_var rfl) (rv_I (show CDivN _ _ from ⟨hm, by omega⟩))) (ev_var rfl) ev_c (by show 3 < 4; decide) fun H7 e7 => ?_
          dsimp only
          refine s_ret (ev_op (ev_cb (ea_cons (ev_var rfl) ea_nil) rc_int) (ev_var rfl) (rv_I hm)) fun H8 e8 => ?_
          refine q _ (i + 1) ((x * 48271 + n + 11).fmod 2147483647) (n.fdiv m) H8 (fmod_range h0).1 (fmod_range h0).2 ⟨by omega, (fmod_range (by decide)).1, (fmod_range (by decide)).2, Int.fdiv_nonneg hn (by omega)⟩ (e8 _ _ upd_same) fun c o hc e => e8 _ _ ?_
          rw [upd_ne hc]
          refine e7 _ _ (e6 _ _ ?_)
          rw [upd_ne hc]
          exact k5 c o hc e
        · refine s_ret (ev_op (ev_cb (ea_cons (ev_var rfl) ea_nil) rc_int) (ev_var rfl) (rv_I hm)) fun H8 e8 => ?_
          refine q _ (i + 1) ((x * 48271 + n + 11).fmod 2147483647) y H8 (fmod_range h0).1 (fmod_range h0).2 ⟨by omega, (fmod_range (by decide)).1, (fmod_range (by decide)).2, b4⟩ (e8 _ _ (e6 _ _ upd_same)) fun c o hc e => e8 _ _ (e6 _ _ ?_)
          rw [upd_ne hc]
          exact k5 c o hc e
theorem ok_law {f : Addr} {fd : FuncData} (F : Fun K "law" "law" s_law f fd) (T : Tx K mg a__POWERS a__EXPONENTS)
    (D__law_taken : Dfn P w K mg base 1 "_law_taken" ["_law_row", "_law_many"] (spTaken K))
    (D_multiply : Dfn P w K mg base 4 "multiply" ["left", "right"] spMul)
    (D_add : Dfn P w K mg base 4 "add" ["left", "right"] spAdd)
    (D_divide : Dfn P w K mg base 4 "divide" ["left", "right"] spDiv) :
    FnOk P w K mg base CX0 5 f fd ["_law_script"] (spLaw K) := by
  refine F.ok sc_law (fun vs H Q E h => ?_) (fun cdv A outer s H vs Q E hr h => ?_)
  · obtain ⟨a, ns, rfl, hS, hl, q⟩ := h
    rfl
  · obtain ⟨a, ns, rfl, hS, hl, q⟩ := h
    refine ⟨_, (pss_cons (ps_set (i := 1) sc_law.nd rfl (.inl rfl) (pe_lst (pa_cons (pv 0) (pa_cons pe_int (pa_cons pe_int (pa_cons pe_int pa_nil))))))
    (pss_abs (pss_cons (ps_for PassesOwn.never rfl (pi_range1 (by rfl) T.n_range (pa_cons pe_int pa_nil)) (pg_name (i := 2) sc_law.nd rfl (.inl rfl))
    (pss_cons (ps_par3 (i := 3) (j := 4) (l := 5) (by rfl) sc_law.nd rfl rfl rfl (by decide) (by decide) (by decide) rfl rfl rfl (pa_cons (pe_callD D__law_taken hr (by decide) (by rfl) (pa_cons (pv 1) (pa_cons pe_int pa_nil))) (pa_cons (pe_callD D__law_taken hr (by decide) (by rfl) (pa_cons (pv 1) (pa_cons pe_int pa_nil))) (pa_cons (pe_callD D__law_taken hr (by decide) (by rfl) (pa_cons (pv 1) (pa_cons pe_int pa_nil))) pa_nil))) (by rfl))
    (pss_cons (ps_if (PW.pt (pw_or (pt_cmpR op_ne (pe_callD D_add hr (by decide) (by rfl) (pa_cons (pv 3) (pa_cons (pv 4) pa_nil))) (pe_callD D_add hr (by decide) (by rfl) (pa_cons (pv 4) (pa_cons (pv 3) pa_nil))) (nomark _)) (pw_or (pt_cmpR op_ne (pe_callD D_add hr (by decide) (by rfl) (pa_cons (pe_callD D_add hr (by decide) (by rfl) (pa_cons (pv 3) (pa_cons (pv 4) pa_nil))) (pa_cons (pv 5) pa_nil))) (pe_callD D_add hr (by decide) (by rfl) (pa_cons (pv 3) (pa_cons (pe_callD D_add hr (by decide) (by rfl) (pa_cons (pv 4) (pa_cons (pv 5) pa_nil))) pa_nil))) (nomark _)) (pw_or (pt_cmpR op_ne (pe_callD D_add hr (by decide) (by rfl) (pa_cons (pv 3) (pa_cons (pv 3) pa_nil))) pe_int (nomark _)) (pw_or1 (pt_cmpR op_ne (pe_callD D_add hr (by decide) (by rfl) (pa_cons (pv 3) (pa_cons pe_int pa_nil))) (pv 3) (nomark _)))))))
    (pss_one (ps_ret pe_bl))
    pss_nil)
    (pss_cons (ps_if (PW.pt (pw_or (pt_cmpR op_ne (pe_callD D_multiply hr (by decide) (by rfl) (pa_cons (pv 3) (pa_cons (pv 4) pa_nil))) (pe_callD D_multiply hr (by decide) (by rfl) (pa_cons (pv 4) (pa_cons (pv 3) pa_nil))) (nomark _)) (pw_or1 (pt_cmpR op_ne (pe_callD D_multiply hr (by decide) (by rfl) (pa_cons (pe_callD D_multiply hr (by decide) (by rfl) (pa_cons (pv 3) (pa_cons (pv 4) pa_nil))) (pa_cons (pv 5) pa_nil))) (pe_callD D_multiply hr (by decide) (by rfl) (pa_cons (pv 3) (pa_cons (pe_callD D_multiply hr (by decide) (by rfl) (pa_cons (pv 4) (pa_cons (pv 5) pa_nil))) pa_nil))) (nomark _)))))
    (pss_one (ps_ret pe_bl))
    pss_nil)
    (pss_cons (ps_if (PW.pt (pw_or (pt_cmpR op_ne (pe_callD D_multiply hr (by decide) (by rfl) (pa_cons (pv 3) (pa_cons (pe_callD D_add hr (by decide) (by rfl) (pa_cons (pv 4) (pa_cons (pv 5) pa_nil))) pa_nil))) (pe_callD D_add hr (by decide) (by rfl) (pa_cons (pe_callD D_multiply hr (by decide) (by rfl) (pa_cons (pv 3) (pa_cons (pv 4) pa_nil))) (pa_cons (pe_callD D_multiply hr (by decide) (by rfl) (pa_cons (pv 3) (pa_cons (pv 5) pa_nil))) pa_nil))) (nomark _)) (pw_or (pt_cmpR op_ne (pe_callD D_multiply hr (by decide) (by rfl) (pa_cons (pv 3) (pa_cons pe_int pa_nil))) (pv 3) (nomark _)) (pw_or1 (pt_cmpR op_ne (pe_callD D_multiply hr (by decide) (by rfl) (pa_cons (pv 3) (pa_cons pe_int pa_nil))) pe_int (nomark _))))))
    (pss_one (ps_ret pe_bl))
    pss_nil)
    (pss_cons (ps_if (pt_cmpR op_ne (pe_callD D_multiply hr (by decide) (by rfl) (pa_cons (pv 3) (pa_cons pe_int pa_nil))) (pe_ifExp (pt_cmpR op_lt (pv 3) pe_int (nomark _)) (pe_op op_mul pe_int (pv 3)) (pe_callD D_add hr (by decide) (by rfl) (pa_cons (pe_op op_sub (pe_op op_mul pe_int (pv 3)) pe_int) (pa_cons pe_int pa_nil)))) (nomark _))
    (pss_one (ps_ret pe_bl))
    pss_nil)
    (pss_cons (ps_if (pt_cmpR op_ne (pv 4) pe_int (nomark _))
    (pss_cons (ps_if (PW.pt (pw_or (pt_cmpR op_ne (pe_callD D_divide hr (by decide) (by rfl) (pa_cons (pe_callD D_multiply hr (by decide) (by rfl) (pa_cons (pv 3) (pa_cons (pv 4) pa_nil))) (pa_cons (pv 4) pa_nil))) (pv 3) (nomark _)) (pw_or (pt_cmpR op_ne (pe_callD D_multiply hr (by decide) (by rfl) (pa_cons (pe_callD D_divide hr (by decide) (by rfl) (pa_cons (pv 3) (pa_cons (pv 4) pa_nil))) (pa_cons (pv 4) pa_nil))) (pv 3) (nomark _)) (pw_or1 (pt_cmpR op_ne (pe_callD D_divide hr (by decide) (by rfl) (pa_cons (pv 4) (pa_cons (pv 4) pa_nil))) pe_int (nomark _))))))
    (pss_one (ps_ret pe_bl))
    pss_nil)
    (pss_one (ps_if (PW.pt (pw_and (pt_cmpR op_ne (pv 5) pe_int (nomark _)) (pw_and1 (pt_cmpR op_ne (pe_callD D_divide hr (by decide) (by rfl) (pa_cons (pe_callD D_divide hr (by decide) (by rfl) (pa_cons (pv 3) (pa_cons (pv 4) pa_nil))) (pa_cons (pv 5) pa_nil))) (pe_callD D_divide hr (by decide) (by rfl) (pa_cons (pv 3) (pa_cons (pe_callD D_multiply hr (by decide) (by rfl) (pa_cons (pv 4) (pa_cons (pv 5) pa_nil))) pa_nil))) (nomark _)))))
    (pss_one (ps_ret pe_bl))
    pss_nil)))
    pss_nil)
    (pss_cons (ps_if (PW.pt (pw_or (PW.pt (pw_and (pt_cmpR op_ne (pv 3) pe_int (nomark _)) (pw_and (pt_cmpR op_ne (pv 4) pe_int (nomark _)) (pw_and1 (pt_cmpR op_eq (pe_callD D_multiply hr (by decide) (by rfl) (pa_cons (pv 3) (pa_cons (pv 4) pa_nil))) pe_int (nomark _)))))) (pw_or1 (pt_not (pt_chain op_le op_lt pe_int (pe_callD D_multiply hr (by decide) (by rfl) (pa_cons (pv 3) (pa_cons (pv 4) pa_nil))) pe_int)))))
    (pss_one (ps_ret pe_bl))
    pss_nil)
    (pss_cons (ps_set (i := 6) sc_law.nd rfl (.inl rfl) pe_int)
    (pss_cons (ps_for PassesOwn.never rfl (pi_range1 (by rfl) T.n_range (pa_cons pe_int pa_nil)) (pg_name (i := 7) sc_law.nd rfl (.inl rfl))
    (pss_one (ps_set (i := 6) sc_law.nd rfl (.inl rfl) (pe_callD D_multiply hr (by decide) (by rfl) (pa_cons (pv 6) (pa_cons (pv 3) pa_nil))))))
    (pss_one (ps_if (pt_cmpR op_ne (pv 6) (pe_callTy call_int1 (by rfl) T.n_int (by decide +kernel) (pa_cons (pe_cmpR op_ne (pv 3) pe_int (nomark _)) pa_nil)) (nomark _))
    (pss_one (ps_ret pe_bl))
    pss_nil))))))))))))
    (pss_one (ps_ret pe_bl))))), ?_⟩

    refine q_asgL (el_lst (ea_cons (ev_var rfl) (ea_cons ev_c (ea_cons ev_c (ea_cons ev_c ea_nil)))) (by show 4 ≤ 100000; decide)) fun r H1 hn e1 hr => ?_
    refine ⟨r, a, 0, 0, 0, ⟨by decide, by decide, by decide, by decide⟩, hr, ?_⟩
    have hrow : RowAt K (upd H1 r (rowF r a)) r := ⟨a, ns, upd_same, row_keep (ex_l e1 hS) hr⟩
    generalize upd H1 r (rowF r a) = G at hrow ⊢
    refine q_forR1 (ea_cons ev_c ea_nil) (by decide) (fun i σ' H' => RowAt K H' r ∧ ∃ x2 x3 x4 x5 x6 x7, σ' = [some (.ref a), some (.ref r), x2, x3, x4, x5, x6, x7]) (fun H1 e1 => ⟨hrow.ex e1, _, _, _, _, _, _, rfl⟩) ?_ ?_
    · rintro i σ' H' hi ⟨hrow, x2, x3, x4, x5, x6, x7, rfl⟩
      refine q_par3R ?_
      refine ⟨_, rfl, r, 16, rfl, by decide, by decide, hrow, fun a ha0 ha1 H1 e1 => ⟨_, rfl, r, 16, rfl, by decide, by decide, hrow.ex e1, fun b hb0 hb1 H2 e2 => ⟨_, rfl, r, 16, rfl, by decide, by decide, (hrow.ex e1).ex e2, fun c hc0 hc1 H3 e3 => ⟨_, _, _, rfl, ?_⟩⟩⟩⟩
      have ha : Sym a := ⟨ha0, by omega⟩
      have hb : Sym b := ⟨hb0, by omega⟩
      have hc : Sym c := ⟨hc0, by omega⟩
      have hrow3 : RowAt K H3 r := ((hrow.ex e1).ex e2).ex e3

      have hm := sym_mul ha hb
      refine q_when (b := false) (et_is (by walk_at "sq_et") ?_) (fun z => nomatch z) (fun _ H4 e4 => ?_)
      · simp [gadd_comm hb ha, gadd_assoc ha hb hc, gadd_self ha, gadd_zero ha]
      refine q_when (b := false) (et_is (by walk_at "sq_et") ?_) (fun z => nomatch z) (fun _ H5 e5 => ?_)
      · simp [gmul_comm hb ha, gmul_assoc ha hb hc]
      refine q_when (b := false) (et_is (by walk_at "sq_et") ?_) (fun z => nomatch z) (fun _ H6 e6 => ?_)
      · simp [gmul_add ha hb hc, gmul_one ha, gmul_zero ha]
      refine q_when (b := false) (et_is (et_test (ev_op (by walk_at "sq_ev") (ev_iteI (et_test (ev_op (ev_var rfl) ev_c rv_I0)) (fun _ => by walk_at "sq_ev") (fun z => ev_callD (ea_cons (by walk_at "sq_ev") (ea_cons ev_c ea_nil)) (spv_I2 (p := Sym2) ⟨⟨by have := of_decide_eq_false z; omega, by omega⟩, by decide⟩))) (rv_ne rfl))) ?_) (fun z => nomatch z) (fun _ H7 e7 => ?_)
      · simp [gmul_two ha]
      refine q_whenT (et_test (ev_op (ev_var rfl) ev_c (rv_ne rfl))) (fun H8 e8 => ?_) (fun k z H8 e8 => ?_)
      · refine q_when (b := false) (et_is (by walk_at "sq_et") ?_) (fun z => nomatch z) (fun _ H9 e9 => ?_)
        · obtain ⟨m1, m2⟩ := id hm
          by_cases a0 : a = 0
          · subst a0
            simp
            omega
          · by_cases b0 : b = 0
            · subst b0
              simp
              omega
            · have := gmul_eq0 ha hb a0 b0
              simp [this]
              omega
        refine q_asg ev_c fun H10 e10 => ?_
        refine q_forR1 (ea_cons ev_c ea_nil) (by decide) (fun j σ' H' => RowAt K H' r ∧ ∃ x7, σ' = [some (.ref _), some (.ref r), some (.int i), some (.int a), some (.int b), some (.int c), some (.int (gpow a j)), x7]) (fun H11 e11 => ⟨(((((((hrow3.ex e4).ex e5).ex e6).ex e7).ex e8).ex e9).ex e10).ex e11, _, rfl⟩) ?_ ?_
        · rintro j σ' H' hj ⟨hrow, x7, rfl⟩
          have hp := gpow_sym ha j
          refine s_asg (v := .int (gmul (gpow a j) a)) (by walk_at "sq_ev") fun H12 e12 => ⟨hrow.ex e12, _, rfl⟩
        · rintro σ' H' ⟨hrow, x7, rfl⟩
          refine s_when (b := false) (et_is (by walk_at "sq_et") ?_) (fun z => nomatch z) (fun _ H11 e11 => ⟨hrow.ex e11, _, _, _, _, _, _, rfl⟩)
          show (!decide (V.int (gpow a 15) = V.int (if (!decide (V.int a = V.int 0)) = true then 1 else 0))) = false
          rw [gpow_15 ha]
          by_cases a0 : a = 0
          · subst a0
            rfl
          · simp [a0]
      · have b0 : b ≠ 0 := fun e => by
          subst e
          exact nomatch z
        refine q_when (b := false) (et_is (by walk_at "sq_et") ?_) (fun z => nomatch z) (fun _ H9 e9 => ?_)
        · simp [gdiv_mul ha hb b0, gmul_div ha hb b0, gdiv_self hb b0]
        refine s_when (b := false) (et_is (et_and (b := false) (et_test (ev_op (ev_var rfl) ev_c (rv_ne rfl))) fun z => ?_) (Bool.and_false _)) (fun z => nomatch z) (fun _ H10 e10 => ?_)
        · have c0 : c ≠ 0 := fun e => by
            subst e
            exact nomatch z
          have m0 : gmul b c ≠ 0 := gmul_eq0 hb hc b0 c0
          refine et_is (by walk_at "sq_et") ?_
          simp [gdiv_div ha hb hc b0 c0]
        · exact k H10 ((e8.trans e9).trans e10)
    · rintro σ' H' ⟨hrow, x2, x3, x4, x5, x6, x7, rfl⟩
      exact s_ret ev_c fun H2 e2 => q H2
end
theorem all_mk {l : PySem.W.OpenLaw} {w : World} {K : PySem.W.Frag} {h : Heap} {mg : Str → Option Value} {fa f0 f1 f2 f3 f4 f5 f6 f7 f8 f9 a__POWERS a__EXPONENTS : Addr} (X : K.In h) (G : h.Ns mainGlobals mg) (hfa : mg "law" = some (.ref fa))
    {od0 an0 od1 an1 od2 an2 od3 an3 od4 an4 od5 an5 od6 an6 od7 an7 od8 an8 od9 an9 : Option Addr} {sl0 sl1 sl2 sl3 sl4 sl5 sl6 sl7 sl8 sl9 : Array (Option Value)} {oc0 kV0 dc0 pm0 cd0 ct0 oc1 kV1 dc1 pm1 cd1 ct1 oc2 kV2 dc2 pm2 cd2 ct2 oc3 kV3 dc3 pm3 cd3 ct3 oc4 kV4 dc4 pm4 cd4 ct4 oc5 kV5 dc5 pm5 cd5 ct5 oc6 kV6 dc6 pm6 cd6 ct6 oc7 kV7 dc7 pm7 cd7 ct7 oc8 kV8 dc8 pm8 cd8 ct8 oc9 kV9 dc9 pm9 cd9 ct9 : Value}
    {o__POWERS o__EXPONENTS : Obj}
    (a0 : PySem.W.nsIn K mainGlobals "add" = some (some (.ref f0))) (l0 : K.lookup f0 = some ⟨oc0, od0, .func (PySem.W.fnOf "add" "add" (defArgs s_add) (defBody s_add) (defScope s_add) .none kV0 dc0 pm0 an0 cd0 ct0), sl0⟩) (c0 : PySem.W.codeIn K cd0 "add" = true) (k0 : PySem.W.keepIn K (.ref f0) = true)
    (a1 : PySem.W.nsIn K mainGlobals "multiply" = some (some (.ref f1))) (l1 : K.lookup f1 = some ⟨oc1, od1, .func (PySem.W.fnOf "multiply" "multiply" (defArgs s_multiply) (defBody s_multiply) (defScope s_multiply) .none kV1 dc1 pm1 an1 cd1 ct1), sl1⟩) (c1 : PySem.W.codeIn K cd1 "multiply" = true) (k1 : PySem.W.keepIn K (.ref f1) = true)
    (a2 : PySem.W.nsIn K mainGlobals "divide" = some (some (.ref f2))) (l2 : K.lookup f2 = some ⟨oc2, od2, .func (PySem.W.fnOf "divide" "divide" (defArgs s_divide) (defBody s_divide) (defScope s_divide) .none kV2 dc2 pm2 an2 cd2 ct2), sl2⟩) (c2 : PySem.W.codeIn K cd2 "divide" = true) (k2 : PySem.W.keepIn K (.ref f2) = true)
    (a3 : PySem.W.nsIn K mainGlobals "is_number" = some (some (.ref f3))) (l3 : K.lookup f3 = some ⟨oc3, od3, .func (PySem.W.fnOf "is_number" "is_number" (defArgs s_is_number) (defBody s_is_number) (defScope s_is_number) .none kV3 dc3 pm3 an3 cd3 ct3), sl3⟩) (c3 : PySem.W.codeIn K cd3 "is_number" = true) (k3 : PySem.W.keepIn K (.ref f3) = true)
    (a4 : PySem.W.nsIn K mainGlobals "is_symbol" = some (some (.ref f4))) (l4 : K.lookup f4 = some ⟨oc4, od4, .func (PySem.W.fnOf "is_symbol" "is_symbol" (defArgs s_is_symbol) (defBody s_is_symbol) (defScope s_is_symbol) .none kV4 dc4 pm4 an4 cd4 ct4), sl4⟩) (c4 : PySem.W.codeIn K cd4 "is_symbol" = true) (k4 : PySem.W.keepIn K (.ref f4) = true)
    (a5 : PySem.W.nsIn K mainGlobals "times" = some (some (.ref f5))) (l5 : K.lookup f5 = some ⟨oc5, od5, .func (PySem.W.fnOf "times" "times" (defArgs s_times) (defBody s_times) (defScope s_times) .none kV5 dc5 pm5 an5 cd5 ct5), sl5⟩) (c5 : PySem.W.codeIn K cd5 "times" = true) (k5 : PySem.W.keepIn K (.ref f5) = true)
    (a6 : PySem.W.nsIn K mainGlobals "over" = some (some (.ref f6))) (l6 : K.lookup f6 = some ⟨oc6, od6, .func (PySem.W.fnOf "over" "over" (defArgs s_over) (defBody s_over) (defScope s_over) .none kV6 dc6 pm6 an6 cd6 ct6), sl6⟩) (c6 : PySem.W.codeIn K cd6 "over" = true) (k6 : PySem.W.keepIn K (.ref f6) = true)
    (a7 : PySem.W.nsIn K mainGlobals "_require_symbols" = some (some (.ref f7))) (l7 : K.lookup f7 = some ⟨oc7, od7, .func (PySem.W.fnOf "_require_symbols" "_require_symbols" (defArgs s__require_symbols) (defBody s__require_symbols) (defScope s__require_symbols) .none kV7 dc7 pm7 an7 cd7 ct7), sl7⟩) (c7 : PySem.W.codeIn K cd7 "_require_symbols" = true) (k7 : PySem.W.keepIn K (.ref f7) = true)
    (a8 : PySem.W.nsIn K mainGlobals "_law_taken" = some (some (.ref f8))) (l8 : K.lookup f8 = some ⟨oc8, od8, .func (PySem.W.fnOf "_law_taken" "_law_taken" (defArgs s__law_taken) (defBody s__law_taken) (defScope s__law_taken) .none kV8 dc8 pm8 an8 cd8 ct8), sl8⟩) (c8 : PySem.W.codeIn K cd8 "_law_taken" = true) (k8 : PySem.W.keepIn K (.ref f8) = true)
    (a9 : PySem.W.nsIn K mainGlobals "law" = some (some (.ref f9))) (l9 : K.lookup f9 = some ⟨oc9, od9, .func (PySem.W.fnOf "law" "law" (defArgs s_law) (defBody s_law) (defScope s_law) .none kV9 dc9 pm9 an9 cd9 ct9), sl9⟩) (c9 : PySem.W.codeIn K cd9 "law" = true) (k9 : PySem.W.keepIn K (.ref f9) = true)
    (z_isinstance : PySem.W.nsIn K mainGlobals "isinstance" = some none)
    (z_int : PySem.W.nsIn K mainGlobals "int" = some none)
    (z_bool : PySem.W.nsIn K mainGlobals "bool" = some none)
    (z_len : PySem.W.nsIn K mainGlobals "len" = some none)
    (z_range : PySem.W.nsIn K mainGlobals "range" = some none)
    (g__POWERS : PySem.W.nsIn K mainGlobals "_POWERS" = some (some (.ref a__POWERS))) (o__POWERS1 : K.lookup a__POWERS = some o__POWERS) (o__POWERS2 : tupOf o__POWERS = some (([1, 2, 4, 8, 3, 6, 12, 11, 5, 10, 7, 14, 15, 13, 9, 1, 2, 4, 8, 3, 6, 12, 11, 5, 10, 7, 14, 15, 13, 9] : List Int).map V.int))
    (g__EXPONENTS : PySem.W.nsIn K mainGlobals "_EXPONENTS" = some (some (.ref a__EXPONENTS))) (o__EXPONENTS1 : K.lookup a__EXPONENTS = some o__EXPONENTS) (o__EXPONENTS2 : tupOf o__EXPONENTS = some (([0, 0, 1, 4, 2, 8, 5, 10, 3, 14, 9, 7, 6, 13, 11, 12] : List Int).map V.int)) :
    ∃ fd : FuncData, (∀ (s : Shared) (v : Value), BindsTo s fd ⟨[v], []⟩ [("_law_script", v)]) ∧ ∀ base : Heap, K.In base → base.Ns mainGlobals mg → FnOk l.prog w K mg base CX0 5 fa fd ["_law_script"] (spLaw K) := by
  have e := hfa.symm.trans (PySem.W.mg_of X G a9)
  cases e
  have T : Tx K mg a__POWERS a__EXPONENTS := ⟨PySem.W.mg_none_of X G z_isinstance, PySem.W.mg_none_of X G z_int, PySem.W.mg_none_of X G z_bool, PySem.W.mg_none_of X G z_len, PySem.W.mg_none_of X G z_range, PySem.W.mg_of X G g__POWERS, fun H => tupOf_sq o__POWERS1 o__POWERS2, PySem.W.mg_of X G g__EXPONENTS, fun H => tupOf_sq o__EXPONENTS1 o__EXPONENTS2⟩
  have F0 := fun_mk (st := s_add) l0 c0 k0
  have b0 := F0.binds (ps := ["left", "right"]) fun _ _ _ _ _ _ us hl => match us, hl with | [_, _], _ => rfl
  have F1 := fun_mk (st := s_multiply) l1 c1 k1
  have b1 := F1.binds (ps := ["left", "right"]) fun _ _ _ _ _ _ us hl => match us, hl with | [_, _], _ => rfl
  have F2 := fun_mk (st := s_divide) l2 c2 k2
  have b2 := F2.binds (ps := ["left", "right"]) fun _ _ _ _ _ _ us hl => match us, hl with | [_, _], _ => rfl
  have F3 := fun_mk (st := s_is_number) l3 c3 k3
  have b3 := F3.binds (ps := ["value"]) fun _ _ _ _ _ _ us hl => match us, hl with | [_], _ => rfl
  have F4 := fun_mk (st := s_is_symbol) l4 c4 k4
  have b4 := F4.binds (ps := ["value"]) fun _ _ _ _ _ _ us hl => match us, hl with | [_], _ => rfl
  have F5 := fun_mk (st := s_times) l5 c5 k5
  have b5 := F5.binds (ps := ["left", "right"]) fun _ _ _ _ _ _ us hl => match us, hl with | [_, _], _ => rfl
  have F6 := fun_mk (st := s_over) l6 c6 k6
  have b6 := F6.binds (ps := ["left", "right"]) fun _ _ _ _ _ _ us hl => match us, hl with | [_, _], _ => rfl
  have F7 := fun_mk (st := s__require_symbols) l7 c7 k7
  have b7 := F7.binds (ps := ["left", "right"]) fun _ _ _ _ _ _ us hl => match us, hl with | [_, _], _ => rfl
  have F8 := fun_mk (st := s__law_taken) l8 c8 k8
  have b8 := F8.binds (ps := ["_law_row", "_law_many"]) fun _ _ _ _ _ _ us hl => match us, hl with | [_, _], _ => rfl
  have F9 := fun_mk (st := s_law) l9 c9 k9
  refine ⟨PySem.W.fnOf "law" "law" (defArgs s_law) (defBody s_law) (defScope s_law) .none kV9 dc9 pm9 an9 cd9 ct9, fun s v => .of_eq rfl, fun base _ _ => ?_⟩
  have D__law_taken : Dfn l.prog w K mg base 1 "_law_taken" ["_law_row", "_law_many"] (spTaken K) := Dfn.mk' (ok__law_taken (P := l.prog) (w := w) (base := base) F8 T) (PySem.W.mg_of X G a8) F8.kp b8
  have D_is_number : Dfn l.prog w K mg base 1 "is_number" ["value"] (spNum K) := Dfn.mk' (ok_is_number (P := l.prog) (w := w) (base := base) F3 T) (PySem.W.mg_of X G a3) F3.kp b3
  have D_is_symbol : Dfn l.prog w K mg base 2 "is_symbol" ["value"] (spSym K) := Dfn.mk' (ok_is_symbol (P := l.prog) (w := w) (base := base) F4 T D_is_number) (PySem.W.mg_of X G a4) F4.kp b4
  have D__require_symbols : Dfn l.prog w K mg base 3 "_require_symbols" ["left", "right"] spReq2 := Dfn.mk' (ok__require_symbols (P := l.prog) (w := w) (base := base) F7 T D_is_symbol) (PySem.W.mg_of X G a7) F7.kp b7
  have D_times : Dfn l.prog w K mg base 1 "times" ["left", "right"] spMul := Dfn.mk' (ok_times (P := l.prog) (w := w) (base := base) F5 T) (PySem.W.mg_of X G a5) F5.kp b5
  have D_multiply : Dfn l.prog w K mg base 4 "multiply" ["left", "right"] spMul := Dfn.mk' (ok_multiply (P := l.prog) (w := w) (base := base) F1 T D__require_symbols D_times) (PySem.W.mg_of X G a1) F1.kp b1
  have D_add : Dfn l.prog w K mg base 4 "add" ["left", "right"] spAdd := Dfn.mk' (ok_add (P := l.prog) (w := w) (base := base) F0 T D__require_symbols) (PySem.W.mg_of X G a0) F0.kp b0
  have D_over : Dfn l.prog w K mg base 1 "over" ["left", "right"] spDiv := Dfn.mk' (ok_over (P := l.prog) (w := w) (base := base) F6 T) (PySem.W.mg_of X G a6) F6.kp b6
  have D_divide : Dfn l.prog w K mg base 4 "divide" ["left", "right"] spDiv := Dfn.mk' (ok_divide (P := l.prog) (w := w) (base := base) F2 T D__require_symbols D_over) (PySem.W.mg_of X G a2) F2.kp b2
  exact ok_law (P := l.prog) (w := w) (base := base) F9 T D__law_taken D_multiply D_add D_divide
end Qk18

open PySem PySem.W PyProof.Rows
set_option maxRecDepth 100000 in
set_option maxHeartbeats 0 in
theorem PySem.Challenge.cw_squaremark_k18_whole_sums_and_products_holds : PySem.Challenge.rw_squaremark_k18_whole_sums_and_products.Holds := by
  w_on; o_law; k_head; (case hw => w_witness2)
  k_fill
  refine L2.walk_of (l := PySem.Challenge.rw_squaremark_k18_whole_sums_and_products) (n := 63) (k := 5) (x := "_law_script") (CX := fun _ => L2.CX0) (sp := fun w => Sq.spLaw _) rfl (by decide) rfl ⟨rfl, by decide, by decide⟩ (fun w h Y => PySem.W.kIn_of Y) ?F (fun _ _ a ns hl _ hS => ⟨a, ns, rfl, hS, hl, fun _ => rfl⟩) (fun _ _ _ _ _ h => h)
  case F =>
    intro w mg fa h KX G hmg
    refine' Qk18.all_mk KX G hmg ?h0x ?h1x ?h2x ?h3x ?h4x ?h5x ?h6x ?h7x ?h8x ?h9x ?h10x ?h11x ?h12x ?h13x ?h14x ?h15x ?h16x ?h17x ?h18x ?h19x ?h20x ?h21x ?h22x ?h23x ?h24x ?h25x ?h26x ?h27x ?h28x ?h29x ?h30x ?h31x ?h32x ?h33x ?h34x ?h35x ?h36x ?h37x ?h38x ?h39x ?h40x ?h41x ?h42x ?h43x ?h44x ?h45x ?h46x ?h47x ?h48x ?h49x ?h50x
    (case h0x => k_is)
    (case h1x => k_is)
    (case h2x => k_is)
    (case h3x => k_is)
    (case h4x => k_is)
    (case h5x => k_is)
    (case h6x => k_is)
    (case h7x => k_is)
    (case h8x => k_is)
    (case h9x => k_is)
    (case h10x => k_is)
    (case h11x => k_is)
    (case h12x => k_is)
    (case h13x => k_is)
    (case h14x => k_is)
    (case h15x => k_is)
    (case h16x => k_is)
    (case h17x => k_is)
    (case h18x => k_is)
    (case h19x => k_is)
    (case h20x => k_is)
    (case h21x => k_is)
    (case h22x => k_is)
    (case h23x => k_is)
    (case h24x => k_is)
    (case h25x => k_is)
    (case h26x => k_is)
    (case h27x => k_is)
    (case h28x => k_is)
    (case h29x => k_is)
    (case h30x => k_is)
    (case h31x => k_is)
    (case h32x => k_is)
    (case h33x => k_is)
    (case h34x => k_is)
    (case h35x => k_is)
    (case h36x => k_is)
    (case h37x => k_is)
    (case h38x => k_is)
    (case h39x => k_is)
    (case h40x => k_is)
    (case h41x => k_is)
    (case h42x => k_is)
    (case h43x => k_is)
    (case h44x => k_is)
    (case h45x => k_is)
    (case h46x => k_is)
    (case h47x => rfl)
    (case h48x => k_is)
    (case h49x => k_is)
    (case h50x => rfl)

