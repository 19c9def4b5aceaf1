import PyProof.Rows.All
import Wide.All
import OpenK.AllK
import Wide.FinOn
import HandS.Base
import HandS.Call
import HandS.List
import HandS.Comp
import HandS.Ends
import HandS.Dict
import HandS.Iter
import HandS.Text
import HandS.Words
import HandS.WordsList
import HandS.WordsDict
import HandS.Evl
import HandS.Style
import HandS.IsInst
import HandS.AnyAll
import PyProof.GenCompD
import HandS.HeadHook4
import HandS.HeadWalk
import HandS.Head2
import KE.GoesEnum
import KE.KDictZip
import HandS.DictComp
import HandS.Conv
import HandS.TupMul
import KE.KStateDown
import HandS.Head0
import HandS.Head1
import HandS.Head3
import HandS.HeadEnd
import PySem.Challenge.RW_squaremark_k02_check_symbols
set_option Elab.async false
set_option linter.all false
set_option maxRecDepth 100000
set_option maxHeartbeats 4000000
/-! the draws' row: a list [script, int, int, int] that is told by what is true of it -/
namespace Sq
open PySem PySem.Spec PyProof.Rows L2 Evl

/-! ### heaps -/
theorem same_ex {H H' : Hp} (h : Same H H') : Ex H H' := h
theorem dn_seq (ns : List Int) (i : Nat) (n : Int) (h : ns[i]? = some n) : (ns.map V.int)[i]? = some (.int n) := by
  rw [List.getElem?_map, h]
  rfl

/-! ### the row -/
def RowB (i x y : Int) : Prop := 0 ≤ i ∧ 0 ≤ x ∧ x < 2147483647 ∧ 0 ≤ y
def rowL (a : Addr) (i x y : Int) : HO := .lst [.ref a, .int i, .int x, .int y]
def rowF (r a : Addr) : HO := .ext fun h => ∃ (t1 t2 t3 : Tok) (i x y : Int) (n : Nat), RowB i x y ∧ h.get? r = some { cls := .type "list", data := .seq #[.ref a, .int i t1, .int x t2, .int y t3] n }
section
variable {P : Program} {w : World} {H H' : Hp} {h h' : Heap} {r a : Addr}
theorem row_open (o : ObjOk P w H h r (rowF r a)) : ∃ i x y, RowB i x y ∧ ObjOk P w H' h r (rowL a i x y) := by
  obtain ⟨⟨t1, t2, t3, i, x, y, n, b, e⟩, _, _⟩ := o
  exact ⟨i, x, y, b, by show 4 ≤ sizeLine; decide, [.ref a, .int i t1, .int x t2, .int y t3], n, .cons rfl (.cons ⟨_, rfl⟩ (.cons ⟨_, rfl⟩ (.cons ⟨_, rfl⟩ .nil))), e⟩
theorem row_close {i x y : Int} (b : RowB i x y) (o : ObjOk P w H h r (rowL a i x y)) : ObjOk P w H' h r (rowF r a) := by
  obtain ⟨_, its, n, rv, e⟩ := o
  cases rv with
  | cons r0 rv =>
    cases rv with
    | cons r1 rv =>
      cases rv with
      | cons r2 rv =>
        cases rv with
        | cons r3 rv =>
          cases rv
          cases r0
          obtain ⟨t1, rfl⟩ := r1
          obtain ⟨t2, rfl⟩ := r2
          obtain ⟨t3, rfl⟩ := r3
          refine ⟨⟨t1, t2, t3, i, x, y, n, b, e⟩, ⟨_, e⟩, fun h1 h2 q k => ?_⟩
          obtain ⟨t1, t2, t3, i, x, y, n, b, e⟩ := q
          exact ⟨t1, t2, t3, i, x, y, n, b, k _ e⟩
end
/-- another word for what stands at an address that may change -/
theorem hok_swap {P : Program} {w : World} {H : Hp} {h : Heap} {r : Addr} {o : HO} (ok : HOk P w H h) (mu : Mut (H r)) (new : ObjOk P w (upd H r o) h r o) : HOk P w (upd H r o) h := by
  have he : ∃ u, h.get? r = some u := by
    cases q : H r with
    | none => rw [q] at mu; exact mu.elim
    | some u =>
      have z := ok r u q
      have l := z.lt
      cases e : h.get? r with
      | some v => exact ⟨v, rfl⟩
      | none =>
        exfalso
        cases u with
        | lst xs => obtain ⟨_, _, _, _, e'⟩ := z; rw [e] at e'; cases e'
        | tup xs => rw [q] at mu; exact mu
        | dK kvs => obtain ⟨_, _, _, _, o, _, _, e', _⟩ := z; rw [e] at e'; cases e'
        | dT kvs => obtain ⟨_, _, _, _, o, _, _, e', _⟩ := z; rw [e] at e'; cases e'
        | set S n => obtain ⟨o, _, _, _, e', _⟩ := z; rw [e] at e'; cases e'
        | ins C dx fs => obtain ⟨_, _, _, e', _⟩ := z; rw [e] at e'; cases e'
        | own y => rw [q] at mu; exact mu
        | xd fs => rw [q] at mu; exact mu
        | rng lo hi => rw [q] at mu; exact mu
        | frz ob u => rw [q] at mu; exact mu
        | tbl ps => rw [q] at mu; exact mu
        | met f y => rw [q] at mu; exact mu
        | ext φ => obtain ⟨_, ⟨_, e'⟩, _⟩ := z; rw [e] at e'; cases e'
  exact ok.write mu (.inl rfl) (fun b u _ q => q) he new
theorem un_swap {fs ex : List Addr} {P : Program} {w : World} {H : Hp} {h : Heap} {r : Addr} {o u : HO} (ok : HOk P w H h) (mu : Mut (H r)) (hr : ∃ v, h.get? r = some v) : Un fs ex H (upd H r o) h h :=
  Un.write mu (.inl rfl) (fun b u _ q => q) hr
theorem upd_self {H : Hp} {r : Addr} {o : HO} (h : H r = some o) : upd H r o = H := by
  funext b
  unfold upd
  split
  · rename_i e
    rw [e, h]
  · rfl

section
variable {P : Program} {w : World} {K : PySem.W.Frag} {mg : Str → Option Value} {base : Heap}
/-- a promise over a row that is told by what is true of it, from one over a list -/
theorem fn_rows {k : Nat} {f : Addr} {fd : FuncData} {ps : List Str} {sp sp' : Sp} (F : FnOk P w K mg base CX0 k f fd ps sp) (hl : ∀ vs H Q E, sp' vs H Q E → vs.length = ps.length)
    (h : ∀ vs H Q E, sp' vs H Q E → ∃ r a, H r = some (rowF r a) ∧ ∀ i x y, RowB i x y → sp vs (upd H r (rowL a i x y)) (fun v H' => ∃ i' x' y', RowB i' x' y' ∧ H' r = some (rowL a i' x' y') ∧ Q v (upd H' r (rowF r a))) E) :
    FnOk P w K mg base CX0 k f fd ps sp' := by
  refine ⟨hl, fun A outer s H args us vs Q E hr he hb hv hs => ?_⟩
  obtain ⟨r, a, hR, hk⟩ := h vs H Q E hs
  obtain ⟨i, x, y, b, ob⟩ := row_open (H' := upd H r (rowL a 0 0 0)) (he.hok r _ hR)
  have ob' : ObjOk P w (upd H r (rowL a i x y)) s.heap r (rowL a i x y) := ob
  have mu : Mut (H r) := by rw [hR]; exact trivial
  have hget : ∃ v, s.heap.get? r = some v := by
    obtain ⟨_, _, n, _, e⟩ := ob
    exact ⟨_, e⟩
  have hok1 := hok_swap he.hok mu ob'
  have e0 : Env0 P w K mg base A outer s (upd H r (rowL a i x y)) := by
    refine ⟨he.frames, he.mod, fun c o e => ⟨(he.bs c o e).1, ?_⟩, he.bsz, he.funs, fun c hc => ?_, hok1, he.bare⟩
    · have z := (he.bs c o e).2
      rw [upd_ne (fun q => by rw [q, hR] at z; cases z)]
      exact z
    · have z := he.frf c hc
      rw [upd_ne (fun q => by rw [q, hR] at z; cases z)]
      exact z
  refine codeAny_mono (F.run A outer s _ args us vs _ E hr e0 hb hv (hk i x y b)) fun res s' hq => ?_
  cases res with
  | error e => exact hq
  | ok fl =>
    cases fl with
    | next => exact hq
    | brk => exact hq
    | cont => exact hq
    | ret u =>
      obtain ⟨v, H', os, bare, un, hok, rv, i', x', y', b', hr', q⟩ := hq
      have mu' : Mut (H' r) := by rw [hr']; exact trivial
      have ob2 : ObjOk P w (upd H' r (rowF r a)) s'.heap r (rowF r a) := row_close b' (hok r _ hr')
      have hget' : ∃ v, s'.heap.get? r = some v := ob2.2.1
      refine ⟨v, upd H' r (rowF r a), os, bare, ?_, hok_swap hok mu' ob2, rv, q⟩
      exact ((Un.write mu (.inl rfl) (fun _ _ _ z => z) hget).trans un).trans (Un.write mu' (.inl rfl) (fun _ _ _ z => z) hget')
end
section
variable {X : Cx}
/-- from here on the list at r is told by what is true of it -/
def tAbs (u : TS) : TS := fun D σ H => ∃ r a i x y, RowB i x y ∧ H r = some (rowL a i x y) ∧ u D σ (upd H r (rowF r a))
theorem pss_abs {rest : List Stmt} {u : TS} (h : PSs X rest u) : PSs X rest (tAbs u) := by
  refine ⟨fun pins s σ H D I q => ?_⟩
  obtain ⟨r, a, i, x, y, b, hr, q⟩ := q
  have ob := I.hok r _ hr
  have mu : Mut (H r) := by rw [hr]; exact trivial
  have ob2 : ObjOk X.prog X.w (upd H r (rowF r a)) s.heap r (rowF r a) := row_close b ob
  obtain ⟨hp, g, d, t, o⟩ := s
  have J : Inv X pins σ (upd H r (rowF r a)) ⟨hp, g, d, t, o⟩ := I.write (t' := t) mu (.inl rfl) (fun _ _ _ z => z) ob2.2.1 ob2
  exact h.run pins _ σ _ D J q
end
/-- the draws' row stands at r -/
def RowAt (K : PySem.W.Frag) (H : Hp) (r : Addr) : Prop := ∃ (a : Addr) (ns : List Int), H r = some (rowF r a) ∧ SqL K H a (ns.map V.int)
theorem RowAt.ex {K : PySem.W.Frag} {H H' : Hp} {r : Addr} (h : RowAt K H r) (e : Ex H H') : RowAt K H' r := by
  obtain ⟨a, ns, h1, h2⟩ := h
  exact ⟨a, ns, e _ _ h1, ex_l e h2⟩
/-- a draw below m: any number from 0 to m - 1 -/
def spTaken (K : PySem.W.Frag) : Sp := fun vs H Q _ => ∃ (r : Addr) (m : Int), vs = [.ref r, .int m] ∧ 0 < m ∧ m < 1073741824 ∧ RowAt K H r ∧ ∀ z, 0 ≤ z → z < m → RetV (.int z) H Q

/-! ### a def by all that a call of it wants -/
structure Dfn (P : Program) (w : World) (K : PySem.W.Frag) (mg : Str → Option Value) (base : Heap) (k : Nat) (x : Str) (ps : List Str) (sp : Sp) : Prop where
  ex : ∃ f fd, FnOk P w K mg base CX0 k f fd ps sp ∧ mg x = some (.ref f) ∧ PySem.W.keepIn K (.ref f) = true ∧ Binds K fd ps []
theorem Dfn.mk' {P : Program} {w : World} {K : PySem.W.Frag} {mg : Str → Option Value} {base : Heap} {k : Nat} {x : Str} {ps : List Str} {sp : Sp} {f : Addr} {fd : FuncData}
    (F : FnOk P w K mg base CX0 k f fd ps sp) (g : mg x = some (.ref f)) (kp : PySem.W.keepIn K (.ref f) = true) (b : Binds K fd ps []) : Dfn P w K mg base k x ps sp := ⟨f, fd, F, g, kp, b⟩
section
variable {X : Cx} {k j : Nat} {x : Str} {ps : List Str} {sp : Sp} {p pos : Pos} {e : Expr} {es : List Expr} {t : TA}
theorem pe_callD (D : Dfn X.prog X.w X.K X.mg X.base k x ps sp) (hr : Room j X.A) (hk : k ≤ j) (hg : Gl X x) (ha : PA X (e :: es) t) (hdb : (x == ("__debug__" : Str)) = false := by decide)
    (he : starEach (e :: es) X.env = (false, eval e X.env) :: starEach es X.env := by rfl) (hpl : (backTo pos (starEach es X.env)).any (·.1) = false := by rfl) : PE X (.Call (.Name x p) (e :: es) [] pos) (tCall sp [] E0 t) := by
  obtain ⟨f, fd, F, g, kp, b⟩ := D.ex
  exact pe_call F (hr.mono hk) hg g kp b .nil pass0 ha hdb he hpl
end
theorem ev_callD {sp : Sp} {vs : List V} {ta : TA} {σ : L2.St} {H : Hp} {z : V} (h : EvA ta σ H vs) (hs : SpV sp vs H z) : Ev (tCall sp [] E0 ta) σ H z := ev_call h (by rw [List.append_nil]; exact hs)
end Sq

/-! arithmetic of symbols -/
namespace Sq
open PySem PySem.Spec PyProof.Rows L2 Evl
def powT : List Int := [1, 2, 4, 8, 3, 6, 12, 11, 5, 10, 7, 14, 15, 13, 9, 1, 2, 4, 8, 3, 6, 12, 11, 5, 10, 7, 14, 15, 13, 9]
def expT : List Int := [0, 0, 1, 4, 2, 8, 5, 10, 3, 14, 9, 7, 6, 13, 11, 12]
def eT (a : Int) : Int := expT.getD a.toNat 0
def pT (a : Int) : Int := powT.getD a.toNat 0
def Sym (a : Int) : Prop := 0 ≤ a ∧ a ≤ 15
def gadd (a b : Int) : Int := Builtin.bitXor a b
def gmul (a b : Int) : Int := if a = 0 ∨ b = 0 then 0 else pT (eT a + eT b)
def gdiv (a b : Int) : Int := if a = 0 then 0 else pT (eT a - eT b + 15)
theorem Sym.fin {a : Int} (h : Sym a) : ∃ i : Fin 16, a = (i.val : Int) := ⟨⟨a.toNat, by have := h.1; have := h.2; omega⟩, by have := h.1; show a = (a.toNat : Int); omega⟩
theorem sym_of (i : Fin 16) : Sym (i.val : Int) := ⟨by omega, by have := i.isLt; omega⟩
instance (a : Int) : Decidable (Sym a) := inferInstanceAs (Decidable (0 ≤ a ∧ a ≤ 15))
theorem sym1 {p : Int → Prop} (h : ∀ i : Fin 16, p (i.val : Int)) {a : Int} (ha : Sym a) : p a := by
  obtain ⟨i, rfl⟩ := ha.fin
  exact h i
theorem sym2 {p : Int → Int → Prop} (h : ∀ i j : Fin 16, p (i.val : Int) (j.val : Int)) {a b : Int} (ha : Sym a) (hb : Sym b) : p a b := by
  obtain ⟨i, rfl⟩ := ha.fin
  obtain ⟨j, rfl⟩ := hb.fin
  exact h i j
theorem sym3 {p : Int → Int → Int → Prop} (h : ∀ i j k : Fin 16, p (i.val : Int) (j.val : Int) (k.val : Int)) {a b c : Int} (ha : Sym a) (hb : Sym b) (hc : Sym c) : p a b c := by
  obtain ⟨i, rfl⟩ := ha.fin
  obtain ⟨j, rfl⟩ := hb.fin
  obtain ⟨k, rfl⟩ := hc.fin
  exact h i j k
theorem sym_add {a b : Int} (ha : Sym a) (hb : Sym b) : Sym (gadd a b) := sym2 (p := fun a b => Sym (gadd a b)) (by decide +kernel) ha hb
theorem sym_mul {a b : Int} (ha : Sym a) (hb : Sym b) : Sym (gmul a b) := sym2 (p := fun a b => Sym (gmul a b)) (by decide +kernel) ha hb
theorem sym_div {a b : Int} (ha : Sym a) (hb : Sym b) : Sym (gdiv a b) := sym2 (p := fun a b => Sym (gdiv a b)) (by decide +kernel) ha hb
theorem gadd_comm {a b : Int} (ha : Sym a) (hb : Sym b) : gadd a b = gadd b a := sym2 (p := fun a b => gadd a b = gadd b a) (by decide +kernel) ha hb
theorem gadd_assoc {a b c : Int} (ha : Sym a) (hb : Sym b) (hc : Sym c) : gadd (gadd a b) c = gadd a (gadd b c) := sym3 (p := fun a b c => gadd (gadd a b) c = gadd a (gadd b c)) (by decide +kernel) ha hb hc
theorem gadd_self {a : Int} (ha : Sym a) : gadd a a = 0 := sym1 (p := fun a => gadd a a = 0) (by decide +kernel) ha
theorem gadd_zero {a : Int} (ha : Sym a) : gadd a 0 = a := sym1 (p := fun a => gadd a 0 = a) (by decide +kernel) ha
theorem gmul_comm {a b : Int} (ha : Sym a) (hb : Sym b) : gmul a b = gmul b a := sym2 (p := fun a b => gmul a b = gmul b a) (by decide +kernel) ha hb
theorem gmul_assoc {a b c : Int} (ha : Sym a) (hb : Sym b) (hc : Sym c) : gmul (gmul a b) c = gmul a (gmul b c) := sym3 (p := fun a b c => gmul (gmul a b) c = gmul a (gmul b c)) (by decide +kernel) ha hb hc
theorem gmul_add {a b c : Int} (ha : Sym a) (hb : Sym b) (hc : Sym c) : gmul a (gadd b c) = gadd (gmul a b) (gmul a c) := sym3 (p := fun a b c => gmul a (gadd b c) = gadd (gmul a b) (gmul a c)) (by decide +kernel) ha hb hc
theorem gmul_one {a : Int} (ha : Sym a) : gmul a 1 = a := sym1 (p := fun a => gmul a 1 = a) (by decide +kernel) ha
theorem gmul_zero {a : Int} (ha : Sym a) : gmul a 0 = 0 := sym1 (p := fun a => gmul a 0 = 0) (by decide +kernel) ha
theorem gmul_two {a : Int} (ha : Sym a) : gmul a 2 = if a < 8 then 2 * a else gadd (2 * a - 16) 3 := sym1 (p := fun a => gmul a 2 = if a < 8 then 2 * a else gadd (2 * a - 16) 3) (by decide +kernel) ha
theorem gdiv_mul {a b : Int} (ha : Sym a) (hb : Sym b) (h0 : b ≠ 0) : gdiv (gmul a b) b = a := sym2 (p := fun a b => b ≠ 0 → gdiv (gmul a b) b = a) (by decide +kernel) ha hb h0
theorem gmul_div {a b : Int} (ha : Sym a) (hb : Sym b) (h0 : b ≠ 0) : gmul (gdiv a b) b = a := sym2 (p := fun a b => b ≠ 0 → gmul (gdiv a b) b = a) (by decide +kernel) ha hb h0
theorem gdiv_self {a : Int} (ha : Sym a) (h0 : a ≠ 0) : gdiv a a = 1 := sym1 (p := fun a => a ≠ 0 → gdiv a a = 1) (by decide +kernel) ha h0
theorem gdiv_div {a b c : Int} (ha : Sym a) (hb : Sym b) (hc : Sym c) (h0 : b ≠ 0) (h1 : c ≠ 0) : gdiv (gdiv a b) c = gdiv a (gmul b c) := sym3 (p := fun a b c => b ≠ 0 → c ≠ 0 → gdiv (gdiv a b) c = gdiv a (gmul b c)) (by decide +kernel) ha hb hc h0 h1
theorem gmul_eq0 {a b : Int} (ha : Sym a) (hb : Sym b) (h0 : a ≠ 0) (h1 : b ≠ 0) : gmul a b ≠ 0 := sym2 (p := fun a b => a ≠ 0 → b ≠ 0 → gmul a b ≠ 0) (by decide +kernel) ha hb h0 h1
def gpow (a : Int) : Nat → Int
  | 0 => 1
  | n + 1 => gmul (gpow a n) a
theorem gpow_sym {a : Int} (ha : Sym a) : ∀ n, Sym (gpow a n)
  | 0 => (show Sym 1 by decide)
  | n + 1 => sym_mul (gpow_sym ha n) ha
theorem gpow_15 {a : Int} (ha : Sym a) : gpow a 15 = if a = 0 then 0 else 1 := sym1 (p := fun a => gpow a 15 = if a = 0 then 0 else 1) (by decide +kernel) ha
theorem eT_b {a : Int} (ha : Sym a) : 0 ≤ eT a ∧ eT a ≤ 14 := sym1 (p := fun a => 0 ≤ eT a ∧ eT a ≤ 14) (by decide +kernel) ha
theorem tab_at {T : List Int} {i : Int} (h0 : 0 ≤ i) (h1 : i.toNat < T.length) : atI (T.map V.int) i = some (.int (T.getD i.toNat 0)) := by
  refine at_of (j := i.toNat) (by omega) ?_
  rw [List.getElem?_map, List.getElem?_eq_getElem h1]
  show some (V.int _) = some (V.int _)
  rw [List.getD_eq_getElem?_getD, List.getElem?_eq_getElem h1]
  rfl
theorem exp_at {a : Int} (ha : Sym a) : atI (expT.map V.int) a = some (.int (eT a)) := tab_at ha.1 (by show a.toNat < 16; have := ha.1; have := ha.2; omega)
theorem pow_at {a : Int} (h0 : 0 ≤ a) (h1 : a ≤ 29) : atI (powT.map V.int) a = some (.int (pT a)) := tab_at h0 (by show a.toNat < 30; omega)
end Sq

/-! further words of evaluation; the promises of the arithmetic of symbols -/
namespace Sq
open PySem PySem.Spec PyProof.Rows L2 Evl
section
variable {K : PySem.W.Frag} {σ : L2.St} {H H' : Hp} {ta tb tc te : TE} {t u : TT} {x y z v : V} {r r' : R2}
theorem rc_int {i : Int} : RC (fun xs H Q => (∃ i, xs = [.int i] ∧ Q (.int i) H) ∨ ∃ k, xs = [.bl k] ∧ Q (.int (if k then 1 else 0)) H) [.int i] H (.int i) := fun H1 _ _ q => .inl ⟨i, rfl, q H1 (Ex.refl H1)⟩
theorem rc_intB {b : Bool} : RC (fun xs H Q => (∃ i, xs = [.int i] ∧ Q (.int i) H) ∨ ∃ k, xs = [.bl k] ∧ Q (.int (if k then 1 else 0)) H) [.bl b] H (.int (if b then 1 else 0)) := fun H1 _ _ q => .inr ⟨b, rfl, q H1 (Ex.refl H1)⟩
theorem ev_chain {k l : Bool} (ha : Ev ta σ H x) (hb : Ev tb σ H y) (h1 : RV r x y H (.bl k)) (hc : k = true → Ev tc σ H z) (h2 : k = true → RV r' y z H (.bl l)) : Ev (tChain r r' ta tb tc) σ H (.bl (k && l)) := fun H1 e Q q =>
  ha H1 e _ fun H2 e2 => hb H2 (e.trans e2) _ fun H3 e3 => h1 H3 ((e.trans e2).trans e3) _ fun H4 e4 => ⟨k, rfl, by
    have e' : Ex H H4 := ((e.trans e2).trans e3).trans e4
    cases k with
    | true =>
      show tc σ H4 _
      exact hc rfl H4 e' _ fun H5 e5 => h2 rfl H5 (e'.trans e5) _ fun H6 e6 => q H6 ((((e2.trans e3).trans e4).trans e5).trans e6)
    | false =>
      show Q (.bl false) H4
      exact q H4 ((e2.trans e3).trans e4)⟩
theorem ev_ite {b : Bool} {x1 y1 : V} (h : EvT t σ H b) (h1 : b = true → Ev ta σ H x1) (h2 : b = false → Ev tb σ H y1) : Ev (tIf t ta tb) σ H (if b = true then x1 else y1) :=
  ev_if h (fun e => by rw [if_pos e]; exact h1 e) (fun e => by rw [if_neg (by rw [e]; decide)]; exact h2 e)
theorem ev_iteI {b : Bool} {x1 y1 : Int} (h : EvT t σ H b) (h1 : b = true → Ev ta σ H (.int x1)) (h2 : b = false → Ev tb σ H (.int y1)) : Ev (tIf t ta tb) σ H (.int (if b = true then x1 else y1)) :=
  ev_if h (fun e => by rw [if_pos e]; exact h1 e) (fun e => by rw [if_neg (by rw [e]; decide)]; exact h2 e)
theorem row_keep {a r : Addr} {ns : List Int} {i x y : Int} {o : HO} (h : SqL K H a (ns.map V.int)) (hr : H r = some (rowL a i x y)) : SqL K (upd H r o) a (ns.map V.int) := by
  rcases h with h | h
  · refine .inl ?_
    have hne : a ≠ r := by
      rintro rfl
      rcases h with h | ⟨o', h⟩
      · rw [hr] at h
        have e : ([.ref a, .int i, .int x, .int y] : List V) = ns.map V.int := by injection h with h; injection h
        cases ns with
        | nil => cases e
        | cons n ns => injection e with e _; cases e
      · rw [hr] at h; cases h
    rcases h with h | ⟨o', h⟩
    · exact .inl (by rw [upd_ne hne]; exact h)
    · exact .inr ⟨o', by rw [upd_ne hne]; exact h⟩
  · exact .inr h
theorem row_keepF {a r : Addr} {xs : List V} {o : HO} (h : SqL K H a xs) (hr : H r = some (rowF r a)) : SqL K (upd H r o) a xs := by
  rcases h with h | h
  · refine .inl ?_
    have hne : a ≠ r := by
      rintro rfl
      rcases h with h | ⟨o', h⟩
      · rw [hr] at h; cases h
      · rw [hr] at h; cases h
    rcases h with h | ⟨o', h⟩
    · exact .inl (by rw [upd_ne hne]; exact h)
    · exact .inr ⟨o', by rw [upd_ne hne]; exact h⟩
  · exact .inr h
end
/-! ### the promises -/
def spI1 (p : Int → Prop) (f : Int → V) : Sp := fun vs H Q _ => ∃ i, vs = [.int i] ∧ p i ∧ RetV (f i) H Q
def spI2 (p : Int → Int → Prop) (f : Int → Int → V) : Sp := fun vs H Q _ => ∃ i j, vs = [.int i, .int j] ∧ p i j ∧ RetV (f i j) H Q
theorem spv_I1 {p : Int → Prop} {f : Int → V} {i : Int} {H : Hp} (h : p i) : SpV (spI1 p f) [.int i] H (f i) := fun H1 _ _ q _ => ⟨i, rfl, h, q⟩
theorem spv_I2 {p : Int → Int → Prop} {f : Int → Int → V} {i j : Int} {H : Hp} (h : p i j) : SpV (spI2 p f) [.int i, .int j] H (f i j) := fun H1 _ _ q _ => ⟨i, j, rfl, h, q⟩
def Sym2 (a b : Int) : Prop := Sym a ∧ Sym b
def SymD (a b : Int) : Prop := Sym a ∧ Sym b ∧ b ≠ 0
abbrev spAdd : Sp := spI2 Sym2 fun a b => .int (gadd a b)
abbrev spMul : Sp := spI2 Sym2 fun a b => .int (gmul a b)
abbrev spDiv : Sp := spI2 SymD fun a b => .int (gdiv a b)
def isSym (v : V) : Bool := match v with | .int i => decide (0 ≤ i) && decide (i ≤ 15) | _ => false
def isNum (v : V) : Bool := match v with | .int _ => true | _ => false
/-- values that no check of a kind trips over: flat ones -/
def flatK : V → Bool | .non => true | .bl _ => true | .int _ => true | .str _ => true | _ => false
def spV1 (p : V → Prop) (f : V → V) : Sp := fun vs H Q _ => ∃ v, vs = [v] ∧ p v ∧ RetV (f v) H Q
theorem spv_V1 {p : V → Prop} {f : V → V} {v : V} {H : Hp} (h : p v) : SpV (spV1 p f) [v] H (f v) := fun H1 _ _ q _ => ⟨v, rfl, h, q⟩
/-- the check of two symbols that are symbols -/
def spReq2 : Sp := fun vs H Q _ => ∃ i j, vs = [.int i, .int j] ∧ Sym i ∧ Sym j ∧ RetV .non H Q
theorem spv_req2 {i j : Int} {H : Hp} (h1 : Sym i) (h2 : Sym j) : SpV spReq2 [.int i, .int j] H .non := fun H1 _ _ q _ => ⟨i, j, rfl, h1, h2, q⟩
def spLaw (K : PySem.W.Frag) : Sp := fun vs H Q _ => ∃ (a : Addr) (ns : List Int), vs = [.ref a] ∧ SqL K H a (ns.map V.int) ∧ ns.length ≤ 63 ∧ ∀ H', Q (.bl true) H'
/-! ### a tuple of the module's own -/
def absAll : List Value → Option (List V)
  | [] => some []
  | u :: us => match absV u, absAll us with
    | some v, some vs => some (v :: vs)
    | _, _ => none
theorem absV_rel {u : Value} {v : V} (h : absV u = some v) : RelV v u := by
  cases u <;> simp only [absV] at h <;> (first | (cases h; first | rfl | exact ⟨_, rfl⟩) | exact nomatch h)
theorem absAll_rel : ∀ {us : List Value} {vs : List V}, absAll us = some vs → Vals vs us
  | [], vs, h => by
    cases h
    exact .nil
  | u :: us, vs, h => by
    simp only [absAll] at h
    split at h
    · rename_i v vs' h1 h2
      cases h
      exact .cons (absV_rel h1) (absAll_rel h2)
    · exact nomatch h
def tupOf (o : Obj) : Option (List V) := match o.cls, o.data with
  | .type "tuple", .seq its _ => if its.size ≤ 100000 then absAll its.toList else none
  | _, _ => none
theorem tupOf_sq {K : PySem.W.Frag} {H : Hp} {a : Addr} {o : Obj} {xs : List V} (h : K.lookup a = some o) (e : tupOf o = some xs) : SqT K H a xs := by
  unfold tupOf at e
  split at e
  · rename_i its n hc hd
    split at e
    · rename_i hz
      exact .inr ⟨o, its, n, h, hc, hd, sz_of hz, absAll_rel e⟩
    · exact nomatch e
  · exact nomatch e
end Sq
namespace Sq
open PySem PySem.Spec PyProof.Rows L2 Evl
/-! ### kinds -/
def KdOk (K : PySem.W.Frag) (H : Hp) (v : V) : Prop := v = .non ∨ (∃ b, v = .bl b) ∨ (∃ i, v = .int i) ∨ (∃ x, v = .str x) ∨ ∃ p, v = .ref p ∧ ((∃ xs, SqT K H p xs) ∨ ∃ xs, SqL K H p xs)
theorem ty_tup {K : PySem.W.Frag} {H : Hp} {p : Addr} {xs : List V} (h : SqT K H p xs) : TyX K H (.ref p) (.type "tuple") := by
  rcases h with (h | ⟨o, h⟩) | ⟨o, its, n, h, hc, _⟩
  · exact .base (.tup h)
  · exact .fTuple h
  · exact .kTuple h hc
theorem ty_lst {K : PySem.W.Frag} {H : Hp} {p : Addr} {xs : List V} (h : SqL K H p xs) : TyX K H (.ref p) (.type "list") := by
  rcases h with (h | ⟨o, h⟩) | ⟨o, its, n, h, hc, _⟩
  · exact .base (.lst h)
  · exact .base (.frz h)
  · exact .kList h hc
theorem rc_isi {K : PySem.W.Frag} {H : Hp} {v : V} {T c : String} {b : Bool} (h : ∀ H1, Ex H H1 → TyX K H1 v (.type T)) (k : kitB T c = some b) : RC (rIsi K) [v, .ty c] H (.bl b) := fun H1 e _ q =>
  ⟨v, .ty c, .type T, .type c, b, rfl, .ty c, h H1 e, kit_ty k, q H1 (Ex.refl H1)⟩
def spNum (K : PySem.W.Frag) : Sp := fun vs H Q _ => ∃ v, vs = [v] ∧ KdOk K H v ∧ RetV (.bl (isNum v)) H Q
def spSym (K : PySem.W.Frag) : Sp := fun vs H Q _ => ∃ v, vs = [v] ∧ KdOk K H v ∧ RetV (.bl (isSym v)) H Q
theorem KdOk.ex {K : PySem.W.Frag} {H H' : Hp} {v : V} (h : KdOk K H v) (e : Ex H H') : KdOk K H' v := by
  rcases h with h | h | h | h | ⟨p, h, ⟨xs, q⟩ | ⟨xs, q⟩⟩
  · exact .inl h
  · exact .inr (.inl h)
  · exact .inr (.inr (.inl h))
  · exact .inr (.inr (.inr (.inl h)))
  · exact .inr (.inr (.inr (.inr ⟨p, h, .inl ⟨xs, ex_t e q⟩⟩)))
  · exact .inr (.inr (.inr (.inr ⟨p, h, .inr ⟨xs, ex_l e q⟩⟩)))
theorem kd_int {K : PySem.W.Frag} {H : Hp} {i : Int} : KdOk K H (.int i) := .inr (.inr (.inl ⟨i, rfl⟩))
theorem spv_num {K : PySem.W.Frag} {H : Hp} {v : V} (h : KdOk K H v) : SpV (spNum K) [v] H (.bl (isNum v)) := fun H1 e _ q _ => ⟨v, rfl, h.ex e, q⟩
theorem spv_sym {K : PySem.W.Frag} {H : Hp} {v : V} (h : KdOk K H v) : SpV (spSym K) [v] H (.bl (isSym v)) := fun H1 e _ q _ => ⟨v, rfl, h.ex e, q⟩
theorem isSym_of {i : Int} (h : Sym i) : isSym (.int i) = true := by
  show (decide (0 ≤ i) && decide (i ≤ 15)) = true
  rw [decide_eq_true h.1, decide_eq_true h.2]
  rfl
end Sq
namespace Sq
open PySem PySem.Spec PyProof.Rows L2 Evl
/-- the draws by the list itself: what changes is at r alone -/
def spTakenL (K : PySem.W.Frag) : Sp := fun vs H Q _ => ∃ (r a : Addr) (m i x y : Int) (ns : List Int), vs = [.ref r, .int m] ∧ 0 < m ∧ m < 1073741824 ∧ RowB i x y ∧ H r = some (rowL a i x y) ∧ SqL K H a (ns.map V.int) ∧
  ∀ z i' x' y' H', 0 ≤ z → z < m → RowB i' x' y' → H' r = some (rowL a i' x' y') → (∀ b o, b ≠ r → H b = some o → H' b = some o) → Q (.int z) H'
theorem taken_rows {K : PySem.W.Frag} {vs : List V} {H : Hp} {Q : VK} {E : XK} (h : spTaken K vs H Q E) : ∃ r a, H r = some (rowF r a) ∧ ∀ i x y, RowB i x y → spTakenL K vs (upd H r (rowL a i x y)) (fun v H' => ∃ i' x' y', RowB i' x' y' ∧ H' r = some (rowL a i' x' y') ∧ Q v (upd H' r (rowF r a))) E := by
  obtain ⟨r, m, rfl, h0, h1, ⟨a, ns, hr, hs⟩, q⟩ := h
  refine ⟨r, a, hr, fun i x y b => ⟨r, a, m, i, x, y, ns, rfl, h0, h1, b, upd_same, row_keepF hs hr, fun z i' x' y' H' z0 z1 b' hr' hk => ⟨i', x', y', b', hr', q z z0 z1 _ fun c o e => ?_⟩⟩⟩
  by_cases hc : c = r
  · subst hc
    rw [upd_same, ← e, hr]
  · rw [upd_ne hc]
    exact hk c o hc (by rw [upd_ne hc]; exact e)
theorem fmod_range {z m : Int} (h : 0 < m) : 0 ≤ z.fmod m ∧ z.fmod m < m := ⟨Int.fmod_nonneg_of_pos z h, Int.fmod_lt_of_pos z h⟩
end Sq
namespace Sq
open PySem PySem.Spec PyProof.Rows L2 Evl
section
variable {D : Ends} {tz : TS} {te : TE} {ta : TA} {σ : L2.St} {H : Hp} {i j l : Nat}
theorem q_asgR (h : te σ H fun v H1 => tz D (σ.set i (some v)) H1) : tSeq (tAsg te (gName i)) tz D σ H := h
theorem q_par2R (h : ta σ H fun vs H1 => ∃ u v, vs = [u, v] ∧ tz D ((σ.set i (some u)).set j (some v)) H1) : tSeq (tPar i j ta) tz D σ H := h
theorem q_par3R (h : ta σ H fun vs H1 => ∃ u v w, vs = [u, v, w] ∧ tz D (((σ.set i (some u)).set j (some v)).set l (some w)) H1) : tSeq (tPar3 i j l ta) tz D σ H := h
end
end Sq
namespace Sq
open PySem PySem.Spec PyProof.Rows L2 Evl
section
variable {D : Ends} {tz tu : TS} {t : TT} {σ : L2.St} {H : Hp} {b : Bool}
/-- an if without else whose branch goes on as the rest does: the rest is shown once -/
theorem q_whenT (h : EvT t σ H b) (k : ∀ H1, Ex H H1 → tz D σ H1) (h1 : (∀ H1, Ex H H1 → tz D σ H1) → b = true → ∀ H1, Ex H H1 → tu { D with nx := tz D } σ H1) : tSeq (tIfS t tu tNext) tz D σ H :=
  q_when h (h1 k) fun _ => k
end
end Sq

/-! small pure expressions and defs over the bare state, whatever runs around them (a generator's frame tells no stack) -/
namespace Sq
open PySem PySem.Spec PyProof.Rows L2 Evl

theorem keeps_trans {s s1 s2 : Shared} (a : Keeps s s1) (b : Keeps s1 s2) : Keeps s s2 := by
  obtain ⟨h1, t1, rfl, k1⟩ := a
  obtain ⟨h2, t2, rfl, k2⟩ := b
  exact ⟨h2, t2, rfl, fun b o e => k2 b o (k1 b o e)⟩
theorem keeps_rfl (s : Shared) : Keeps s s := ⟨s.heap, s.toks, rfl, fun _ _ e => e⟩
theorem keeps_tk (s : Shared) (t : Nat) : Keeps s { s with toks := t } := ⟨s.heap, t, rfl, fun _ _ e => e⟩
theorem keeps_get {s s' : Shared} (k : Keeps s s') {b : Addr} {o : Obj} (e : s.heap.get? b = some o) : s'.heap.get? b = some o := by
  obtain ⟨h1, t1, rfl, k1⟩ := k
  exact k1 b o e
/-- the module stands in the state -/
structure RS (K : PySem.W.Frag) (mg : Str → Option Value) (base : Heap) (s : Shared) : Prop where
  mod : L2.Mod K mg base
  bk : ∀ b o, base.get? b = some o → s.heap.get? b = some o
section
variable {P : Program} {w : World} {K : PySem.W.Frag} {mg : Str → Option Value} {base : Heap} {D U : Nat} {env : Env} {m : Str → Option Value} {G : Heap → Prop} {e a b c : Expr} {pos p : Pos} {x : Str}
theorem RS.keeps {s s' : Shared} (r : RS K mg base s) (k : Keeps s s') : RS K mg base s' := ⟨r.mod, fun b o e => keeps_get k (r.bk b o e)⟩
theorem RS.kin {s : Shared} (r : RS K mg base s) : K.In s.heap := r.mod.kin.keeps r.bk
theorem RS.lim {s : Shared} (r : RS K mg base s) : s.heap.NoLimit := r.mod.nolimit.keeps r.bk
theorem ns_keeps {s s' : Shared} (k : Keeps s s') {L : Addr} {m : Str → Option Value} (h : s.heap.Ns L m) : s'.heap.Ns L m := h.keeps fun b o e => keeps_get k e
/-- an expression whose value fulfils R, and that changes nothing -/
def RawE (P : Program) (w : World) (K : PySem.W.Frag) (mg : Str → Option Value) (base : Heap) (D U : Nat) (env : Env) (m : Str → Option Value) (G : Heap → Prop) (e : Expr) (R : Value → Prop) : Prop :=
  ∀ (A : Around) (E : Value → Shared → Prop) (s : Shared), RS K mg base s → A.handled = none → A.depth ≤ D → A.units ≤ U → s.heap.Ns env.locals m → G s.heap → wpAny (model P w) A (eval e env) (fun v s' => R v ∧ Keeps s s') E s
/-- a def called with us -/
def RawF (P : Program) (w : World) (K : PySem.W.Frag) (mg : Str → Option Value) (base : Heap) (D U : Nat) (f : Addr) (us : List Value) (R : Value → Prop) : Prop :=
  ∀ (A : Around) (s : Shared), RS K mg base s → A.handled = none → A.depth ≤ D → A.units ≤ U → codeAny (model P w) A (.call (.ref f) ⟨us, []⟩) (fun r s' => ∃ v, r = .ok (.ret v) ∧ R v ∧ Keeps s s') s
def GStb (G : Heap → Prop) : Prop := ∀ h h' : Heap, (∀ b o, h.get? b = some o → h'.get? b = some o) → G h → G h'
theorem gstb_keeps (g : GStb G) {s s' : Shared} (k : Keeps s s') (h : G s.heap) : G s'.heap := g _ _ (fun _ _ e => keeps_get k e) h
structure FnEnv (env : Env) : Prop where
  kind : env.scope.kind = .function
  glob : env.globals = mainGlobals
  blt : env.builtins = builtinsNs
theorem raw_loc {v : Value} (F : FnEnv env) (hl : env.kindOf x = some .local) (hm : m x = some v) (hd : (x == ("__debug__" : Str)) = false := by decide) : RawE P w K mg base D U env m G (.Name x pos) (fun u => u = v) :=
  fun A E s _ _ _ _ hn _ => wpAny_Name (wpAny_loadName_local F.kind hl hn hm ⟨rfl, keeps_rfl s⟩) hd
theorem raw_int {i : Int} {j} : RawE P w K mg base D U env m G (.Constant (.int i) j pos) (fun u => ∃ t, u = .int i t) :=
  fun A E s _ _ _ _ _ _ => wpAny_Constant_int ⟨⟨_, rfl⟩, keeps_tk s _⟩
theorem raw_blt {u : Value} (F : FnEnv env) (hx : env.kindOf x = some .globalImplicit) (hm : mg x = none) (hv : bootBuiltins x = some u) (hn : x ≠ "__name__" := by decide) (hd : (x == ("__debug__" : Str)) = false := by decide) : RawE P w K mg base D U env m G (.Name x pos) (fun v => v = u) :=
  fun A E s r _ _ _ _ _ => by
    obtain ⟨mb, h1, h2⟩ := r.mod.blt
    exact Calls.Name_function_global F.kind hx (Calls.loadGlobal_builtin (by rw [F.glob]; exact r.mod.glob.keeps r.bk) hm (by rw [F.blt]; exact h1.keeps r.bk) ((h2 x hn).trans hv) ⟨rfl, keeps_rfl s⟩) hd
theorem raw_glob {u : Value} (F : FnEnv env) (hx : env.kindOf x = some .globalImplicit) (hm : mg x = some u) (hd : (x == ("__debug__" : Str)) = false := by decide) : RawE P w K mg base D U env m G (.Name x pos) (fun v => v = u) :=
  fun A E s r _ _ _ _ _ => Calls.Name_function_global F.kind hx (Calls.loadGlobal_global (by rw [F.glob]; exact r.mod.glob.keeps r.bk) hm ⟨rfl, keeps_rfl s⟩) hd
theorem raw_imp {R R' : Value → Prop} (h : RawE P w K mg base D U env m G e R) (i : ∀ v, R v → R' v) : RawE P w K mg base D U env m G e R' :=
  fun A E s r h0 h1 h2 hn hg => wpAny_mono (h A E s r h0 h1 h2 hn hg) (fun v s' q => ⟨i v q.1, q.2⟩) fun _ _ z => z
/-- a and b, both bools -/
theorem raw_and {ka kb : Bool} (g : GStb G) (ha : RawE P w K mg base D U env m G a (fun v => v = .bool ka)) (hb : ka = true → RawE P w K mg base D U env m G b (fun v => v = .bool kb)) : RawE P w K mg base D U env m G (.BoolOp .And [a, b] pos) (fun v => v = .bool (ka && kb)) :=
  fun A E s r h0 h1 h2 hn hg => BoolOp_and (wpAny_mono (ha A E s r h0 h1 h2 hn hg) (fun v s1 q => by
    obtain ⟨rfl, k⟩ := q
    refine wpAny_truthy_bool ?_
    cases ka with
    | false => exact ⟨rfl, k⟩
    | true =>
      refine BoolOp_one (wpAny_mono (hb rfl A E s1 (r.keeps k) h0 h1 h2 (ns_keeps k hn) (gstb_keeps g k hg)) (fun v s2 q => ⟨q.1, keeps_trans k q.2⟩) fun _ _ z => z)) fun _ _ z => z)
theorem raw_or {ka kb : Bool} (g : GStb G) (ha : RawE P w K mg base D U env m G a (fun v => v = .bool ka)) (hb : ka = false → RawE P w K mg base D U env m G b (fun v => v = .bool kb)) : RawE P w K mg base D U env m G (.BoolOp .Or [a, b] pos) (fun v => v = .bool (ka || kb)) :=
  fun A E s r h0 h1 h2 hn hg => BoolOp_or (wpAny_mono (ha A E s r h0 h1 h2 hn hg) (fun v s1 q => by
    obtain ⟨rfl, k⟩ := q
    refine wpAny_truthy_bool ?_
    cases ka with
    | true => exact ⟨rfl, k⟩
    | false =>
      refine BoolOp_one (wpAny_mono (hb rfl A E s1 (r.keeps k) h0 h1 h2 (ns_keeps k hn) (gstb_keeps g k hg)) (fun v s2 q => ⟨q.1, keeps_trans k q.2⟩) fun _ _ z => z)) fun _ _ z => z)
theorem raw_not {ka : Bool} (ha : RawE P w K mg base D U env m G a (fun v => v = .bool ka)) : RawE P w K mg base D U env m G (.UnaryOp .Not a pos) (fun v => v = .bool (!ka)) :=
  fun A E s r h0 h1 h2 hn hg => UnaryOp_ (wpAny_mono (ha A E s r h0 h1 h2 hn hg) (fun v s1 q => by
    obtain ⟨rfl, k⟩ := q
    exact PyProof.Rows.not_of (wpAny_truthy_bool ⟨rfl, k⟩)) fun _ _ z => z)
theorem raw_isNone {j pos'} {u : Value} (ha : RawE P w K mg base D U env m G a (fun v => v = u)) : RawE P w K mg base D U env m G (.Compare a [.Is] [.Constant .none j pos'] pos) (fun v => v = .bool (u == .none)) :=
  fun A E s r h0 h1 h2 hn hg => wpAny_Compare1 (wpAny_mono (ha A E s r h0 h1 h2 hn hg) (fun v s1 q => by
    obtain ⟨rfl, k⟩ := q
    exact Constant_none (is_none_gen ⟨rfl, k⟩)) fun _ _ z => z) (by rfl)
/-- a <= b <= c of ints -/
theorem raw_chain {i j k : Int} (g : GStb G) (ha : RawE P w K mg base D U env m G a (fun v => ∃ t, v = .int i t)) (hb : RawE P w K mg base D U env m G b (fun v => ∃ t, v = .int j t)) (hc : RawE P w K mg base D U env m G c (fun v => ∃ t, v = .int k t)) (hm : lastMarks [.LtE, .LtE] [b, c] = false := by with_unfolding_all rfl) :
    RawE P w K mg base D U env m G (.Compare a [.LtE, .LtE] [b, c] pos) (fun v => v = .bool (decide (i ≤ j) && decide (j ≤ k))) :=
  fun A E s r h0 h1 h2 hn hg => by
    refine Compare_chain (wpAny_mono (ha A E s r h0 h1 h2 hn hg) (fun v s1 q => chain_link ?_) fun _ _ z => z) hm
    obtain ⟨⟨t1, rfl⟩, k1⟩ := q
    refine wpAny_mono (hb A E s1 (r.keeps k1) h0 h1 h2 (ns_keeps k1 hn) (gstb_keeps g k1 hg)) (fun v s2 q => ?_) fun _ _ z => z
    obtain ⟨⟨t2, rfl⟩, k2⟩ := q
    refine le_int (wpAny_truthy_bool ?_)
    have k12 := keeps_trans k1 k2
    cases hd : decide (i ≤ j) with
    | false => exact ⟨rfl, k12⟩
    | true =>
      refine chain_last (wpAny_mono (hc A E s2 (r.keeps k12) h0 h1 h2 (ns_keeps k12 hn) (gstb_keeps g k12 hg)) (fun v s3 q => ?_) fun _ _ z => z)
      obtain ⟨⟨t3, rfl⟩, k3⟩ := q
      exact le_int ⟨rfl, keeps_trans k12 k3⟩
/-- isinstance(x, T), T a built-in class -/
theorem raw_isi {u : Value} {T c : String} {r : Bool} {Z : Heap → Prop} {p1 p2 : Pos} (F : FnEnv env) (hx : env.kindOf "isinstance" = some .globalImplicit) (hm : mg "isinstance" = none) (g : GStb G) (ha : RawE P w K mg base D U env m G a (fun v => v = u)) (hb : RawE P w K mg base D U env m G b (fun v => v = .type c))
    (kit : PySem.W.KitX K u (.type T) Z) (hz : ∀ h, G h → Z h) (hl : u ≠ .builtin "__main__.__loader__#opaque") (k : kitB T c = some r)
    (he : starEach [a, b] env = (false, eval a env) :: starEach [b] env := by rfl) (he2 : starEach [b] env = (false, eval b env) :: starEach [] env := by rfl) (hpl : (backTo pos (starEach [b] env)).any (·.1) = false := by rfl) :
    RawE P w K mg base D U env m G (.Call (.Name "isinstance" p1) [a, b] [] pos) (fun v => v = .bool r) :=
  fun A E s rs h0 h1 h2 hn hg => by
    refine wpAny_Call_Name_kw (wpAny_mono (raw_blt (P := P) (w := w) (K := K) (mg := mg) (base := base) (D := D) (U := U) (m := m) (G := G) (u := .builtin "isinstance") F hx hm (by decide +kernel) (by decide) (by decide) A E s rs h0 h1 h2 hn hg) (fun f s0 q0 => ?_) fun _ _ z => z)
    obtain ⟨rfl, k0⟩ := q0
    refine PyProof.Rows.callWith_builtin1 ?_ he hpl
    rw [he]
    refine Calls.spliced_cons (wpAny_mono (ha A E s0 (rs.keeps k0) h0 h1 h2 (ns_keeps k0 hn) (gstb_keeps g k0 hg)) (fun v s1 q => ?_) fun _ _ z => z)
    obtain ⟨rfl, k1⟩ := q
    have k01 := keeps_trans k0 k1
    rw [he2]
    refine Calls.spliced_cons (wpAny_mono (hb A E s1 (rs.keeps k01) h0 h1 h2 (ns_keeps k01 hn) (gstb_keeps g k01 hg)) (fun v s2 q => ?_) fun _ _ z => z)
    obtain ⟨rfl, k2⟩ := q
    have k02 := keeps_trans k01 k2
    refine Calls.spliced_nil ?_
    exact PySem.W.kia_one kit (rs.keeps k02).kin (hz _ (gstb_keeps g k02 hg)) (kit_ty k) hl fun tk => ⟨rfl, keeps_trans k02 (keeps_tk s2 tk)⟩
/-- f(a), f an own def -/
theorem raw_call1 {u : Value} {f : Addr} {R : Value → Prop} {p1 : Pos} (F : FnEnv env) (hx : env.kindOf x = some .globalImplicit) (hm : mg x = some (.ref f)) (hk : PySem.W.keepIn K (.ref f) = true) (g : GStb G) (ha : RawE P w K mg base D U env m G a (fun v => v = u)) (hf : RawF P w K mg base D U f [u] R)
    (hd : (x == ("__debug__" : Str)) = false := by decide) (he : starEach [a] env = (false, eval a env) :: starEach [] env := by rfl) (hpl : (backTo pos (starEach [] env)).any (·.1) = false := by rfl) :
    RawE P w K mg base D U env m G (.Call (.Name x p1) [a] [] pos) R :=
  fun A E s rs h0 h1 h2 hn hg => by
    refine wpAny_Call_Name_kw (wpAny_mono (raw_glob (P := P) (w := w) (K := K) (mg := mg) (base := base) (D := D) (U := U) (m := m) (G := G) F hx hm hd A E s rs h0 h1 h2 hn hg) (fun v s0 q0 => ?_) fun _ _ z => z)
    obtain ⟨rfl, k0⟩ := q0
    refine PySem.W.callWith_K (h₀ := base) rs.mod.kin hk ?_ he hpl
    rw [he]
    refine Calls.spliced_cons (wpAny_mono (ha A E s0 (rs.keeps k0) h0 h1 h2 (ns_keeps k0 hn) (gstb_keeps g k0 hg)) (fun v s1 q => ?_) fun _ _ z => z)
    obtain ⟨rfl, k1⟩ := q
    have k01 := keeps_trans k0 k1
    refine Calls.spliced_nil ⟨(rs.keeps k01).kin, wpAny_call (codeAny_mono (hf A s1 (rs.keeps k01) h0 h1 h2) fun r s' q => ?_)⟩
    obtain ⟨v, rfl, hr, k2⟩ := q
    exact ⟨hr, keeps_trans k01 k2⟩
/-- a def whose body is one return -/
theorem raw_def {x qual : Str} {st : Stmt} {f : Addr} {fd : FuncData} {ps : List Str} {us : List Value} {e : Expr} {R : Value → Prop} (F : Fun K x qual st f fd) (hb : defBody st = [.Return (some e) pos])
    (hbind : ∀ (kV doc pm : Value) (an : Option Addr) (cdv ct : Value) (s : Shared), BindsTo s (PySem.W.fnOf x qual (defArgs st) (defBody st) (defScope st) .none kV doc pm an cdv ct) ⟨us, []⟩ (ps.zip us))
    (hkind : ((ps.zip us).all fun y => (defScope st).names.lookup y.1 == some .local || (defScope st).names.lookup y.1 == some .cell) = true)
    (hco : (defScope st).isCoroutine = false) (hgen : (defScope st).isGenerator = false) (hk : (defScope st).kind = .function) (hD : D + 1 < recursionLimit)
    (h : ∀ (L : Addr) (cdv : Value), RawE P w K mg base (D + 1) (U + 3) (envOfC qual (defScope st) L f cdv) (bindL (envOfC qual (defScope st) L f cdv).kindOf (ps.zip us) fun _ => none) G e R) (hg : ∀ s s' : Shared, G s.heap → Keeps s s' → G s'.heap) (A : Around) (s : Shared) (rs : RS K mg base s) (h0 : A.handled = none) (h1 : A.depth ≤ D) (h2 : A.units ≤ U) (g0 : G s.heap) :
    codeAny (model P w) A (.call (.ref f) ⟨us, []⟩) (fun r s' => ∃ v, r = .ok (.ret v) ∧ R v ∧ Keeps s s') s := by
  obtain ⟨oc, od, kV, doc, pm, an, cdv, ct, osl, rfl, lk, hcd⟩ := F.ex
  refine Att.call_fn rs.kin rs.lim lk hcd (by omega) (hbind _ _ _ _ _ _ s) hkind (fun s₁ IC => ?_) hco hgen hk
  obtain ⟨h₁, tk₁, rfl⟩ := IC.toInCall.same
  have k : Keeps s { s with heap := h₁, toks := tk₁ } := ⟨h₁, tk₁, rfl, IC.toInCall.keep⟩
  rw [hb]
  refine wpAny_execs_cons (wpAny_Return_some ?_)
  refine wpAny_mono (h s.heap.objs.size cdv (A.deeper _) _ _ (rs.keeps k) h0 (by show A.depth + 1 ≤ D + 1; omega) (by show A.units + 3 ≤ U + 3; omega) IC.toInCall.ns (hg _ _ g0 k)) (fun v s' q => ?_) fun _ _ z => z
  exact ⟨v, rfl, q.1, keeps_trans k q.2⟩
end
end Sq

/-! a def's table of code objects, told by what is true of it; all(..) and any(..) of a generator expression over a tuple -/
namespace Sq
open PySem PySem.Spec PyProof.Rows L2 Evl
def TabF (p : Addr) : HO := .ext fun h => ∃ ps : Array Value, h.get? p = some { cls := .none, data := .fields ps } ∧ TriplesOk ps.toList
theorem tabF_ok {P : Program} {w : World} {H : Hp} {h : Heap} {p : Addr} {ps : Array Value} (e : h.get? p = some { cls := .none, data := .fields ps }) (t : TriplesOk ps.toList) : ObjOk P w H h p (TabF p) :=
  ⟨⟨ps, e, t⟩, ⟨_, e⟩, fun _ _ q k => let ⟨qs, e1, t1⟩ := q; ⟨qs, k _ e1, t1⟩⟩
section
variable {X : Cx} {pins : List (Addr × Obj)} {σ : L2.St} {H : Hp} {s : Shared}
/-- what the element gives for an item, whatever runs around it -/
def EltG (X : Cx) (scope : Scope) (x : Str) (elt : Expr) (good : V → Bool → Prop) : Prop := ∀ (y : V) (u : Value) (b : Bool), good y b → RelV y u → ∀ (cenv : Env) (m : Str → Option Value), cenv.scope = scope → cenv.globals = mainGlobals → cenv.builtins = builtinsNs → m x = some u →
  RawE X.prog X.w X.K X.mg X.base (X.A.depth + 1) (X.A.units + 8) cenv m (fun _ => True) elt (fun v => v = .bool b)
def pAt (xs : List V) (pb : V → Bool) (j : Nat) : Bool := match xs[j]? with
  | some y => pb y
  | none => false
theorem pAt_all (xs : List V) (pb : V → Bool) : (List.range xs.length).all (pAt xs pb) = xs.all pb := by
  rw [Bool.eq_iff_iff, List.all_eq_true, List.all_eq_true]
  refine ⟨fun h y hy => ?_, fun h j hj => ?_⟩
  · obtain ⟨j, hj, e⟩ := List.getElem_of_mem hy
    have q := h j (List.mem_range.mpr hj)
    unfold pAt at q
    rw [List.getElem?_eq_getElem hj, e] at q
    exact q
  · have hj' := List.mem_range.mp hj
    unfold pAt
    rw [List.getElem?_eq_getElem hj']
    exact h _ (List.getElem_mem hj')
theorem pAt_any (xs : List V) (pb : V → Bool) : (List.range xs.length).any (pAt xs pb) = xs.any pb := by
  rw [Bool.eq_iff_iff, List.any_eq_true, List.any_eq_true]
  refine ⟨fun ⟨j, hj, q⟩ => ?_, fun ⟨y, hy, q⟩ => ?_⟩
  · have hj' := List.mem_range.mp hj
    unfold pAt at q
    rw [List.getElem?_eq_getElem hj'] at q
    exact ⟨_, List.getElem_mem hj', q⟩
  · obtain ⟨j, hj, e⟩ := List.getElem_of_mem hy
    refine ⟨j, List.mem_range.mpr hj, ?_⟩
    unfold pAt
    rw [List.getElem?_eq_getElem hj, e]
    exact q
/-- a generator that stands ready over the items -/
def GenRd (X : Cx) (pins : List (Addr × Obj)) (σ : L2.St) (H : Hp) (xs : List V) (pb : V → Bool) (g : Addr) (s5 : Shared) : Prop :=
  ∃ (fp wr : List Addr) (G : Array GenState → Array GenState → Prop) (F : Nat → Value → Prop) (St : Nat → Shared → Prop),
    (WalksS X.prog X.w X.A.in1 g fp wr G xs.length F St ∧ St 0 s5) ∧ TruthOf X.prog X.w X.A.in1 F (pAt xs pb) ∧ ∀ s', Moved wr G s5 s' → Inv X pins σ H s'
def tGenT (K : PySem.W.Frag) (Pt : Addr) (good : V → Bool → Prop) (te : TE) (k : List V → (V → Bool) → Hp → Prop) : L2.St → Hp → Prop := fun σ H => te σ H fun v H1 => ∃ (a : Addr) (xs : List V) (pb : V → Bool), v = .ref a ∧ SqT K H1 a xs ∧ H1 Pt = some (TabF Pt) ∧ (∀ y ∈ xs, good y (pb y)) ∧ k xs pb H1
theorem gen_tup {c Pt : Addr} {elt iter : Expr} {x : Str} {px gpos : Pos} {scope : Scope} {good : V → Bool → Prop} {te : TE} {j : Nat} {Q' : Value → Shared → Prop} {kk : List V → (V → Bool) → Hp → Prop}
    (hr : Room j X.A) (TB : GxR.TabB X.base X.mg c Pt) (hcode : X.env.code = .ref c) (S : GxR.GenS X.env scope x) (hi : PE X iter te) (hel : EltG X scope x elt good) (hs : ∀ v, genFold iter X.env v = pure v)
    (I : Inv X pins σ H s) (h : tGenT X.K Pt good te kk σ H) (hQ : ∀ xs pb H1 g s5, kk xs pb H1 → GenRd X pins σ H1 xs pb g s5 → Q' (.ref g) s5) :
    wpAny (model X.prog X.w) X.A (eval (.GeneratorExp elt [⟨.Name x px, iter, [], 0⟩] scope gpos) X.env) Q' X.xe s := by
  refine wpAny_GeneratorExp_walksQD hr.hd S.co (closure_ok S.free) S.cell S.dot S.loc S.kind (by have := hr.dp; omega) ?_ hs
  refine thn (hi.run pins s σ H _ I h) fun xv s1 hq => ?_
  obtain ⟨v, H1, I1, r1, ax, xs, pb, rfl, hx, hT, hgd, hkk⟩ := hq
  cases r1
  obtain ⟨its, rv, hp, hz⟩ := I1.tuple hx
  refine wpAny_pyIter_tuple (show s1.heap.IsTuple ax its.toArray from hp) ?_
  obtain ⟨⟨ps, hP, tri⟩, _, _⟩ := I1.hok Pt _ hT
  generalize hio : ({ cls := .type "tuple_iterator", data := .fields #[.ref ax, .int 0 0] } : Obj) = io
  have szZ : (s1.heap.push io).objs.size = s1.heap.objs.size + 1 := Heap.size_push ..
  have toZ : ∀ b u, s1.heap.get? b = some u → (s1.heap.push io).get? b = some u := fun b u e => Heap.get?_push_of_some _ e
  have hPlt : Pt < s1.heap.objs.size := Heap.lt_size hP
  have hPZ := toZ _ _ hP
  have hcd : PySem.W.CodeHd (s1.heap.push io) c Pt := TB.code.keeps fun b u e => toZ b u (I1.bk b u e)
  have limZ : (s1.heap.push io).NoLimit := I1.nolimit.push io
  have baseP : ∀ b u, X.base.get? b = some u → b ≠ Pt := fun b u e z => by
    have q := (I1.bs b u e).2
    rw [z, hT] at q
    cases q
  have hcl : cStatics < s1.heap.objs.size := let ⟨_, hns, _⟩ := I1.nolimit; hns.lt
  have go : ∀ (code : Value) (h3 : Heap) (tk : Nat) (qs : Array Value), Heap.ExtBut Pt (s1.heap.push io) h3 → (s1.heap.push io).objs.size ≤ h3.objs.size → h3.get? Pt = some { cls := .none, data := .fields qs } → TriplesOk qs.toList →
      wpAny (model X.prog X.w) X.A (builtinsFor X.env.globals X.env.builtins) (fun bi s₄ =>
        ∃ Ia fp wr n₀ Pf St₀ pz F, Value.ref s1.heap.objs.size = .ref Ia ∧ (∀ A' : Around, A'.handled = none → Walks X.prog X.w A' Ia fp wr n₀ Pf St₀) ∧ St₀ 0 s₄.heap ∧ (∀ b ∈ fp, b < s₄.heap.objs.size) ∧ s₄.heap.NoLimit ∧ cStatics ∉ wr ∧
          (∀ href : Heap, (∀ b o, s₄.heap.get? b = some o → href.get? b = some o) →
            QuietGenD X.prog X.w (genEnv scope (cloFrom X.env.cells scope.names []) s₄.heap.objs.size code bi X.env) x [] elt (List.range s₄.heap.objs.size) wr Pf pz F href (X.A.depth + 1) (X.A.units + 8)) ∧
          (∀ a h₅ tk gs, gs.bare = true → s₄.heap.objs.size < a → h₅.objs.size = a + 1 → (∀ b o, s₄.heap.get? b = some o → h₅.get? b = some o) →
            WalksS X.prog X.w X.A.in4 a (a :: s₄.heap.objs.size :: List.range s₄.heap.objs.size) (s₄.heap.objs.size :: wr) (GenOnlyQ s₄.gens.size) (passing pz n₀ 0).length
              (fun j y => ∃ i, (passing pz n₀ 0)[j]? = some i ∧ F i y) (GenAt X.prog X.w X.A.in4 a s₄.gens.size s₄.heap.objs.size (List.range s₄.heap.objs.size) wr pz n₀ F) →
            GenAt X.prog X.w X.A.in4 a s₄.gens.size s₄.heap.objs.size (List.range s₄.heap.objs.size) wr pz n₀ F 0 { s₄ with gens := s₄.gens.push gs, toks := tk, heap := h₅ } →
            Q' (.ref a) { s₄ with gens := s₄.gens.push gs, toks := tk, heap := h₅ })) X.xe { s1 with heap := h3, toks := tk } := by
    intro code h3 tk qs hx3 hsz hP3 tri3
    have up3 : ∀ b u, b ≠ Pt → s1.heap.get? b = some u → h3.get? b = some u := fun b u hb e => hx3 b u hb (toZ b u e)
    have hcP : cStatics ≠ Pt := fun z => by
      obtain ⟨_, ⟨o', es, ep, ho, hd, _⟩, _⟩ := I1.nolimit
      rw [z, hP] at ho
      cases ho
      cases hd
    obtain ⟨bm, ob, d1, d2, d3, d4, d5, d6, d7, d8⟩ := TB.bm
    refine wpAny_builtinsFor (m := X.mg) (by rw [I1.ok.glob]; exact ((I1.mod.glob.keeps I1.bk).push io).extBut hx3 TB.gP) d1 d2 (up3 _ _ d4 (I1.bk _ _ d5)) d6 d7 d8 ?_
    have lt3 : s1.heap.objs.size < h3.objs.size := by omega
    have hlen : its.toArray.size = xs.length := by rw [List.size_toArray, rv.length]
    have hIt : h3.IsTupleIter s1.heap.objs.size ax 0 ∧ h3.IsTuple ax its.toArray := by
      have axP : ax ≠ Pt := fun z => by
        obtain ⟨o, ho, hc, n, hd⟩ := hp
        rw [z, hP] at ho
        cases ho
        cases hd
      refine ⟨?_, ?_⟩
      · refine ⟨io, hx3 _ _ (Nat.ne_of_gt hPlt) (Heap.get?_push_size _ (by rw [← hio]; rfl)), ?_⟩
        rw [← hio]
        exact ⟨rfl, rfl⟩
      · obtain ⟨o, ho, hc, n, hd⟩ := hp
        exact ⟨o, up3 _ _ axP ho, hc, n, hd⟩
    have hne : ax ≠ s1.heap.objs.size := by
      obtain ⟨o, ho, _⟩ := hp
      exact Nat.ne_of_lt (Heap.lt_size ho)
    refine ⟨s1.heap.objs.size, [s1.heap.objs.size, ax], [s1.heap.objs.size], its.toArray.size, (fun i v => its.toArray[i]? = some v), (fun i h => h.IsTupleIter s1.heap.objs.size ax i ∧ h.IsTuple ax its.toArray), (fun _ => true), (fun i y => ∃ z, xs[i]? = some z ∧ y = .bool (pb z)), rfl, fun A' hA' => Walks.tuple hA' _ _ hne _, hIt, ?_, limZ.extBut hx3 hcP, ?_, ?_, ?_⟩
    · intro b hb
      have t1 : s1.heap.objs.size < h3.objs.size := by omega
      obtain ⟨o, ho, _⟩ := hp
      have t2 := Heap.lt_size ho
      rcases List.mem_cons.mp hb with z | z
      · rw [z]; exact t1
      · rw [List.mem_singleton.mp z]; exact Nat.lt_trans t2 t1
    · exact fun z => Nat.ne_of_lt hcl (List.mem_singleton.mp z)
    · intro href hhref
      refine ⟨fun A' E' i v s₂ m₂ hA _ _ hPv hn hm hk => ?_, fun A' E' i v s₂ m₂ hA hAd hAu hPv hpz hn hm hk => ?_⟩
      · simp only [List.forIn_nil]
        exact wpAny_pure ⟨rfl, keeps_rfl _⟩
      · have hv : its[i]? = some v := by simpa using hPv
        obtain ⟨y, hy, ry⟩ : ∃ y, xs[i]? = some y ∧ RelV y v := by
          cases e : xs[i]? with
          | none => rw [rv.none_of e] at hv; cases hv
          | some y =>
            obtain ⟨u, e1, e2⟩ := rv.get e
            rw [hv] at e1
            cases e1
            exact ⟨y, rfl, e2⟩
        have rs : RS X.K X.mg X.base s₂ := ⟨I1.mod, fun b o e => by
          have e1 := (I1.bs b o e).1
          have lb := Heap.lt_size e1
          exact hk b (List.mem_range.mpr (Nat.lt_trans lb lt3)) (fun z => Nat.ne_of_lt lb (List.mem_singleton.mp z)) o (hhref b o (up3 b o (baseP b o e) e1))⟩
        exact wpAny_mono (hel y v (pb y) (hgd y (List.mem_of_getElem? hy)) ry (genEnv scope (cloFrom X.env.cells scope.names []) h3.objs.size code builtinsNs X.env) m₂ rfl I1.ok.glob rfl hm A' E' s₂ rs hA hAd hAu hn trivial) (fun u s3 q => ⟨⟨y, hy, q.1⟩, q.2⟩) fun _ _ z => z
    · intro g h5 tk5 gs hgb hag hsz5 hk5 W5 hat
      simp only [GxR.passing_true, List.length_range, hlen] at W5 hat
      refine hQ xs pb H1 g _ hkk ⟨_, _, _, _, _, ⟨W5.in4_1, hat⟩, ?_, fun s' hm => ?_⟩
      · intro i y sj Qj Ej hy hQj
        obtain ⟨i', hij, z, hz', rfl⟩ := hy
        obtain ⟨hj, ej⟩ := List.getElem?_eq_some_iff.mp hij
        rw [List.getElem_range] at ej
        subst ej
        have e9 : pAt xs pb i = pb z := by unfold pAt; rw [hz']
        rw [e9] at hQj
        exact wpAny_truthy_bool hQj
      · have away : ∀ b u, s1.heap.get? b = some u → b ∉ h3.objs.size :: [s1.heap.objs.size] := fun b u e hb => by
          have lb := Heap.lt_size e
          rcases List.mem_cons.mp hb with z | z
          · exact Nat.ne_of_lt (Nat.lt_trans lb lt3) z
          · exact Nat.ne_of_lt lb (List.mem_singleton.mp z)
        have last : ∀ b u, b ≠ Pt → s1.heap.get? b = some u → s'.heap.get? b = some u := fun b u hb e => hm.heap b u (away b u e) (hk5 b u (up3 b u hb e))
        have lastP : s'.heap.get? Pt = some { cls := .none, data := .fields qs } := hm.heap Pt _ (away Pt _ hP) (hk5 Pt _ hP3)
        have mu : Mut (H1 Pt) := by rw [hT]; exact trivial
        have eU : upd H1 Pt (TabF Pt) = H1 := upd_self hT
        have un : Un (frs X.stack) [] H1 H1 s1.heap s'.heap := by
          have z := Un.write (fs := frs X.stack) (ex := []) (o := TabF Pt) mu (.inl rfl) last ⟨_, lastP⟩
          rw [eU] at z
          exact z
        have hok : HOk X.prog X.w H1 s'.heap := by
          have z := I1.hok.write (o' := TabF Pt) mu (.inl rfl) last ⟨_, lastP⟩ (tabF_ok lastP tri3)
          rw [eU] at z
          exact z
        have J := I1.call (g' := s'.gens) (t' := s'.toks) (d' := s'.drawn) (ch := []) un hok (AllBare.movedS (I1.bare.push hgb) hm) (fun b hb => absurd hb (by simp))
        rw [GxR.sh_eta s1 s' hm.os] at J
        exact J
  refine ⟨limZ, ?_⟩
  cases hf : codeAmong gpos ps.toList with
  | some cv =>
    refine wpAny_genexprCode_hit hcode (hcd.code hPZ tri) hf ?_
    exact go cv _ s1.toks ps (Heap.ExtBut.refl _ _) (Nat.le_refl _) hPZ tri
  | none =>
    refine wpAny_genexprCodeX hcode (hcd.code hPZ tri) (hcd.tab hPZ) hf fun c' h' tk hxx hge hlt hco' _ htab' _ => ?_
    obtain ⟨o1, vs, f1, tf, fl, tg, inF, tx, tt, op, _, _, _, _, _, _, _, _, _, htr, _⟩ := hco'
    exact go _ h' tk _ hxx (Nat.le_trans hge (Nat.le_of_lt hlt)) htab'.2 htr
def tAllT (K : PySem.W.Frag) (Pt : Addr) (good : V → Bool → Prop) (te : TE) : TE := fun σ H Q => tGenT K Pt good te (fun xs pb H1 => Q (.bl (xs.all pb)) H1) σ H
theorem pe_allT {c Pt : Addr} {elt iter : Expr} {x : Str} {px p pos gpos : Pos} {scope : Scope} {good : V → Bool → Prop} {te : TE} {j : Nat}
    (hr : Room j X.A) (hg : Gl X "all") (hm : X.mg "all" = none) (TB : GxR.TabB X.base X.mg c Pt) (hcode : X.env.code = .ref c) (S : GxR.GenS X.env scope x) (hi : PE X iter te) (hel : EltG X scope x elt good) (hs : ∀ v, genFold iter X.env v = pure v)
    (hv : bootBuiltins "all" = some (.builtin "all") := by decide +kernel) (he : starEach [.GeneratorExp elt [⟨.Name x px, iter, [], 0⟩] scope gpos] X.env = (false, eval (.GeneratorExp elt [⟨.Name x px, iter, [], 0⟩] scope gpos) X.env) :: starEach [] X.env := by rfl) :
    PE X (.Call (.Name "all" p) [.GeneratorExp elt [⟨.Name x px, iter, [], 0⟩] scope gpos] [] pos) (tAllT X.K Pt good te) := by
  refine ⟨fun pins s σ H Q I h => wpAny_Call_Name_kw (ld_blt I hg hm hv (PyProof.Rows.callWith_builtin1 ?_ he (by rfl)))⟩
  rw [he]
  refine Calls.spliced_cons (gen_tup hr TB hcode S hi hel hs I h fun xs pb H1 g s5 hR hG => Calls.spliced_nil ?_)
  obtain ⟨fp, wr, G, F, St, ⟨W, hst⟩, htr, hI⟩ := hG
  refine call_all_walkS (W.self 0 _ _ _ hst ⟨g, fp, wr, G, _, F, St, _, rfl, W, hst, htr, fun s' hmv => ⟨.bl _, H1, hI s' hmv, rfl, ?_⟩⟩)
  rw [pAt_all]
  exact hR
end
end Sq
namespace Sq
open PySem PySem.Spec PyProof.Rows L2 Evl
/-! ### tables at a law's start -/
def Tabs (Ps : List Addr) (H : Hp) : Prop := ∀ p ∈ Ps, H p = some (TabF p)
theorem Tabs.ex {Ps : List Addr} {H H' : Hp} (t : Tabs Ps H) (e : Ex H H') : Tabs Ps H' := fun p hp => e _ _ (t p hp)
def withT (Ps : List Addr) (H : Hp) : Hp := fun b => if b ∈ Ps then some (TabF b) else H b
def tblAt (h : Heap) (b : Addr) : Array Value := match h.get? b with
  | some o => (match o.data with
    | .fields vs => vs
    | _ => #[])
  | none => #[]
def backT (Ps : List Addr) (h : Heap) (H : Hp) : Hp := fun b => if b ∈ Ps then some (.tbl (tblAt h b)) else H b
theorem withT_in {Ps : List Addr} {H : Hp} {b : Addr} (h : b ∈ Ps) : withT Ps H b = some (TabF b) := if_pos h
theorem withT_out {Ps : List Addr} {H : Hp} {b : Addr} (h : b ∉ Ps) : withT Ps H b = H b := if_neg h
theorem backT_in {Ps : List Addr} {g : Heap} {H : Hp} {b : Addr} (h : b ∈ Ps) : backT Ps g H b = some (.tbl (tblAt g b)) := if_pos h
theorem backT_out {Ps : List Addr} {g : Heap} {H : Hp} {b : Addr} (h : b ∉ Ps) : backT Ps g H b = H b := if_neg h
theorem tblAt_of {h : Heap} {b : Addr} {ps : Array Value} (e : h.get? b = some { cls := .none, data := .fields ps }) : tblAt h b = ps := by
  unfold tblAt
  rw [e]
section
variable {P : Program} {w : World} {K : PySem.W.Frag} {mg : Str → Option Value} {base : Heap}
theorem fn_tabs {k : Nat} {f : Addr} {fd : FuncData} {ps : List Str} {sp sp' : Sp} {Ps : List Addr} (F : FnOk P w K mg base CX0 k f fd ps sp) (hl : ∀ vs H Q E, sp' vs H Q E → vs.length = ps.length)
    (h : ∀ vs H Q E, sp' vs H Q E → (∀ p ∈ Ps, H p = some (.tbl #[])) ∧ sp vs (withT Ps H) (fun v H' => Tabs Ps H' ∧ ∀ H'', Q v H'') E) : FnOk P w K mg base CX0 k f fd ps sp' := by
  refine ⟨hl, fun A outer s H args us vs Q E hr he hb hv hs => ?_⟩
  obtain ⟨hT, hsp⟩ := h vs H Q E hs
  have outN : ∀ b, H b = none → b ∉ Ps := fun b e z => by
    rw [hT b z] at e
    cases e
  have eN : ∀ b, H b = none → withT Ps H b = none := fun b e => (withT_out (outN b e)).trans e
  have outU : ∀ b u, H b = some u → (∀ q, u ≠ .tbl q) → b ∉ Ps := fun b u e n z => by
    rw [hT b z] at e
    cases e
    exact n _ rfl
  have hok : HOk P w (withT Ps H) s.heap := fun b u e => by
    by_cases hb : b ∈ Ps
    · rw [withT_in hb] at e
      cases e
      exact tabF_ok (he.hok b _ (hT b hb)) trivial
    · rw [withT_out hb] at e
      refine (he.hok b u e).stay (fun _ _ _ q => q) (fun d q => ?_) fun d xs q => ?_
      · rw [withT_out (outU d _ q fun _ z => by cases z)]
        exact q
      · rw [withT_out (outU d _ q fun _ z => by cases z)]
        exact q
  have e0 : Env0 P w K mg base A outer s (withT Ps H) := ⟨he.frames, he.mod, fun b o e => ⟨(he.bs b o e).1, eN b (he.bs b o e).2⟩, he.bsz, he.funs, fun b hb => eN b (he.frf b hb), hok, he.bare⟩
  refine codeAny_mono (F.run A outer s _ args us vs _ E hr e0 hb hv hsp) fun res s' hq => ?_
  cases res with
  | error e => exact hq
  | ok fl =>
    cases fl with
    | next => exact hq
    | brk => exact hq
    | cont => exact hq
    | ret u =>
      obtain ⟨v, H', os, bare, un, hok', rv, hT', q⟩ := hq
      have same' : ∀ b o, H' b = some o → (∀ φ, o ≠ .ext φ) → b ∉ Ps := fun b o e n z => by
        rw [hT' b z] at e
        cases e
        exact n _ rfl
      refine ⟨v, backT Ps s'.heap H', os, bare, ⟨fun b o e n hf hx => un.keep b o e (eN b n) hf hx, fun b o e n hf hx => un.slot b o e (eN b n) hf hx, fun b o e n hx => ?_, un.there, fun b xs e => ?_, fun b o u e => ?_, fun b qs e => ?_⟩, fun b o e => ?_, rv, q _⟩
      · rw [backT_out (outN b n)]
        exact un.free b o e (eN b n) hx
      · have nb := outU b _ e fun _ z => by cases z
        rw [backT_out nb]
        exact un.tups b xs ((withT_out nb).trans e)
      · have nb := outU b _ e fun _ z => by cases z
        rw [backT_out nb]
        exact un.frzs b o u ((withT_out nb).trans e)
      · by_cases hb : b ∈ Ps
        · rw [hT b hb] at e
          cases e
          rw [backT_in hb]
          exact ⟨_, by rw [Array.empty_append]⟩
        · obtain ⟨more, em⟩ := un.tbls b qs ((withT_out hb).trans e)
          exact ⟨more, by rw [backT_out hb]; exact em⟩
      · by_cases hb : b ∈ Ps
        · rw [backT_in hb] at e
          cases e
          obtain ⟨⟨qs, eq, _⟩, _, _⟩ := hok' b _ (hT' b hb)
          show s'.heap.get? b = some { cls := .none, data := .fields (tblAt s'.heap b) }
          rw [tblAt_of eq]
          exact eq
        · rw [backT_out hb] at e
          refine (hok' b o e).stay (fun _ _ _ q => q) (fun d q => ?_) fun d xs q => ?_
          · rw [backT_out (same' d _ q fun _ z => by cases z)]
            exact q
          · rw [backT_out (same' d _ q fun _ z => by cases z)]
            exact q
/-- a def with its code object -/
structure FunC (K : PySem.W.Frag) (x qual : Str) (st : Stmt) (f : Addr) (fd : FuncData) (c : Addr) : Prop where
  fn : Fun K x qual st f fd
  code : fd.code = .ref c
theorem fun_of {x qual : Str} {st : Stmt} {f : Addr} {fd : FuncData} (F : FunD K x qual (defArgs st) (defBody st) (defScope st) [] [] f fd) : Fun K x qual st f fd := by
  obtain ⟨oc, od, dV, kV, doc, pm, an, cdv, ct, osl, rfl, lk, hcd, hd, _⟩ := F.ex
  rcases hd with ⟨_, rfl⟩ | ⟨z, _⟩
  · exact ⟨⟨oc, od, kV, doc, pm, an, cdv, ct, osl, rfl, lk, hcd⟩, F.kp⟩
  · exact absurd rfl z
theorem FunC.ok {x qual : Str} {st : Stmt} {f : Addr} {fd : FuncData} {c : Addr} {N ps : List Str} {k : Nat} {sp : Sp} (F : FunC K x qual st f fd c) (S : FnScope N ps (defScope st)) (len : ∀ vs H Q E, sp vs H Q E → vs.length = ps.length)
    (hbody : ∀ (A : Around) (outer : List Env) (s : Shared) (H : Hp) (vs : List V) (Q : VK) (E : XK), Room k (A.deeper (envOfC qual (defScope st) s.heap.objs.size f (.ref c))) → sp vs H Q E →
      ∃ t, PSs (cxOf CX0 P w K mg base N qual (defScope st) f (.ref c) A outer s H E).nox (defBody st) t ∧ t { nx := fun _ H' => Q .non H', rt := Q } (start N vs) H) : FnOk P w K mg base CX0 (k + 1) f fd ps sp := by
  obtain ⟨oc, od, kV, doc, pm, an, cdv, ct, osl, rfl, lk, hcd⟩ := F.fn.ex
  have e : cdv = .ref c := F.code
  subst e
  refine fn_of lk hcd S len fun A outer s H vs Q E hr hsp => ?_
  obtain ⟨t, ht, q⟩ := hbody A outer s H vs Q E hr hsp
  exact ⟨t, ht.nox, q⟩
/-- the code object that the head's facts name -/
theorem funC_of {x qual : Str} {st : Stmt} {fd : FuncData} {p : Str × Option Str} (F : Fun K x qual st (He.fAd K p) fd) : FunC K x qual st (He.fAd K p) fd (He.codeOf K p) := by
  obtain ⟨oc, od, kV, doc, pm, an, cdv, ct, osl, rfl, lk, hcd⟩ := id F.ex
  obtain ⟨c, rfl⟩ := He.codeIn_ref hcd
  exact ⟨F, congrArg Value.ref (He.codeOf_eq lk rfl).symm⟩
end
def genSB (scope : Scope) (x : Str) : Bool := decide (scope.kind = .function) && (!scope.isCoroutine && (scope.names.all (fun y => decide (y.2 ≠ .cell) && decide (y.2 ≠ .free)) && (decide (scope.names.lookup (".0" : Str) = some NameKind.local) && decide (scope.names.lookup x = some .local))))
theorem genS_of {env : Env} {scope : Scope} {x : Str} (h : genSB scope x = true) : GxR.GenS env scope x := by
  unfold genSB at h
  simp only [Bool.and_eq_true, decide_eq_true_eq, Bool.not_eq_true', List.all_eq_true] at h
  obtain ⟨h1, h2, h3, h4, h5⟩ := h
  exact ⟨h1, h2, fun y hy => (h3 y hy).1, h4, h5, fun y hy e => absurd e (h3 y hy).2⟩
theorem tabB_conv {base : Heap} {mg : Str → Option Value} {c P : Addr} (t : LamX.TabB base mg c P) : GxR.TabB base mg c P := ⟨t.code, t.bm, t.gP⟩
end Sq
namespace Sq
open PySem PySem.Spec PyProof.Rows L2 Evl
/-- the law's promise: tables told by what is true of them | as the head leaves them -/
def spLawX (K : PySem.W.Frag) (Ps : List Addr) : Sp := fun vs H Q _ => ∃ (a : Addr) (ns : List Int), vs = [.ref a] ∧ SqL K H a (ns.map V.int) ∧ Tabs Ps H ∧ ∀ H', Ex H H' → Q (.bl true) H'
def spLawB (K : PySem.W.Frag) (Ps : List Addr) : Sp := fun vs H Q _ => ∃ (a : Addr) (ns : List Int), vs = [.ref a] ∧ SqL K H a (ns.map V.int) ∧ (∀ p ∈ Ps, H p = some (.tbl #[])) ∧ ∀ H', Q (.bl true) H'
theorem law_tabs {P : Program} {w : World} {K : PySem.W.Frag} {mg : Str → Option Value} {base : Heap} {k : Nat} {f : Addr} {fd : FuncData} {x : Str} {Ps : List Addr} (F : FnOk P w K mg base CX0 k f fd [x] (spLawX K Ps)) : FnOk P w K mg base CX0 k f fd [x] (spLawB K Ps) := by
  refine fn_tabs (Ps := Ps) F (fun vs H Q E ⟨a, ns, e, _⟩ => by rw [e]; rfl) fun vs H Q E ⟨a, ns, e, hS, hT, q⟩ => ⟨hT, a, ns, e, ?_, fun p hp => withT_in hp, fun H' e' => ⟨fun p hp => e' _ _ (withT_in hp), q⟩⟩
  rcases hS with (h | ⟨o, h⟩) | h
  · exact .inl (.inl (by rw [withT_out (fun z => by rw [hT a z] at h; cases h)]; exact h))
  · exact .inl (.inr ⟨o, by rw [withT_out (fun z => by rw [hT a z] at h; cases h)]; exact h⟩)
  · exact .inr h
theorem tabs_mem {Ps : List Addr} {H : Hp} {p : Addr} (t : Tabs Ps H) (h : p ∈ Ps) : H p = some (TabF p) := t p h
end Sq

/-! dict(enumerate(t)) of a tuple -/
namespace Sq
open PySem PySem.Spec PyProof.Rows L2 Evl
section
variable {prog : Program} {w : World} {A : Around} {E : Value → Shared → Prop} {s : Shared}
/-- the next pair of an enumeration, the pair given out before is still held -/
theorem enum_held {e it T : Addr} {fp : List Addr} {n i : Nat} {P : Nat → Value → Prop} {Z : Nat → Heap → Prop} {old : Value} {f : Bool} {oT : Obj} {Q : Value → Shared → Prop}
    (D : Draws prog w A it fp n P Z) (he : IsEnumHeld s.heap e it (i : Int) old T f) (hT : s.heap.get? T = some oT) (hTe : T ≠ e) (hTi : T ≠ it) (hz : Z i s.heap) (hlt : i < n) (hne : e ≠ it) (hef : e ∉ fp)
    (hQ : ∀ x k' tk, P i x → IsEnumHeld k' e it ((i : Int) + 1) old T true → Z (i + 1) k' → k'.get? s.heap.objs.size = some { cls := .type "tuple", data := .seq #[.int (i : Int) tk, x] } → k'.objs.size = s.heap.objs.size + 1 →
      (∀ b o, b ≠ e → b ≠ it → s.heap.get? b = some o → k'.get? b = some o) → Q (.ref s.heap.objs.size) { s with heap := k', toks := tk + 1 }) :
    wpAny (model prog w) A (Builtin.«enumerate.__next__» ⟨[.ref e], []⟩) (fun fin s' => ∃ v, fin = .done (.ret v) ∧ Q v s') E s := by
  obtain ⟨hq, gg, dd, t0, oo⟩ := s
  show wpAny _ _ (field (.ref e) 2 >>= _) _ _ _
  refine wpAny_bind (wpAny_field he rfl (x := .ref it) rfl (wpAny_bind (D.item i _ _ _ hlt hz fun x k1 tk px z1 b1 => ?_)))
  have c1 : Heap.SameBut it hq k1 := b1
  have q1 : IsEnumHeld k1 e it (i : Int) old T f := (c1.2 e hne).trans he
  refine wpAny_bind (wpAny_field (s := ⟨k1, gg, dd, tk, oo⟩) q1 rfl (x := rawInt i) rfl (wpAny_bind (wpAny_field (s := ⟨k1, gg, dd, tk, oo⟩) q1 rfl (x := .none) rfl ?_)))
  refine wpAny_bind (m := mkInt i) (wpAny_mkInt (wpAny_bind (m := setField (.ref e) 3 (rawInt ((i : Int) + 1))) (wpAny_setField_rec (s := ⟨k1, gg, dd, tk + 1, oo⟩) q1 (by simp) fun k2 q2 b2 => ?_)))
  have c2 : Heap.SameBut e k1 k2 := b2
  have q2' : IsEnumHeld k2 e it ((i : Int) + 1) old T f := q2
  refine wpAny_bind (m := setField (.ref e) 4 .none) (wpAny_setField_rec (s := ⟨k2, gg, dd, tk + 1, oo⟩) q2' (by simp) fun k3 q3 b3 => ?_)
  have c3 : Heap.SameBut e k2 k3 := b3
  have q3' : IsEnumHeld k3 e it ((i : Int) + 1) old T f := q3
  refine wpAny_bind (m := newTuple [.int (i : Int) tk, x]) (wpAny_newTuple ?_)
  generalize hN : ({ cls := .type "tuple", data := .seq #[.int (i : Int) tk, x] } : Obj) = new
  have zsz : k3.objs.size = hq.objs.size := by rw [c3.1, c2.1, c1.1]
  have q4 : IsEnumHeld (k3.push new) e it ((i : Int) + 1) old T f := Heap.get?_push_of_some _ q3'
  have n4 : (k3.push new).get? hq.objs.size = some new := by
    rw [← zsz]
    exact Heap.get?_push_size _ (by rw [← hN]; rfl)
  have s4 : (k3.push new).objs.size = hq.objs.size + 1 := by rw [Heap.size_push, zsz]
  have u4 : ∀ b o, b ≠ e → b ≠ it → hq.get? b = some o → (k3.push new).get? b = some o := fun b o be bi z =>
    Heap.get?_push_of_some _ (c3.extBut b o be (c2.extBut b o be (c1.extBut b o bi z)))
  have z4 : Z (i + 1) (k3.push new) := D.frame _ _ _ z1 fun b hb o y => by
    have be : b ≠ e := fun z => hef (z ▸ hb)
    exact Heap.get?_push_of_some _ (c3.extBut b o be (c2.extBut b o be y))
  show wpAny _ _ (Builtin.SmallTypes.ownedTupleIsFree (.ref e) >>= _) _ _ ⟨k3.push new, gg, dd, tk + 1, oo⟩
  rw [zsz]
  refine wpAny_bind (wpAny_tupleHeld_enum (s := ⟨k3.push new, gg, dd, tk + 1, oo⟩) q4 (u4 T oT hTe hTi hT) fun k5 q5 b5 => ?_)
  have c5 : Heap.SameBut e (k3.push new) k5 := b5
  simp only [Bool.false_eq_true, if_false]
  refine wpAny_pure ⟨_, rfl, hQ x k5 tk px q5 (D.frame _ _ _ z4 fun b hb o y => c5.extBut b o (fun z => hef (z ▸ hb)) y) ?_ ?_ fun b o be bi z => c5.extBut b o be (u4 b o be bi z)⟩
  · rw [hN]
    exact c5.extBut _ _ (Nat.ne_of_gt (Heap.lt_size he)) n4
  · rw [c5.1, s4]
theorem next_held {e it T : Addr} {fp : List Addr} {n i : Nat} {P : Nat → Value → Prop} {Z : Nat → Heap → Prop} {old : Value} {f : Bool} {oT : Obj} {Q : Option Value → Shared → Prop}
    (D : Draws prog w A.in1 it fp n P Z) (he : IsEnumHeld s.heap e it (i : Int) old T f) (hT : s.heap.get? T = some oT) (hTe : T ≠ e) (hTi : T ≠ it) (hz : Z i s.heap) (hlt : i < n) (hne : e ≠ it) (hef : e ∉ fp)
    (hQ : ∀ x k' tk, P i x → IsEnumHeld k' e it ((i : Int) + 1) old T true → Z (i + 1) k' → k'.get? s.heap.objs.size = some { cls := .type "tuple", data := .seq #[.int (i : Int) tk, x] } → k'.objs.size = s.heap.objs.size + 1 →
      (∀ b o, b ≠ e → b ≠ it → s.heap.get? b = some o → k'.get? b = some o) → Q (some (.ref s.heap.objs.size)) { s with heap := k', toks := tk + 1 }) :
    wpAny (model prog w) A (pyNext (.ref e)) Q E s := by
  have ty : s.TypeIs (.ref e) "enumerate" := ⟨_, he, rfl⟩
  unfold pyNext
  refine wpAny_bind (wpAny_attempt (wpAny_callSpecial?_slot (name := Str.ofString "__next__") ty F.slot_enumerate_next (wpAny_call_entry F.slot_enumerate_next ty F.entry_enumerate_next ?_ (F.args_enumerate_next_1 _))))
  exact enum_held D he hT hTe hTi hz hlt hne hef fun x k' tk a1 a2 a3 a4 a5 a6 => wpAny_pure (hQ x k' tk a1 a2 a3 a4 a5 a6)
end
end Sq
namespace Sq
open PySem PySem.Spec PyProof.Rows L2 Evl
section
variable {prog : Program} {w : World} {A : Around} {E : Value → Shared → Prop} {s : Shared}
/-- an enumeration at its end -/
theorem next_end {e it : Addr} {fp : List Addr} {n : Nat} {P : Nat → Value → Prop} {Z : Nat → Heap → Prop} {fs : Array Value} {Q : Option Value → Shared → Prop} (D : Draws prog w A.in1 it fp n P Z)
    (he : s.heap.get? e = some { cls := .type "enumerate", dict := none, data := .fields fs, slots := #[] }) (hf : fs[2]? = some (.ref it)) (hz : Z n s.heap) (hQ : ∀ k', Heap.ExtBut it s.heap k' → Q none { s with heap := k' }) : wpAny (model prog w) A (pyNext (.ref e)) Q E s := by
  have ty : s.TypeIs (.ref e) "enumerate" := ⟨_, he, rfl⟩
  unfold pyNext
  refine wpAny_bind (wpAny_attempt (wpAny_callSpecial?_slot (name := Str.ofString "__next__") ty F.slot_enumerate_next (wpAny_call_entry F.slot_enumerate_next ty F.entry_enumerate_next ?_ (F.args_enumerate_next_1 _))))
  refine wpAny_bind (m := field (.ref e) 2) (wpAny_field he rfl (x := .ref it) hf (wpAny_bind (D.done _ _ _ hz fun k' x hk hx => ?_)))
  obtain ⟨o, ho, hc⟩ := hx
  exact wpAny_bind (wpAny_isInstance (T := "StopIteration") (b := true) ⟨o, ho, hc⟩ isSubtype_stop (wpAny_pure (hQ _ hk)))
/-- enumerate(t) as the argument of dict -/
theorem pairArg_enumT (e it t : Addr) (hei : e ≠ it) (hte : t ≠ e) (hti : t ≠ it) (items : Array Value) :
    PairArg prog w "enumerate" e [e, it, t] [e, it] items.size (fun i k v => (∃ u, k = .int i u) ∧ items[i]? = some v) (fun h => (∃ old, IsEnum h e it 0 old) ∧ h.IsTupleIter it t 0 ∧ h.IsTuple t items) where
  notDict := by decide
  type := fun s ⟨⟨_, he⟩, _⟩ => ⟨_, he, rfl⟩
  sub := fun b hb => by
    simp at hb ⊢
    rcases hb with rfl | rfl <;> simp
  keep := fun h h' ⟨⟨old, he⟩, ⟨o1, x1, r1⟩, ⟨o2, x2, r2⟩⟩ hk => ⟨⟨old, hk _ _ he⟩, ⟨o1, hk _ _ x1, r1⟩, ⟨o2, hk _ _ x2, r2⟩⟩
  there := fun h ⟨⟨old, he⟩, ⟨o1, x1, _⟩, ⟨o2, x2, _⟩⟩ b hb => by
    simp only [List.mem_cons, List.not_mem_nil, or_false] at hb
    rcases hb with rfl | rfl | rfl
    · exact ⟨_, he⟩
    · exact ⟨_, x1⟩
    · exact ⟨_, x2⟩
  noKeys := fun A s Q E hA ok h => let ⟨⟨_, he⟩, _⟩ := ok; getAttrOr_miss_enumerate he rfl rfl rfl enumerate_no_keys (by decide +kernel) hA h
  iter := fun A s d Q E hA ok hd hdf h => by
    obtain ⟨⟨old, he⟩, hit, ht⟩ := ok
    have dn : d ≠ e ∧ d ≠ it ∧ d ≠ t := by
      simp only [List.mem_cons, List.not_mem_nil, or_false, not_or] at hdf
      exact hdf
    have D : Draws prog w A.in1 it [it, t] items.size (fun i v => items[i]? = some v) (fun i h => h.IsTupleIter it t i ∧ h.IsTuple t items) := Draws.tuple (A := A.in1) hA it t hti items
    have eN : e ∉ [it, t] := by
      simp only [List.mem_cons, List.not_mem_nil, or_false, not_or]
      exact ⟨hei, fun z => hte z.symm⟩
    refine wpAny_pyIter_enum he (h e [e, it] (fun i k => (k.IsTupleIter it t i ∧ k.IsTuple t items) ∧ ((∃ old, IsEnum k e it i old) ∨ ∃ old T f oT, IsEnumHeld k e it i old T f ∧ k.get? T = some oT ∧ T ≠ e ∧ T ≠ it ∧ T ≠ d)) s.heap s.toks ?_
      ⟨⟨hit, ht⟩, .inl ⟨old, he⟩⟩ (fun _ _ z => z) fun b hb => .inl hb)
    have away : ∀ {b : Addr}, b ∉ [e, it] → b ≠ e ∧ b ≠ it := fun {b} hb => by
      simp only [List.mem_cons, List.not_mem_nil, or_false, not_or] at hb
      exact hb
    refine ⟨fun hm => ?_, fun i k1 k2 st hk => ?_, fun i s₁ Q₁ E₁ hi st hds hQ => ?_, fun s₁ Q₁ E₁ st hQ => ?_⟩
    · simp only [List.mem_cons, List.not_mem_nil, or_false] at hm
      exact hm.elim dn.1 dn.2.1
    · obtain ⟨⟨⟨o1, x1, r1⟩, ⟨o2, x2, r2⟩⟩, st⟩ := st
      refine ⟨⟨⟨o1, hk _ _ (Ne.symm dn.2.1) x1, r1⟩, ⟨o2, hk _ _ (Ne.symm dn.2.2) x2, r2⟩⟩, ?_⟩
      rcases st with ⟨old, z⟩ | ⟨old, T, f, oT, z, hT, c1, c2, c3⟩
      · exact .inl ⟨old, hk _ _ (Ne.symm dn.1) z⟩
      · exact .inr ⟨old, T, f, oT, hk _ _ (Ne.symm dn.1) z, hk _ _ c3 hT, c1, c2, c3⟩
    · obtain ⟨hz, st⟩ := st
      have ec : ((i + 1 : Nat) : Int) = (i : Int) + 1 := by omega
      have itlt : it < s₁.heap.objs.size := let ⟨_, x, _⟩ := hz.1; Heap.lt_size x
      rcases st with ⟨old, z⟩ | ⟨old, T, f, oT, z, hT, c1, c2, c3⟩
      · refine wpAny_pyNext_enum_itemC D z hz hi hei eN fun x k' tk px ho hz' hN hsz hk => ?_
        exact hQ s₁.heap.objs.size _ _ k' (tk + 1) ⟨⟨_, rfl⟩, px⟩ (.inl ⟨_, hN, rfl, _, rfl⟩) ⟨hz', .inr ⟨_, s₁.heap.objs.size, false, _, (by rw [ec]; exact ho), hN, Nat.ne_of_gt (Heap.lt_size z), Nat.ne_of_gt itlt, Nat.ne_of_gt hds⟩⟩
          fun b o hb y => hk b o (away hb).1 (away hb).2 y
      · refine next_held D z hT c1 c2 hz hi hei eN fun x k' tk px ho hz' hN hsz hk => ?_
        exact hQ s₁.heap.objs.size _ _ k' (tk + 1) ⟨⟨_, rfl⟩, px⟩ (.inl ⟨_, hN, rfl, _, rfl⟩) ⟨hz', .inr ⟨old, T, true, oT, (by rw [ec]; exact ho), hk _ _ c1 c2 hT, c1, c2, c3⟩⟩
          fun b o hb y => hk b o (away hb).1 (away hb).2 y
    · obtain ⟨hz, st⟩ := st
      rcases st with ⟨old, z⟩ | ⟨old, T, f, oT, z, hT, c1, c2, c3⟩
      · exact next_end D z rfl hz fun k' hk => hQ k' s₁.toks fun b o hb y => hk b o (away hb).2 y
      · exact next_end D z rfl hz fun k' hk => hQ k' s₁.toks fun b o hb y => hk b o (away hb).2 y
end
/-- enumerate(v), its two new cells -/
theorem meets_enumB {v : Value} {o : Obj} {G : Heap → Prop} (B : Begins v o G) :
    Meets (Builtin.«enumerate.__new__» ⟨[.type "enumerate", v], []⟩) (fun _ R s => G s.heap ∧ R (.ok (.ret (.ref (s.heap.push o).objs.size))) { s with heap := (s.heap.push o).push { cls := .type "enumerate", data := .fields #[.none, .bool false, .ref s.heap.objs.size, rawInt 0, .none, .none] } }) :=
  .of_wp fun prog w A R s h => by
    obtain ⟨hq, gg, dd, tk, oo⟩ := s
    obtain ⟨hG, h⟩ := h
    have hsub := sub_enumerate
    have goIter : ∀ {A' : Around} {E : Value → Shared → Prop} {Q : Value → Shared → Prop}, Q (.ref hq.objs.size) ⟨hq.push o, gg, dd, tk, oo⟩ → wpAny (model prog w) A' (pyIter v) Q E ⟨hq, gg, dd, tk, oo⟩ := fun q => B.iter prog w _ _ ⟨hq, gg, dd, tk, oo⟩ _ hG q
    wp_walk using goIter
    refine wpAny_stack_any fun st => wpAny_pure ?_
    split
    · rename_i c _ _ _ _ _
      cases (c == Value.type "enumerate") <;> (wp_walk using goIter; exact ⟨_, rfl, h⟩)
    · wp_walk using goIter
      exact ⟨_, rfl, h⟩
theorem enum1_begins {prog : Program} {w : World} {A : Around} {E : Value → Shared → Prop} {s : Shared} {v : Value} {o : Obj} {G : Heap → Prop} {Q : Value → Shared → Prop} (B : Begins v o G) (hG : G s.heap)
    (h : ∀ k', IsEnum k' (s.heap.objs.size + 1) s.heap.objs.size 0 .none → k'.get? s.heap.objs.size = some o → k'.objs.size = s.heap.objs.size + 2 → (∀ b u, s.heap.get? b = some u → k'.get? b = some u) → Q (.ref (s.heap.objs.size + 1)) { s with heap := k' }) :
    wpAny (model prog w) A (call (.type "enumerate") [v]) Q E s := by
  refine callType_new F.called_enumerate (by decide) (F.typeCall_enumerate_1 _) (F.newCall_enumerate_1 _) (fun obj => F.args_object_init_2 obj _) F.entry_enumerate_new (meets_enumB B) ⟨hG, ?_⟩
  have zs : (s.heap.push o).objs.size = s.heap.objs.size + 1 := Heap.size_push ..
  have mk : IsEnum ((s.heap.push o).push { cls := .type "enumerate", data := .fields #[.none, .bool false, .ref s.heap.objs.size, rawInt 0, .none, .none] }) (s.heap.objs.size + 1) s.heap.objs.size 0 .none := by
    have z := Heap.get?_push_size (s.heap.push o) (o := { cls := .type "enumerate", data := .fields #[.none, .bool false, .ref s.heap.objs.size, rawInt 0, .none, .none] }) rfl
    rw [zs] at z
    exact z
  show _ ∧ _
  rw [zs]
  exact ⟨⟨_, mk, rfl⟩, h _ mk (Heap.get?_push_of_some _ (Heap.get?_push_size _ B.free)) (by rw [Heap.size_push, zs]) fun b u x => Heap.get?_push_of_some _ (Heap.get?_push_of_some _ x)⟩
end Sq

/-! dicts that are made once and only read: dict(enumerate(t)), dict comprehensions, walks over their keys -/
namespace Sq
open PySem PySem.Spec PyProof.Rows L2 Evl
/-! ### a list numbered from j on, as a dict's pairs -/
def enumK {α : Type} : Nat → List α → List (Key × α)
  | _, [] => []
  | j, x :: r => (.inl (j : Int), x) :: enumK (j + 1) r
theorem enumK_len {α : Type} : ∀ (j : Nat) (xs : List α), (enumK j xs).length = xs.length
  | _, [] => rfl
  | j, x :: r => congrArg (· + 1) (enumK_len (j + 1) r)
theorem enumK_get {α : Type} : ∀ (j : Nat) (xs : List α) (i : Nat), (enumK j xs)[i]? = (xs[i]?).map fun x => (Sum.inl ((j + i : Nat) : Int), x)
  | _, [], i => by simp [enumK]
  | j, x :: r, 0 => by simp [enumK]
  | j, x :: r, i + 1 => by
    have e : j + (i + 1) = j + 1 + i := by omega
    rw [e]
    simpa [enumK] using enumK_get (j + 1) r i
theorem enumK_kv : ∀ (j : Nat) {xs : List V} {us : List Value}, Vals xs us → KV (enumK j xs) (enumK j us)
  | _, _, _, .nil => .nil
  | j, _, _, .cons r t => .cons ⟨rfl, r⟩ (enumK_kv (j + 1) t)
theorem enumK_val : ∀ (j : Nat) (xs : List V) (i : Nat), valV (enumK j xs) (Sum.inl ((j + i : Nat) : Int)) = xs[i]?
  | _, [], i => by simp [enumK, valV]
  | j, x :: r, 0 => valV_pos (p := (Sum.inl (j : Int), x)) (by simp)
  | j, x :: r, i + 1 => by
    show valV ((Sum.inl (j : Int), x) :: enumK (j + 1) r) _ = _
    rw [valV_neg (p := (Sum.inl (j : Int), x)) (fun z => by have := Sum.inl.inj z; omega)]
    have e : j + (i + 1) = j + 1 + i := by omega
    rw [e]
    simpa using enumK_val (j + 1) r i
theorem enumK_out : ∀ (j : Nat) (xs : List V) (k : Int), k < j ∨ (j + xs.length : Nat) ≤ k → valV (enumK j xs) (Sum.inl k) = none
  | _, [], _, _ => rfl
  | j, x :: r, k, h => by
    show valV ((Sum.inl (j : Int), x) :: enumK (j + 1) r) _ = _
    rw [List.length_cons] at h
    rw [valV_neg (p := (Sum.inl (j : Int), x)) (fun z => by have := Sum.inl.inj z; omega)]
    exact enumK_out (j + 1) r k (by omega)
/-- pairs whose keys differ, merged one after another -/
theorem mergeK_nd : ∀ (more acc : List (Key × V)), (∀ p ∈ more, valV acc p.1 = none) → (more.map (·.1)).Nodup → mergeK acc more = acc ++ more
  | [], acc, _, _ => (List.append_nil acc).symm
  | p :: r, acc, h, hn => by
    have h1 : valV acc p.1 = none := h p List.mem_cons_self
    rw [List.map_cons, List.nodup_cons] at hn
    show mergeK (putK acc p.1 p.2) r = _
    rw [putK_new _ h1, mergeK_nd r (acc ++ [(p.1, p.2)]) (fun q hq => ?_) hn.2, List.append_assoc]
    · rfl
    · rw [valV_snoc _ _ _ _ h1, if_neg (fun z => hn.1 (List.mem_map.mpr ⟨q, hq, z⟩))]
      exact h q (List.mem_cons_of_mem _ hq)
theorem enumK_nd {α : Type} : ∀ (j : Nat) (xs : List α), ((enumK j xs).map (·.1)).Nodup
  | _, [] => List.nodup_nil
  | j, x :: r => by
    show ((Sum.inl (j : Int) : Key) :: (enumK (j + 1) r).map (·.1)).Nodup
    refine List.nodup_cons.mpr ⟨fun z => ?_, enumK_nd (j + 1) r⟩
    obtain ⟨p, hp, e⟩ := List.mem_map.mp z
    obtain ⟨i, hi⟩ := List.mem_iff_getElem?.mp hp
    rw [enumK_get] at hi
    cases e2 : r[i]? with
    | none => rw [e2] at hi; cases hi
    | some y =>
      rw [e2] at hi
      cases hi
      have z := Sum.inl.inj e
      omega
section
variable {X : Cx} {pins : List (Addr × Obj)} {σ : L2.St} {H : Hp} {s : Shared}
/-- dict(enumerate(t)) -/
def tDictEnum (K : PySem.W.Frag) (te : TE) : TE := fun σ H Q => te σ H fun v H1 => ∃ a xs, v = .ref a ∧ SqT K H1 a xs ∧ ∀ d, H1 d = none → Q (.ref d) (upd H1 d (.dK (enumK 0 xs)))
theorem pe_dictEnum {e : Expr} {te : TE} {p p2 pos pos2 : Pos} (hc : X.calm = true) (he : PE X e te) (hgd : Gl X "dict") (hmd : X.mg "dict" = none) (hge : Gl X "enumerate") (hme : X.mg "enumerate" = none) (hvd : bootBuiltins "dict" = some (.type "dict") := by decide +kernel)
    (h1 : starEach [.Call (.Name "enumerate" p2) [e] [] pos2] X.env = (false, eval (.Call (.Name "enumerate" p2) [e] [] pos2) X.env) :: starEach [] X.env := by rfl) (h2 : starEach [e] X.env = (false, eval e X.env) :: starEach [] X.env := by rfl) :
    PE X (.Call (.Name "dict" p) [.Call (.Name "enumerate" p2) [e] [] pos2] [] pos) (tDictEnum X.K te) := by
  refine ⟨fun pins s σ H Q I h => wpAny_Call_Name_kw (ld_blt I hgd hmd hvd (PyProof.Rows.callWith_type1 ?_ h1 (by rfl)))⟩
  rw [h1]
  refine Calls.spliced_cons (wpAny_Call_Name_kw (ld_blt I hge hme boot_enumerate (PyProof.Rows.callWith_type1 ?_ h2 (by rfl))))
  rw [h2]
  refine Calls.spliced_cons (thn (he.run pins s σ H _ I h) fun u s1 hq => Calls.spliced_nil ?_)
  obtain ⟨v, H1, I1, r1, a, xs, rfl, hx, q⟩ := hq
  cases r1
  obtain ⟨its, rv, hp, hz⟩ := I1.tuple hx
  refine enum1_begins (begins_tuple a its.toArray) (show s1.heap.IsTuple a its.toArray from hp) fun k' hE hI hsz hk => Calls.spliced_nil ?_
  have alt : a < s1.heap.objs.size := let ⟨_, x, _⟩ := hp; Heap.lt_size x
  have hn : its.toArray.size = xs.length := by rw [List.size_toArray, rv.length]
  have tk' : k'.IsTuple a its.toArray := let ⟨o, x, r⟩ := hp; ⟨o, hk _ _ x, r⟩
  refine call_dict_pairs (s := { s1 with heap := k' }) (knd := mixKind X.prog X.w) (kvs := enumK 0 its) (pairArg_enumT (s1.heap.objs.size + 1) s1.heap.objs.size a (Nat.succ_ne_self _) (Nat.ne_of_lt (Nat.lt_succ_of_lt alt)) (Nat.ne_of_lt alt) its.toArray) (I1.ok.hd hc)
    ⟨⟨_, hE⟩, ⟨_, hI, rfl, rfl⟩, tk'⟩ ⟨by rw [enumK_len, List.size_toArray], fun i key v hR => ?_⟩ (by rw [hn]; exact hz) fun h' tk hd' hk' => ?_
  · obtain ⟨⟨u, rfl⟩, hv⟩ := hR
    have hv' : its[i]? = some v := by simpa using hv
    exact ⟨Sum.inl (i : Int), by rw [enumK_get, hv']; simp, keyIs_int (i : Int) u⟩
  · have up : ∀ b o, s1.heap.get? b = some o → h'.get? b = some o := fun b o x => hk' b o (fun z => by
      have lb := Heap.lt_size x
      simp only [List.mem_cons, List.not_mem_nil, or_false] at z
      rcases z with z | z
      · exact Nat.ne_of_lt (Nat.lt_succ_of_lt lb) z
      · exact Nat.ne_of_lt lb z) (hk b o x)
    have big : s1.heap.objs.size ≤ k'.objs.size := by omega
    have hm : (k'.objs.size == sysModules) = false := beq_eq_false_iff_ne.mpr (Nat.ne_of_gt (Nat.lt_of_lt_of_le I1.big big))
    have em : mergeK [] (enumK 0 xs) = enumK 0 xs := by
      rw [mergeK_nd _ _ (fun _ _ => rfl) (enumK_nd 0 xs)]
      rfl
    have kv := KV.merge (enumK_kv 0 rv) (Paired.nil : KV ([] : List (Key × V)) [])
    rw [em] at kv
    exact ⟨.ref k'.objs.size, upd H1 k'.objs.size (.dK (enumK 0 xs)), I1.laid (t' := tk) up big (dk_new (by rw [enumK_len]; exact hz) hm kv hd'), rfl, q _ (I1.hok.fresh big)⟩
/-- a dict that is only read from here on -/
def tFrz (u : TS) : TS := fun D σ H => ∃ d kvs, H d = some (.dK kvs) ∧ ∀ o, u D σ (upd H d (.frz o (.dK kvs)))
theorem pss_frz {rest : List Stmt} {u : TS} (h : PSs X rest u) : PSs X rest (tFrz u) := by
  refine ⟨fun pins s σ H D I q => ?_⟩
  obtain ⟨d, kvs, hd, q⟩ := q
  obtain ⟨o, J⟩ := I.lock hd trivial
  exact h.run pins s σ _ D J (q o)
theorem ip_xor : PIp X .BitXor (ipI fun i j => Builtin.bitXor i j) := by
  intro pins s σ H x y v u Q I r1 r2 h
  obtain ⟨i, j, rfl, rfl, q⟩ := h
  obtain ⟨t, rfl⟩ := r1
  obtain ⟨t', rfl⟩ := r2
  exact ixor_int ⟨.int _, H, I.tok _, ⟨_, rfl⟩, q⟩
end
/-! ### what a frozen dict gives -/
def FD (H : Hp) (d : Addr) (kvs : List (Key × V)) : Prop := ∃ o, H d = some (.frz o (.dK kvs))
theorem FD.ex {H H' : Hp} {d : Addr} {kvs : List (Key × V)} (h : FD H d kvs) (e : Ex H H') : FD H' d kvs := let ⟨o, x⟩ := h; ⟨o, e _ _ x⟩
theorem FD.get {H : Hp} {d : Addr} {kvs : List (Key × V)} {k : Key} (h : FD H d kvs) : DGet H d (kV k) (valV kvs k) := let ⟨o, x⟩ := h; .inl ⟨kvs, k, .inr ⟨o, x⟩, rfl, rfl⟩
section
variable {K : PySem.W.Frag} {σ : L2.St} {H : Hp} {ta tb td ty tk tv : TE} {d : Addr} {kvs : List (Key × V)} {D : Ends} {tu tz : TS} {v : V} {k : Key}
theorem ev_dget (hd : Ev td σ H (.ref d)) (hy : Ev ty σ H (kV k)) (h : FD H d kvs) (hv : valV kvs k = some v) : Ev (tDGet td ty) σ H v := fun H1 e Q q =>
  hd H1 e _ fun H2 e2 => hy H2 (e.trans e2) _ fun H3 e3 => ⟨d, v, rfl, by
    have g := (h.ex ((e.trans e2).trans e3)).get (k := k)
    rw [hv] at g
    exact g, q H3 (e2.trans e3)⟩
theorem ev_din (hy : Ev ty σ H (kV k)) (hd : Ev td σ H (.ref d)) (h : FD H d kvs) : Ev (tDIn ty td) σ H (.bl (valV kvs k).isSome) := fun H1 e Q q =>
  hy H1 e _ fun H2 e2 => hd H2 (e.trans e2) _ fun H3 e3 => ⟨d, valV kvs k, rfl, (h.ex ((e.trans e2).trans e3)).get, q H3 (e2.trans e3)⟩
/-- for k in d, d read alone -/
theorem s_forK {j : Nat} (h : Ev td σ H (.ref d)) (hd : FD H d kvs) (Pv : Nat → L2.St → Hp → Prop) (h0 : ∀ H1, Ex H H1 → Pv 0 σ H1) (hl : ∀ i σ' H', Pv i σ' H' → Ex H H')
    (hs : ∀ i k v σ' H', kvs[i]? = some (k, v) → Pv i σ' H' → tu { D with nx := Pv (i + 1), ct := Pv (i + 1), bk := D.nx } (σ'.set j (some (kV k))) H') (hz : ∀ σ' H', Pv kvs.length σ' H' → D.nx σ' H') : tFor (iKeys td) (gName j) tu D σ H := by
  obtain ⟨o, hd⟩ := hd
  refine h H (Ex.refl H) _ fun H1 e => ⟨d, o, rfl, .inl ⟨kvs, e _ _ hd, fun i m σ' H' => m = kvs.length - i ∧ i ≤ kvs.length ∧ Pv i σ' H', ⟨kvs.length, by simp, Nat.zero_le _, h0 H1 e⟩, ?_⟩⟩
  rintro i m σ' H' ⟨rfl, hi, p⟩
  have fz := hl i σ' H' p _ _ hd
  by_cases hlt : i < kvs.length
  · refine .inr ⟨⟨fz, hlt⟩, Pv (i + 1), fun σ2 H2 p2 => ⟨kvs.length - (i + 1), by omega, rfl, hlt, p2⟩, fun x H2 y => ?_⟩
    obtain ⟨rfl, k, v, hk, rfl⟩ := y
    exact hs i k v σ' _ hk p
  · have ei : i = kvs.length := by omega
    subst ei
    exact .inl ⟨⟨fz, Nat.le_refl _⟩, hz _ _ p⟩
theorem q_forK {j : Nat} (h : Ev td σ H (.ref d)) (hd : FD H d kvs) (Pv : Nat → L2.St → Hp → Prop) (h0 : ∀ H1, Ex H H1 → Pv 0 σ H1) (hl : ∀ i σ' H', Pv i σ' H' → Ex H H')
    (hs : ∀ i k v σ' H', kvs[i]? = some (k, v) → Pv i σ' H' → tu { D with nx := Pv (i + 1), ct := Pv (i + 1), bk := tz D } (σ'.set j (some (kV k))) H') (hz : ∀ σ' H', Pv kvs.length σ' H' → tz D σ' H') : tSeq (tFor (iKeys td) (gName j) tu) tz D σ H :=
  s_forK (D := { D with nx := tz D }) h hd Pv h0 hl hs hz
/-- {k: f(k) for k in d} -/
def mapKV (f : Key → V) (kvs : List (Key × V)) : List (Key × V) := kvs.map fun p => (p.1, f p.1)
theorem mapKV_len (f : Key → V) (kvs : List (Key × V)) : (mapKV f kvs).length = kvs.length := List.length_map _
theorem mapKV_keys (f : Key → V) (kvs : List (Key × V)) : (mapKV f kvs).map (·.1) = kvs.map (·.1) := by
  unfold mapKV
  rw [List.map_map]
  rfl
theorem valV_none_of {kvs : List (Key × V)} {k : Key} (h : k ∉ kvs.map (·.1)) : valV kvs k = none := by
  induction kvs with
  | nil => rfl
  | cons p r ih =>
    rw [List.map_cons, List.mem_cons, not_or] at h
    rw [valV_neg (fun z => h.1 z.symm)]
    exact ih h.2
theorem valV_mapKV {f : Key → V} {kvs : List (Key × V)} {k : Key} (h : k ∈ kvs.map (·.1)) : valV (mapKV f kvs) k = some (f k) := by
  induction kvs with
  | nil => cases h
  | cons p r ih =>
    by_cases e : p.1 = k
    · exact (valV_pos (p := (p.1, f p.1)) e).trans (by rw [← e])
    · rw [List.map_cons, List.mem_cons] at h
      exact (valV_neg (p := (p.1, f p.1)) e).trans (ih (h.resolve_left fun z => e z.symm))
def EvDc (te : TE) (σ : L2.St) (H : Hp) (kvs : List (Key × V)) : Prop := ∀ H1, Ex H H1 → ∀ Q : VK, (∀ p H2, H1 p = none → Ex H1 H2 → H2 p = some (.dK kvs) → Q (.ref p) H2) → te σ H1 Q
theorem tYes_y {σ : L2.St} {K : Bool → Hp → Prop} (h : K true H) : tYes σ H K := h
theorem dc_keys {j : Nat} {vs : List Nat} {f : Key → V} (h : Ev td σ H (.ref d)) (hd : FD H d kvs) (hn : (kvs.map (·.1)).Nodup) (hz : kvs.length < 100000) (hw : ∀ x, wipe ((wipe σ vs).set j (some x)) vs = wipe σ vs)
    (hk : ∀ k H1, Ex H H1 → k ∈ kvs.map (·.1) → Ev tk ((wipe σ vs).set j (some (kV k))) H1 (kV k)) (hv : ∀ k H1, Ex H H1 → k ∈ kvs.map (·.1) → Ev tv ((wipe σ vs).set j (some (kV k))) H1 (f k)) :
    EvDc (tDc (iKeys td) (gName j) tYes tk tv vs) σ H (mapKV f kvs) := fun H0 e0 Q q => by
  obtain ⟨o, hd⟩ := hd
  refine h H0 e0 _ fun H1 e1 => ⟨d, o, rfl, .inl ⟨kvs, e1 _ _ (e0 _ _ hd), fun Dd hD => ?_⟩⟩
  have e01 := e0.trans e1
  refine ⟨fun i m H' => m = kvs.length - i ∧ i ≤ kvs.length ∧ Ex H1 H' ∧ H' Dd = some (.dK (mapKV f (kvs.take i))), ⟨kvs.length, by simp, Nat.zero_le _, Ex.new hD, upd_same⟩, ?_⟩
  rintro i m H' ⟨rfl, hi, e2, hDd⟩
  have fz := e2 _ _ (e1 _ _ (e0 _ _ hd))
  by_cases hlt : i < kvs.length
  · refine .inr ⟨⟨fz, hlt⟩, fun H2 => Ex H1 H2 ∧ H2 Dd = some (.dK (mapKV f (kvs.take (i + 1)))), fun H2 p2 => ⟨kvs.length - (i + 1), by omega, rfl, hlt, p2⟩, fun x H2 y => ?_⟩
    obtain ⟨rfl, k, v, hkv, rfl⟩ := y
    have hmem : k ∈ kvs.map (·.1) := List.mem_map.mpr ⟨_, List.mem_of_getElem? hkv, rfl⟩
    have et : kvs.take (i + 1) = kvs.take i ++ [(k, v)] := by rw [List.take_add_one, hkv]; rfl
    have hnew : k ∉ (kvs.take i).map (·.1) := fun z => by
      have hn2 : ((kvs.take (i + 1)).map (·.1)).Nodup := hn.sublist ((List.take_sublist _ _).map _)
      rw [et, List.map_append] at hn2
      exact (List.nodup_append.mp hn2).2.2 _ z _ (List.mem_singleton.mpr rfl) rfl
    refine ⟨hw _, ?_⟩
    refine tYes_y ?_
    refine hk k H1 e01 hmem _ e2 _ fun H3 e3 => hv k H1 e01 hmem _ (e2.trans e3) _ fun H4 e4 => ⟨mapKV f (kvs.take i), k, rfl, e4 _ _ (e3 _ _ hDd), ?_, Ex.mut ((e2.trans e3).trans e4) hD, ?_⟩
    · rw [mapKV_len, List.length_take]
      exact sz_lt (by omega)
    · rw [upd_same, et, putK_new _ (valV_none_of (by rw [mapKV_keys]; exact hnew))]
      unfold mapKV
      rw [List.map_append]
      rfl
  · have ei : i = kvs.length := by omega
    subst ei
    rw [List.take_length] at hDd
    exact .inl ⟨⟨fz, Nat.le_refl _⟩, q Dd _ (fresh_back e1 hD) (e1.trans e2) hDd⟩
end
end Sq

/-! blocks: the form of Lagrange over the sixteen symbols; promises of the block's defs -/
namespace Sq
open PySem PySem.Spec PyProof.Rows L2 Evl
/-! ### the form -/
abbrev Pts := List (Int × Int)
def ksV (ps : Pts) : List Int := ps.map (·.1)
def kvP (ps : Pts) : List (Key × V) := ps.map fun p => (Sum.inl p.1, V.int p.2)
/-- the product of the differences of a and the others -/
def dprod (a : Int) : List Int → Int → Int
  | [], r => r
  | k :: ks, r => dprod a ks (if k = a then r else gmul r (gadd a k))
def lsum (a : Int) : Pts → Int → Int
  | [], t => t
  | (k, w) :: r, t => lsum a r (gadd t (gdiv w (gadd a k)))
def wts (ps : Pts) : Pts := ps.map fun p => (p.1, gdiv p.2 (dprod p.1 (ksV ps) 1))
def lagr (ps : Pts) (a : Int) : Int := match ps.lookup a with
  | some v => v
  | none => gmul (lsum a (wts ps) 0) (dprod a (ksV ps) 1)
def PtsOk (ps : Pts) : Prop := (∀ p ∈ ps, Sym p.1 ∧ Sym p.2) ∧ (ksV ps).Nodup ∧ ps.length ≤ 16
theorem gadd_ne {a b : Int} (ha : Sym a) (hb : Sym b) (h : b ≠ a) : gadd a b ≠ 0 := sym2 (p := fun a b => b ≠ a → gadd a b ≠ 0) (by decide +kernel) ha hb h
theorem sym_1 : Sym 1 := by decide
theorem sym_0 : Sym 0 := by decide
theorem dprod_sym {a : Int} (ha : Sym a) : ∀ {ks : List Int} {r : Int}, (∀ k ∈ ks, Sym k) → Sym r → Sym (dprod a ks r)
  | [], _, _, hr => hr
  | k :: ks, r, h, hr => by
    have hk := h k List.mem_cons_self
    have hh : ∀ x ∈ ks, Sym x := fun x hx => h x (List.mem_cons_of_mem _ hx)
    show Sym (dprod a ks (if k = a then r else gmul r (gadd a k)))
    refine dprod_sym ha hh ?_
    split
    · exact hr
    · exact sym_mul hr (sym_add ha hk)
theorem dprod_ne {a : Int} (ha : Sym a) : ∀ {ks : List Int} {r : Int}, (∀ k ∈ ks, Sym k) → Sym r → r ≠ 0 → dprod a ks r ≠ 0
  | [], _, _, _, h0 => h0
  | k :: ks, r, h, hr, h0 => by
    have hk := h k List.mem_cons_self
    have hh : ∀ x ∈ ks, Sym x := fun x hx => h x (List.mem_cons_of_mem _ hx)
    show dprod a ks (if k = a then r else gmul r (gadd a k)) ≠ 0
    split
    · exact dprod_ne ha hh hr h0
    · rename_i e
      exact dprod_ne ha hh (sym_mul hr (sym_add ha hk)) (gmul_eq0 hr (sym_add ha hk) h0 (gadd_ne ha hk e))
theorem PtsOk.ks {ps : Pts} (h : PtsOk ps) : ∀ k ∈ ksV ps, Sym k := fun k hk => by
  obtain ⟨p, hp, rfl⟩ := List.mem_map.mp hk
  exact (h.1 p hp).1
theorem ksV_kvP (ps : Pts) : (kvP ps).map (·.1) = (ksV ps).map Sum.inl := by
  unfold kvP ksV
  rw [List.map_map, List.map_map]
  rfl
theorem nd_inl {ks : List Int} (h : ks.Nodup) : (ks.map (Sum.inl : Int → Key)).Nodup := by
  unfold List.Nodup at h ⊢
  rw [List.pairwise_map]
  exact h.imp fun hab z => hab (Sum.inl.inj z)
theorem PtsOk.nd {ps : Pts} (h : PtsOk ps) : ((kvP ps).map (·.1)).Nodup := by
  rw [ksV_kvP]
  exact nd_inl h.2.1
theorem kvP_len (ps : Pts) : (kvP ps).length = ps.length := List.length_map _
theorem kvP_get {ps : Pts} {i : Nat} {k : Key} {v : V} (h : (kvP ps)[i]? = some (k, v)) : ∃ p, ps[i]? = some p ∧ k = Sum.inl p.1 ∧ v = .int p.2 := by
  unfold kvP at h
  rw [List.getElem?_map] at h
  cases e : ps[i]? with
  | none => rw [e] at h; cases h
  | some p =>
    rw [e] at h
    cases h
    exact ⟨p, rfl, rfl, rfl⟩
theorem valV_kvP (ps : Pts) (a : Int) : valV (kvP ps) (Sum.inl a) = (ps.lookup a).map V.int := by
  induction ps with
  | nil => rfl
  | cons p r ih =>
    obtain ⟨k, v⟩ := p
    by_cases e : k = a
    · subst e
      have z : valV (kvP ((k, v) :: r)) (Sum.inl k) = some (.int v) := valV_pos (p := (Sum.inl k, V.int v)) rfl
      rw [z, List.lookup_cons, beq_self_eq_true]
      rfl
    · have z : valV (kvP ((k, v) :: r)) (Sum.inl a) = valV (kvP r) (Sum.inl a) := valV_neg (p := (Sum.inl k, V.int v)) (fun z => e (Sum.inl.inj z))
      have b : (a == k) = false := beq_eq_false_iff_ne.mpr fun z => e z.symm
      rw [z, ih, List.lookup_cons, b]
theorem lookup_of {ps : Pts} {i : Nat} {p : Int × Int} (hn : (ksV ps).Nodup) (h : ps[i]? = some p) : ps.lookup p.1 = some p.2 := by
  induction ps generalizing i with
  | nil => cases h
  | cons q r ih =>
    obtain ⟨k, v⟩ := q
    have hn' : k ∉ ksV r ∧ (ksV r).Nodup := List.nodup_cons.mp hn
    cases i with
    | zero =>
      cases h
      rw [List.lookup_cons, beq_self_eq_true]
    | succ i =>
      have h' : r[i]? = some p := h
      have b : (p.1 == k) = false := beq_eq_false_iff_ne.mpr fun z => hn'.1 (List.mem_map.mpr ⟨p, List.mem_of_getElem? h', z⟩)
      rw [List.lookup_cons, b]
      exact ih hn'.2 h'
theorem lookup_mem {ps : Pts} {a v : Int} (h : ps.lookup a = some v) : (a, v) ∈ ps := by
  induction ps with
  | nil => cases h
  | cons q r ih =>
    obtain ⟨k, u⟩ := q
    rw [List.lookup_cons] at h
    by_cases e : a = k
    · subst e
      rw [beq_self_eq_true] at h
      cases h
      exact List.mem_cons_self
    · rw [beq_eq_false_iff_ne.mpr e] at h
      exact List.mem_cons_of_mem _ (ih h)
theorem wts_ks (ps : Pts) : ksV (wts ps) = ksV ps := by
  unfold ksV wts
  rw [List.map_map]
  rfl
def wtF (ps : Pts) : Key → V
  | .inl a => (match ps.lookup a with
    | some v => .int (gdiv v (dprod a (ksV ps) 1))
    | none => .non)
  | .inr _ => .non
theorem wtF_of {ps : Pts} {a v : Int} (h : ps.lookup a = some v) : wtF ps (.inl a) = .int (gdiv v (dprod a (ksV ps) 1)) := by
  unfold wtF
  simp only [h]
theorem kvP_wts (ps : Pts) (hn : (ksV ps).Nodup) : kvP (wts ps) = mapKV (wtF ps) (kvP ps) := by
  unfold kvP wts mapKV
  rw [List.map_map, List.map_map]
  refine List.map_congr_left fun p hp => ?_
  obtain ⟨i, hi⟩ := List.mem_iff_getElem?.mp hp
  have e := lookup_of hn hi
  show (_, _) = (_, _)
  rw [wtF_of e]
theorem wts_ok {ps : Pts} (h : PtsOk ps) : PtsOk (wts ps) := by
  refine ⟨fun p hp => ?_, by rw [wts_ks]; exact h.2.1, by unfold wts; rw [List.length_map]; exact h.2.2⟩
  obtain ⟨q, hq, rfl⟩ := List.mem_map.mp hp
  have hs := h.1 q hq
  exact ⟨hs.1, sym_div hs.2 (dprod_sym hs.1 h.ks sym_1)⟩
theorem lsum_sym {a : Int} (ha : Sym a) : ∀ {ps : Pts} {t : Int}, (∀ p ∈ ps, Sym p.1 ∧ Sym p.2) → Sym t → Sym (lsum a ps t)
  | [], _, _, ht => ht
  | (k, w) :: r, t, h, ht => by
    have hp := h (k, w) List.mem_cons_self
    have hh : ∀ p ∈ r, Sym p.1 ∧ Sym p.2 := fun x hx => h x (List.mem_cons_of_mem _ hx)
    exact lsum_sym (ps := r) ha hh (sym_add ht (sym_div hp.2 (sym_add ha hp.1)))
theorem lagr_sym {ps : Pts} {a : Int} (h : PtsOk ps) (ha : Sym a) : Sym (lagr ps a) := by
  unfold lagr
  split
  · rename_i v e
    exact (h.1 _ (lookup_mem e)).2
  · exact sym_mul (lsum_sym ha (wts_ok h).1 sym_0) (dprod_sym ha h.ks sym_1)
/-- step by step -/
theorem dprod_take {a : Int} : ∀ {ks : List Int} {i : Nat} {k r : Int}, ks[i]? = some k → dprod a (ks.take (i + 1)) r = (if k = a then dprod a (ks.take i) r else gmul (dprod a (ks.take i) r) (gadd a k))
  | [], _, _, _, h => by cases h
  | x :: ks, 0, k, r, h => by
    cases h
    rfl
  | x :: ks, i + 1, k, r, h => by
    have h' : ks[i]? = some k := h
    exact dprod_take (ks := ks) h'
theorem lsum_take {a : Int} : ∀ {ps : Pts} {i : Nat} {k w t : Int}, ps[i]? = some (k, w) → lsum a (ps.take (i + 1)) t = gadd (lsum a (ps.take i) t) (gdiv w (gadd a k))
  | [], _, _, _, _, h => by cases h
  | (x, y) :: ps, 0, k, w, t, h => by
    cases h
    rfl
  | (x, y) :: ps, i + 1, k, w, t, h => by
    have h' : ps[i]? = some (k, w) := h
    exact lsum_take (ps := ps) h'
/-! ### promises -/
def spDist : Sp := fun vs H Q _ => ∃ (a : Int) (d : Addr) (ps : Pts), vs = [.int a, .ref d] ∧ Sym a ∧ PtsOk ps ∧ FD H d (kvP ps) ∧ RetV (.int (dprod a (ksV ps) 1)) H Q
def spValue : Sp := fun vs H Q _ => ∃ (a : Int) (d e : Addr) (ps : Pts), vs = [.int a, .ref d, .ref e] ∧ Sym a ∧ PtsOk ps ∧ FD H d (kvP ps) ∧ FD H e (kvP (wts ps)) ∧ RetV (.int (lagr ps a)) H Q
def lagrs (ps : Pts) (n : Nat) : List Int := (List.range n).map fun (i : Nat) => lagr ps (i : Int)
def spValues : Sp := fun vs H Q _ => ∃ (d : Addr) (n : Nat) (ps : Pts), vs = [.ref d, .int n] ∧ n ≤ 16 ∧ PtsOk ps ∧ FD H d (kvP ps) ∧ RetL ((lagrs ps n).map V.int) H Q
theorem spv_dist {a : Int} {d : Addr} {ps : Pts} {H : Hp} (ha : Sym a) (ok : PtsOk ps) (h : FD H d (kvP ps)) : SpV spDist [.int a, .ref d] H (.int (dprod a (ksV ps) 1)) := fun H1 e _ q _ => ⟨a, d, ps, rfl, ha, ok, h.ex e, q⟩
theorem spv_value {a : Int} {d e : Addr} {ps : Pts} {H : Hp} (ha : Sym a) (ok : PtsOk ps) (h : FD H d (kvP ps)) (h2 : FD H e (kvP (wts ps))) : SpV spValue [.int a, .ref d, .ref e] H (.int (lagr ps a)) := fun H1 e _ q _ => ⟨a, d, _, ps, rfl, ha, ok, h.ex e, h2.ex e, q⟩
theorem spl_values {d : Addr} {n : Nat} {ps : Pts} {H : Hp} (hn : n ≤ 16) (ok : PtsOk ps) (h : FD H d (kvP ps)) : SpL spValues [.ref d, .int n] H ((lagrs ps n).map V.int) := fun H1 e _ q _ => ⟨d, n, ps, rfl, hn, ok, h.ex e, q⟩
/-- a new tuple -/
def RetU (xs : List V) (H : Hp) (Q : VK) : Prop := ∀ p H2, H p = none → Ex H H2 → H2 p = some (.tup xs) → Q (.ref p) H2
def SpU (sp : Sp) (vs : List V) (H : Hp) (xs : List V) : Prop := ∀ H1, Ex H H1 → ∀ Q : VK, RetU xs H1 Q → ∀ E : XK, sp vs H1 Q E
section
variable {K : PySem.W.Frag} {σ : L2.St} {H H' : Hp} {ta te : TE} {t : TA} {x : V}
theorem RetU.go {xs : List V} {Q : VK} (k : RetU xs H Q) (e : Ex H H') {p : Addr} {H2 : Hp} (hp : H' p = none) (e2 : Ex H' H2) (h : H2 p = some (.tup xs)) : Q (.ref p) H2 := k p H2 (fresh_back e hp) (e.trans e2) h
theorem eu_callD {sp : Sp} {vs xs : List V} {ta : TA} (h : EvA ta σ H vs) (hs : SpU sp vs H xs) : EvU (tCall sp [] E0 ta) σ H xs := fun H1 e Q q =>
  h H1 e _ fun H2 e2 => by
    show sp (vs ++ []) H2 Q E0
    rw [List.append_nil]
    exact hs H2 (e.trans e2) Q (fun p H3 hp e3 h3 => q p H3 (fresh_back e2 hp) (e2.trans e3) h3) E0
theorem el_callD {sp : Sp} {vs xs : List V} {ta : TA} (h : EvA ta σ H vs) (hs : SpL sp vs H xs) : EvL (tCall sp [] E0 ta) σ H xs := el_call h (by rw [List.append_nil]; exact hs)
/-- tuple(..) of a new list | of a tuple -/
abbrev rTupOf (K : PySem.W.Frag) : List V → Hp → VK → Prop := fun xs H Q => ∃ p ys, xs = [.ref p] ∧ ((SqL K H p ys ∧ ∀ l, H l = none → Q (.ref l) (upd H l (.tup ys))) ∨ (SqT K H p ys ∧ Q (.ref p) H))
theorem eu_tupL {xs : List V} (h : EvL te σ H xs) : EvU (tCB (rTupOf K) (tCons te tNil)) σ H xs := fun H1 e Q q =>
  h H1 e _ fun p H2 hp e2 h2 => ⟨p, xs, rfl, .inl ⟨sq_of h2, fun l hl => q l _ (fresh_back e2 hl) (Ex.mut e2 (fresh_back e2 hl)) upd_same⟩⟩
theorem ev_tupT {p : Addr} {xs : List V} (h : Ev te σ H (.ref p)) (hx : SqT K H p xs) : Ev (tCB (rTupOf K) (tCons te tNil)) σ H (.ref p) := fun H1 e Q q =>
  h H1 e _ fun H2 e2 => ⟨p, xs, rfl, .inr ⟨ex_t (e.trans e2) hx, q H2 e2⟩⟩
theorem ev_lenT {p : Addr} {xs : List V} (ha : Ev te σ H (.ref p)) (h : SqT K H p xs) : Ev (tCB (rLenS K) (tCons te tNil)) σ H (.int (xs.length : Int)) := fun H1 e Q q =>
  ha H1 e _ fun H2 e2 => ⟨p, xs, rfl, .inr (ex_t (e.trans e2) h), q H2 e2⟩
end
end Sq

/-! the checks of a block's arguments; the promise of encoding -/
namespace Sq
open PySem PySem.Spec PyProof.Rows L2 Evl
def goodNum (y : V) (b : Bool) : Prop := flatK y = true ∧ b = isNum y
def goodSym (y : V) (b : Bool) : Prop := flatK y = true ∧ b = isSym y
def goodEnt (y : V) (b : Bool) : Prop := flatK y = true ∧ b = (decide (y = .non) || isSym y)
abbrev GT : Heap → Prop := fun _ => True
theorem gstT : GStb GT := fun _ _ _ h => h
structure RawFn1 (P : Program) (w : World) (K : PySem.W.Frag) (mg : Str → Option Value) (base : Heap) (x : Str) (N : Nat) (good : V → Bool → Prop) : Prop where
  ex : ∃ f, mg x = some (.ref f) ∧ PySem.W.keepIn K (.ref f) = true ∧ ∀ (D U : Nat) (y : V) (u : Value) (b : Bool), D + N < recursionLimit → good y b → RelV y u → RawF P w K mg base D U f [u] (fun v => v = .bool b)
section
variable {P : Program} {w : World} {K : PySem.W.Frag} {mg : Str → Option Value} {base : Heap} {D U : Nat} {env : Env} {m : Str → Option Value} {x : Str} {y : V} {u : Value} {p1 p2 p3 p4 p5 p6 p7 p8 p9 p10 : Pos}
theorem raw_isiB {T : String} {c : Str} {cs : String} {r : Bool} {Z : Heap → Prop} (F : FnEnv env) (hx : env.kindOf "isinstance" = some .globalImplicit) (hc : env.kindOf c = some .globalImplicit) (hl : env.kindOf x = some .local) (n1 : mg "isinstance" = none) (n2 : mg c = none) (hm : m x = some u)
    (hb : bootBuiltins c = some (.type cs)) (hn : c ≠ "__name__") (hd : (c == ("__debug__" : Str)) = false) (hdx : (x == ("__debug__" : Str)) = false) (kit : PySem.W.KitX K u (.type T) Z) (hz : ∀ h, Z h) (ho : u ≠ .builtin "__main__.__loader__#opaque") (k : kitB T cs = some r) :
    RawE P w K mg base D U env m GT (.Call (.Name "isinstance" p1) [.Name x p2, .Name c p3] [] p4) (fun v => v = .bool r) :=
  raw_isi (p2 := p1) F hx n1 gstT (raw_loc F hl hm hdx) (raw_blt F hc n2 hb hn hd) kit (fun h _ => hz h) ho k (by rfl) (by rfl) (by rfl)
theorem raw_num (F : FnEnv env) (hx : env.kindOf "isinstance" = some .globalImplicit) (hi : env.kindOf "int" = some .globalImplicit) (hb : env.kindOf "bool" = some .globalImplicit) (hl : env.kindOf x = some .local) (n1 : mg "isinstance" = none) (n2 : mg "int" = none) (n3 : mg "bool" = none) (hm : m x = some u)
    (hdx : (x == ("__debug__" : Str)) = false) (fl : flatK y = true) (r : RelV y u) :
    RawE P w K mg base D U env m GT (.BoolOp .And [.Call (.Name "isinstance" p1) [.Name x p2, .Name "int" p3] [] p4, .UnaryOp .Not (.Call (.Name "isinstance" p5) [.Name x p6, .Name "bool" p7] [] p8) p9] p10) (fun v => v = .bool (isNum y)) := by
  have B1 : bootBuiltins "int" = some (.type "int") := by decide +kernel
  have B2 : bootBuiltins "bool" = some (.type "bool") := by decide +kernel
  cases y with
  | non =>
    cases (show u = Value.none from r)
    exact raw_and (ka := false) (kb := false) gstT (raw_isiB F hx hi hl n1 n2 hm B1 (by decide) (by decide) hdx PySem.W.kitx_none (fun _ => True.intro) (fun z => nomatch z) (by decide +kernel)) (fun z => nomatch z)
  | bl b =>
    cases (show u = Value.bool b from r)
    exact raw_and (ka := true) (kb := false) gstT (raw_isiB F hx hi hl n1 n2 hm B1 (by decide) (by decide) hdx PySem.W.kitx_bool (fun _ => True.intro) (fun z => nomatch z) (by decide +kernel)) (fun _ => raw_not (ka := true) (raw_isiB F hx hb hl n1 n3 hm B2 (by decide) (by decide) hdx PySem.W.kitx_bool (fun _ => True.intro) (fun z => nomatch z) (by decide +kernel)))
  | int i =>
    obtain ⟨t, q⟩ := (show ∃ t, u = Value.int i t from r)
    cases q
    exact raw_and (ka := true) (kb := true) gstT (raw_isiB F hx hi hl n1 n2 hm B1 (by decide) (by decide) hdx PySem.W.kitx_int (fun _ => True.intro) (fun z => nomatch z) (by decide +kernel)) (fun _ => raw_not (ka := false) (raw_isiB F hx hb hl n1 n3 hm B2 (by decide) (by decide) hdx PySem.W.kitx_int (fun _ => True.intro) (fun z => nomatch z) (by decide +kernel)))
  | str s =>
    obtain ⟨t, q⟩ := (show ∃ t, u = Value.str s t from r)
    cases q
    exact raw_and (ka := false) (kb := false) gstT (raw_isiB F hx hi hl n1 n2 hm B1 (by decide) (by decide) hdx PySem.W.kitx_str (fun _ => True.intro) (fun z => nomatch z) (by decide +kernel)) (fun z => nomatch z)
  | _ => cases fl
theorem raw_callF {N : Nat} {good : V → Bool → Prop} {b : Bool} {f : Str} (R : RawFn1 P w K mg base f N good) (hN : D + N < recursionLimit) (hg : good y b) (r : RelV y u) (F : FnEnv env) (hx : env.kindOf f = some .globalImplicit) (hl : env.kindOf x = some .local) (hm : m x = some u) (hd : (f == ("__debug__" : Str)) = false) (hdx : (x == ("__debug__" : Str)) = false) :
    RawE P w K mg base D U env m GT (.Call (.Name f p1) [.Name x p2] [] p3) (fun v => v = .bool b) := by
  obtain ⟨fa, g, kp, h⟩ := R.ex
  exact raw_call1 F hx g kp gstT (raw_loc F hl hm hdx) (h D U y u b hN hg r) hd (by rfl) (by rfl)
theorem raw_sym {N : Nat} (R : RawFn1 P w K mg base "is_number" N goodNum) (hN : D + N < recursionLimit) (F : FnEnv env) (hx : env.kindOf "is_number" = some .globalImplicit) (hl : env.kindOf x = some .local) (hm : m x = some u) (hdx : (x == ("__debug__" : Str)) = false) (fl : flatK y = true) (r : RelV y u) {j1 j2} :
    RawE P w K mg base D U env m GT (.BoolOp .And [.Call (.Name "is_number" p1) [.Name x p2] [] p3, .Compare (.Constant (.int 0) j1 p4) [.LtE, .LtE] [.Name x p5, .Constant (.int 15) j2 p6] p7] p8) (fun v => v = .bool (isSym y)) := by
  have c1 := raw_callF (p1 := p1) (p2 := p2) (p3 := p3) (U := U) R hN (b := isNum y) ⟨fl, rfl⟩ r F hx hl hm (by decide) hdx
  cases y with
  | int i =>
    obtain ⟨t, q⟩ := (show ∃ t, u = Value.int i t from r)
    subst q
    exact raw_and (ka := true) (kb := decide (0 ≤ i) && decide (i ≤ 15)) gstT c1 (fun _ => raw_chain gstT raw_int (raw_imp (raw_loc F hl hm hdx) fun v hv => ⟨t, hv⟩) raw_int (by with_unfolding_all rfl))
  | non => exact raw_and (ka := false) (kb := false) gstT c1 (fun z => nomatch z)
  | bl b => exact raw_and (ka := false) (kb := false) gstT c1 (fun z => nomatch z)
  | str s => exact raw_and (ka := false) (kb := false) gstT c1 (fun z => nomatch z)
  | _ => cases fl
/-- a def of one parameter whose body is one return -/
theorem rawFn_of {qual : Str} {st : Stmt} {f : Addr} {fd : FuncData} {e : Expr} {pos : Pos} {a : Str} {N : Nat} {good : V → Bool → Prop} (F : Fun K x qual st f fd) (g : mg x = some (.ref f)) (hb : defBody st = [.Return (some e) pos])
    (hbind : ∀ (kV doc pm : Value) (an : Option Addr) (cdv ct : Value) (s : Shared) (u : Value), BindsTo s (PySem.W.fnOf x qual (defArgs st) (defBody st) (defScope st) .none kV doc pm an cdv ct) ⟨[u], []⟩ ([a].zip [u]))
    (hkind : ∀ u : Value, (([a].zip [u]).all fun y => (defScope st).names.lookup y.1 == some .local || (defScope st).names.lookup y.1 == some .cell) = true)
    (hco : (defScope st).isCoroutine = false) (hgen : (defScope st).isGenerator = false) (hk : (defScope st).kind = .function)
    (h : ∀ (D U : Nat) (L : Addr) (cdv : Value) (y : V) (u : Value) (b : Bool), D + N < recursionLimit → good y b → RelV y u → RawE P w K mg base D U (envOfC qual (defScope st) L f cdv) (bindL (envOfC qual (defScope st) L f cdv).kindOf ([a].zip [u]) fun _ => none) GT e (fun v => v = .bool b)) :
    RawFn1 P w K mg base x (N + 1) good :=
  ⟨f, g, F.kp, fun D U y u b hN hg r A s rs h0 h1 h2 => raw_def (us := [u]) (ps := [a]) F hb (fun kV doc pm an cdv ct s => hbind kV doc pm an cdv ct s u) (hkind u) hco hgen hk (by omega) (fun L cdv => h (D + 1) (U + 3) L cdv y u b (by omega) hg r) (fun _ _ _ _ => True.intro) A s rs h0 h1 h2 True.intro⟩
end
/-! ### encoding -/
def enumP : Nat → List Int → Pts
  | _, [] => []
  | j, x :: r => ((j : Int), x) :: enumP (j + 1) r
theorem enumP_kv : ∀ (j : Nat) (ds : List Int), enumK j (ds.map V.int) = kvP (enumP j ds)
  | _, [] => rfl
  | j, x :: r => by
    show (Sum.inl (j : Int), V.int x) :: enumK (j + 1) (r.map V.int) = (Sum.inl (j : Int), V.int x) :: kvP (enumP (j + 1) r)
    rw [enumP_kv (j + 1) r]
theorem enumP_len : ∀ (j : Nat) (ds : List Int), (enumP j ds).length = ds.length
  | _, [] => rfl
  | j, x :: r => congrArg (· + 1) (enumP_len (j + 1) r)
theorem enumP_mem : ∀ (j : Nat) {ds : List Int} {p : Int × Int}, p ∈ enumP j ds → (j : Int) ≤ p.1 ∧ p.1 < j + ds.length ∧ p.2 ∈ ds
  | _, [], _, h => by cases h
  | j, x :: r, p, h => by
    rw [List.length_cons]
    rcases List.mem_cons.mp h with rfl | h
    · exact ⟨Int.le_refl _, by show (j : Int) < _; omega, List.mem_cons_self⟩
    · have z := enumP_mem (j + 1) h
      exact ⟨by omega, by omega, List.mem_cons_of_mem _ z.2.2⟩
theorem enumP_nd : ∀ (j : Nat) (ds : List Int), (ksV (enumP j ds)).Nodup
  | _, [] => List.nodup_nil
  | j, x :: r => by
    show ((j : Int) :: ksV (enumP (j + 1) r)).Nodup
    refine List.nodup_cons.mpr ⟨fun z => ?_, enumP_nd (j + 1) r⟩
    obtain ⟨p, hp, e⟩ := List.mem_map.mp z
    have := (enumP_mem (j + 1) hp).1
    omega
theorem enumP_ok {ds : List Int} (h : ∀ x ∈ ds, Sym x) (hl : ds.length ≤ 16) : PtsOk (enumP 0 ds) :=
  ⟨fun p hp => by
    have z := enumP_mem 0 hp
    exact ⟨⟨by omega, by omega⟩, h _ z.2.2⟩, enumP_nd 0 ds, by rw [enumP_len]; exact hl⟩
/-- the block of data ds, n symbols long -/
def blockOf (ds : List Int) (n : Nat) : List Int := lagrs (enumP 0 ds) n
def DataOk (ds : List Int) (c : Int) : Prop := (∀ x ∈ ds, Sym x) ∧ ds ≠ [] ∧ 0 ≤ c ∧ (ds.length : Int) + c ≤ 16
def spReqData (K : PySem.W.Frag) (Pt : Addr) : Sp := fun vs H Q _ => ∃ (t : Addr) (ds : List Int) (c : Int), vs = [.ref t, .int c] ∧ SqT K H t (ds.map V.int) ∧ H Pt = some (TabF Pt) ∧ DataOk ds c ∧ RetV .non H Q
def spEncode (K : PySem.W.Frag) (Pt : Addr) : Sp := fun vs H Q _ => ∃ (t : Addr) (ds : List Int) (c : Int), vs = [.ref t, .int c] ∧ SqT K H t (ds.map V.int) ∧ H Pt = some (TabF Pt) ∧ DataOk ds c ∧ RetU ((blockOf ds (ds.length + c.toNat)).map V.int) H Q
section
variable {K : PySem.W.Frag} {Pt : Addr} {σ : L2.St} {H : Hp} {te : TE} {v : V} {b : Bool}
theorem spv_reqData {t : Addr} {ds : List Int} {c : Int} (ht : SqT K H t (ds.map V.int)) (hP : H Pt = some (TabF Pt)) (ok : DataOk ds c) : SpV (spReqData K Pt) [.ref t, .int c] H .non := fun H1 e _ q _ => ⟨t, ds, c, rfl, ex_t e ht, e _ _ hP, ok, q⟩
theorem spu_encode {t : Addr} {ds : List Int} {c : Int} (ht : SqT K H t (ds.map V.int)) (hP : H Pt = some (TabF Pt)) (ok : DataOk ds c) : SpU (spEncode K Pt) [.ref t, .int c] H ((blockOf ds (ds.length + c.toNat)).map V.int) := fun H1 e _ q _ => ⟨t, ds, c, rfl, ex_t e ht, e _ _ hP, ok, q⟩
theorem et_tru (h : Ev te σ H v) (hv : ∀ H1, Ex H H1 → TruV K v H1 b) : EvT (fun σ H Q => te σ H fun x H' => ∃ k, TruV K x H' k ∧ Q k H') σ H b := fun H1 e Q q => h H1 e _ fun H2 e2 => ⟨b, hv H2 (e.trans e2), q H2 e2⟩
theorem tru_t {a : Addr} {xs : List V} (h : SqT K H a xs) : ∀ H1, Ex H H1 → TruV K (.ref a) H1 (!xs.isEmpty) := fun H1 e => .inr (.inl ⟨xs, ex_t e h, rfl⟩)
theorem tru_i {i : Int} : ∀ H1, Ex H H1 → TruV K (.int i) H1 (i != 0) := fun _ _ => rfl
/-- all(..) over a tuple -/
theorem ev_allT {good : V → Bool → Prop} {a : Addr} {xs : List V} (pb : V → Bool) (h : Ev te σ H (.ref a)) (hx : SqT K H a xs) (hP : H Pt = some (TabF Pt)) (hg : ∀ y ∈ xs, good y (pb y)) : Ev (tAllT K Pt good te) σ H (.bl (xs.all pb)) := fun H1 e Q q =>
  h H1 e _ fun H2 e2 => ⟨a, xs, pb, rfl, ex_t (e.trans e2) hx, (e.trans e2) _ _ hP, hg, q H2 e2⟩
end
end Sq
namespace Sq
open PySem PySem.Spec PyProof.Rows L2 Evl
theorem room3 {k : Nat} {A : Around} (r : Room k A) : A.depth + 1 + 2 < recursionLimit := by
  have := r.dp
  omega
theorem eltG_call {X : Cx} {scope : Scope} {good : V → Bool → Prop} {f x : Str} {p1 p2 p3 : Pos} (R : RawFn1 X.prog X.w X.K X.mg X.base f 2 good) (hD : X.A.depth + 1 + 2 < recursionLimit) (hk : scope.kind = .function) (hf : scope.names.lookup f = some .globalImplicit) (hx : scope.names.lookup x = some .local) (hd : (f == ("__debug__" : Str)) = false) (hdx : (x == ("__debug__" : Str)) = false) :
    EltG X scope x (.Call (.Name f p1) [.Name x p2] [] p3) good := fun y u b hg r cenv m hs hgl hbl hm => by
  subst hs
  exact raw_callF R hD hg r ⟨hk, hgl, hbl⟩ hf hx hm hd hdx
end Sq

/-! values that are only bounded: draws; tuples made on the way; tuples of numbers compared -/
namespace Sq
open PySem PySem.Spec PyProof.Rows L2 Evl
/-- te gives some value with p, and keeps what stands -/
def EvP (te : TE) (σ : L2.St) (H : Hp) (p : V → Prop) : Prop := ∀ H1, Ex H H1 → ∀ Q : VK, (∀ v H2, Ex H1 H2 → p v → Q v H2) → te σ H1 Q
/-- a new list | a new tuple, with P -/
def EvLP (te : TE) (σ : L2.St) (H : Hp) (P : List V → Prop) : Prop := ∀ H1, Ex H H1 → ∀ Q : VK, (∀ xs p H2, P xs → H1 p = none → Ex H1 H2 → H2 p = some (.lst xs) → Q (.ref p) H2) → te σ H1 Q
def EvUP (te : TE) (σ : L2.St) (H : Hp) (P : List V → Prop) : Prop := ∀ H1, Ex H H1 → ∀ Q : VK, (∀ xs p H2, P xs → H1 p = none → Ex H1 H2 → H2 p = some (.tup xs) → Q (.ref p) H2) → te σ H1 Q
/-- a tuple, new or old -/
def EvS (K : PySem.W.Frag) (te : TE) (σ : L2.St) (H : Hp) (xs : List V) : Prop := ∀ H1, Ex H H1 → ∀ Q : VK, (∀ p H2, Ex H1 H2 → SqT K H2 p xs → Q (.ref p) H2) → te σ H1 Q
def intB (m : Int) (v : V) : Prop := ∃ z, v = .int z ∧ 0 ≤ z ∧ z < m
section
variable {K : PySem.W.Frag} {σ : L2.St} {H H' : Hp} {ta tb te tl : TE} {t : TT} {x y z v : V} {r : R2} {p p1 p2 : V → Prop} {D : Ends} {tu tz : TS} {g : TG}
theorem evp_of (h : Ev te σ H v) (hp : p v) : EvP te σ H p := fun H1 e Q q => h H1 e _ fun H2 e2 => q v H2 e2 hp
theorem evp_imp (h : EvP te σ H p1) (i : ∀ v, p1 v → p v) : EvP te σ H p := fun H1 e Q q => h H1 e _ fun v H2 e2 hp => q v H2 e2 (i v hp)
theorem evp_taken {rr : Addr} {M : Int} (hr : Ev ta σ H (.ref rr)) (hm : EvP tb σ H fun v => ∃ m, v = .int m ∧ 0 < m ∧ m ≤ M) (hM : M < 1073741824) (hrow : RowAt K H rr) : EvP (tCall (spTaken K) [] E0 (tCons ta (tCons tb tNil))) σ H (intB M) := fun H1 e Q q =>
  hr H1 e _ fun H2 e2 => hm H2 (e.trans e2) _ fun v H3 e3 hv => by
    obtain ⟨m, rfl, h0, h1⟩ := hv
    exact ⟨rr, m, rfl, h0, by omega, hrow.ex ((e.trans e2).trans e3), fun z z0 z1 H4 e4 => q _ H4 ((e2.trans e3).trans e4) ⟨z, rfl, z0, by omega⟩⟩
theorem evp_takenC {rr : Addr} {m : Int} (hr : Ev ta σ H (.ref rr)) (hm : Ev tb σ H (.int m)) (h0 : 0 < m ∧ m < 1073741824) (hrow : RowAt K H rr) : EvP (tCall (spTaken K) [] E0 (tCons ta (tCons tb tNil))) σ H (intB m) :=
  evp_taken hr (evp_of hm ⟨m, rfl, h0.1, Int.le_refl m⟩) h0.2 hrow
theorem evp_op1 (ha : Ev ta σ H x) (hb : EvP tb σ H p2) (hr : ∀ y, p2 y → ∀ H1, Ex H H1 → ∃ z, RV r x y H1 z ∧ p z) : EvP (tOp r ta tb) σ H p := fun H1 e Q q =>
  ha H1 e _ fun H2 e2 => hb H2 (e.trans e2) _ fun y H3 e3 hy => by
    obtain ⟨z, hz, pz⟩ := hr y hy H3 ((e.trans e2).trans e3)
    exact hz H3 (Ex.refl H3) Q fun H4 e4 => q z H4 ((e2.trans e3).trans e4) pz
theorem evp_opL {xs : List V} (ha : EvL ta σ H xs) (hb : EvP tb σ H p2) (hr : ∀ a y, p2 y → ∀ H1, H1 a = some (.lst xs) → ∃ z, RV r (.ref a) y H1 z ∧ p z) : EvP (tOp r ta tb) σ H p := fun H1 e Q q =>
  ha H1 e _ fun a H2 _ e2 h2 => hb H2 (e.trans e2) _ fun y H3 e3 hy => by
    obtain ⟨z, hz, pz⟩ := hr a y hy H3 (e3 _ _ h2)
    exact hz H3 (Ex.refl H3) Q fun H4 e4 => q z H4 ((e2.trans e3).trans e4) pz
theorem evp_cb2 {rc : List V → Hp → VK → Prop} (ha : EvP ta σ H p1) (hb : Ev tb σ H y) (hr : ∀ x, p1 x → ∀ H1, Ex H H1 → ∃ z, RC rc [x, y] H1 z ∧ p z) : EvP (tCB rc (tCons ta (tCons tb tNil))) σ H p := fun H1 e Q q =>
  ha H1 e _ fun x H2 e2 hx => hb H2 (e.trans e2) _ fun H3 e3 => by
    obtain ⟨z, hz, pz⟩ := hr x hx H3 ((e.trans e2).trans e3)
    exact hz H3 (Ex.refl H3) Q fun H4 e4 => q z H4 ((e2.trans e3).trans e4) pz
theorem q_asgP {i : Nat} (h : EvP te σ H p) (k : ∀ v H1, p v → Ex H H1 → tz D (σ.set i (some v)) H1) : tSeq (tAsg te (gName i)) tz D σ H := h H (Ex.refl H) _ fun v H1 e hp => k v H1 hp e
theorem q_asgUP {i : Nat} {P : List V → Prop} (h : EvUP te σ H P) (k : ∀ xs a H1, P xs → H a = none → Ex H H1 → H1 a = some (.tup xs) → tz D (σ.set i (some (.ref a))) H1) : tSeq (tAsg te (gName i)) tz D σ H := h H (Ex.refl H) _ fun xs a H1 hP ha e h1 => k xs a H1 hP ha e h1
theorem q_asgS {i : Nat} {xs : List V} (h : EvS K te σ H xs) (k : ∀ a H1, Ex H H1 → SqT K H1 a xs → tz D (σ.set i (some (.ref a))) H1) : tSeq (tAsg te (gName i)) tz D σ H := h H (Ex.refl H) _ k
/-- [draw for i in range(n)] -/
theorem lp_range {ta : TA} {j : Nat} {vs : List Nat} {n : Int} (h : EvA ta σ H [.int n]) (hn : 0 ≤ n ∧ n ≤ 40000) (hw : ∀ x, wipe ((wipe σ vs).set j (some x)) vs = wipe σ vs)
    (he : ∀ (i : Nat) H1, Ex H H1 → (i : Int) < n → EvP te ((wipe σ vs).set j (some (.int (i : Int)))) H1 p) : EvLP (tLc (iRng1 ta) (gName j) tYes te vs) σ H (fun xs => xs.length = n.toNat ∧ ∀ x ∈ xs, p x) := fun H0 e Q q => h H0 e _ fun H1 e1 => ⟨n, rfl, by omega, by omega, fun Dl hD =>
  lc_range (lo := 0) (n := n.toNat) (fun i H' => Ex H1 H' ∧ ∃ xs, H' Dl = some (.lst xs) ∧ xs.length = i ∧ ∀ x ∈ xs, p x) ⟨Ex.new hD, [], upd_same, rfl, fun x hx => nomatch hx⟩ (fun i H' hi ⟨e2, xs, hx, hl, hp⟩ => by
    have e0 : (0 : Int) + (i : Int) = (i : Int) := Int.zero_add _
    refine ⟨hw _, tYes_y ?_⟩
    rw [e0]
    refine he i H' ((e.trans e1).trans e2) (by omega) H' (Ex.refl H') _ fun v H3 e3 hv => ⟨xs, e3 _ _ hx, sz_lt (by omega), Ex.mut (e2.trans e3) hD, xs ++ [v], upd_same, by rw [List.length_append, hl]; rfl, fun x hx => ?_⟩
    rcases List.mem_append.mp hx with hx | hx
    · exact hp x hx
    · rw [List.mem_singleton.mp hx]
      exact hv) (fun H' ⟨e2, xs, hx, hl, hp⟩ => q xs Dl H' ⟨hl, hp⟩ (fresh_back e1 hD) (e1.trans e2) hx)⟩
theorem up_tupL {P : List V → Prop} (h : EvLP te σ H P) : EvUP (tCB (rTupOf K) (tCons te tNil)) σ H P := fun H1 e Q q =>
  h H1 e _ fun xs a H2 hP ha e2 h2 => ⟨a, xs, rfl, .inl ⟨sq_of h2, fun l hl => q xs l _ hP (fresh_back e2 hl) (Ex.mut e2 (fresh_back e2 hl)) upd_same⟩⟩
/-! ### tuples on the way -/
theorem evs_U {xs : List V} (h : EvU te σ H xs) : EvS K te σ H xs := fun H1 e Q q => h H1 e _ fun a H2 _ e2 h2 => q a H2 e2 (st_of h2)
theorem evs_V {a : Addr} {xs : List V} (h : Ev te σ H (.ref a)) (hx : SqT K H a xs) : EvS K te σ H xs := fun H1 e Q q => h H1 e _ fun H2 e2 => q a H2 e2 (ex_t (e.trans e2) hx)
theorem evs_cat {xs ys : List V} (ha : EvS K ta σ H xs) (hb : EvS K tb σ H ys) (hne : xs ≠ []) (hz : xs.length + ys.length ≤ 100000) : EvS K (tOp (rCatT K) ta tb) σ H (xs ++ ys) := fun H1 e Q q =>
  ha H1 e _ fun a H2 e2 h2 => hb H2 (e.trans e2) _ fun b H3 e3 h3 => ⟨a, b, xs, ys, rfl, rfl, ex_t e3 h2, h3, hne, sz_of hz, fun hy => q a H3 (e2.trans e3) (by rw [hy, List.append_nil]; exact ex_t e3 h2), fun _ l hl => q l _ ((e2.trans e3).trans (Ex.new hl)) (st_of upd_same)⟩
theorem evs_rep {xs : List V} {k : Int} (ha : EvS K ta σ H xs) (hb : Ev tb σ H (.int k)) (hne : xs ≠ []) (hk : 2 ≤ k ∧ k ≤ 1000) (hz : xs.length ≤ 1000) : EvS K (tOp (rRepT K) ta tb) σ H (List.replicate k.toNat xs).flatten := fun H1 e Q q =>
  ha H1 e _ fun a H2 e2 h2 => hb H2 (e.trans e2) _ fun H3 e3 => ⟨a, k, xs, rfl, rfl, ex_t e3 h2, hne, hk.1, hk.2, hz, fun l hl => q l _ ((e2.trans e3).trans (Ex.new hl)) (st_of upd_same)⟩
theorem evs_sl {tl th : TO} {a : Addr} {xs : List V} {lo hi : Option Int} (h : Ev te σ H (.ref a)) (h1 : EvO tl σ H lo) (h2 : EvO th σ H hi) (hs : SqT K H a xs) (hw : ¬ (HT.sIx xs.length 0 lo = 0 ∧ HT.sIx xs.length xs.length hi = xs.length)) : EvS K (tSl (rSlT K) te tl th) σ H (cutV xs lo hi) := fun H1 e _ q =>
  h H1 e _ fun H2 e2 => h1 H2 (e.trans e2) _ fun H3 e3 => h2 H3 ((e.trans e2).trans e3) _ fun H4 e4 =>
    ⟨a, xs, rfl, ex_t (((e.trans e2).trans e3).trans e4) hs, hw, fun p hp => q p _ (((e2.trans e3).trans e4).trans (Ex.new hp)) (st_of upd_same)⟩
/-- f(t, y), t a tuple made on the way -/
theorem eu_callS {sp : Sp} {xs zs : List V} (ha : EvS K ta σ H xs) (hb : Ev tb σ H y) (hs : ∀ a H1, Ex H H1 → SqT K H1 a xs → SpU sp [.ref a, y] H1 zs) : EvU (tCall sp [] E0 (tCons ta (tCons tb tNil))) σ H zs := fun H1 e Q q =>
  ha H1 e _ fun a H2 e2 h2 => hb H2 (e.trans e2) _ fun H3 e3 => hs a H3 ((e.trans e2).trans e3) (ex_t e3 h2) H3 (Ex.refl H3) Q (fun l H4 hl e4 h4 => q l H4 (fresh_back (e2.trans e3) hl) ((e2.trans e3).trans e4) h4) E0
/-! ### tuples of numbers compared -/
def pdI (xs : List Int) : List PyData := xs.map PyData.int
theorem dp_ints {xs : List Int} : DpAll K H (xs.map V.int) (pdI xs) := by
  induction xs with
  | nil => exact .nil
  | cons x r ih => exact .cons (.int x) ih
theorem eqv_ints : ∀ (xs ys : List Int), PyData.eqvAll (pdI xs) (pdI ys) = decide (xs = ys)
  | [], [] => rfl
  | [], _ :: _ => rfl
  | _ :: _, [] => rfl
  | x :: xs, y :: ys => by
    show (PyData.eqv (.int x) (.int y) && PyData.eqvAll (pdI xs) (pdI ys)) = _
    rw [eqv_ints xs ys]
    show ((x == y) && decide (xs = ys)) = _
    rw [Bool.eq_iff_iff]
    simp
theorem lay_ints : ∀ xs : List Int, PyData.canLayAll0 (pdI xs) = true
  | [] => rfl
  | _ :: r => lay_ints r
theorem depth_ints : ∀ xs : List Int, PyData.depthAll (pdI xs) = 0
  | [] => rfl
  | _ :: r => by
    show max 0 (PyData.depthAll (pdI r)) = 0
    rw [depth_ints r]
    rfl
theorem shaped_t (xs : List Int) : SeqAt.shaped (.tuple (pdI xs)) = true := by
  show (PyData.canLayAll0 (pdI xs) && decide (PyData.depthAll (pdI xs) + 1 ≤ 64)) = true
  rw [lay_ints, depth_ints]
  rfl
theorem shaped_l (xs : List Int) : SeqAt.shaped (.list (pdI xs)) = true := shaped_t xs
theorem ev_eqS {xs ys : List Int} (ha : EvS K ta σ H (xs.map V.int)) (hb : EvS K tb σ H (ys.map V.int)) : Ev (tOp (rEqD K) ta tb) σ H (.bl (decide (xs = ys))) := fun H1 e Q q =>
  ha H1 e _ fun a H2 e2 h2 => hb H2 (e.trans e2) _ fun b H3 e3 h3 => ⟨_, _, .tup (ex_t e3 h2) dp_ints, .tup h3 dp_ints, shaped_t xs, shaped_t ys, by
    show Q (.bl (PyData.eqvAll (pdI xs) (pdI ys))) H3
    rw [eqv_ints]
    exact q H3 (e2.trans e3)⟩
theorem ev_neS {xs ys : List Int} (ha : EvS K ta σ H (xs.map V.int)) (hb : EvS K tb σ H (ys.map V.int)) : Ev (tOp (rNeD K) ta tb) σ H (.bl (!decide (xs = ys))) := fun H1 e Q q =>
  ha H1 e _ fun a H2 e2 h2 => hb H2 (e.trans e2) _ fun b H3 e3 h3 => ⟨_, _, .tup (ex_t e3 h2) dp_ints, .tup h3 dp_ints, shaped_t xs, shaped_t ys, by
    show Q (.bl (!PyData.eqvAll (pdI xs) (pdI ys))) H3
    rw [eqv_ints]
    exact q H3 (e2.trans e3)⟩
/-- [..] == [] -/
theorem ev_eqN {xs : List Int} (ha : EvL ta σ H (xs.map V.int)) (hb : EvL tb σ H []) : Ev (tOp (rEqD K) ta tb) σ H (.bl (decide (xs = []))) := ev_opLL ha hb fun a b H1 h1 h2 _ => fun H2 e2 Q q => ⟨_, _, .lst (ex_l e2 (sq_of h1)) dp_ints, .lst (xs := []) (ex_l e2 (sq_of h2)) .nil, shaped_l xs, shaped_l [], by
    show Q (.bl (PyData.eqvAll (pdI xs) (pdI []))) H2
    rw [eqv_ints]
    exact q H2 (Ex.refl H2)⟩
/-! ### isinstance of two classes -/
theorem ev_isiT {tcs : TA} {T a b : String} {k : Bool} (h : Ev ta σ H v) (hc : EvA tcs σ H [.ty a, .ty b]) (ty : ∀ H1, Ex H H1 → TyX K H1 v (.type T)) (hk : PySem.W.kitAny K (.type T) [.type a, .type b] = some k) : Ev (tCB (rIsiT K) (tCons ta (tCons (tTup tcs) tNil))) σ H (.bl k) := fun H1 e Q q =>
  h H1 e _ fun H2 e2 => hc H2 (e.trans e2) _ fun H3 e3 => ⟨sz_of (by show 2 ≤ 100000; decide), fun l hl => ⟨v, l, [.ty a, .ty b], .type T, [.type a, .type b], k, rfl, upd_same, .cons (.ty a) (.cons (.ty b) .nil), ty _ (((e.trans e2).trans e3).trans (Ex.new hl)), hk, q _ ((e2.trans e3).trans (Ex.new hl))⟩⟩
/-- for x in (..) laid on the way -/
theorem q_forNT {xs : List V} (h : EvU tl σ H xs) (k : ∀ a H1, H a = none → Ex H H1 → H1 a = some (.tup xs) → tSeq (tFor (iTup K (tC (.ref a))) g tu) tz D σ H1) : tSeq (tFor (iTup K tl) g tu) tz D σ H := h H (Ex.refl H) _ fun a H1 ha e h1 => k a H1 ha e h1
end
theorem hu64 {k : Nat} {A : Around} (hr : Room k A) : A.units + 64 < cLine := by
  have := hr.un
  omega

theorem kit_any2 {K : PySem.W.Frag} {T a b : String} {i j : Bool} (h : kitB T a = some i) (h2 : kitB T b = some j) : PySem.W.kitAny K (.type T) [.type a, .type b] = some (i || j) := by
  refine kitAny_cons (kit_ty h) (fun hi => ?_) fun hi => by rw [hi]; rfl
  rw [hi]
  exact kitAny_cons (kit_ty h2) (fun hj => by rw [hj]; rfl) fun hj => by rw [hj]; rfl
end Sq

/-! products bit by bit; the form of Lagrange, term by term -/
namespace Sq
open PySem PySem.Spec PyProof.Rows L2 Evl
/-! ### bit by bit -/
def lp1 (a b : Int) : Nat → Int
  | 0 => 0
  | j + 1 => if (Builtin.bitAnd (b / 2 ^ j) 1 != 0) = true then Builtin.bitXor (lp1 a b j) (a * 2 ^ j) else lp1 a b j
def lp2s (w : Int) (j : Nat) : Int := if (Builtin.bitAnd (w / 2 ^ j) 1 != 0) = true then Builtin.bitXor w (19 * 2 ^ (j - 4)) else w
theorem lp_eq {a b : Int} (ha : Sym a) (hb : Sym b) : lp2s (lp2s (lp2s (lp1 a b 4) 6) 5) 4 = gmul a b := sym2 (p := fun a b => lp2s (lp2s (lp2s (lp1 a b 4) 6) 5) 4 = gmul a b) (by decide +kernel) ha hb
/-! ### algebra -/
theorem gd1 {a b c : Int} (ha : Sym a) (hb : Sym b) (hc : Sym c) (h : b ≠ 0) : gmul (gdiv a b) (gmul c b) = gmul a c := sym3 (p := fun a b c => b ≠ 0 → gmul (gdiv a b) (gmul c b) = gmul a c) (by decide +kernel) ha hb hc h
theorem gd2 {a b c : Int} (ha : Sym a) (hb : Sym b) (hc : Sym c) (h : b ≠ 0) : gmul (gdiv a b) c = gdiv (gmul c a) b := sym3 (p := fun a b c => b ≠ 0 → gmul (gdiv a b) c = gdiv (gmul c a) b) (by decide +kernel) ha hb hc h
theorem gm_swap {a b c : Int} (ha : Sym a) (hb : Sym b) (hc : Sym c) : gmul (gmul a b) c = gmul (gmul a c) b := by
  rw [gmul_assoc ha hb hc, gmul_comm hb hc, ← gmul_assoc ha hc hb]
theorem gm_add {a b c : Int} (ha : Sym a) (hb : Sym b) (hc : Sym c) : gmul (gadd a b) c = gadd (gmul a c) (gmul b c) := by
  rw [gmul_comm (sym_add ha hb) hc, gmul_add hc ha hb, gmul_comm hc ha, gmul_comm hc hb]
theorem gm_zero {a : Int} (ha : Sym a) : gmul 0 a = 0 := sym1 (p := fun a => gmul 0 a = 0) (by decide +kernel) ha
theorem gm_one {a : Int} (ha : Sym a) : gmul 1 a = a := sym1 (p := fun a => gmul 1 a = a) (by decide +kernel) ha
/-- the product of a's differences, but that of s -/
def dskip (s a : Int) : List Int → Int → Int
  | [], r => r
  | k :: ks, r => dskip s a ks (if k = s then r else gmul r (gadd a k))
theorem dskip_self (a : Int) : ∀ (ks : List Int) (r : Int), dskip a a ks r = dprod a ks r
  | [], _ => rfl
  | k :: ks, r => dskip_self a ks _
theorem dskip_sym {s a : Int} (ha : Sym a) : ∀ {ks : List Int} {r : Int}, (∀ k ∈ ks, Sym k) → Sym r → Sym (dskip s a ks r)
  | [], _, _, hr => hr
  | k :: ks, r, h, hr => by
    have hk := h k List.mem_cons_self
    have hh : ∀ x ∈ ks, Sym x := fun x hx => h x (List.mem_cons_of_mem _ hx)
    show Sym (dskip s a ks (if k = s then r else gmul r (gadd a k)))
    refine dskip_sym ha hh ?_
    split
    · exact hr
    · exact sym_mul hr (sym_add ha hk)
theorem dskip_mul {s a : Int} (ha : Sym a) : ∀ {ks : List Int} {r c : Int}, (∀ k ∈ ks, Sym k) → Sym r → Sym c → dskip s a ks (gmul r c) = gmul (dskip s a ks r) c
  | [], _, _, _, _, _ => rfl
  | k :: ks, r, c, h, hr, hc => by
    have hk := h k List.mem_cons_self
    have hh : ∀ x ∈ ks, Sym x := fun x hx => h x (List.mem_cons_of_mem _ hx)
    show dskip s a ks (if k = s then gmul r c else gmul (gmul r c) (gadd a k)) = gmul (dskip s a ks (if k = s then r else gmul r (gadd a k))) c
    split
    · exact dskip_mul ha hh hr hc
    · rw [gm_swap hr hc (sym_add ha hk)]
      exact dskip_mul ha hh (sym_mul hr (sym_add ha hk)) hc
theorem dskip_out {s a : Int} : ∀ {ks : List Int} {r : Int}, s ∉ ks → a ∉ ks → dskip s a ks r = dprod a ks r
  | [], _, _, _ => rfl
  | k :: ks, r, h1, h2 => by
    rw [List.mem_cons, not_or] at h1 h2
    show dskip s a ks (if k = s then r else gmul r (gadd a k)) = dprod a ks (if k = a then r else gmul r (gadd a k))
    rw [if_neg (fun z => h1.1 z.symm), if_neg (fun z => h2.1 z.symm)]
    exact dskip_out h1.2 h2.2
theorem dprod_mul {a : Int} (ha : Sym a) {ks : List Int} {r c : Int} (h : ∀ k ∈ ks, Sym k) (hr : Sym r) (hc : Sym c) : dprod a ks (gmul r c) = gmul (dprod a ks r) c := by
  rw [← dskip_self, ← dskip_self]
  exact dskip_mul ha h hr hc
/-- the whole product is that without one, times that one -/
theorem dprod_skip {s a : Int} (ha : Sym a) : ∀ {ks : List Int} {r : Int}, (∀ k ∈ ks, Sym k) → ks.Nodup → s ∈ ks → a ∉ ks → Sym r → dprod a ks r = gmul (dskip s a ks r) (gadd a s)
  | [], _, _, _, h, _, _ => nomatch h
  | k :: ks, r, h, hn, hs, hna, hr => by
    have hk := h k List.mem_cons_self
    have hh : ∀ x ∈ ks, Sym x := fun x hx => h x (List.mem_cons_of_mem _ hx)
    rw [List.nodup_cons] at hn
    rw [List.mem_cons, not_or] at hna
    show dprod a ks (if k = a then r else gmul r (gadd a k)) = gmul (dskip s a ks (if k = s then r else gmul r (gadd a k))) (gadd a s)
    rw [if_neg (fun z => hna.1 z.symm)]
    by_cases e : k = s
    · subst e
      rw [if_pos rfl, dprod_mul ha hh hr (sym_add ha hk), dskip_out hn.1 hna.2]
    · rw [if_neg e]
      refine dprod_skip ha hh hn.2 ?_ hna.2 (sym_mul hr (sym_add ha hk))
      rcases List.mem_cons.mp hs with z | z
      · exact absurd z.symm e
      · exact z
/-- the law's own form -/
def ltail (a : Int) (ks : List Int) : Pts → Int → Int
  | [], t => t
  | (k, v) :: r, t => ltail a ks r (gadd t (gdiv (dskip k a ks v) (dprod k ks 1)))
theorem lterm {a k v : Int} {ks : List Int} (ha : Sym a) (hs : ∀ k ∈ ks, Sym k) (hn : ks.Nodup) (hk : k ∈ ks) (hv : Sym v) (hna : a ∉ ks) :
    gmul (gdiv (gdiv v (dprod k ks 1)) (gadd a k)) (dprod a ks 1) = gdiv (dskip k a ks v) (dprod k ks 1) := by
  have hsk := hs k hk
  have hS : Sym (dskip k a ks 1) := dskip_sym ha hs sym_1
  have hD := dprod_sym hsk hs sym_1
  have hD0 := dprod_ne hsk hs sym_1 (by decide)
  have hka : k ≠ a := fun z => hna (z ▸ hk)
  rw [dprod_skip (s := k) ha hs hn hk hna sym_1, gd1 (sym_div hv hD) (sym_add ha hsk) hS (gadd_ne ha hsk hka), gd2 hv hD hS hD0, ← dskip_mul ha hs sym_1 hv, gm_one hv]
theorem lsum_tail {a : Int} {ks : List Int} (ha : Sym a) (hs : ∀ k ∈ ks, Sym k) (hn : ks.Nodup) (hna : a ∉ ks) : ∀ {qs : Pts} {t : Int}, (∀ p ∈ qs, p.1 ∈ ks ∧ Sym p.2) → Sym t →
    gmul (lsum a (qs.map fun p => (p.1, gdiv p.2 (dprod p.1 ks 1))) t) (dprod a ks 1) = ltail a ks qs (gmul t (dprod a ks 1))
  | [], _, _, _ => rfl
  | (k, v) :: r, t, h, ht => by
    have hp := h (k, v) List.mem_cons_self
    have hh : ∀ p ∈ r, p.1 ∈ ks ∧ Sym p.2 := fun x hx => h x (List.mem_cons_of_mem _ hx)
    have hw := sym_div hp.2 (dprod_sym (hs k hp.1) hs sym_1)
    have hg := sym_div hw (sym_add ha (hs k hp.1))
    show gmul (lsum a (r.map fun p => (p.1, gdiv p.2 (dprod p.1 ks 1))) (gadd t (gdiv (gdiv v (dprod k ks 1)) (gadd a k)))) (dprod a ks 1) = ltail a ks r (gadd (gmul t (dprod a ks 1)) (gdiv (dskip k a ks v) (dprod k ks 1)))
    rw [lsum_tail ha hs hn hna hh (sym_add ht hg), gm_add ht hg (dprod_sym ha hs sym_1), lterm ha hs hn hp.1 hp.2 hna]
theorem lagr_tail {ps : Pts} {a : Int} (ok : PtsOk ps) (ha : Sym a) (hna : a ∉ ksV ps) : lagr ps a = ltail a (ksV ps) ps 0 := by
  have hn : ps.lookup a = none := by
    cases z : ps.lookup a with
    | none => rfl
    | some v => exact absurd (List.mem_map.mpr ⟨_, lookup_mem z, rfl⟩) hna
  have z : lagr ps a = gmul (lsum a (wts ps) 0) (dprod a (ksV ps) 1) := by
    unfold lagr
    rw [hn]
  have y := lsum_tail ha ok.ks ok.2.1 hna (qs := ps) (t := 0) (fun p hp => ⟨List.mem_map.mpr ⟨p, hp, rfl⟩, (ok.1 p hp).2⟩) sym_0
  rw [gm_zero (dprod_sym ha ok.ks sym_1)] at y
  exact z.trans y
theorem ltail_sym {a : Int} {ks : List Int} (ha : Sym a) (hs : ∀ k ∈ ks, Sym k) : ∀ {qs : Pts} {t : Int}, (∀ p ∈ qs, Sym p.1 ∧ Sym p.2) → Sym t → Sym (ltail a ks qs t)
  | [], _, _, ht => ht
  | (k, v) :: r, t, h, ht => by
    have hp := h (k, v) List.mem_cons_self
    have hh : ∀ p ∈ r, Sym p.1 ∧ Sym p.2 := fun x hx => h x (List.mem_cons_of_mem _ hx)
    exact ltail_sym (qs := r) ha hs hh (sym_add ht (sym_div (dskip_sym ha hs hp.2) (dprod_sym hp.1 hs sym_1)))
theorem ltail_take {a : Int} {ks : List Int} : ∀ {qs : Pts} {i : Nat} {k v t : Int}, qs[i]? = some (k, v) → ltail a ks (qs.take (i + 1)) t = gadd (ltail a ks (qs.take i) t) (gdiv (dskip k a ks v) (dprod k ks 1))
  | [], _, _, _, _, h => by cases h
  | (x, y) :: ps, 0, k, w, t, h => by
    cases h
    rfl
  | (x, y) :: ps, i + 1, k, w, t, h => by
    have h' : ps[i]? = some (k, w) := h
    exact ltail_take (qs := ps) h'
theorem dskip_take {s a : Int} : ∀ {ks : List Int} {i : Nat} {k r : Int}, ks[i]? = some k → dskip s a (ks.take (i + 1)) r = (if k = s then dskip s a (ks.take i) r else gmul (dskip s a (ks.take i) r) (gadd a k))
  | [], _, _, _, h => by cases h
  | x :: ks, 0, k, r, h => by
    cases h
    rfl
  | x :: ks, i + 1, k, r, h => by
    have h' : ks[i]? = some k := h
    exact dskip_take (ks := ks) h'
/-- the one symbol whose product with b is t -/
theorem root_one {t b : Int} (ht : Sym t) (hb : Sym b) (h0 : b ≠ 0) : (List.range 16).filter (fun (m : Nat) => decide (gmul (m : Int) b = t)) = [(gdiv t b).toNat] := sym2 (p := fun t b => b ≠ 0 → (List.range 16).filter (fun (m : Nat) => decide (gmul ((m : Nat) : Int) b = t)) = [(gdiv t b).toNat]) (by decide +kernel) ht hb h0
theorem root_given {t b : Int} (ht : Sym t) (hb : Sym b) (h0 : b ≠ 0) : given 16 (fun m => decide (gmul (m : Int) b = t)) (fun m => V.int (m : Int)) = [.int (gdiv t b)] := by
  unfold given
  rw [root_one ht hb h0]
  have := (sym_div ht hb).1
  show [V.int ((gdiv t b).toNat : Int)] = _
  rw [Int.toNat_of_nonneg this]
/-! ### numbered points -/
theorem enumP_get : ∀ (j : Nat) (ds : List Int) (i : Nat), (enumP j ds)[i]? = (ds[i]?).map fun x => (((j + i : Nat) : Int), x)
  | _, [], i => by simp [enumP]
  | j, x :: r, 0 => by simp [enumP]
  | j, x :: r, i + 1 => by
    have e : j + (i + 1) = j + 1 + i := by omega
    rw [e]
    simpa [enumP] using enumP_get (j + 1) r i
theorem ksV_get {ds : List Int} {i : Nat} (h : i < ds.length) : (ksV (enumP 0 ds))[i]? = some (i : Int) := by
  unfold ksV
  rw [List.getElem?_map, enumP_get, List.getElem?_eq_getElem h]
  simp
theorem ksV_len (ds : List Int) : (ksV (enumP 0 ds)).length = ds.length := by
  unfold ksV
  rw [List.length_map, enumP_len]
theorem ksV_not {ds : List Int} {a : Int} (h : (ds.length : Int) ≤ a) : a ∉ ksV (enumP 0 ds) := fun z => by
  obtain ⟨p, hp, e⟩ := List.mem_map.mp z
  have := enumP_mem 0 hp
  omega
theorem lagr_at {ds : List Int} {i : Nat} {x : Int} (h : ds[i]? = some x) : lagr (enumP 0 ds) (i : Int) = x := by
  have e : (enumP 0 ds)[i]? = some ((i : Int), x) := by
    rw [enumP_get, h]
    simp
  have z := lookup_of (enumP_nd 0 ds) e
  unfold lagr
  rw [z]
theorem block_take {ds : List Int} {n : Nat} (h : ds.length ≤ n) : blockOf ds n = ds ++ (List.range (n - ds.length)).map fun i => lagr (enumP 0 ds) ((ds.length + i : Nat) : Int) := by
  refine List.ext_getElem? fun i => ?_
  unfold blockOf lagrs
  rw [List.getElem?_map]
  by_cases hi : i < ds.length
  · rw [List.getElem?_append_left hi, List.getElem?_eq_getElem hi, List.getElem?_range (by omega)]
    exact congrArg some (lagr_at (List.getElem?_eq_getElem hi))
  · rw [List.getElem?_append_right (by omega), List.getElem?_map]
    by_cases hn : i < n
    · rw [List.getElem?_range hn, List.getElem?_range (by omega)]
      refine congrArg some ?_
      show lagr (enumP 0 ds) (i : Int) = lagr (enumP 0 ds) ((ds.length + (i - ds.length) : Nat) : Int)
      rw [show ds.length + (i - ds.length) = i from by omega]
    · rw [List.getElem?_eq_none (by rw [List.length_range]; omega), List.getElem?_eq_none (by rw [List.length_range]; omega)]
      rfl
theorem block_self (ds : List Int) : blockOf ds ds.length = ds := by
  rw [block_take (Nat.le_refl _), Nat.sub_self]
  exact List.append_nil _
theorem block_one {x : Int} (hx : Sym x) : blockOf [x] 16 = List.replicate 16 x := sym1 (p := fun x => blockOf [x] 16 = List.replicate 16 x) (by decide +kernel) hx
theorem block_syms {ds : List Int} (h : ∀ x ∈ ds, Sym x) (hl : ds.length ≤ 16) {n : Nat} (hn : n ≤ 16) : ∀ x ∈ blockOf ds n, Sym x := fun x hx => by
  obtain ⟨i, hi, rfl⟩ := List.mem_map.mp hx
  rw [List.mem_range] at hi
  exact lagr_sym (enumP_ok h hl) ⟨by omega, by omega⟩
theorem block_len (ds : List Int) (n : Nat) : (blockOf ds n).length = n := by
  unfold blockOf lagrs
  rw [List.length_map, List.length_range]
end Sq

/-! promises of the laws' own defs about blocks -/
namespace Sq
open PySem PySem.Spec PyProof.Rows L2 Evl
def RetS (K : PySem.W.Frag) (xs : List V) (H : Hp) (Q : VK) : Prop := ∀ p H2, Ex H H2 → SqT K H2 p xs → Q (.ref p) H2
def SpS (K : PySem.W.Frag) (sp : Sp) (vs : List V) (H : Hp) (xs : List V) : Prop := ∀ H1, Ex H H1 → ∀ Q : VK, RetS K xs H1 Q → ∀ E : XK, sp vs H1 Q E
def spAt (K : PySem.W.Frag) : Sp := fun vs H Q _ => ∃ (m p : Addr) (a : Int) (ds : List Int), vs = [.ref m, .ref p, .int a] ∧ SqT K H m (ds.map V.int) ∧ SqL K H p (rgV 0 (ds.length : Int)) ∧ (∀ x ∈ ds, Sym x) ∧ (ds.length : Int) ≤ a ∧ a ≤ 15 ∧ RetV (.int (lagr (enumP 0 ds) a)) H Q
def spBlock (K : PySem.W.Frag) : Sp := fun vs H Q _ => ∃ (t : Addr) (ds : List Int) (c : Int), vs = [.ref t, .int c] ∧ SqT K H t (ds.map V.int) ∧ DataOk ds c ∧ RetS K ((blockOf ds (ds.length + c.toNat)).map V.int) H Q
def spAlike0 : Sp := fun vs H Q _ => ∃ i : Int, vs = [.int i, .int i] ∧ RetV (.bl true) H Q
def spAlike1 (K : PySem.W.Frag) : Sp := fun vs H Q _ => ∃ (p q : Addr) (xs : List Int), vs = [.ref p, .ref q] ∧ SqT K H p (xs.map V.int) ∧ SqT K H q (xs.map V.int) ∧ xs.length ≤ 1000 ∧ RetV (.bl true) H Q
def spData (K : PySem.W.Frag) : Sp := fun vs H Q _ => ∃ (r : Addr) (m : Int), vs = [.ref r, .int m] ∧ 1 ≤ m ∧ m ≤ 14 ∧ RowAt K H r ∧ ∀ ds c p t H', DataOk ds c → (ds.length : Int) ≤ m → Ex H H' → H' t = some (.tup (ds.map V.int)) → H' p = some (.tup [.ref t, .int c]) → Q (.ref p) H'
section
variable {K : PySem.W.Frag} {σ : L2.St} {H H' : Hp} {ta tb te : TE} {y z v : V} {D : Ends} {tz : TS} {g : TG} {i j : Nat} {tA : TA}
theorem spv_at {m p : Addr} {a : Int} {ds : List Int} (hm : SqT K H m (ds.map V.int)) (hp : SqL K H p (rgV 0 (ds.length : Int))) (hs : ∀ x ∈ ds, Sym x) (h0 : (ds.length : Int) ≤ a) (h1 : a ≤ 15) : SpV (spAt K) [.ref m, .ref p, .int a] H (.int (lagr (enumP 0 ds) a)) := fun H1 e _ q _ => ⟨m, p, a, ds, rfl, ex_t e hm, ex_l e hp, hs, h0, h1, q⟩
theorem sps_block {t : Addr} {ds : List Int} {c : Int} (ht : SqT K H t (ds.map V.int)) (ok : DataOk ds c) : SpS K (spBlock K) [.ref t, .int c] H ((blockOf ds (ds.length + c.toNat)).map V.int) := fun H1 e _ q _ => ⟨t, ds, c, rfl, ex_t e ht, ok, q⟩
theorem spv_alike0 {i : Int} : SpV spAlike0 [.int i, .int i] H (.bl true) := fun H1 _ _ q _ => ⟨i, rfl, q⟩
theorem spv_alike1 {p q : Addr} {xs : List Int} (hp : SqT K H p (xs.map V.int)) (hq : SqT K H q (xs.map V.int)) (hl : xs.length ≤ 1000) : SpV (spAlike1 K) [.ref p, .ref q] H (.bl true) := fun H1 e _ k _ => ⟨p, q, xs, rfl, ex_t e hp, ex_t e hq, hl, k⟩
theorem evs_callD {sp : Sp} {vs xs : List V} (h : EvA tA σ H vs) (hs : SpS K sp vs H xs) : EvS K (tCall sp [] E0 tA) σ H xs := fun H1 e Q q =>
  h H1 e _ fun H2 e2 => by
    show sp (vs ++ []) H2 Q E0
    rw [List.append_nil]
    exact hs H2 (e.trans e2) Q (fun p H3 e3 h3 => q p H3 (e2.trans e3) h3) E0
/-- f(t, y), t a tuple made on the way -/
theorem ev_callS {sp : Sp} {xs : List V} (ha : EvS K ta σ H xs) (hb : Ev tb σ H y) (hs : ∀ a H1, Ex H H1 → SqT K H1 a xs → SpV sp [.ref a, y] H1 z) : Ev (tCall sp [] E0 (tCons ta (tCons tb tNil))) σ H z := fun H1 e Q q =>
  ha H1 e _ fun a H2 e2 h2 => hb H2 (e.trans e2) _ fun H3 e3 => hs a H3 ((e.trans e2).trans e3) (ex_t e3 h2) H3 (Ex.refl H3) Q (fun H4 e4 => q H4 ((e2.trans e3).trans e4)) E0
theorem s_retS {xs : List V} (h : EvS K te σ H xs) (k : ∀ p H1, Ex H H1 → SqT K H1 p xs → D.rt (.ref p) H1) : tRet te D σ H := h H (Ex.refl H) _ k
theorem q_asgG (h : te σ H fun v H1 => g v σ H1 fun σ2 H2 => tz D σ2 H2) : tSeq (tAsg te g) tz D σ H := h
theorem s_par2R (h : tA σ H fun vs H1 => ∃ u v, vs = [u, v] ∧ D.nx ((σ.set i (some u)).set j (some v)) H1) : tPar i j tA D σ H := h
theorem el_listRg {n : Int} (h : Ev ta σ H (.int n)) (hn : 0 ≤ n ∧ n ≤ 100000) : EvL (tLstRg (tRg1 ta)) σ H (rgV 0 n) := fun H1 e Q q => h H1 e _ fun H2 e2 => ⟨n, rfl, RgOk.of_le (by omega) (by omega) (by omega) (by omega), fun l hl => q l _ (fresh_back e2 hl) (Ex.mut e2 (fresh_back e2 hl)) upd_same⟩
theorem rc_min2 {i j : Int} : RC (fun xs H Q => ∃ i j, xs = [.int i, .int j] ∧ Q (.int (if j < i then j else i)) H) [.int i, .int j] H (.int (if j < i then j else i)) := fun H1 _ _ q => ⟨i, j, rfl, q H1 (Ex.refl H1)⟩
end
theorem g_name {i : Nat} {v : V} {σ : L2.St} {H : Hp} {Q : L2.St → Hp → Prop} (h : Q (σ.set i (some v)) H) : gName i v σ H Q := h
theorem rg_at {n j : Nat} (h : j < n) : atI (rgV 0 (n : Int)) (j : Int) = some (.int (j : Int)) := by
  refine atI_nat ?_
  unfold rgV
  rw [List.getElem?_map, List.getElem?_range (by omega)]
  show some (V.int (0 + (j : Int))) = _
  rw [Int.zero_add]
theorem ints_of {m : Int} : ∀ {xs : List V}, (∀ x ∈ xs, intB m x) → ∃ ds : List Int, xs = ds.map V.int ∧ ∀ d ∈ ds, 0 ≤ d ∧ d < m
  | [], _ => ⟨[], rfl, fun d h => nomatch h⟩
  | x :: r, h => by
    obtain ⟨z, rfl, z0, z1⟩ := h x List.mem_cons_self
    obtain ⟨ds, rfl, hd⟩ := ints_of fun y hy => h y (List.mem_cons_of_mem _ hy)
    refine ⟨z :: ds, rfl, fun d h => ?_⟩
    rcases List.mem_cons.mp h with rfl | h
    · exact ⟨z0, z1⟩
    · exact hd d h
def lpw (a b : Int) : Nat → Int
  | 0 => lp1 a b 4
  | i + 1 => lp2s (lpw a b i) (6 - i)
theorem lpw_eq {a b : Int} (ha : Sym a) (hb : Sym b) : lpw a b 3 = gmul a b := lp_eq ha hb
theorem map_at {xs : List Int} {k : Nat} {x : Int} (h : xs[k]? = some x) : atI (xs.map V.int) (k : Int) = some (.int x) := atI_nat (dn_seq xs k x h)
end Sq
namespace Sq
open PySem PySem.Spec PyProof.Rows L2 Evl
section
variable {K : PySem.W.Frag} {σ : L2.St} {H : Hp} {ta : TA} {u v : V} {D : Ends} {tz : TS} {i j : Nat}
theorem s_asgPair (h : EvA ta σ H [u, v]) (k : ∀ H1, Ex H H1 → D.nx ((σ.set i (some u)).set j (some v)) H1) : tAsg (tTup ta) (gTup K 2 (gCons (gName i) (gCons (gName j) gNil))) D σ H :=
  h H (Ex.refl H) _ fun H1 e1 => ⟨by show 2 ≤ sizeLine; decide, fun p hp => ⟨p, [u, v], rfl, st_of upd_same, rfl, u, [v], rfl, v, [], rfl, rfl, k _ (e1.trans (Ex.new hp))⟩⟩
theorem q_asgPair (h : EvA ta σ H [u, v]) (k : ∀ H1, Ex H H1 → tz D ((σ.set i (some u)).set j (some v)) H1) : tSeq (tAsg (tTup ta) (gTup K 2 (gCons (gName i) (gCons (gName j) gNil)))) tz D σ H := s_asgPair (D := { D with nx := tz D }) h k
end
end Sq
namespace Sq
open PySem PySem.Spec PyProof.Rows L2 Evl
theorem s_retPair {σ : L2.St} {H : Hp} {te tb : TE} {y : V} {D : Ends} {P : List V → Prop} (h : EvUP te σ H P) (hb : Ev tb σ H y) (k : ∀ xs t p H1, P xs → Ex H H1 → H1 t = some (.tup xs) → H1 p = some (.tup [.ref t, y]) → D.rt (.ref p) H1) : tRet (tTup (tCons te (tCons tb tNil))) D σ H :=
  h H (Ex.refl H) _ fun xs t H1 hP ht e1 h1 => hb H1 e1 _ fun H2 e2 => ⟨by show 2 ≤ sizeLine; decide, fun p hp => k xs t p _ hP ((e1.trans e2).trans (Ex.new hp)) ((Ex.new hp) _ _ (e2 _ _ h1)) upd_same⟩
end Sq

namespace Qk02
open PySem PySem.Spec PyProof.Rows L2 Evl Sq
local macro_rules | `(tactic| walk_at "sq_cell") => `(tactic| first | exact Or.inl rfl | exact Or.inr rfl | exact Or.inr (Or.inl rfl) | exact Or.inr (Or.inr rfl))
local macro_rules | `(tactic| walk_at "sq_sym") => `(tactic| first | assumption | ((with_reducible apply sym_add) <;> walk_at "sq_sym") | ((with_reducible apply sym_mul) <;> walk_at "sq_sym") | ((with_reducible apply sym_div) <;> walk_at "sq_sym") | (show Sym _; decide) | (constructor <;> omega))
local macro_rules | `(tactic| walk_at "sq_c") => `(tactic| first | assumption | decide | omega | (show CDivN _ _; exact ⟨by omega, by omega⟩) | (show CPow _ _; exact ⟨by decide, by decide, by decide⟩) | (show CMul _ _; first | (exact .inl ⟨by omega, by omega⟩) | (exact .inr ⟨by omega, by omega⟩)))
local macro_rules | `(tactic| walk_at "sq_rv") => `(tactic| first
  | (with_reducible exact rv_I0)
  | ((with_reducible apply rv_ne); rfl)
  | ((with_reducible apply rv_eq); rfl)
  | (with_reducible exact ru_neg)
  | ((with_reducible apply rv_ixT); (assumption); first | assumption | rfl)
  | ((with_reducible apply rv_ixL); (assumption); first | assumption | rfl)
  | ((with_reducible apply rv_I); walk_at "sq_c"))
local macro_rules | `(tactic| walk_at "sq_spv") => `(tactic| first
  | assumption
  | ((with_reducible apply spv_I2); (first | (show Sym2 _ _; constructor <;> walk_at "sq_sym") | (show SymD _ _; refine ⟨?_, ?_, ?_⟩; (walk_at "sq_sym"); (walk_at "sq_sym"); (first | assumption | decide))))
  | ((with_reducible apply spv_req2) <;> walk_at "sq_sym")
  | ((with_reducible apply spv_sym); first | assumption | exact kd_int)
  | ((with_reducible apply spv_num); first | assumption | exact kd_int))
local macro_rules | `(tactic| walk_at "sq_ea") => `(tactic| first | (with_reducible exact ea_nil) | ((with_reducible apply ea_cons); (walk_at "sq_ev"); (walk_at "sq_ea")))
local macro_rules | `(tactic| walk_at "sq_rc") => `(tactic| first | exact rc_int | exact rc_intB)
local macro_rules | `(tactic| walk_at "sq_ev") => `(tactic| first
  | (with_reducible exact ev_c)
  | ((with_reducible apply ev_var); rfl)
  | ((with_reducible apply ev_op); (walk_at "sq_ev"); (walk_at "sq_ev"); (walk_at "sq_rv"))
  | ((with_reducible apply ev_callD); (walk_at "sq_ea"); (walk_at "sq_spv"))
  | ((with_reducible apply ev_cb); (walk_at "sq_ea"); (walk_at "sq_rc"))
  | ((with_reducible apply ev_iteI); (walk_at "sq_et"); (intro _; (walk_at "sq_ev")); (intro _; (walk_at "sq_ev")))
  | ((with_reducible apply ev_andV); (walk_at "sq_ev"); (intro _; (walk_at "sq_ev")))
  | ((with_reducible apply ev_orV); (walk_at "sq_ev"); (intro _; (walk_at "sq_ev")))
  | ((with_reducible apply ev_notV); (walk_at "sq_ev"))
  | ((with_reducible apply ev_chain); (walk_at "sq_ev"); (walk_at "sq_ev"); (walk_at "sq_rv"); (intro _; (walk_at "sq_ev")); (intro _; (walk_at "sq_rv"))))
local macro_rules | `(tactic| walk_at "sq_et") => `(tactic| first
  | ((with_reducible apply et_test); (walk_at "sq_ev"))
  | ((with_reducible apply et_B); (walk_at "sq_ev"))
  | ((with_reducible apply et_or); (walk_at "sq_et"); (intro _; (walk_at "sq_et")))
  | ((with_reducible apply et_and); (walk_at "sq_et"); (intro _; (walk_at "sq_et")))
  | ((with_reducible apply et_not); (walk_at "sq_et")))

def topS (i : Nat) : Stmt := PySem.Challenge.pw_squaremark_k02_check_symbols.main.body.getD i (.Pass ⟨0, 0, 0, 0⟩)
abbrev s_is_number : Stmt := topS 6
theorem sc_is_number : FnScope ["value"] ["value"] (defScope s_is_number) := ⟨rfl, rfl, rfl, by decide +kernel, rfl, by decide +kernel, by decide +kernel⟩
abbrev s_is_symbol : Stmt := topS 7
theorem sc_is_symbol : FnScope ["value"] ["value"] (defScope s_is_symbol) := ⟨rfl, rfl, rfl, by decide +kernel, rfl, by decide +kernel, by decide +kernel⟩
abbrev s_times : Stmt := topS 8
theorem sc_times : FnScope ["left", "right"] ["left", "right"] (defScope s_times) := ⟨rfl, rfl, rfl, by decide +kernel, rfl, by decide +kernel, by decide +kernel⟩
abbrev s_over : Stmt := topS 9
theorem sc_over : FnScope ["left", "right"] ["left", "right"] (defScope s_over) := ⟨rfl, rfl, rfl, by decide +kernel, rfl, by decide +kernel, by decide +kernel⟩
abbrev s_encode_block : Stmt := topS 12
theorem sc_encode_block : FnScope ["data", "check_count", "points"] ["data", "check_count"] (defScope s_encode_block) := ⟨rfl, rfl, rfl, by decide +kernel, rfl, by decide +kernel, by decide +kernel⟩
abbrev s__require_data : Stmt := topS 13
theorem sc__require_data : FnScope ["data", "check_count"] ["data", "check_count"] (defScope s__require_data) := ⟨rfl, rfl, rfl, by decide +kernel, rfl, by decide +kernel, by decide +kernel⟩
abbrev s__values : Stmt := topS 14
theorem sc__values : FnScope ["points", "length", "weights", "at"] ["points", "length"] (defScope s__values) := ⟨rfl, rfl, rfl, by decide +kernel, rfl, by decide +kernel, by decide +kernel⟩
abbrev s__value : Stmt := topS 15
theorem sc__value : FnScope ["at", "points", "weights", "total", "position"] ["at", "points", "weights"] (defScope s__value) := ⟨rfl, rfl, rfl, by decide +kernel, rfl, by decide +kernel, by decide +kernel⟩
abbrev s__distance_product : Stmt := topS 16
theorem sc__distance_product : FnScope ["at", "points", "result", "position"] ["at", "points"] (defScope s__distance_product) := ⟨rfl, rfl, rfl, by decide +kernel, rfl, by decide +kernel, by decide +kernel⟩
abbrev s__law_taken : Stmt := topS 18
theorem sc__law_taken : FnScope ["_law_row", "_law_many", "_law_found", "_law_cell"] ["_law_row", "_law_many"] (defScope s__law_taken) := ⟨rfl, rfl, rfl, by decide +kernel, rfl, by decide +kernel, by decide +kernel⟩
abbrev s__law_alike : Stmt := topS 19
theorem sc__law_alike : FnScope ["_law_one", "_law_due", "_law_k"] ["_law_one", "_law_due"] (defScope s__law_alike) := ⟨rfl, rfl, rfl, by decide +kernel, rfl, by decide +kernel, by decide +kernel⟩
abbrev s__law_product : Stmt := topS 20
theorem sc__law_product : FnScope ["_law_one", "_law_other", "_law_whole", "_law_bit"] ["_law_one", "_law_other"] (defScope s__law_product) := ⟨rfl, rfl, rfl, by decide +kernel, rfl, by decide +kernel, by decide +kernel⟩
abbrev s__law_at : Stmt := topS 21
theorem sc__law_at : FnScope ["_law_marks", "_law_points", "_law_at_here", "_law_whole", "_law_k", "_law_top", "_law_below", "_law_j", "_law_mark"] ["_law_marks", "_law_points", "_law_at_here"] (defScope s__law_at) := ⟨rfl, rfl, rfl, by decide +kernel, rfl, by decide +kernel, by decide +kernel⟩
abbrev s__law_block : Stmt := topS 22
theorem sc__law_block : FnScope ["_law_data_here", "_law_checks", "_law_points", "_law_k"] ["_law_data_here", "_law_checks"] (defScope s__law_block) := ⟨rfl, rfl, rfl, by decide +kernel, rfl, by decide +kernel, by decide +kernel⟩
abbrev s__law_data : Stmt := topS 23
theorem sc__law_data : FnScope ["_law_row", "_law_most", "_law_k", "_law_checks", "_law_kinds", "_law_turn"] ["_law_row", "_law_most"] (defScope s__law_data) := ⟨rfl, rfl, rfl, by decide +kernel, rfl, by decide +kernel, by decide +kernel⟩
abbrev s_law : Stmt := topS 24
theorem sc_law : FnScope ["_law_script", "_law_row", "_law_turn", "_law_data_here", "_law_checks", "_law_due", "_law_once", "_law_k"] ["_law_script"] (defScope s_law) := ⟨rfl, rfl, rfl, by decide +kernel, rfl, by decide +kernel, by decide +kernel⟩
structure Tx (K : PySem.W.Frag) (mg : Str → Option Value) (base : Heap) (a__POWERS a__EXPONENTS c__require_data p__require_data : Addr) : Prop where
  ok : True
  n_isinstance : mg "isinstance" = none
  n_int : mg "int" = none
  n_bool : mg "bool" = none
  n_dict : mg "dict" = none
  n_tuple : mg "tuple" = none
  n_enumerate : mg "enumerate" = none
  n_len : mg "len" = none
  n_all : mg "all" = none
  n_range : mg "range" = none
  n_list : mg "list" = none
  n_min : mg "min" = none
  g__LONGEST_BLOCK : ∃ t, mg "_LONGEST_BLOCK" = some (.int 16 t)
  g__POWERS : mg "_POWERS" = some (.ref a__POWERS)
  t__POWERS : ∀ H, SqT K H a__POWERS (([1, 2, 4, 8, 3, 6, 12, 11, 5, 10, 7, 14, 15, 13, 9, 1, 2, 4, 8, 3, 6, 12, 11, 5, 10, 7, 14, 15, 13, 9] : List Int).map V.int)
  g__EXPONENTS : mg "_EXPONENTS" = some (.ref a__EXPONENTS)
  t__EXPONENTS : ∀ H, SqT K H a__EXPONENTS (([0, 0, 1, 4, 2, 8, 5, 10, 3, 14, 9, 7, 6, 13, 11, 12] : List Int).map V.int)
  t__require_data : GxR.TabB base mg c__require_data p__require_data
section
variable {P : Program} {w : World} {K : PySem.W.Frag} {mg : Str → Option Value} {base : Heap} {a__POWERS a__EXPONENTS c__require_data p__require_data : Addr}
theorem ok_is_number {f : Addr} {fd : FuncData} (F : Fun K "is_number" "is_number" s_is_number f fd) (T : Tx K mg base a__POWERS a__EXPONENTS c__require_data p__require_data) :
    FnOk P w K mg base CX0 1 f fd ["value"] (spNum K) := by
  refine F.ok sc_is_number (fun vs H Q E h => ?_) (fun cdv A outer s H vs Q E hr h => ?_)
  · obtain ⟨v, rfl, kd, q⟩ := h
    rfl
  · obtain ⟨v, rfl, kd, q⟩ := h
    refine ⟨_, (pss_one (ps_ret (pe_and (pe_callB call_isi (by rfl) T.n_isinstance (by decide +kernel) (pa_cons (pv 0) (pa_cons (pe_bltn (v := .ty "int") (by rfl) T.n_int (by decide +kernel) rfl) pa_nil))) (pe_one (pe_not (pe_callB call_isi (by rfl) T.n_isinstance (by decide +kernel) (pa_cons (pv 0) (pa_cons (pe_bltn (v := .ty "bool") (by rfl) T.n_bool (by decide +kernel) rfl) pa_nil)))))))), ?_⟩

    rcases id kd with rfl | ⟨b, rfl⟩ | ⟨i, rfl⟩ | ⟨x, rfl⟩ | ⟨p, rfl, ⟨xs, hs⟩ | ⟨xs, hs⟩⟩
    · exact s_ret (ev_andV (ev_cb (ea_cons (ev_var rfl) (ea_cons ev_c ea_nil)) (rc_isi (T := "NoneType") (b := false) (fun _ _ => .base .non) (by decide +kernel))) (b := false) fun z => nomatch z) fun H1 e1 => q H1 e1
    · exact s_ret (ev_andV (ev_cb (ea_cons (ev_var rfl) (ea_cons ev_c ea_nil)) (rc_isi (T := "bool") (b := true) (fun _ _ => .base (.bl b)) (by decide +kernel))) fun _ => ev_notV (ev_cb (ea_cons (ev_var rfl) (ea_cons ev_c ea_nil)) (rc_isi (T := "bool") (b := true) (fun _ _ => .base (.bl b)) (by decide +kernel)))) fun H1 e1 => q H1 e1
    · exact s_ret (ev_andV (ev_cb (ea_cons (ev_var rfl) (ea_cons ev_c ea_nil)) (rc_isi (T := "int") (b := true) (fun _ _ => .base (.int i)) (by decide +kernel))) fun _ => ev_notV (ev_cb (ea_cons (ev_var rfl) (ea_cons ev_c ea_nil)) (rc_isi (T := "int") (b := false) (fun _ _ => .base (.int i)) (by decide +kernel)))) fun H1 e1 => q H1 e1
    · exact s_ret (ev_andV (ev_cb (ea_cons (ev_var rfl) (ea_cons ev_c ea_nil)) (rc_isi (T := "str") (b := false) (fun _ _ => .base (.str x)) (by decide +kernel))) (b := false) fun z => nomatch z) fun H1 e1 => q H1 e1
    · exact s_ret (ev_andV (ev_cb (ea_cons (ev_var rfl) (ea_cons ev_c ea_nil)) (rc_isi (T := "tuple") (b := false) (fun _ e => ty_tup (ex_t e hs)) (by decide +kernel))) (b := false) fun z => nomatch z) fun H1 e1 => q H1 e1
    · exact s_ret (ev_andV (ev_cb (ea_cons (ev_var rfl) (ea_cons ev_c ea_nil)) (rc_isi (T := "list") (b := false) (fun _ e => ty_lst (ex_l e hs)) (by decide +kernel))) (b := false) fun z => nomatch z) fun H1 e1 => q H1 e1
theorem raw_is_number {f : Addr} {fd : FuncData} (F : Fun K "is_number" "is_number" s_is_number f fd) (g : mg "is_number" = some (.ref f)) (T : Tx K mg base a__POWERS a__EXPONENTS c__require_data p__require_data) : RawFn1 P w K mg base "is_number" 1 goodNum :=
  rawFn_of (a := "value") F g rfl (fun _ _ _ _ _ _ _ _ => BindsTo.of_eq rfl) (fun _ => rfl) rfl rfl rfl fun D U L cdv y u b hN hg r => by
    obtain ⟨fl, rfl⟩ := hg
    exact raw_num ⟨rfl, rfl, rfl⟩ (by rfl) (by rfl) (by rfl) (by rfl) T.n_isinstance T.n_int T.n_bool (by rfl) (by decide) fl r
theorem ok_is_symbol {f : Addr} {fd : FuncData} (F : Fun K "is_symbol" "is_symbol" s_is_symbol f fd) (T : Tx K mg base a__POWERS a__EXPONENTS c__require_data p__require_data)
    (D_is_number : Dfn P w K mg base 1 "is_number" ["value"] (spNum K)) :
    FnOk P w K mg base CX0 2 f fd ["value"] (spSym K) := by
  refine F.ok sc_is_symbol (fun vs H Q E h => ?_) (fun cdv A outer s H vs Q E hr h => ?_)
  · obtain ⟨v, rfl, kd, q⟩ := h
    rfl
  · obtain ⟨v, rfl, kd, q⟩ := h
    refine ⟨_, (pss_one (ps_ret (pe_and (pe_callD D_is_number hr (by decide) (by rfl) (pa_cons (pv 0) pa_nil)) (pe_one (pe_chain op_le op_le pe_int (pv 0) pe_int))))), ?_⟩

    have hn := spv_num kd
    rcases id kd with rfl | ⟨b, rfl⟩ | ⟨i, rfl⟩ | ⟨x, rfl⟩ | ⟨p, rfl, hs⟩
    · exact s_ret (ev_andV (a := false) (b := false) (ev_callD (ea_cons (ev_var rfl) ea_nil) hn) fun z => nomatch z) fun H1 e1 => q H1 e1
    · exact s_ret (ev_andV (a := false) (b := false) (ev_callD (ea_cons (ev_var rfl) ea_nil) hn) fun z => nomatch z) fun H1 e1 => q H1 e1
    · exact s_ret (ev_andV (a := true) (ev_callD (ea_cons (ev_var rfl) ea_nil) hn) fun _ => ev_chain ev_c (ev_var rfl) rv_I0 (fun _ => ev_c) fun _ => rv_I0) fun H1 e1 => q H1 e1
    · exact s_ret (ev_andV (a := false) (b := false) (ev_callD (ea_cons (ev_var rfl) ea_nil) hn) fun z => nomatch z) fun H1 e1 => q H1 e1
    · exact s_ret (ev_andV (a := false) (b := false) (ev_callD (ea_cons (ev_var rfl) ea_nil) hn) fun z => nomatch z) fun H1 e1 => q H1 e1
theorem raw_is_symbol {f : Addr} {fd : FuncData} (F : Fun K "is_symbol" "is_symbol" s_is_symbol f fd) (g : mg "is_symbol" = some (.ref f)) (T : Tx K mg base a__POWERS a__EXPONENTS c__require_data p__require_data) (Rn : RawFn1 P w K mg base "is_number" 1 goodNum) : RawFn1 P w K mg base "is_symbol" 2 goodSym :=
  rawFn_of (a := "value") F g rfl (fun _ _ _ _ _ _ _ _ => BindsTo.of_eq rfl) (fun _ => rfl) rfl rfl rfl fun D U L cdv y u b hN hg r => by
    obtain ⟨fl, rfl⟩ := hg
    exact raw_sym Rn hN ⟨rfl, rfl, rfl⟩ (by rfl) (by rfl) (by rfl) (by decide) fl r
theorem ok_times {f : Addr} {fd : FuncData} (F : Fun K "times" "times" s_times f fd) (T : Tx K mg base a__POWERS a__EXPONENTS c__require_data p__require_data) :
    FnOk P w K mg base CX0 1 f fd ["left", "right"] spMul := by
  refine F.ok sc_times (fun vs H Q E h => ?_) (fun cdv A outer s H vs Q E hr h => ?_)
  · obtain ⟨i, j, rfl, ⟨hi, hj⟩, q⟩ := h
    rfl
  · obtain ⟨i, j, rfl, ⟨hi, hj⟩, q⟩ := h
    refine ⟨_, (pss_cons (ps_if (PW.pt (pw_or (pt_cmpR op_eq (pv 0) pe_int (nomark _)) (pw_or1 (pt_cmpR op_eq (pv 1) pe_int (nomark _)))))
    (pss_one (ps_ret pe_int))
    pss_nil)
    (pss_one (ps_ret (pe_ix (r := rIxT K) ix_tup (pe_glob (v := .ref _) (by rfl) T.g__POWERS rfl) (pe_op op_add (pe_ix (r := rIxT K) ix_tup (pe_glob (v := .ref _) (by rfl) T.g__EXPONENTS rfl) (pv 0) (fun _ _ => rfl)) (pe_ix (r := rIxT K) ix_tup (pe_glob (v := .ref _) (by rfl) T.g__EXPONENTS rfl) (pv 1) (fun _ _ => rfl))) (fun _ _ => rfl))))), ?_⟩

    have tp := T.t__POWERS
    have te := T.t__EXPONENTS
    have b1 := eT_b hi
    have b2 := eT_b hj
    refine q_when (b := decide (i = 0 ∨ j = 0)) (et_is (et_or (et_test (ev_op (ev_var rfl) ev_c (rv_eq rfl))) fun _ => et_test (ev_op (ev_var rfl) ev_c (rv_eq rfl))) ?_) (fun z H1 e1 => s_ret ev_c fun H2 e2 => ?_) (fun z H1 e1 => s_ret (ev_op ev_c (ev_op (ev_op ev_c (ev_var rfl) (rv_ixT (te _) (exp_at hi))) (ev_op ev_c (ev_var rfl) (rv_ixT (te _) (exp_at hj))) rv_I0) (rv_ixT (tp _) (pow_at (by omega) (by omega)))) fun H2 e2 => ?_)
    · rw [Bool.eq_iff_iff]
      simp
    · have e : gmul i j = 0 := if_pos (of_decide_eq_true z)
      rw [← e]
      exact q _ (e1.trans e2)
    · have e : gmul i j = pT (eT i + eT j) := if_neg (of_decide_eq_false z)
      rw [← e]
      exact q _ (e1.trans e2)
theorem ok_over {f : Addr} {fd : FuncData} (F : Fun K "over" "over" s_over f fd) (T : Tx K mg base a__POWERS a__EXPONENTS c__require_data p__require_data) :
    FnOk P w K mg base CX0 1 f fd ["left", "right"] spDiv := by
  refine F.ok sc_over (fun vs H Q E h => ?_) (fun cdv A outer s H vs Q E hr h => ?_)
  · obtain ⟨i, j, rfl, ⟨hi, hj, h0⟩, q⟩ := h
    rfl
  · obtain ⟨i, j, rfl, ⟨hi, hj, h0⟩, q⟩ := h
    refine ⟨_, (pss_cons (ps_if (pt_cmpR op_eq (pv 0) pe_int (nomark _))
    (pss_one (ps_ret pe_int))
    pss_nil)
    (pss_one (ps_ret (pe_ix (r := rIxT K) ix_tup (pe_glob (v := .ref _) (by rfl) T.g__POWERS rfl) (pe_op op_add (pe_op op_sub (pe_ix (r := rIxT K) ix_tup (pe_glob (v := .ref _) (by rfl) T.g__EXPONENTS rfl) (pv 0) (fun _ _ => rfl)) (pe_ix (r := rIxT K) ix_tup (pe_glob (v := .ref _) (by rfl) T.g__EXPONENTS rfl) (pv 1) (fun _ _ => rfl))) pe_int) (fun _ _ => rfl))))), ?_⟩

    have tp := T.t__POWERS
    have te := T.t__EXPONENTS
    have b1 := eT_b hi
    have b2 := eT_b hj
    refine q_when (b := decide (V.int i = V.int 0)) (et_test (ev_op (ev_var rfl) ev_c (rv_eq rfl))) (fun z H1 e1 => s_ret ev_c fun H2 e2 => ?_) (fun z H1 e1 => s_ret (ev_op ev_c (ev_op (ev_op (ev_op ev_c (ev_var rfl) (rv_ixT (te _) (exp_at hi))) (ev_op ev_c (ev_var rfl) (rv_ixT (te _) (exp_at hj))) rv_I0) ev_c rv_I0) (rv_ixT (tp _) (pow_at (by omega) (by omega)))) fun H2 e2 => ?_)
    · have e : gdiv i j = 0 := if_pos (V.int.inj (of_decide_eq_true z))
      rw [← e]
      exact q _ (e1.trans e2)
    · have e : gdiv i j = pT (eT i - eT j + 15) := if_neg fun y => of_decide_eq_false z (congrArg V.int y)
      rw [← e]
      exact q _ (e1.trans e2)
theorem ok__require_data {f : Addr} {fd : FuncData} (F : FunC K "_require_data" "_require_data" s__require_data f fd c__require_data) (T : Tx K mg base a__POWERS a__EXPONENTS c__require_data p__require_data) (Rw : RawFn1 P w K mg base "is_symbol" 2 goodSym)
    (D_is_number : Dfn P w K mg base 1 "is_number" ["value"] (spNum K))
    (D_is_symbol : Dfn P w K mg base 2 "is_symbol" ["value"] (spSym K)) :
    FnOk P w K mg base CX0 3 f fd ["data", "check_count"] (spReqData K p__require_data) := by
  refine F.ok sc__require_data (fun vs H Q E h => ?_) (fun A outer s H vs Q E hr h => ?_)
  · obtain ⟨t, ds, c, rfl, ht, hP, ok, q⟩ := h
    rfl
  · obtain ⟨t, ds, c, rfl, ht, hP, ok, q⟩ := h
    refine ⟨_, (pss_cons (ps_if (PW.pt (pw_or (pt_not (pt_val (pe_callB call_isi (by rfl) T.n_isinstance (by decide +kernel) (pa_cons (pv 0) (pa_cons (pe_bltn (v := .ty "tuple") (by rfl) T.n_tuple (by decide +kernel) rfl) pa_nil))))) (pw_or1 (pt_not (pt_truth (pv 0) (fun _ => rfl))))))
    (pss_one ps_never)
    pss_nil)
    (pss_cons (ps_if (pt_not (pt_val (pe_allT hr (by rfl) T.n_all T.t__require_data rfl (genS_of (by decide +kernel)) (pv 0) (eltG_call Rw (room3 hr) rfl (by rfl) (by rfl) (by decide) (by decide)) (fun _ => rfl))))
    (pss_one ps_never)
    pss_nil)
    (pss_cons (ps_if (PW.pt (pw_or (pt_not (pt_val (pe_callD D_is_number hr (by decide) (by rfl) (pa_cons (pv 1) pa_nil)))) (pw_or1 (pt_cmpR op_lt (pv 1) pe_int (nomark _)))))
    (pss_one ps_never)
    pss_nil)
    (pss_one (ps_if (pt_cmpR op_gt (pe_op op_add (pe_callB (r := rLenS K) call_len_seq (by rfl) T.n_len PySem.boot_len (pa_cons (pv 0) pa_nil)) (pv 1)) (pe_glob (v := .int 16) (by rfl) T.g__LONGEST_BLOCK.choose_spec ⟨_, rfl⟩) (nomark _))
    (pss_one ps_never)
    pss_nil))))), ?_⟩

    obtain ⟨hs, hne, hc, hl⟩ := id ok
    have hall : ∀ y ∈ ds.map V.int, isSym y = true := fun y hy => by
      obtain ⟨i, hi, rfl⟩ := List.mem_map.mp hy
      exact isSym_of (hs i hi)
    have ht' : ∀ {H1 : Hp}, Ex H H1 → SqT K H1 t (ds.map V.int) := fun e => ex_t e ht
    refine q_when (b := false) (et_is (et_or (et_not (et_B (ev_cb (ea_cons (ev_var rfl) (ea_cons ev_c ea_nil)) (rc_isi (T := "tuple") (b := true) (fun _ e => ty_tup (ex_t e ht)) (by decide +kernel))))) fun _ => et_not (et_tru (ev_var rfl) (tru_t ht))) ?_) (fun z => nomatch z) fun _ H1 e1 => ?_
    · cases ds with
      | nil => exact absurd rfl hne
      | cons x r => rfl
    refine q_when (b := false) (et_is (et_not (et_B (ev_allT (fun y => isSym y) (ev_var rfl) (ht' e1) (e1 _ _ hP) ?_))) ?_) (fun z => nomatch z) fun _ H2 e2 => ?_
    · intro y hy
      obtain ⟨i, hi, rfl⟩ := List.mem_map.mp hy
      exact ⟨rfl, rfl⟩
    · rw [List.all_eq_true.mpr hall]
      rfl
    refine q_when (b := false) (et_is (et_or (et_not (et_B (ev_callD (ea_cons (ev_var rfl) ea_nil) (spv_num kd_int)))) fun _ => et_test (ev_op (ev_var rfl) ev_c rv_I0)) ?_) (fun z => nomatch z) fun _ H3 e3 => ?_
    · show (!true || decide (c < 0)) = false
      rw [decide_eq_false (by omega)]
      rfl
    refine s_when (b := false) (et_is (et_test (ev_op (ev_op (ev_lenT (ev_var rfl) (ht' ((e1.trans e2).trans e3))) (ev_var rfl) rv_I0) ev_c rv_I0)) ?_) (fun z => nomatch z) fun _ H4 e4 => q H4 (((e1.trans e2).trans e3).trans e4)
    rw [List.length_map]
    exact decide_eq_false (by omega)
theorem ok__distance_product {f : Addr} {fd : FuncData} (F : Fun K "_distance_product" "_distance_product" s__distance_product f fd) (T : Tx K mg base a__POWERS a__EXPONENTS c__require_data p__require_data)
    (D_times : Dfn P w K mg base 1 "times" ["left", "right"] spMul) :
    FnOk P w K mg base CX0 2 f fd ["at", "points"] spDist := by
  refine F.ok sc__distance_product (fun vs H Q E h => ?_) (fun cdv A outer s H vs Q E hr h => ?_)
  · obtain ⟨a, d, ps, rfl, ha, ok, hd, q⟩ := h
    rfl
  · obtain ⟨a, d, ps, rfl, ha, ok, hd, q⟩ := h
    refine ⟨_, (pss_cons (ps_set (i := 2) sc__distance_product.nd rfl (by walk_at "sq_cell") pe_int)
    (pss_cons (ps_for PassesOwn.never rfl (pi_keys (pv 1)) (pg_name (i := 3) sc__distance_product.nd rfl (by walk_at "sq_cell"))
    (pss_one (ps_if (pt_cmpR op_ne (pv 3) (pv 0) (nomark _))
    (pss_one (ps_set (i := 2) sc__distance_product.nd rfl (by walk_at "sq_cell") (pe_callD D_times hr (by decide) (by rfl) (pa_cons (pv 2) (pa_cons (pe_op op_xor (pv 0) (pv 3)) pa_nil)))))
    pss_nil)))
    (pss_one (ps_ret (pv 2))))), ?_⟩

    refine q_asg ev_c fun H1 e1 => ?_
    refine q_forK (ev_var rfl) (hd.ex e1) (fun i σ' H' => Ex H1 H' ∧ ∃ x3, σ' = [some (.int a), some (.ref d), some (.int (dprod a ((ksV ps).take i) 1)), x3]) (fun H2 e2 => ⟨e2, _, rfl⟩) (fun i σ' H' p => p.1) ?_ ?_
    · rintro i k v σ' H' hk ⟨e2, x3, rfl⟩
      obtain ⟨p, hp, rfl, rfl⟩ := kvP_get hk
      have hs := (ok.1 p (List.mem_of_getElem? hp)).1
      have hk' : (ksV ps)[i]? = some p.1 := by
        unfold ksV
        rw [List.getElem?_map, hp]
        rfl
      have hr' : Sym (dprod a ((ksV ps).take i) 1) := dprod_sym ha (fun k hk => ok.ks k (List.mem_of_mem_take hk)) sym_1
      refine s_when (et_test (ev_op (x := .int p.1) (ev_var rfl) (ev_var rfl) (rv_ne rfl))) (fun c H3 e3 => ?_) (fun c H3 e3 => ⟨e2.trans e3, some (.int p.1), ?_⟩)
      · refine s_asg (v := .int (dprod a ((ksV ps).take (i + 1)) 1)) (ev_is (v := .int (gmul (dprod a ((ksV ps).take i) 1) (gadd a p.1))) (ev_callD (ea_cons (ev_var rfl) (ea_cons (ev_op (ev_var rfl) (ev_var (v := .int p.1) rfl) rv_I0) ea_nil)) (spv_I2 (p := Sym2) ⟨hr', sym_add ha hs⟩)) ?_) fun H4 e4 => ⟨(e2.trans e3).trans e4, _, rfl⟩
        have hne : p.1 ≠ a := fun z => by simp [z] at c
        rw [dprod_take hk', if_neg hne]
      · have heq : p.1 = a := by
          by_cases z : p.1 = a
          · exact z
          · simp [z] at c
        rw [dprod_take hk', if_pos heq]
        rfl
    · rintro σ' H' ⟨e2, x3, rfl⟩
      rw [kvP_len, show ps.length = (ksV ps).length from (List.length_map _).symm, List.take_length]
      exact s_ret (ev_var rfl) fun H2 e3 => q H2 ((e1.trans e2).trans e3)
theorem ok__value {f : Addr} {fd : FuncData} (F : Fun K "_value" "_value" s__value f fd) (T : Tx K mg base a__POWERS a__EXPONENTS c__require_data p__require_data)
    (D_times : Dfn P w K mg base 1 "times" ["left", "right"] spMul)
    (D_over : Dfn P w K mg base 1 "over" ["left", "right"] spDiv)
    (D__distance_product : Dfn P w K mg base 2 "_distance_product" ["at", "points"] spDist) :
    FnOk P w K mg base CX0 3 f fd ["at", "points", "weights"] spValue := by
  refine F.ok sc__value (fun vs H Q E h => ?_) (fun cdv A outer s H vs Q E hr h => ?_)
  · obtain ⟨a, d, e, ps, rfl, ha, ok, hd, he, q⟩ := h
    rfl
  · obtain ⟨a, d, e, ps, rfl, ha, ok, hd, he, q⟩ := h
    refine ⟨_, (pss_cons (ps_if (pt_cmp (pc_din (hu_of hr) (pv 0) (pv 1)))
    (pss_one (ps_ret (pe_dget (hu_of hr) (pv 1) (pv 0) (fun _ _ => rfl))))
    pss_nil)
    (pss_cons (ps_set (i := 3) sc__value.nd rfl (by walk_at "sq_cell") pe_int)
    (pss_cons (ps_for PassesOwn.never rfl (pi_keys (pv 1)) (pg_name (i := 4) sc__value.nd rfl (by walk_at "sq_cell"))
    (pss_one (ps_aug (i := 3) sc__value.nd rfl (by walk_at "sq_cell") (pe_callD D_over hr (by decide) (by rfl) (pa_cons (pe_dget (hu_of hr) (pv 2) (pv 4) (fun _ _ => rfl)) (pa_cons (pe_op op_xor (pv 0) (pv 4)) pa_nil))) ip_xor)))
    (pss_one (ps_ret (pe_callD D_times hr (by decide) (by rfl) (pa_cons (pv 3) (pa_cons (pe_callD D__distance_product hr (by decide) (by rfl) (pa_cons (pv 0) (pa_cons (pv 1) pa_nil))) pa_nil)))))))), ?_⟩

    refine q_when (b := (ps.lookup a).isSome) (et_is (et_B (ev_din (k := .inl a) (ev_var rfl) (ev_var rfl) hd)) ?_) (fun c H1 e1 => ?_) (fun c H1 e1 => ?_)
    · rw [valV_kvP]
      cases ps.lookup a <;> rfl
    · obtain ⟨v, hv⟩ : ∃ v, ps.lookup a = some v := Option.isSome_iff_exists.mp c
      refine s_ret (v := .int v) (ev_dget (k := .inl a) (ev_var rfl) (ev_var rfl) (hd.ex e1) (by rw [valV_kvP, hv]; rfl)) fun H2 e2 => ?_
      have z : lagr ps a = v := by
        unfold lagr
        rw [hv]
      rw [← z]
      exact q H2 (e1.trans e2)
    · have hn : ps.lookup a = none := by
        cases z : ps.lookup a with
        | none => rfl
        | some v => rw [z] at c; cases c
      have z : lagr ps a = gmul (lsum a (wts ps) 0) (dprod a (ksV ps) 1) := by
        unfold lagr
        rw [hn]
      have ok2 := wts_ok ok
      refine q_asg ev_c fun H2 e2 => ?_
      have hd2 := hd.ex (e1.trans e2)
      have he2 := he.ex (e1.trans e2)
      refine q_forK (ev_var rfl) hd2 (fun i σ' H' => Ex H2 H' ∧ ∃ x4, σ' = [some (.int a), some (.ref d), some (.ref e), some (.int (lsum a ((wts ps).take i) 0)), x4]) (fun H3 e3 => ⟨e3, _, rfl⟩) (fun i σ' H' p => p.1) ?_ ?_
      · rintro i k v σ' H' hk ⟨e3, x4, rfl⟩
        obtain ⟨p, hp, rfl, rfl⟩ := kvP_get hk
        have hs := ok.1 p (List.mem_of_getElem? hp)
        have hw : (wts ps)[i]? = some (p.1, gdiv p.2 (dprod p.1 (ksV ps) 1)) := by
          unfold wts
          rw [List.getElem?_map, hp]
          rfl
        have hws := ok2.1 _ (List.mem_of_getElem? hw)
        have hne : p.1 ≠ a := fun z => by
          have y := lookup_of ok.2.1 hp
          rw [z, hn] at y
          cases y
        have hl := lookup_of ok2.2.1 hw
        refine s_aug (b := gdiv (gdiv p.2 (dprod p.1 (ksV ps) 1)) (gadd a p.1)) rfl (ev_callD (ea_cons (ev_dget (k := .inl p.1) (ev_var rfl) (ev_var rfl) (he2.ex e3) (by rw [valV_kvP, hl]; rfl)) (ea_cons (ev_op (ev_var rfl) (ev_var (v := .int p.1) rfl) rv_I0) ea_nil)) (spv_I2 (p := SymD) ⟨hws.2, sym_add ha hs.1, gadd_ne ha hs.1 hne⟩)) fun H4 e4 => ⟨e3.trans e4, some (.int p.1), ?_⟩
        rw [lsum_take hw]
        rfl
      · rintro σ' H' ⟨e3, x4, rfl⟩
        have hz : (kvP ps).length = (wts ps).length := by
          unfold kvP wts
          rw [List.length_map, List.length_map]
        rw [hz, List.take_length]
        have e0 := (e1.trans e2).trans e3
        refine s_ret (v := .int (lagr ps a)) (ev_is (ev_callD (ea_cons (ev_var rfl) (ea_cons (ev_callD (ea_cons (ev_var rfl) (ea_cons (ev_var rfl) ea_nil)) (spv_dist ha ok (hd.ex e0))) ea_nil)) (spv_I2 (p := Sym2) ⟨lsum_sym ha ok2.1 sym_0, dprod_sym ha ok.ks sym_1⟩)) (by rw [z])) fun H4 e4 => q H4 (e0.trans e4)
theorem ok__values {f : Addr} {fd : FuncData} (F : Fun K "_values" "_values" s__values f fd) (T : Tx K mg base a__POWERS a__EXPONENTS c__require_data p__require_data)
    (D_over : Dfn P w K mg base 1 "over" ["left", "right"] spDiv)
    (D__value : Dfn P w K mg base 3 "_value" ["at", "points", "weights"] spValue)
    (D__distance_product : Dfn P w K mg base 2 "_distance_product" ["at", "points"] spDist) :
    FnOk P w K mg base CX0 4 f fd ["points", "length"] spValues := by
  refine F.ok sc__values (fun vs H Q E h => ?_) (fun cdv A outer s H vs Q E hr h => ?_)
  · obtain ⟨d, n, ps, rfl, hn, ok, hd, q⟩ := h
    rfl
  · obtain ⟨d, n, ps, rfl, hn, ok, hd, q⟩ := h
    refine ⟨_, (pss_cons (ps_set (i := 2) sc__values.nd rfl (by walk_at "sq_cell") (pe_dc (own := [("at", 3)]) (g := gName 3) rfl sc__values.nd (pi_keys (pv 0)) (blkOk_by (own := [("at", 3)]) (N := ["points", "length", "weights", "at"]) (sc := defScope s__values) (by decide +kernel)) (fun _ _ _ _ _ => pg_name (i := 3) sc__values.nd rfl (Or.inl rfl)) (fun _ _ _ _ _ => pts_nil) (fun _ _ _ _ _ => (pv 3)) (fun _ _ _ _ _ => (pe_callD D_over hr (by decide) (by rfl) (pa_cons (pe_dget (hu_of hr) (pv 0) (pv 3) (fun _ _ => rfl)) (pa_cons (pe_callD D__distance_product hr (by decide) (by rfl) (pa_cons (pv 3) (pa_cons (pv 0) pa_nil))) pa_nil))))))
    (pss_frz (pss_one (ps_ret (pe_lc (own := [("at", 3)]) (g := gName 3) (tt := _) rfl sc__values.nd (pi_range1 (by rfl) T.n_range (pa_cons (pv 1) pa_nil)) (blkOk_by (own := [("at", 3)]) (N := ["points", "length", "weights", "at"]) (sc := defScope s__values) (by decide +kernel)) (fun _ _ _ _ _ => pg_name (i := 3) sc__values.nd rfl (by walk_at "sq_cell")) (fun _ _ _ _ _ => pts_nil) (fun _ _ _ _ _ => (pe_callD D__value hr (by decide) (by rfl) (pa_cons (pv 3) (pa_cons (pv 0) (pa_cons (pv 2) pa_nil)))))))))), ?_⟩

    refine q_asgR (dc_keys (ev_var rfl) hd ok.nd (by rw [kvP_len]; have := ok.2.2; omega) (fun _ => rfl) (fun k H1 e1 hk => ev_var rfl) (f := wtF ps) (fun k H1 e1 hk => ?_) H (Ex.refl H) _ fun p H1 hp e1 h1 => ⟨p, _, h1, fun o => ?_⟩)
    · rw [ksV_kvP] at hk
      obtain ⟨a, ha, rfl⟩ := List.mem_map.mp hk
      obtain ⟨⟨a', v⟩, hm, rfl⟩ := List.mem_map.mp ha
      obtain ⟨i, hi⟩ := List.mem_iff_getElem?.mp hm
      have hl := lookup_of ok.2.1 hi
      have hs := ok.1 _ hm
      rw [wtF_of hl]
      exact ev_callD (ea_cons (ev_dget (k := .inl a') (ev_var rfl) (ev_var rfl) (hd.ex e1) (by rw [valV_kvP, hl]; rfl)) (ea_cons (ev_callD (ea_cons (ev_var (v := .int a') rfl) (ea_cons (ev_var rfl) ea_nil)) (spv_dist hs.1 ok (hd.ex e1))) ea_nil)) (spv_I2 (p := SymD) ⟨hs.2, dprod_sym hs.1 ok.ks sym_1, dprod_ne hs.1 ok.ks sym_1 (by decide)⟩)
    · rw [← kvP_wts ps ok.2.1]
      have eG : Ex H (upd H1 p (.frz o (.dK (kvP (wts ps))))) := Ex.mut e1 hp
      have hw : FD (upd H1 p (.frz o (.dK (kvP (wts ps))))) p (kvP (wts ps)) := ⟨o, upd_same⟩
      generalize upd H1 p (.frz o (.dK (kvP (wts ps)))) = G at eG hw ⊢
      have hG := hd.ex eG
      refine s_retL (el_lcR1 (fun _ => true) (fun i => .int (lagr ps (i : Int))) (ea_cons (ev_var rfl) ea_nil) (by omega) (fun _ => rfl) (fun _ _ _ _ H9 _ _ q9 => q9 H9 (Ex.refl H9)) (fun i H2 e2 hi _ => ev_callD (ea_cons (ev_var rfl) (ea_cons (ev_var rfl) (ea_cons (ev_var rfl) ea_nil))) (spv_value ⟨by omega, by omega⟩ ok (hG.ex e2) (hw.ex e2)))) fun p2 H2 hp2 e2 h2 => ?_
      refine q.go eG hp2 e2 ?_
      rw [h2]
      unfold given lagrs
      rw [List.map_map, List.filter_eq_self.mpr (fun _ _ => rfl)]
      rfl
theorem ok_encode_block {f : Addr} {fd : FuncData} (F : Fun K "encode_block" "encode_block" s_encode_block f fd) (T : Tx K mg base a__POWERS a__EXPONENTS c__require_data p__require_data)
    (D__require_data : Dfn P w K mg base 3 "_require_data" ["data", "check_count"] (spReqData K p__require_data))
    (D__values : Dfn P w K mg base 4 "_values" ["points", "length"] spValues) :
    FnOk P w K mg base CX0 5 f fd ["data", "check_count"] (spEncode K p__require_data) := by
  refine F.ok sc_encode_block (fun vs H Q E h => ?_) (fun cdv A outer s H vs Q E hr h => ?_)
  · obtain ⟨t, ds, c, rfl, ht, hP, ok, q⟩ := h
    rfl
  · obtain ⟨t, ds, c, rfl, ht, hP, ok, q⟩ := h
    refine ⟨_, (pss_cons (ps_expr (pe_callD D__require_data hr (by decide) (by rfl) (pa_cons (pv 0) (pa_cons (pv 1) pa_nil))))
    (pss_cons (ps_set (i := 2) sc_encode_block.nd rfl (by walk_at "sq_cell") (pe_dictEnum rfl (pv 0) (by rfl) T.n_dict (by rfl) T.n_enumerate))
    (pss_frz (pss_one (ps_ret (pe_callTy (r := rTupOf K) call_tuple_of (by rfl) T.n_tuple (by decide +kernel) (pa_cons (pe_callD D__values hr (by decide) (by rfl) (pa_cons (pv 2) (pa_cons (pe_op op_add (pe_callB (r := rLenS K) call_len_seq (by rfl) T.n_len PySem.boot_len (pa_cons (pv 0) pa_nil)) (pv 1)) pa_nil))) pa_nil))))))), ?_⟩

    refine q_drop (ev_callD (ea_cons (ev_var rfl) (ea_cons (ev_var rfl) ea_nil)) (spv_reqData ht hP ok)) fun H1 e1 => ?_
    obtain ⟨hs, hne, hc, hl⟩ := id ok
    refine q_asgR ((ev_var rfl : Ev _ _ H1 (.ref t)) H1 (Ex.refl H1) _ fun H2 e2 => ⟨t, _, rfl, ex_t (e1.trans e2) ht, fun d hd => ⟨d, _, upd_same, fun o => ?_⟩⟩)
    have eG : Ex H2 (upd (upd H2 d (.dK (enumK 0 (ds.map V.int)))) d (.frz o (.dK (enumK 0 (ds.map V.int))))) := Ex.mut (Ex.new hd) hd
    have hD : FD (upd (upd H2 d (.dK (enumK 0 (ds.map V.int)))) d (.frz o (.dK (enumK 0 (ds.map V.int))))) d (kvP (enumP 0 ds)) := ⟨o, by rw [upd_same, enumP_kv]⟩
    generalize upd (upd H2 d (.dK (enumK 0 (ds.map V.int)))) d (.frz o (.dK (enumK 0 (ds.map V.int)))) = G at eG hD ⊢
    have e0 := (e1.trans e2).trans eG
    refine s_retU (eu_tupL (el_callD (ea_cons (ev_var rfl) (ea_cons (ev_is (w := .int ((ds.length + c.toNat : Nat) : Int)) (ev_op (ev_lenT (ev_var rfl) (ex_t e0 ht)) (ev_var rfl) rv_I0) ?_) ea_nil)) (spl_values (by omega) (enumP_ok hs (by omega)) hD))) fun p H3 hp e3 h3 => q p H3 (fresh_back e0 hp) (e0.trans e3) h3
    rw [List.length_map]
    exact congrArg V.int (by omega)
theorem ok__law_taken {f : Addr} {fd : FuncData} (F : Fun K "_law_taken" "_law_taken" s__law_taken f fd) (T : Tx K mg base a__POWERS a__EXPONENTS c__require_data p__require_data) :
    FnOk P w K mg base CX0 1 f fd ["_law_row", "_law_many"] (spTaken K) := by
  refine fn_rows (sp := (spTakenL K)) ?_ (fun vs H Q E h => ?_) (fun vs H Q E h => ?_)
  rotate_left
  · obtain ⟨r, m, rfl, h0, h1, hrow, q⟩ := h
    rfl
  · exact taken_rows h
  refine F.ok sc__law_taken (fun vs H Q E h => ?_) (fun cdv A outer s H vs Q E hr h => ?_)
  · obtain ⟨r, a, m, i, x, y, ns, rfl, h0, h1, ⟨b1, b2, b3, b4⟩, hr, hs, q⟩ := h
    rfl
  · obtain ⟨r, a, m, i, x, y, ns, rfl, h0, h1, ⟨b1, b2, b3, b4⟩, hr, hs, q⟩ := h
    refine ⟨_, (pss_cons (ps_if (pt_cmpR op_gt (pe_ix (r := rIxL K) ix_list (pv 0) pe_int (fun _ _ => rfl)) pe_int (nomark _))
    (pss_cons (ps_set (i := 2) sc__law_taken.nd rfl (by walk_at "sq_cell") (pe_op op_modN (pe_callTy call_int1 (by rfl) T.n_int (by decide +kernel) (pa_cons (pe_ix (r := rIxL K) ix_list (pv 0) pe_int (fun _ _ => rfl)) pa_nil)) (pv 1)))
    (pss_cons (ps_asg (pe_op op_fdivN (pe_ix (r := rIxL K) ix_list (pv 0) pe_int (fun _ _ => rfl)) (pv 1)) (pg_sub (pv 0) pe_int set_list))
    (pss_one (ps_ret (pv 2)))))
    pss_nil)
    (pss_cons (ps_asg (pe_op op_add (pe_ix (r := rIxL K) ix_list (pv 0) pe_int (fun _ _ => rfl)) pe_int) (pg_sub (pv 0) pe_int set_list))
    (pss_cons (ps_if (pt_cmpR op_gt (pe_ix (r := rIxL K) ix_list (pv 0) pe_int (fun _ _ => rfl)) (pe_callB (r := rLenS K) call_len_seq (by rfl) T.n_len PySem.boot_len (pa_cons (pe_ix (r := rIxL K) ix_list (pv 0) pe_int (fun _ _ => rfl)) pa_nil)) (nomark _))
    (pss_cons (ps_asg (pe_op op_modN (pe_op op_add (pe_op op_mul (pe_ix (r := rIxL K) ix_list (pv 0) pe_int (fun _ _ => rfl)) pe_int) pe_int) pe_int) (pg_sub (pv 0) pe_int set_list))
    (pss_one (ps_ret (pe_op op_modN (pe_op op_fdivN (pe_ix (r := rIxL K) ix_list (pv 0) pe_int (fun _ _ => rfl)) pe_int) (pv 1)))))
    pss_nil)
    (pss_cons (ps_set (i := 3) sc__law_taken.nd rfl (by walk_at "sq_cell") (pe_ix (r := rIxL K) ix_list (pe_ix (r := rIxL K) ix_list (pv 0) pe_int (fun _ _ => rfl)) (pe_op op_sub (pe_ix (r := rIxL K) ix_list (pv 0) pe_int (fun _ _ => rfl)) pe_int) (fun _ _ => rfl)))
    (pss_cons (ps_asg (pe_op op_modN (pe_op op_add (pe_op op_add (pe_op op_mul (pe_ix (r := rIxL K) ix_list (pv 0) pe_int (fun _ _ => rfl)) pe_int) (pv 3)) pe_int) pe_int) (pg_sub (pv 0) pe_int set_list))
    (pss_cons (ps_if (pt_cmpR op_ge (pv 3) (pe_op op_pow pe_int pe_int) (nomark _))
    (pss_one (ps_asg (pe_op op_fdivN (pv 3) (pv 1)) (pg_sub (pv 0) pe_int set_list)))
    pss_nil)
    (pss_one (ps_ret (pe_op op_modN (pe_callTy call_int1 (by rfl) T.n_int (by decide +kernel) (pa_cons (pv 3) pa_nil)) (pv 1)))))))))), ?_⟩

    have hm : m ≠ 0 := by omega
    have R : ∀ {H' : Hp} {i x y : Int} {j : Int} {v : V}, H' r = some (rowL a i x y) → atI [.ref a, .int i, .int x, .int y] j = some v → RV (rIxL K) (.ref r) (.int j) H' v := fun e1 e2 => rv_ixL (sq_of e1) e2
    refine q_when (et_test (ev_op (ev_op (ev_var rfl) ev_c (R hr rfl)) ev_c rv_I0)) (fun c H1 e1 => ?_) (fun c H1 e1 => ?_)
    · have hr1 := e1 _ _ hr
      refine q_asg (ev_op (ev_cb (ea_cons (ev_op (ev_var rfl) ev_c (R hr1 rfl)) ea_nil) rc_int) (ev_var rfl) (rv_I hm)) fun H2 e2 => ?_
      have hr2 := e2 _ _ hr1
      refine q_setL (j := 3) hr2 (ev_op (ev_op (ev_var rfl) ev_c (R hr2 rfl)) (ev_var rfl) (rv_I (show CDivN _ _ from ⟨hm, by omega⟩))) (ev_var rfl) ev_c (by show 3 < 4; decide) fun H3 e3 => ?_
      refine s_ret (ev_var rfl) fun H4 e4 => ?_
      refine q _ i x (y.fdiv m) H4 (fmod_range h0).1 (fmod_range h0).2 ⟨b1, b2, b3, Int.fdiv_nonneg b4 (by omega)⟩ (e4 _ _ upd_same) fun c o hc e => e4 _ _ ?_
      rw [upd_ne hc]
      exact e3 _ _ (e2 _ _ (e1 _ _ e))
    · have hr1 := e1 _ _ hr
      refine q_setL (j := 1) hr1 (ev_op (ev_op (ev_var rfl) ev_c (R hr1 rfl)) ev_c rv_I0) (ev_var rfl) ev_c (by show 1 < 4; decide) fun H2 e2 => ?_
      have hr2 : (upd H2 r (.lst (([.ref a, .int i, .int x, .int y] : List V).set 1 (.int (i + 1))))) r = some (rowL a (i + 1) x y) := upd_same
      have hs2 : SqL K (upd H2 r (.lst (([.ref a, .int i, .int x, .int y] : List V).set 1 (.int (i + 1))))) a (ns.map V.int) := row_keep (ex_l (e1.trans e2) hs) (e2 _ _ hr1)
      have k2 : ∀ c o, c ≠ r → H c = some o → (upd H2 r (.lst (([.ref a, .int i, .int x, .int y] : List V).set 1 (.int (i + 1))))) c = some o := fun c o hc e => by
        rw [upd_ne hc]
        exact e2 _ _ (e1 _ _ e)
      generalize (upd H2 r (.lst (([.ref a, .int i, .int x, .int y] : List V).set 1 (.int (i + 1))))) = G at hr2 hs2 k2 ⊢
      refine q_when (et_test (ev_op (ev_op (ev_var rfl) ev_c (R hr2 rfl)) (ev_len (ev_op (ev_var rfl) ev_c (R hr2 rfl)) hs2) rv_I0)) (fun c1 H3 e3 => ?_) (fun c1 H3 e3 => ?_)
      · have hr3 := e3 _ _ hr2
        refine q_setL (j := 2) hr3 (ev_op (ev_op (ev_op (ev_op (ev_var rfl) ev_c (R hr3 rfl)) ev_c (rv_I (show CMul _ _ from .inl ⟨by omega, by omega⟩))) ev_c rv_I0) ev_c (rv_I (by decide))) (ev_var rfl) ev_c (by show 2 < 4; decide) fun H4 e4 => ?_
        refine s_ret (ev_op (ev_op (ev_op (ev_var rfl) ev_c (R upd_same rfl)) ev_c (rv_I (show CDivN _ _ from ⟨by decide, by decide⟩))) (ev_var rfl) (rv_I hm)) fun H5 e5 => ?_
        refine q _ (i + 1) ((x * 48271 + 11).fmod 2147483647) y H5 (fmod_range h0).1 (fmod_range h0).2 ⟨by omega, (fmod_range (by decide)).1, (fmod_range (by decide)).2, b4⟩ (e5 _ _ upd_same) fun c o hc e => e5 _ _ ?_
        rw [upd_ne hc]
        exact e4 _ _ (e3 _ _ (k2 c o hc e))
      · have hr3 := e3 _ _ hr2
        have hlt : i.toNat < ns.length := by
          have z := of_decide_eq_false c1
          rw [List.length_map] at z
          omega
        have hat : atI (ns.map V.int) (i + 1 - 1) = some (.int ns[i.toNat]) := at_of (j := i.toNat) (by omega) (dn_seq ns _ _ (List.getElem?_eq_getElem hlt))
        generalize ns[i.toNat] = n at hat
        refine q_asg (ev_op (ev_op (ev_var rfl) ev_c (R hr3 rfl)) (ev_op (ev_op (ev_var rfl) ev_c (R hr3 rfl)) ev_c rv_I0) (rv_ixL (ex_l e3 hs2) hat)) fun H4 e4 => ?_
        have hr4 := e4 _ _ hr3
        refine q_setL (j := 2) hr4 (ev_op (ev_op (ev_op (ev_op (ev_op (ev_var rfl) ev_c (R hr4 rfl)) ev_c (rv_I (show CMul _ _ from .inl ⟨by omega, by omega⟩))) (ev_var rfl) rv_I0) ev_c rv_I0) ev_c (rv_I (by decide))) (ev_var rfl) ev_c (by show 2 < 4; decide) fun H5 e5 => ?_
        have k5 : ∀ c o, c ≠ r → H c = some o → H5 c = some o := fun c o hc e => e5 _ _ (e4 _ _ (e3 _ _ (k2 c o hc e)))
        refine q_when (et_test (ev_op (ev_var rfl) (ev_op ev_c ev_c (rv_I (show CPow _ _ from ⟨by decide, by decide, by decide⟩))) rv_I0)) (fun c2 H6 e6 => ?_) (fun c2 H6 e6 => ?_)
        · have hn : 0 ≤ n := by
            have z := of_decide_eq_true c2
            have w : (0 : Int) ≤ 10 ^ (18 : Int).toNat := by decide
            omega
          refine s_setL (j := 3) (e6 _ _ upd_same) (ev_op (ev_var rfl) (ev_var rfl) (rv_I (show CDivN _ _ from ⟨hm, by omega⟩))) (ev_var rfl) ev_c (by show 3 < 4; decide) fun H7 e7 => ?_
          dsimp only
          refine s_ret (ev_op (ev_cb (ea_cons (ev_var rfl) ea_nil) rc_int) (ev_var rfl) (rv_I hm)) fun H8 e8 => ?_
          refine q _ (i + 1) ((x * 48271 + n + 11).fmod 2147483647) (n.fdiv m) H8 (fmod_range h0).1 (fmod_range h0).2 ⟨by omega, (fmod_range (by decide)).1, (fmod_range (by decide)).2, Int.fdiv_nonneg hn (by omega)⟩ (e8 _ _ upd_same) fun c o hc e => e8 _ _ ?_
          rw [upd_ne hc]
          refine e7 _ _ (e6 _ _ ?_)
          rw [upd_ne hc]
          exact k5 c o hc e
        · refine s_ret (ev_op (ev_cb (ea_cons (ev_var rfl) ea_nil) rc_int) (ev_var rfl) (rv_I hm)) fun H8 e8 => ?_
          refine q _ (i + 1) ((x * 48271 + n + 11).fmod 2147483647) y H8 (fmod_range h0).1 (fmod_range h0).2 ⟨by omega, (fmod_range (by decide)).1, (fmod_range (by decide)).2, b4⟩ (e8 _ _ (e6 _ _ upd_same)) fun c o hc e => e8 _ _ (e6 _ _ ?_)
          rw [upd_ne hc]
          exact k5 c o hc e
theorem ok0__law_alike {f : Addr} {fd : FuncData} (F : Fun K "_law_alike" "_law_alike" s__law_alike f fd) (T : Tx K mg base a__POWERS a__EXPONENTS c__require_data p__require_data) :
    FnOk P w K mg base CX0 1 f fd ["_law_one", "_law_due"] spAlike0 := by
  refine F.ok sc__law_alike (fun vs H Q E h => ?_) (fun cdv A outer s H vs Q E hr h => ?_)
  · obtain ⟨i, rfl, k⟩ := h
    rfl
  · obtain ⟨i, rfl, k⟩ := h
    refine ⟨_, (pss_cons (ps_if (PW.pt (pw_and (pt_val (pe_callB call_isiT (by rfl) T.n_isinstance (by decide +kernel) (pa_cons (pv 0) (pa_cons (pe_tup (pa_cons (pe_bltn (v := .ty "tuple") (by rfl) T.n_tuple (by decide +kernel) rfl) (pa_cons (pe_bltn (v := .ty "list") (by rfl) T.n_list (by decide +kernel) rfl) pa_nil))) pa_nil)))) (pw_and1 (pt_val (pe_callB call_isiT (by rfl) T.n_isinstance (by decide +kernel) (pa_cons (pv 1) (pa_cons (pe_tup (pa_cons (pe_bltn (v := .ty "tuple") (by rfl) T.n_tuple (by decide +kernel) rfl) (pa_cons (pe_bltn (v := .ty "list") (by rfl) T.n_list (by decide +kernel) rfl) pa_nil))) pa_nil))))))) L2.pss_never pss_nil)
    (pss_one (ps_ret (pe_and (pe_cmpR op_eq (pv 0) (pv 1) (nomark _)) (pe_one (pe_cmpR op_eq (pe_callB call_isi (by rfl) T.n_isinstance (by decide +kernel) (pa_cons (pv 0) (pa_cons (pe_bltn (v := .ty "bool") (by rfl) T.n_bool (by decide +kernel) rfl) pa_nil))) (pe_callB call_isi (by rfl) T.n_isinstance (by decide +kernel) (pa_cons (pv 1) (pa_cons (pe_bltn (v := .ty "bool") (by rfl) T.n_bool (by decide +kernel) rfl) pa_nil))) (nomark _))))))), ?_⟩

    have i2 : PySem.W.kitAny K (.type "int") [.type "tuple", .type "list"] = some (false || false) := kit_any2 (by decide +kernel) (by decide +kernel)
    have i2 : PySem.W.kitAny K (.type "int") [.type "tuple", .type "list"] = some false := i2
    refine q_when (b := false) (et_is (et_and (b := false) (et_B (ev_isiT (ev_var rfl) (ea_cons ev_c (ea_cons ev_c ea_nil)) (fun _ _ => .base (.int i)) i2)) (fun z => nomatch z)) rfl) (fun z => nomatch z) fun _ H1 e1 => ?_
    refine s_ret (v := .bl true) (ev_is (ev_andV (ev_op (ev_var rfl) (ev_var rfl) (rv_eq rfl)) fun _ => ev_op (ev_cb (ea_cons (ev_var rfl) (ea_cons ev_c ea_nil)) (rc_isi (T := "int") (b := false) (fun _ _ => .base (.int i)) (by decide +kernel))) (ev_cb (ea_cons (ev_var rfl) (ea_cons ev_c ea_nil)) (rc_isi (T := "int") (b := false) (fun _ _ => .base (.int i)) (by decide +kernel))) (rv_eq rfl)) ?_) fun H2 e2 => k H2 (e1.trans e2)
    simp
theorem ok__law_alike {f : Addr} {fd : FuncData} (F : Fun K "_law_alike" "_law_alike" s__law_alike f fd) (T : Tx K mg base a__POWERS a__EXPONENTS c__require_data p__require_data)
    (D0__law_alike : Dfn P w K mg base 1 "_law_alike" ["_law_one", "_law_due"] spAlike0) :
    FnOk P w K mg base CX0 2 f fd ["_law_one", "_law_due"] (spAlike1 K) := by
  refine F.ok sc__law_alike (fun vs H Q E h => ?_) (fun cdv A outer s H vs Q E hr h => ?_)
  · obtain ⟨p, q, xs, rfl, hp, hq, hl, k⟩ := h
    rfl
  · obtain ⟨p, q, xs, rfl, hp, hq, hl, k⟩ := h
    refine ⟨_, (pss_cons (ps_if (PW.pt (pw_and (pt_val (pe_callB call_isiT (by rfl) T.n_isinstance (by decide +kernel) (pa_cons (pv 0) (pa_cons (pe_tup (pa_cons (pe_bltn (v := .ty "tuple") (by rfl) T.n_tuple (by decide +kernel) rfl) (pa_cons (pe_bltn (v := .ty "list") (by rfl) T.n_list (by decide +kernel) rfl) pa_nil))) pa_nil)))) (pw_and1 (pt_val (pe_callB call_isiT (by rfl) T.n_isinstance (by decide +kernel) (pa_cons (pv 1) (pa_cons (pe_tup (pa_cons (pe_bltn (v := .ty "tuple") (by rfl) T.n_tuple (by decide +kernel) rfl) (pa_cons (pe_bltn (v := .ty "list") (by rfl) T.n_list (by decide +kernel) rfl) pa_nil))) pa_nil)))))))
    (pss_cons (ps_if (PW.pt (pw_or (pt_cmpR op_ne (pe_callB call_isi (by rfl) T.n_isinstance (by decide +kernel) (pa_cons (pv 0) (pa_cons (pe_bltn (v := .ty "tuple") (by rfl) T.n_tuple (by decide +kernel) rfl) pa_nil))) (pe_callB call_isi (by rfl) T.n_isinstance (by decide +kernel) (pa_cons (pv 1) (pa_cons (pe_bltn (v := .ty "tuple") (by rfl) T.n_tuple (by decide +kernel) rfl) pa_nil))) (nomark _)) (pw_or1 (pt_cmpR op_ne (pe_callB (r := rLenS K) call_len_seq (by rfl) T.n_len PySem.boot_len (pa_cons (pv 0) pa_nil)) (pe_callB (r := rLenS K) call_len_seq (by rfl) T.n_len PySem.boot_len (pa_cons (pv 1) pa_nil)) (nomark _)))))
    (pss_one (ps_ret pe_bl))
    pss_nil)
    (pss_one (ps_ret (pe_cmpR (op_eqD (hu64 hr)) (pe_lc (own := [("_law_k", 2)]) (g := gName 2) (tt := _) rfl sc__law_alike.nd (pi_range1 (by rfl) T.n_range (pa_cons (pe_callB (r := rLenS K) call_len_seq (by rfl) T.n_len PySem.boot_len (pa_cons (pv 0) pa_nil)) pa_nil)) (blkOk_by (own := [("_law_k", 2)]) (N := ["_law_one", "_law_due", "_law_k"]) (sc := defScope s__law_alike) (by decide +kernel)) (fun _ _ _ _ _ => pg_name (i := 2) sc__law_alike.nd rfl (by walk_at "sq_cell")) (fun _ _ _ _ _ => (pts_one (pt_not (pt_val (pe_callD D0__law_alike hr (by decide) (by rfl) (pa_cons (pe_ix (r := rIxT K) ix_tup (pv 0) (pv 2) (fun _ _ => rfl)) (pa_cons (pe_ix (r := rIxT K) ix_tup (pv 1) (pv 2) (fun _ _ => rfl)) pa_nil))))))) (fun _ _ _ _ _ => (pv 2))) (pe_lst pa_nil) (nomark _)))))
    pss_nil)
    (pss_one ps_never)), ?_⟩

    have ty : ∀ {a : Addr}, SqT K H a (xs.map V.int) → ∀ H1, Ex H H1 → TyX K H1 (.ref a) (.type "tuple") := fun h H1 e => ty_tup (ex_t e h)
    have i2 : PySem.W.kitAny K (.type "tuple") [.type "tuple", .type "list"] = some (true || false) := kit_any2 (by decide +kernel) (by decide +kernel)
    have i2 : PySem.W.kitAny K (.type "tuple") [.type "tuple", .type "list"] = some true := i2
    refine q_if (b := true) (et_is (et_and (et_B (ev_isiT (ev_var rfl) (ea_cons ev_c (ea_cons ev_c ea_nil)) (ty hp) i2)) fun _ => et_B (ev_isiT (ev_var rfl) (ea_cons ev_c (ea_cons ev_c ea_nil)) (ty hq) i2)) rfl) (fun _ H1 e1 => ?_) (fun z => nomatch z)
    have hp1 := ex_t e1 hp
    have hq1 := ex_t e1 hq
    refine q_when (b := false) (et_is (et_or (et_test (ev_op (ev_cb (ea_cons (ev_var rfl) (ea_cons ev_c ea_nil)) (rc_isi (T := "tuple") (b := true) (fun H2 e2 => ty hp H2 (e1.trans e2)) (by decide +kernel))) (ev_cb (ea_cons (ev_var rfl) (ea_cons ev_c ea_nil)) (rc_isi (T := "tuple") (b := true) (fun H2 e2 => ty hq H2 (e1.trans e2)) (by decide +kernel))) (rv_ne rfl))) fun _ => et_test (ev_op (ev_lenT (ev_var rfl) hp1) (ev_lenT (ev_var rfl) hq1) (rv_ne rfl))) ?_) (fun z => nomatch z) fun _ H2 e2 => ?_
    · simp
    have hp2 := ex_t e2 hp1
    have hq2 := ex_t e2 hq1
    refine s_ret (v := .bl true) (ev_is (ev_eqN (xs := []) ?_ (el_lst ea_nil (by decide))) rfl) fun H3 e3 => k H3 ((e1.trans e2).trans e3)
    have z : given (((xs.map V.int).length : Int)).toNat (fun _ => false) (fun i => V.int (i : Int)) = ([] : List Int).map V.int := by
      unfold given
      rw [List.filter_eq_nil_iff.mpr (fun _ _ => by decide)]
      rfl
    rw [← z]
    refine el_lcR1 (fun _ => false) (fun i => V.int (i : Int)) (ea_cons (ev_lenT (ev_var rfl) hp2) ea_nil) (by rw [List.length_map]; omega) (fun _ => rfl) (fun i H3 e3 hi => ?_) (fun i H3 e3 hi z => nomatch z)
    rw [List.length_map] at hi
    have hx := map_at (List.getElem?_eq_getElem (show i < xs.length by omega))
    exact et_is (et_not (et_B (ev_callD (ea_cons (ev_op (ev_var rfl) (ev_var (v := .int (i : Int)) rfl) (rv_ixT (ex_t e3 hp2) hx)) (ea_cons (ev_op (ev_var rfl) (ev_var (v := .int (i : Int)) rfl) (rv_ixT (ex_t e3 hq2) hx)) ea_nil)) spv_alike0))) rfl
theorem ok__law_product {f : Addr} {fd : FuncData} (F : Fun K "_law_product" "_law_product" s__law_product f fd) (T : Tx K mg base a__POWERS a__EXPONENTS c__require_data p__require_data) :
    FnOk P w K mg base CX0 1 f fd ["_law_one", "_law_other"] spMul := by
  refine F.ok sc__law_product (fun vs H Q E h => ?_) (fun cdv A outer s H vs Q E hr h => ?_)
  · obtain ⟨a, b, rfl, ⟨ha, hb⟩, q⟩ := h
    rfl
  · obtain ⟨a, b, rfl, ⟨ha, hb⟩, q⟩ := h
    refine ⟨_, (pss_cons (ps_set (i := 2) sc__law_product.nd rfl (by walk_at "sq_cell") pe_int)
    (pss_cons (ps_for PassesOwn.never rfl (pi_range1 (by rfl) T.n_range (pa_cons pe_int pa_nil)) (pg_name (i := 3) sc__law_product.nd rfl (by walk_at "sq_cell"))
    (pss_one (ps_if (pt_truth (pe_op op_and (pe_op op_shr (pv 1) (pv 3)) pe_int) (fun _ => rfl))
    (pss_one (ps_set (i := 2) sc__law_product.nd rfl (by walk_at "sq_cell") (pe_op op_xor (pv 2) (pe_op op_shl (pv 0) (pv 3)))))
    pss_nil)))
    (pss_cons (ps_for PassesOwn.never rfl (pi_tup (pe_tup (pa_cons pe_int (pa_cons pe_int (pa_cons pe_int pa_nil))))) (pg_name (i := 3) sc__law_product.nd rfl (by walk_at "sq_cell"))
    (pss_one (ps_if (pt_truth (pe_op op_and (pe_op op_shr (pv 2) (pv 3)) pe_int) (fun _ => rfl))
    (pss_one (ps_set (i := 2) sc__law_product.nd rfl (by walk_at "sq_cell") (pe_op op_xor (pv 2) (pe_op op_shl pe_int (pe_op op_sub (pv 3) pe_int)))))
    pss_nil)))
    (pss_one (ps_ret (pv 2)))))), ?_⟩

    refine q_asg ev_c fun H1 e1 => ?_
    refine q_forR1 (ea_cons ev_c ea_nil) (by decide) (fun i σ' H' => Ex H1 H' ∧ ∃ x3, σ' = [some (.int a), some (.int b), some (.int (lp1 a b i)), x3]) (fun H2 e2 => ⟨e2, _, rfl⟩) ?_ ?_
    · rintro i σ' H' hi ⟨e2, x3, rfl⟩
      have tn : (i : Int).toNat = i := Int.toNat_natCast i
      refine s_when (et_tru (ev_op (ev_op (ev_var rfl) (ev_var (v := .int (i : Int)) rfl) (rv_I (show 0 ≤ (i : Int) by omega))) ev_c rv_I0) tru_i) (fun c H3 e3 => ?_) (fun c H3 e3 => ⟨e2.trans e3, some (.int (i : Int)), ?_⟩)
      · refine s_asg (v := .int (lp1 a b (i + 1))) (ev_is (ev_op (ev_var rfl) (ev_op (ev_var rfl) (ev_var (v := .int (i : Int)) rfl) (rv_I (show CPow _ _ from ⟨by omega, by omega, by have := ha.1; have := ha.2; omega⟩))) rv_I0) ?_) fun H4 e4 => ⟨(e2.trans e3).trans e4, _, rfl⟩
        rw [tn] at c ⊢
        exact congrArg V.int (if_pos c).symm
      · rw [tn] at c
        have z : lp1 a b (i + 1) = lp1 a b i := if_neg (by rw [c]; decide)
        rw [z]
        rfl
    rintro σ' H' ⟨e2, x3, rfl⟩
    refine q_forNT (eu_tup (ea_cons ev_c (ea_cons ev_c (ea_cons ev_c ea_nil))) (by show 3 ≤ 100000; decide)) fun t H3 ht e3 h3 => ?_
    refine q_forT ev_c (st_of h3) (fun i σ' H' => Ex H3 H' ∧ ∃ x3, σ' = [some (.int a), some (.int b), some (.int (lpw a b i)), x3]) (fun H4 e4 => ⟨e4, _, rfl⟩) (fun i σ' H' _ p => st_of (p.1 _ _ h3)) ?_ ?_
    · rintro i x σ' H' hx ⟨e4, x3, rfl⟩
      obtain ⟨j, hj, rfl, hi⟩ : ∃ j : Nat, 6 - i = j ∧ x = .int (j : Int) ∧ 4 ≤ j := by
        match i, hx with
        | 0, hx => cases hx; exact ⟨6, rfl, rfl, by decide⟩
        | 1, hx => cases hx; exact ⟨5, rfl, rfl, by decide⟩
        | 2, hx => cases hx; exact ⟨4, rfl, rfl, by decide⟩
      have hj6 : j ≤ 6 := by omega
      have tn : (j : Int).toNat = j := Int.toNat_natCast j
      have tn4 : ((j : Int) - 4).toNat = j - 4 := by omega
      refine g_name ?_
      refine s_when (et_tru (ev_op (ev_op (ev_var rfl) (ev_var (v := .int (j : Int)) rfl) (rv_I (show 0 ≤ (j : Int) by omega))) ev_c rv_I0) tru_i) (fun c H5 e5 => ?_) (fun c H5 e5 => ⟨e4.trans e5, some (.int (j : Int)), ?_⟩)
      · refine s_asg (v := .int (lpw a b (i + 1))) (ev_is (ev_op (ev_var rfl) (ev_op ev_c (ev_op (ev_var (v := .int (j : Int)) rfl) ev_c rv_I0) (rv_I (show CPow _ _ from ⟨by omega, by omega, by decide⟩))) rv_I0) ?_) fun H6 e6 => ⟨(e4.trans e5).trans e6, _, rfl⟩
        rw [tn] at c
        rw [tn4]
        have z : lpw a b (i + 1) = lp2s (lpw a b i) j := by
          show lp2s (lpw a b i) (6 - i) = _
          rw [hj]
        rw [z]
        exact congrArg V.int (if_pos c).symm
      · rw [tn] at c
        have z : lpw a b (i + 1) = lpw a b i := by
          show lp2s (lpw a b i) (6 - i) = _
          rw [hj]
          exact if_neg (by rw [c]; decide)
        rw [z]
        rfl
    · rintro σ' H' ⟨e4, x3, rfl⟩
      refine s_ret (v := .int (gmul a b)) (ev_is (ev_var rfl) (congrArg V.int (lpw_eq ha hb))) fun H5 e5 => q H5 ((((e1.trans e2).trans e3).trans e4).trans e5)
theorem ok__law_at {f : Addr} {fd : FuncData} (F : Fun K "_law_at" "_law_at" s__law_at f fd) (T : Tx K mg base a__POWERS a__EXPONENTS c__require_data p__require_data)
    (D__law_product : Dfn P w K mg base 1 "_law_product" ["_law_one", "_law_other"] spMul) :
    FnOk P w K mg base CX0 2 f fd ["_law_marks", "_law_points", "_law_at_here"] (spAt K) := by
  refine F.ok sc__law_at (fun vs H Q E h => ?_) (fun cdv A outer s H vs Q E hr h => ?_)
  · obtain ⟨m, p, a, ds, rfl, hm, hp, hs, h0, h15, q⟩ := h
    rfl
  · obtain ⟨m, p, a, ds, rfl, hm, hp, hs, h0, h15, q⟩ := h
    refine ⟨_, (pss_cons (ps_set (i := 3) sc__law_at.nd rfl (by walk_at "sq_cell") pe_int)
    (pss_cons (ps_for PassesOwn.never rfl (pi_range1 (by rfl) T.n_range (pa_cons (pe_callB (r := rLenS K) call_len_seq (by rfl) T.n_len PySem.boot_len (pa_cons (pv 1) pa_nil)) pa_nil)) (pg_name (i := 4) sc__law_at.nd rfl (by walk_at "sq_cell"))
    (pss_cons (ps_asg (pe_tup (pa_cons (pe_ix (r := rIxT K) ix_tup (pv 0) (pv 4) (fun _ _ => rfl)) (pa_cons pe_int pa_nil))) (pg_tup (by rfl) (pgs_cons (pg_name (i := 5) sc__law_at.nd rfl (by walk_at "sq_cell")) (pgs_cons (pg_name (i := 6) sc__law_at.nd rfl (by walk_at "sq_cell")) pgs_nil))))
    (pss_cons (ps_for PassesOwn.never rfl (pi_range1 (by rfl) T.n_range (pa_cons (pe_callB (r := rLenS K) call_len_seq (by rfl) T.n_len PySem.boot_len (pa_cons (pv 1) pa_nil)) pa_nil)) (pg_name (i := 7) sc__law_at.nd rfl (by walk_at "sq_cell"))
    (pss_one (ps_if (pt_cmpR op_ne (pv 7) (pv 4) (nomark _))
    (pss_one (ps_asg (pe_tup (pa_cons (pe_callD D__law_product hr (by decide) (by rfl) (pa_cons (pv 5) (pa_cons (pe_op op_xor (pv 2) (pe_ix (r := rIxL K) ix_list (pv 1) (pv 7) (fun _ _ => rfl))) pa_nil))) (pa_cons (pe_callD D__law_product hr (by decide) (by rfl) (pa_cons (pv 6) (pa_cons (pe_op op_xor (pe_ix (r := rIxL K) ix_list (pv 1) (pv 4) (fun _ _ => rfl)) (pe_ix (r := rIxL K) ix_list (pv 1) (pv 7) (fun _ _ => rfl))) pa_nil))) pa_nil))) (pg_tup (by rfl) (pgs_cons (pg_name (i := 5) sc__law_at.nd rfl (by walk_at "sq_cell")) (pgs_cons (pg_name (i := 6) sc__law_at.nd rfl (by walk_at "sq_cell")) pgs_nil)))))
    pss_nil)))
    (pss_one (ps_set (i := 3) sc__law_at.nd rfl (by walk_at "sq_cell") (pe_op op_xor (pv 3) (pe_ix (r := rIxL K) ix_list (pe_lc (own := [("_law_mark", 8)]) (g := gName 8) (tt := _) rfl sc__law_at.nd (pi_range1 (by rfl) T.n_range (pa_cons pe_int pa_nil)) (blkOk_by (own := [("_law_mark", 8)]) (N := ["_law_marks", "_law_points", "_law_at_here", "_law_whole", "_law_k", "_law_top", "_law_below", "_law_j", "_law_mark"]) (sc := defScope s__law_at) (by decide +kernel)) (fun _ _ _ _ _ => pg_name (i := 8) sc__law_at.nd rfl (by walk_at "sq_cell")) (fun _ _ _ _ _ => (pts_one (pt_cmpR op_eq (pe_callD D__law_product hr (by decide) (by rfl) (pa_cons (pv 8) (pa_cons (pv 6) pa_nil))) (pv 5) (nomark _)))) (fun _ _ _ _ _ => (pv 8))) pe_int (fun _ _ => rfl))))))))
    (pss_one (ps_ret (pv 3))))), ?_⟩

    have hlen : ds.length ≤ 15 := by omega
    have ok := enumP_ok hs (show ds.length ≤ 16 by omega)
    have ha : Sym a := ⟨by omega, h15⟩
    have hna := ksV_not h0
    have hl : (rgV 0 (ds.length : Int)).length = ds.length := by
      rw [rgV_length]
      omega
    refine q_asg ev_c fun H1 e1 => ?_
    refine q_forR1 (ea_cons (ev_len (ev_var rfl) (ex_l e1 hp)) ea_nil) (by rw [hl]; omega) (fun i σ' H' => Ex H1 H' ∧ ∃ x4 x5 x6 x7 x8, σ' = [some (.ref m), some (.ref p), some (.int a), some (.int (ltail a (ksV (enumP 0 ds)) ((enumP 0 ds).take i) 0)), x4, x5, x6, x7, x8]) (fun H2 e2 => ⟨e2, _, _, _, _, _, rfl⟩) ?_ ?_
    · rintro i σ' H' hi ⟨e2, x4, x5, x6, x7, x8, rfl⟩
      have hi : i < ds.length := by
        rw [hl] at hi
        omega
      have hp2 := ex_l (e1.trans e2) hp
      have hv : ds[i]? = some ds[i] := List.getElem?_eq_getElem hi
      have sv := hs ds[i] (List.getElem_mem hi)
      generalize ds[i] = v at hv sv
      have hsi : Sym (i : Int) := ⟨by omega, by omega⟩
      refine q_asgPair (ea_cons (ev_op (ev_var rfl) (ev_var (v := .int (i : Int)) rfl) (rv_ixT (ex_t (e1.trans e2) hm) (map_at hv))) (ea_cons ev_c ea_nil)) fun H3 e3 => ?_
      have hp3 := ex_l e3 hp2
      refine q_forR1 (ea_cons (ev_len (ev_var rfl) hp3) ea_nil) (by rw [hl]; omega) (fun j σ' H' => Ex H3 H' ∧ ∃ x7 x8, σ' = [some (.ref m), some (.ref p), some (.int a), some (.int (ltail a (ksV (enumP 0 ds)) ((enumP 0 ds).take i) 0)), some (.int (i : Int)), some (.int (dskip i a ((ksV (enumP 0 ds)).take j) v)), some (.int (dskip i i ((ksV (enumP 0 ds)).take j) 1)), x7, x8]) (fun H4 e4 => ⟨e4, _, _, rfl⟩) ?_ ?_
      · rintro j σ' H' hj ⟨e4, x7, x8, rfl⟩
        have hj : j < ds.length := by
          rw [hl] at hj
          omega
        have hsj : Sym (j : Int) := ⟨by omega, by omega⟩
        have hkj := ksV_get hj
        have hp4 := ex_l e4 hp3
        have st := dskip_sym (s := (i : Int)) ha (fun k hk => ok.ks k (List.mem_of_mem_take hk)) sv (ks := (ksV (enumP 0 ds)).take j)
        have sb := dskip_sym (s := (i : Int)) hsi (fun k hk => ok.ks k (List.mem_of_mem_take hk)) sym_1 (ks := (ksV (enumP 0 ds)).take j)
        refine s_when (et_test (ev_op (ev_var (v := .int (j : Int)) rfl) (ev_var (v := .int (i : Int)) rfl) (rv_ne rfl))) (fun c H5 e5 => ?_) (fun c H5 e5 => ⟨e4.trans e5, some (.int (j : Int)), x8, ?_⟩)
        · have hne : (j : Int) ≠ i := fun z => by simp [z] at c
          have hp5 := ex_l e5 hp4
          refine s_asgPair (ea_cons (ev_callD (ea_cons (ev_var rfl) (ea_cons (ev_op (ev_var rfl) (ev_op (ev_var rfl) (ev_var (v := .int (j : Int)) rfl) (rv_ixL hp5 (rg_at hj))) rv_I0) ea_nil)) (spv_I2 (p := Sym2) ⟨st, sym_add ha hsj⟩)) (ea_cons (ev_callD (ea_cons (ev_var rfl) (ea_cons (ev_op (ev_op (ev_var rfl) (ev_var (v := .int (i : Int)) rfl) (rv_ixL hp5 (rg_at hi))) (ev_op (ev_var rfl) (ev_var (v := .int (j : Int)) rfl) (rv_ixL hp5 (rg_at hj))) rv_I0) ea_nil)) (spv_I2 (p := Sym2) ⟨sb, sym_add hsi hsj⟩)) ea_nil)) fun H6 e6 => ⟨(e4.trans e5).trans e6, some (.int (j : Int)), x8, ?_⟩
          rw [dskip_take hkj, dskip_take hkj, if_neg hne, if_neg hne]
          rfl
        · have heq : (j : Int) = i := by
            by_cases z : (j : Int) = i
            · exact z
            · simp [z] at c
          rw [dskip_take hkj, dskip_take hkj, if_pos heq, if_pos heq]
          rfl
      · rintro σ' H' ⟨e4, x7, x8, rfl⟩
        have tk : (ksV (enumP 0 ds)).take ((rgV 0 (ds.length : Int)).length : Int).toNat = ksV (enumP 0 ds) := by
          rw [hl]
          exact List.take_of_length_le (by rw [ksV_len]; omega)
        rw [tk]
        have hki := ksV_get hi
        have hmem : (i : Int) ∈ ksV (enumP 0 ds) := List.mem_of_getElem? hki
        have st := dskip_sym (s := (i : Int)) ha ok.ks sv
        have eb : dskip i i (ksV (enumP 0 ds)) 1 = dprod i (ksV (enumP 0 ds)) 1 := dskip_self _ _ _
        have sb := dprod_sym hsi ok.ks sym_1
        have nb := dprod_ne hsi ok.ks sym_1 (by decide)
        have eg : (enumP 0 ds)[i]? = some ((i : Int), v) := by
          rw [enumP_get, hv]
          simp
        rw [eb]
        refine s_asg (v := .int (ltail a (ksV (enumP 0 ds)) ((enumP 0 ds).take (i + 1)) 0)) (ev_is (ev_op (ev_var rfl) (ev_opL1 (xs := given 16 (fun m => decide (gmul (m : Int) (dprod i (ksV (enumP 0 ds)) 1) = dskip i a (ksV (enumP 0 ds)) v)) (fun m => V.int (m : Int))) (el_lcR1 _ _ (ea_cons ev_c ea_nil) (by decide) (fun _ => rfl) (fun k H5 e5 hk => et_is (et_test (ev_op (ev_callD (ea_cons (ev_var (v := .int (k : Int)) rfl) (ea_cons (ev_var rfl) ea_nil)) (spv_I2 (p := Sym2) ⟨⟨by omega, by omega⟩, sb⟩)) (ev_var rfl) (rv_eq rfl))) (by simp)) (fun k H5 e5 hk _ => ev_var rfl)) (fun H5 e5 => ev_c) (fun l H5 h5 e5 => rv_ixL (v := .int (gdiv (dskip i a (ksV (enumP 0 ds)) v) (dprod i (ksV (enumP 0 ds)) 1))) (sq_of h5) (by rw [root_given st sb nb]; rfl))) rv_I0) ?_) fun H5 e5 => ⟨((e2.trans e3).trans e4).trans e5, _, _, _, _, _, rfl⟩
        rw [ltail_take eg]
        rfl
    · rintro σ' H' ⟨e2, x4, x5, x6, x7, x8, rfl⟩
      have tk : (enumP 0 ds).take ((rgV 0 (ds.length : Int)).length : Int).toNat = enumP 0 ds := by
        rw [hl]
        exact List.take_of_length_le (by rw [enumP_len]; omega)
      rw [tk, ← lagr_tail ok ha hna]
      exact s_ret (ev_var rfl) fun H3 e3 => q H3 ((e1.trans e2).trans e3)
theorem ok__law_block {f : Addr} {fd : FuncData} (F : Fun K "_law_block" "_law_block" s__law_block f fd) (T : Tx K mg base a__POWERS a__EXPONENTS c__require_data p__require_data)
    (D__law_at : Dfn P w K mg base 2 "_law_at" ["_law_marks", "_law_points", "_law_at_here"] (spAt K)) :
    FnOk P w K mg base CX0 3 f fd ["_law_data_here", "_law_checks"] (spBlock K) := by
  refine F.ok sc__law_block (fun vs H Q E h => ?_) (fun cdv A outer s H vs Q E hr h => ?_)
  · obtain ⟨t, ds, c, rfl, ht, ok, q⟩ := h
    rfl
  · obtain ⟨t, ds, c, rfl, ht, ok, q⟩ := h
    refine ⟨_, (pss_cons (ps_set (i := 2) sc__law_block.nd rfl (by walk_at "sq_cell") (pe_listRg rfl (by rfl) T.n_list (prg_1 (by rfl) T.n_range (pe_callB (r := rLenS K) call_len_seq (by rfl) T.n_len PySem.boot_len (pa_cons (pv 0) pa_nil)))))
    (pss_one (ps_ret (pe_op op_catT (pe_callTy (r := rTupOf K) call_tuple_of (by rfl) T.n_tuple (by decide +kernel) (pa_cons (pv 0) pa_nil)) (pe_callTy (r := rTupOf K) call_tuple_of (by rfl) T.n_tuple (by decide +kernel) (pa_cons (pe_lc (own := [("_law_k", 3)]) (g := gName 3) (tt := _) rfl sc__law_block.nd (pi_range1 (by rfl) T.n_range (pa_cons (pv 1) pa_nil)) (blkOk_by (own := [("_law_k", 3)]) (N := ["_law_data_here", "_law_checks", "_law_points", "_law_k"]) (sc := defScope s__law_block) (by decide +kernel)) (fun _ _ _ _ _ => pg_name (i := 3) sc__law_block.nd rfl (by walk_at "sq_cell")) (fun _ _ _ _ _ => pts_nil) (fun _ _ _ _ _ => (pe_callD D__law_at hr (by decide) (by rfl) (pa_cons (pv 0) (pa_cons (pv 2) (pa_cons (pe_op op_add (pe_callB (r := rLenS K) call_len_seq (by rfl) T.n_len PySem.boot_len (pa_cons (pv 0) pa_nil)) (pv 3)) pa_nil)))))) pa_nil)))))), ?_⟩

    obtain ⟨hs, hne, hc, hl⟩ := id ok
    have hpos : 0 < ds.length := List.length_pos_iff.mpr hne
    refine q_asgL (el_listRg (ev_is (w := .int (ds.length : Int)) (ev_lenT (ev_var rfl) ht) (by rw [List.length_map])) (by omega)) fun p H1 hp e1 h1 => ?_
    have ht1 := ex_t e1 ht
    have z : ds.map V.int ++ given c.toNat (fun _ => true) (fun i => V.int (lagr (enumP 0 ds) ((ds.length + i : Nat) : Int))) = (blockOf ds (ds.length + c.toNat)).map V.int := by
      rw [block_take (by omega), List.map_append, Nat.add_sub_cancel_left]
      unfold given
      rw [List.map_map, List.filter_eq_self.mpr (fun _ _ => rfl)]
      rfl
    have gl := given_len c.toNat (fun _ => true) (fun i => V.int (lagr (enumP 0 ds) ((ds.length + i : Nat) : Int)))
    refine s_retS (xs := (blockOf ds (ds.length + c.toNat)).map V.int) (z ▸ evs_cat (evs_V (ev_tupT (ev_var rfl) ht1) ht1) (evs_U (eu_tupL (el_lcR1 (fun _ => true) (fun i => V.int (lagr (enumP 0 ds) ((ds.length + i : Nat) : Int))) (ea_cons (ev_var rfl) ea_nil) (by omega) (fun _ => rfl) (fun _ _ _ _ H9 _ _ q9 => q9 H9 (Ex.refl H9)) (fun i H2 e2 hi _ => ?_)))) (fun z => hne (List.map_eq_nil_iff.mp z)) (by rw [List.length_map]; omega)) fun p H2 e2 h2 => q p H2 (e1.trans e2) h2
    have ht2 := ex_t e2 ht1
    refine ev_callD (ea_cons (ev_var rfl) (ea_cons (ev_var rfl) (ea_cons (ev_is (w := .int ((ds.length + i : Nat) : Int)) (ev_op (ev_lenT (ev_var rfl) ht2) (ev_var (v := .int (i : Int)) rfl) rv_I0) ?_) ea_nil))) (spv_at ht2 (sq_of (e2 _ _ h1)) hs (by omega) (by omega))
    rw [List.length_map]
    exact congrArg V.int (by omega)
theorem ok__law_data {f : Addr} {fd : FuncData} (F : Fun K "_law_data" "_law_data" s__law_data f fd) (T : Tx K mg base a__POWERS a__EXPONENTS c__require_data p__require_data)
    (D__law_taken : Dfn P w K mg base 1 "_law_taken" ["_law_row", "_law_many"] (spTaken K)) :
    FnOk P w K mg base CX0 2 f fd ["_law_row", "_law_most"] (spData K) := by
  refine F.ok sc__law_data (fun vs H Q E h => ?_) (fun cdv A outer s H vs Q E hr h => ?_)
  · obtain ⟨r, m, rfl, hm1, hm2, hrow, q⟩ := h
    rfl
  · obtain ⟨r, m, rfl, hm1, hm2, hrow, q⟩ := h
    refine ⟨_, (pss_cons (ps_set (i := 2) sc__law_data.nd rfl (by walk_at "sq_cell") (pe_op op_add pe_int (pe_callD D__law_taken hr (by decide) (by rfl) (pa_cons (pv 0) (pa_cons (pv 1) pa_nil)))))
    (pss_cons (ps_set (i := 3) sc__law_data.nd rfl (by walk_at "sq_cell") (pe_callD D__law_taken hr (by decide) (by rfl) (pa_cons (pv 0) (pa_cons (pe_callB (call_min2 rfl) (by rfl) T.n_min (by decide +kernel) (pa_cons (pe_ix (r := rIxL K) ix_list (pe_lst (pa_cons pe_int (pa_cons pe_int pa_nil))) (pe_callD D__law_taken hr (by decide) (by rfl) (pa_cons (pv 0) (pa_cons pe_int pa_nil))) (fun _ _ => rfl)) (pa_cons (pe_op op_sub pe_int (pv 2)) pa_nil))) pa_nil))))
    (pss_cons (ps_set (i := 4) sc__law_data.nd rfl (by walk_at "sq_cell") (pe_ix (r := rIxL K) ix_list (pe_lst (pa_cons pe_int (pa_cons pe_int (pa_cons pe_int pa_nil)))) (pe_callD D__law_taken hr (by decide) (by rfl) (pa_cons (pv 0) (pa_cons pe_int pa_nil))) (fun _ _ => rfl)))
    (pss_one (ps_ret (pe_tup (pa_cons (pe_callTy (r := rTupOf K) call_tuple_of (by rfl) T.n_tuple (by decide +kernel) (pa_cons (pe_lc (own := [("_law_turn", 5)]) (g := gName 5) (tt := _) rfl sc__law_data.nd (pi_range1 (by rfl) T.n_range (pa_cons (pv 2) pa_nil)) (blkOk_by (own := [("_law_turn", 5)]) (N := ["_law_row", "_law_most", "_law_k", "_law_checks", "_law_kinds", "_law_turn"]) (sc := defScope s__law_data) (by decide +kernel)) (fun _ _ _ _ _ => pg_name (i := 5) sc__law_data.nd rfl (by walk_at "sq_cell")) (fun _ _ _ _ _ => pts_nil) (fun _ _ _ _ _ => (pe_callD D__law_taken hr (by decide) (by rfl) (pa_cons (pv 0) (pa_cons (pv 4) pa_nil))))) pa_nil)) (pa_cons (pv 3) pa_nil)))))))), ?_⟩

    refine q_asgP (p := fun v => ∃ k : Nat, v = .int (k : Int) ∧ 1 ≤ k ∧ (k : Int) ≤ m) (evp_op1 ev_c (evp_takenC (ev_var rfl) (ev_var rfl) ⟨by omega, by omega⟩ hrow) fun y hy H1 e1 => ?_) fun v H1 hv e1 => ?_
    · obtain ⟨z, rfl, z0, z1⟩ := hy
      exact ⟨.int (1 + z), rv_I0, (1 + z).toNat, congrArg V.int (by omega), by omega, by omega⟩
    obtain ⟨k, rfl, k1, k2⟩ := hv
    have hrow1 := hrow.ex e1
    refine q_asgP (p := intB (17 - k)) (evp_taken (ev_var rfl) (evp_cb2 (p1 := fun v => v = .int 8 ∨ v = .int 13) (evp_opL (el_lst (ea_cons ev_c (ea_cons ev_c ea_nil)) (by show 2 ≤ 100000; decide)) (evp_takenC (ev_var rfl) ev_c (by decide) hrow1) fun a y hy H2 h2 => ?_) (ev_op ev_c (ev_var rfl) rv_I0) fun x hx H2 e2 => ?_) (by omega) hrow1) fun v H2 hv e2 => ?_
    · obtain ⟨z, rfl, z0, z1⟩ := hy
      rcases (by omega : z = 0 ∨ z = 1) with rfl | rfl
      · exact ⟨.int 8, rv_ixL (sq_of h2) rfl, .inl rfl⟩
      · exact ⟨.int 13, rv_ixL (sq_of h2) rfl, .inr rfl⟩
    · rcases hx with rfl | rfl
      · exact ⟨_, rc_min2, _, rfl, by split <;> omega, by split <;> omega⟩
      · exact ⟨_, rc_min2, _, rfl, by split <;> omega, by split <;> omega⟩
    obtain ⟨c, rfl, c0, c1⟩ := hv
    have hrow2 := hrow1.ex e2
    refine q_asgP (p := fun v => v = .int 2 ∨ v = .int 16) (evp_opL (el_lst (ea_cons ev_c (ea_cons ev_c (ea_cons ev_c ea_nil))) (by show 3 ≤ 100000; decide)) (evp_takenC (ev_var rfl) ev_c (by decide) hrow2) fun a y hy H3 h3 => ?_) fun v H3 hv e3 => ?_
    · obtain ⟨z, rfl, z0, z1⟩ := hy
      rcases (by omega : z = 0 ∨ z = 1 ∨ z = 2) with rfl | rfl | rfl
      · exact ⟨.int 2, rv_ixL (sq_of h3) rfl, .inl rfl⟩
      · exact ⟨.int 16, rv_ixL (sq_of h3) rfl, .inr rfl⟩
      · exact ⟨.int 16, rv_ixL (sq_of h3) rfl, .inr rfl⟩
    have hrow3 := hrow2.ex e3
    obtain ⟨n, rfl, n0, n1⟩ : ∃ n : Int, v = .int n ∧ 0 < n ∧ n ≤ 16 := by
      rcases hv with rfl | rfl
      · exact ⟨2, rfl, by decide, by decide⟩
      · exact ⟨16, rfl, by decide, by decide⟩
    refine s_retPair (up_tupL (lp_range (n := (k : Int)) (ea_cons (ev_var rfl) ea_nil) (by omega) (fun _ => rfl) fun i H4 e4 hi => evp_takenC (ev_var rfl) (ev_var rfl) ⟨n0, by omega⟩ (hrow3.ex e4))) (ev_var rfl) fun xs t p H4 hP e4 h4 h5 => ?_
    obtain ⟨hl, hx⟩ := hP
    obtain ⟨ds, rfl, hd⟩ := ints_of hx
    rw [List.length_map] at hl
    refine q ds c p t _ ⟨fun x hx => ⟨(hd x hx).1, by have := (hd x hx).2; omega⟩, fun z => by rw [z] at hl; simp at hl; omega, c0, by omega⟩ (by omega) (((e1.trans e2).trans e3).trans e4) h4 h5
theorem ok_law {f : Addr} {fd : FuncData} (F : Fun K "law" "law" s_law f fd) (T : Tx K mg base a__POWERS a__EXPONENTS c__require_data p__require_data)
    (D__law_data : Dfn P w K mg base 2 "_law_data" ["_law_row", "_law_most"] (spData K))
    (D__law_block : Dfn P w K mg base 3 "_law_block" ["_law_data_here", "_law_checks"] (spBlock K))
    (D__law_taken : Dfn P w K mg base 1 "_law_taken" ["_law_row", "_law_many"] (spTaken K))
    (D_encode_block : Dfn P w K mg base 5 "encode_block" ["data", "check_count"] (spEncode K p__require_data))
    (D__law_alike : Dfn P w K mg base 2 "_law_alike" ["_law_one", "_law_due"] (spAlike1 K)) :
    FnOk P w K mg base CX0 6 f fd ["_law_script"] (spLawX K [p__require_data]) := by
  refine F.ok sc_law (fun vs H Q E h => ?_) (fun cdv A outer s H vs Q E hr h => ?_)
  · obtain ⟨a, ns, rfl, hS, hT, q⟩ := h
    rfl
  · obtain ⟨a, ns, rfl, hS, hT, q⟩ := h
    refine ⟨_, (pss_cons (ps_set (i := 1) sc_law.nd rfl (by walk_at "sq_cell") (pe_lst (pa_cons (pv 0) (pa_cons pe_int (pa_cons pe_int (pa_cons pe_int pa_nil))))))
    (pss_abs (pss_cons (ps_for PassesOwn.never rfl (pi_range1 (by rfl) T.n_range (pa_cons pe_int pa_nil)) (pg_name (i := 2) sc_law.nd rfl (by walk_at "sq_cell"))
    (pss_cons (ps_asg (pe_callD D__law_data hr (by decide) (by rfl) (pa_cons (pv 1) (pa_cons pe_int pa_nil))) (pg_tup (by rfl) (pgs_cons (pg_name (i := 3) sc_law.nd rfl (by walk_at "sq_cell")) (pgs_cons (pg_name (i := 4) sc_law.nd rfl (by walk_at "sq_cell")) pgs_nil))))
    (pss_cons (ps_set (i := 5) sc_law.nd rfl (by walk_at "sq_cell") (pe_callD D__law_block hr (by decide) (by rfl) (pa_cons (pv 3) (pa_cons (pv 4) pa_nil))))
    (pss_one (ps_for PassesOwn.never rfl (pi_range1 (by rfl) T.n_range (pa_cons pe_int pa_nil)) (pg_name (i := 6) sc_law.nd rfl (by walk_at "sq_cell"))
    (pss_one (ps_if (pt_not (pt_val (pe_callD D__law_alike hr (by decide) (by rfl) (pa_cons (pe_callD D_encode_block hr (by decide) (by rfl) (pa_cons (pv 3) (pa_cons (pv 4) pa_nil))) (pa_cons (pv 5) pa_nil)))))
    (pss_one (ps_ret pe_bl))
    pss_nil)))))))
    (pss_cons (ps_set (i := 3) sc_law.nd rfl (by walk_at "sq_cell") (pe_callTy (r := rTupOf K) call_tuple_of (by rfl) T.n_tuple (by decide +kernel) (pa_cons (pe_lc (own := [("_law_k", 7)]) (g := gName 7) (tt := _) rfl sc_law.nd (pi_range1 (by rfl) T.n_range (pa_cons pe_int pa_nil)) (blkOk_by (own := [("_law_k", 7)]) (N := ["_law_script", "_law_row", "_law_turn", "_law_data_here", "_law_checks", "_law_due", "_law_once", "_law_k"]) (sc := defScope s_law) (by decide +kernel)) (fun _ _ _ _ _ => pg_name (i := 7) sc_law.nd rfl (by walk_at "sq_cell")) (fun _ _ _ _ _ => pts_nil) (fun _ _ _ _ _ => (pe_callD D__law_taken hr (by decide) (by rfl) (pa_cons (pv 1) (pa_cons pe_int pa_nil))))) pa_nil)))
    (pss_one (ps_ret (pe_and (pe_cmpR (op_eqD (hu64 hr)) (pe_callD D_encode_block hr (by decide) (by rfl) (pa_cons (pv 3) (pa_cons pe_int pa_nil))) (pv 3) (nomark _)) (pe_one (pe_cmpR (op_eqD (hu64 hr)) (pe_callD D_encode_block hr (by decide) (by rfl) (pa_cons (pe_slice (r := rSlT K) sl_tup (pv 3) po_none (po_some pe_int)) (pa_cons pe_int pa_nil))) (pe_op op_repT (pe_slice (r := rSlT K) sl_tup (pv 3) po_none (po_some pe_int)) pe_int) (nomark _)))))))))), ?_⟩

    refine q_asgL (el_lst (ea_cons (ev_var rfl) (ea_cons ev_c (ea_cons ev_c (ea_cons ev_c ea_nil)))) (by show 4 ≤ 100000; decide)) fun r H1 hn e1 hr => ?_
    refine ⟨r, a, 0, 0, 0, ⟨by decide, by decide, by decide, by decide⟩, hr, ?_⟩
    have hrow : RowAt K (upd H1 r (rowF r a)) r := ⟨a, ns, upd_same, row_keep (ex_l e1 hS) hr⟩
    have hG : Ex H (upd H1 r (rowF r a)) := Ex.mut e1 hn
    have hP := hT _ (List.mem_singleton.mpr rfl)
    generalize upd H1 r (rowF r a) = G at hrow hG ⊢
    have hPG := hG _ _ hP
    refine q_forR1 (ea_cons ev_c ea_nil) (by decide) (fun i σ' H' => Ex G H' ∧ ∃ x2 x3 x4 x5 x6 x7, σ' = [some (.ref a), some (.ref r), x2, x3, x4, x5, x6, x7]) (fun H1 e1 => ⟨e1, _, _, _, _, _, _, rfl⟩) ?_ ?_
    · rintro i σ' H' hi ⟨e0, x2, x3, x4, x5, x6, x7, rfl⟩
      refine q_asgG ⟨_, rfl, r, 14, rfl, by decide, by decide, hrow.ex e0, fun ds c p t H2 ok hl e2 ht hp => ⟨p, _, rfl, st_of hp, rfl, _, _, rfl, _, _, rfl, rfl, ?_⟩⟩
      have e02 := e0.trans e2
      refine q_asgS (evs_callD (ea_cons (ev_var rfl) (ea_cons (ev_var rfl) ea_nil)) (sps_block (st_of ht) ok)) fun u H3 e3 hu => ?_
      have ht3 := e3 _ _ ht
      have e03 := e02.trans e3
      refine s_forR1 (ea_cons ev_c ea_nil) (by decide) (fun j σ' H' => Ex H3 H' ∧ ∃ x6 x7, σ' = [some (.ref a), some (.ref r), some (.int i), some (.ref t), some (.int c), some (.ref u), x6, x7]) (fun H4 e4 => ⟨e4, _, _, rfl⟩) ?_ ?_
      · rintro j σ' H' hj ⟨e4, x6, x7, rfl⟩
        refine s_when (b := false) (et_is (et_not (et_B (ev_callS (evs_U (eu_callD (ea_cons (ev_var rfl) (ea_cons (ev_var rfl) ea_nil)) (spu_encode (st_of (e4 _ _ ht3)) (e4 _ _ (e03 _ _ hPG)) ok))) (ev_var rfl) fun b H5 e5 hb => spv_alike1 hb (ex_t (e4.trans e5) hu) (by rw [block_len]; have := ok.2.2; omega)))) rfl) (fun z => nomatch z) fun _ H5 e5 => ⟨e4.trans e5, _, _, rfl⟩
      · rintro σ' H' ⟨e4, x6, x7, rfl⟩
        exact ⟨e03.trans e4, _, _, _, _, _, _, rfl⟩
    · rintro σ' H' ⟨e0, x2, x3, x4, x5, x6, x7, rfl⟩
      refine q_asgUP (up_tupL (lp_range (ea_cons ev_c ea_nil) (by decide) (fun _ => rfl) fun i H4 e4 hi => evp_takenC (ev_var rfl) ev_c (by decide) ((hrow.ex e0).ex e4))) fun xs t H2 hP2 ht e2 h2 => ?_
      obtain ⟨hl, hx⟩ := hP2
      obtain ⟨ds, rfl, hd⟩ := ints_of hx
      rw [List.length_map] at hl
      have hl : ds.length = 16 := hl
      have hs : ∀ x ∈ ds, Sym x := fun x hx => ⟨(hd x hx).1, by have := (hd x hx).2; omega⟩
      have hP2 := e2 _ _ (e0 _ _ hPG)
      match ds, hl with
      | x :: rest, hl =>
      have hx1 := hs x List.mem_cons_self
      have cut1 : cutV ((x :: rest).map V.int) none (some 1) = [x].map V.int := by
        have z : ((x :: rest).map V.int).length = 16 := by rw [List.length_map, hl]
        unfold cutV
        rw [z]
        rfl
      have nw : ¬ (HT.sIx ((x :: rest).map V.int).length 0 none = 0 ∧ HT.sIx ((x :: rest).map V.int).length ((x :: rest).map V.int).length (some 1) = ((x :: rest).map V.int).length) := by
        rw [List.length_map, hl]
        decide
      have b16 := block_self (x :: rest)
      rw [hl] at b16
      have ok0 : DataOk (x :: rest) 0 := ⟨hs, (fun z => nomatch z), by decide, by rw [hl]; decide⟩
      have ok1 : DataOk [x] 15 := ⟨fun y hy => by rw [List.mem_singleton.mp hy]; exact hx1, (fun z => nomatch z), by decide, by show (1 : Int) + 15 ≤ 16; decide⟩
      have sl : ∀ {tl : TO} {th : TO} {σ : L2.St} {te : TE}, Ev te σ H2 (.ref t) → EvO tl σ H2 none → EvO th σ H2 (some 1) → EvS K (tSl (rSlT K) te tl th) σ H2 ([x].map V.int) := fun h h1 h3 => cut1 ▸ evs_sl h h1 h3 (st_of h2) nw
      refine s_ret (v := .bl true) (ev_is (ev_andV (ev_eqS (xs := x :: rest) (ys := x :: rest) (evs_U (b16 ▸ hl ▸ eu_callD (ea_cons (ev_var rfl) (ea_cons ev_c ea_nil)) (spu_encode (st_of h2) hP2 ok0))) (evs_V (ev_var rfl) (st_of h2))) fun _ => ev_eqS (xs := List.replicate 16 x) (ys := List.replicate 16 x) (evs_U (block_one hx1 ▸ eu_callS (sl (ev_var rfl) eo_none (eo_some ev_c)) ev_c fun b H3 e3 hb => spu_encode hb (e3 _ _ hP2) ok1)) (evs_rep (xs := [x].map V.int) (sl (ev_var rfl) eo_none (eo_some ev_c)) ev_c (fun z => nomatch z) (by decide) (by show 1 ≤ 1000; decide))) ?_) fun H3 e3 => q H3 (((hG.trans e0).trans e2).trans e3)
      simp
end
end Qk02

namespace Zk02
open PySem PySem.Spec PyProof.Rows L2 Sq Qk02
def d_is_number : He.DefD := ⟨("is_number", none), "is_number", "is_number", defArgs s_is_number, defBody s_is_number, defScope s_is_number, [], []⟩
def d_is_symbol : He.DefD := ⟨("is_symbol", none), "is_symbol", "is_symbol", defArgs s_is_symbol, defBody s_is_symbol, defScope s_is_symbol, [], []⟩
def d_times : He.DefD := ⟨("times", none), "times", "times", defArgs s_times, defBody s_times, defScope s_times, [], []⟩
def d_over : He.DefD := ⟨("over", none), "over", "over", defArgs s_over, defBody s_over, defScope s_over, [], []⟩
def d_encode_block : He.DefD := ⟨("encode_block", none), "encode_block", "encode_block", defArgs s_encode_block, defBody s_encode_block, defScope s_encode_block, [], []⟩
def d__require_data : He.DefD := ⟨("_require_data", none), "_require_data", "_require_data", defArgs s__require_data, defBody s__require_data, defScope s__require_data, [], []⟩
def d__values : He.DefD := ⟨("_values", none), "_values", "_values", defArgs s__values, defBody s__values, defScope s__values, [], []⟩
def d__value : He.DefD := ⟨("_value", none), "_value", "_value", defArgs s__value, defBody s__value, defScope s__value, [], []⟩
def d__distance_product : He.DefD := ⟨("_distance_product", none), "_distance_product", "_distance_product", defArgs s__distance_product, defBody s__distance_product, defScope s__distance_product, [], []⟩
def d__law_taken : He.DefD := ⟨("_law_taken", none), "_law_taken", "_law_taken", defArgs s__law_taken, defBody s__law_taken, defScope s__law_taken, [], []⟩
def d__law_alike : He.DefD := ⟨("_law_alike", none), "_law_alike", "_law_alike", defArgs s__law_alike, defBody s__law_alike, defScope s__law_alike, [], []⟩
def d__law_product : He.DefD := ⟨("_law_product", none), "_law_product", "_law_product", defArgs s__law_product, defBody s__law_product, defScope s__law_product, [], []⟩
def d__law_at : He.DefD := ⟨("_law_at", none), "_law_at", "_law_at", defArgs s__law_at, defBody s__law_at, defScope s__law_at, [], []⟩
def d__law_block : He.DefD := ⟨("_law_block", none), "_law_block", "_law_block", defArgs s__law_block, defBody s__law_block, defScope s__law_block, [], []⟩
def d__law_data : He.DefD := ⟨("_law_data", none), "_law_data", "_law_data", defArgs s__law_data, defBody s__law_data, defScope s__law_data, [], []⟩
def d_law : He.DefD := ⟨("law", none), "law", "law", defArgs s_law, defBody s_law, defScope s_law, [], []⟩
def fn : List He.DefD := [d_is_number, d_is_symbol, d_times, d_over, d_encode_block, d__require_data, d__values, d__value, d__distance_product, d__law_taken, d__law_alike, d__law_product, d__law_at, d__law_block, d__law_data, d_law]
def fa : List He.Fa := [.glo "is_number", .glo "is_symbol", .glo "times", .glo "over", .glo "encode_block", .glo "_require_data", .glo "_values", .glo "_value", .glo "_distance_product", .glo "_law_taken", .glo "_law_alike", .glo "_law_product", .glo "_law_at", .glo "_law_block", .glo "_law_data", .glo "law", .free "isinstance", .free "int", .free "bool", .free "dict", .free "tuple", .free "enumerate", .free "len", .free "all", .free "range", .free "list", .free "min", .int "_LONGEST_BLOCK" 16, .glo "_POWERS", .glo "_EXPONENTS"]
def tf : List He.Defn := [("_require_data", none)]
def ex (K : PySem.W.Frag) : Bool := true && He.tupB K "_POWERS" [.int 1, .int 2, .int 4, .int 8, .int 3, .int 6, .int 12, .int 11, .int 5, .int 10, .int 7, .int 14, .int 15, .int 13, .int 9, .int 1, .int 2, .int 4, .int 8, .int 3, .int 6, .int 12, .int 11, .int 5, .int 10, .int 7, .int 14, .int 15, .int 13, .int 9] && He.tupB K "_EXPONENTS" [.int 0, .int 0, .int 1, .int 4, .int 2, .int 8, .int 5, .int 10, .int 3, .int 14, .int 9, .int 7, .int 6, .int 13, .int 11, .int 12]
abbrev R : PySem.W.OpenRow := PySem.W.OpenLaw.row PySem.Challenge.rw_squaremark_k02_check_symbols
abbrev hk : PySem.W.Hook := He.hookX 4 fa fn [] tf ex
def ob (s : PySem.W.SharedT) : He.AlX := He.obsX 4 fa fn [] tf ex (HandSHeadRun.getT s)
theorem ob_eq (s : PySem.W.SharedT) : ob s = hk.obs s.abs := He.obsX_eq (HandSHeadRun.getT_eq s)
def names : List Str := (["SquaremarkError", "InvalidBlock", "_POWERS", "_EXPONENTS", "is_number", "is_symbol", "times", "over", "_LONGEST_BLOCK", "encode_block", "_require_data", "_values", "_value", "_distance_product", "_law_taken", "_law_alike", "_law_product", "_law_at", "_law_block", "_law_data"] : List Str)
theorem run (w : World) : HandSHeadRun.RunEq R (PySem.W.view R.prog [24]) hk ob 4000 names w := by
  intro os
  kernel_rfl
theorem facts {l : PySem.W.OpenLaw} {w : World} {K : PySem.W.Frag} {h : Heap} {mg : Str → Option Value} {f : Addr} (X : K.In h) (G : h.Ns mainGlobals mg) (hfa : mg ("law" : Str) = some (.ref f)) (c : He.SaysX fa fn [] tf ex w h K) : LamX.LawAtS l w K CX0 6 63 "_law_script" mg f h := by
  have cd := c.t.d
  have hex := c.more
  obtain ⟨fd0, E0⟩ := cd.def_ 0 (d := d_is_number) rfl
  obtain ⟨fd1, E1⟩ := cd.def_ 1 (d := d_is_symbol) rfl
  obtain ⟨fd2, E2⟩ := cd.def_ 2 (d := d_times) rfl
  obtain ⟨fd3, E3⟩ := cd.def_ 3 (d := d_over) rfl
  obtain ⟨fd4, E4⟩ := cd.def_ 4 (d := d_encode_block) rfl
  obtain ⟨fd5, E5⟩ := cd.def_ 5 (d := d__require_data) rfl
  obtain ⟨fd6, E6⟩ := cd.def_ 6 (d := d__values) rfl
  obtain ⟨fd7, E7⟩ := cd.def_ 7 (d := d__value) rfl
  obtain ⟨fd8, E8⟩ := cd.def_ 8 (d := d__distance_product) rfl
  obtain ⟨fd9, E9⟩ := cd.def_ 9 (d := d__law_taken) rfl
  obtain ⟨fd10, E10⟩ := cd.def_ 10 (d := d__law_alike) rfl
  obtain ⟨fd11, E11⟩ := cd.def_ 11 (d := d__law_product) rfl
  obtain ⟨fd12, E12⟩ := cd.def_ 12 (d := d__law_at) rfl
  obtain ⟨fd13, E13⟩ := cd.def_ 13 (d := d__law_block) rfl
  obtain ⟨fd14, E14⟩ := cd.def_ 14 (d := d__law_data) rfl
  obtain ⟨fd15, E15⟩ := cd.def_ 15 (d := d_law) rfl
  have F0 : Fun K "is_number" "is_number" s_is_number (He.fAd K ("is_number", none)) fd0 := fun_of E0
  have b0 := F0.binds (ps := ["value"]) fun _ _ _ _ _ _ us hl => match us, hl with | [_], _ => rfl
  have g0 := He.glo_ok X G (cd.fact 0 (f := .glo "is_number") rfl)
  have F1 : Fun K "is_symbol" "is_symbol" s_is_symbol (He.fAd K ("is_symbol", none)) fd1 := fun_of E1
  have b1 := F1.binds (ps := ["value"]) fun _ _ _ _ _ _ us hl => match us, hl with | [_], _ => rfl
  have g1 := He.glo_ok X G (cd.fact 1 (f := .glo "is_symbol") rfl)
  have F2 : Fun K "times" "times" s_times (He.fAd K ("times", none)) fd2 := fun_of E2
  have b2 := F2.binds (ps := ["left", "right"]) fun _ _ _ _ _ _ us hl => match us, hl with | [_, _], _ => rfl
  have g2 := He.glo_ok X G (cd.fact 2 (f := .glo "times") rfl)
  have F3 : Fun K "over" "over" s_over (He.fAd K ("over", none)) fd3 := fun_of E3
  have b3 := F3.binds (ps := ["left", "right"]) fun _ _ _ _ _ _ us hl => match us, hl with | [_, _], _ => rfl
  have g3 := He.glo_ok X G (cd.fact 3 (f := .glo "over") rfl)
  have F4 : Fun K "encode_block" "encode_block" s_encode_block (He.fAd K ("encode_block", none)) fd4 := fun_of E4
  have b4 := F4.binds (ps := ["data", "check_count"]) fun _ _ _ _ _ _ us hl => match us, hl with | [_, _], _ => rfl
  have g4 := He.glo_ok X G (cd.fact 4 (f := .glo "encode_block") rfl)
  have F5 : Fun K "_require_data" "_require_data" s__require_data (He.fAd K ("_require_data", none)) fd5 := fun_of E5
  have b5 := F5.binds (ps := ["data", "check_count"]) fun _ _ _ _ _ _ us hl => match us, hl with | [_, _], _ => rfl
  have g5 := He.glo_ok X G (cd.fact 5 (f := .glo "_require_data") rfl)
  have F6 : Fun K "_values" "_values" s__values (He.fAd K ("_values", none)) fd6 := fun_of E6
  have b6 := F6.binds (ps := ["points", "length"]) fun _ _ _ _ _ _ us hl => match us, hl with | [_, _], _ => rfl
  have g6 := He.glo_ok X G (cd.fact 6 (f := .glo "_values") rfl)
  have F7 : Fun K "_value" "_value" s__value (He.fAd K ("_value", none)) fd7 := fun_of E7
  have b7 := F7.binds (ps := ["at", "points", "weights"]) fun _ _ _ _ _ _ us hl => match us, hl with | [_, _, _], _ => rfl
  have g7 := He.glo_ok X G (cd.fact 7 (f := .glo "_value") rfl)
  have F8 : Fun K "_distance_product" "_distance_product" s__distance_product (He.fAd K ("_distance_product", none)) fd8 := fun_of E8
  have b8 := F8.binds (ps := ["at", "points"]) fun _ _ _ _ _ _ us hl => match us, hl with | [_, _], _ => rfl
  have g8 := He.glo_ok X G (cd.fact 8 (f := .glo "_distance_product") rfl)
  have F9 : Fun K "_law_taken" "_law_taken" s__law_taken (He.fAd K ("_law_taken", none)) fd9 := fun_of E9
  have b9 := F9.binds (ps := ["_law_row", "_law_many"]) fun _ _ _ _ _ _ us hl => match us, hl with | [_, _], _ => rfl
  have g9 := He.glo_ok X G (cd.fact 9 (f := .glo "_law_taken") rfl)
  have F10 : Fun K "_law_alike" "_law_alike" s__law_alike (He.fAd K ("_law_alike", none)) fd10 := fun_of E10
  have b10 := F10.binds (ps := ["_law_one", "_law_due"]) fun _ _ _ _ _ _ us hl => match us, hl with | [_, _], _ => rfl
  have g10 := He.glo_ok X G (cd.fact 10 (f := .glo "_law_alike") rfl)
  have F11 : Fun K "_law_product" "_law_product" s__law_product (He.fAd K ("_law_product", none)) fd11 := fun_of E11
  have b11 := F11.binds (ps := ["_law_one", "_law_other"]) fun _ _ _ _ _ _ us hl => match us, hl with | [_, _], _ => rfl
  have g11 := He.glo_ok X G (cd.fact 11 (f := .glo "_law_product") rfl)
  have F12 : Fun K "_law_at" "_law_at" s__law_at (He.fAd K ("_law_at", none)) fd12 := fun_of E12
  have b12 := F12.binds (ps := ["_law_marks", "_law_points", "_law_at_here"]) fun _ _ _ _ _ _ us hl => match us, hl with | [_, _, _], _ => rfl
  have g12 := He.glo_ok X G (cd.fact 12 (f := .glo "_law_at") rfl)
  have F13 : Fun K "_law_block" "_law_block" s__law_block (He.fAd K ("_law_block", none)) fd13 := fun_of E13
  have b13 := F13.binds (ps := ["_law_data_here", "_law_checks"]) fun _ _ _ _ _ _ us hl => match us, hl with | [_, _], _ => rfl
  have g13 := He.glo_ok X G (cd.fact 13 (f := .glo "_law_block") rfl)
  have F14 : Fun K "_law_data" "_law_data" s__law_data (He.fAd K ("_law_data", none)) fd14 := fun_of E14
  have b14 := F14.binds (ps := ["_law_row", "_law_most"]) fun _ _ _ _ _ _ us hl => match us, hl with | [_, _], _ => rfl
  have g14 := He.glo_ok X G (cd.fact 14 (f := .glo "_law_data") rfl)
  have F15 : Fun K "law" "law" s_law (He.fAd K ("law", none)) fd15 := fun_of E15
  have g15 := He.glo_ok X G (cd.fact 15 (f := .glo "law") rfl)
  have e := hfa.symm.trans g15
  cases e
  simp only [ex, Bool.and_eq_true, Bool.true_and] at hex
  refine ⟨fd15, tf.map (He.cT K), spLawB K [(He.cT K ("_require_data", none)).2], fun p hp => ?_, fun p hp => ?_, fun p hp => ?_, fun s u => ?_, fun H a ns _ _ hT hS => ⟨a, ns, rfl, hS, fun p hp => ?_, fun _ => rfl⟩, fun base _ _ hB => law_tabs (Ps := [(He.cT K ("_require_data", none)).2]) ?_⟩
  · obtain ⟨q, hq, rfl⟩ := List.mem_map.mp hp
    exact c.empty q hq
  · obtain ⟨q, hq, rfl⟩ := List.mem_map.mp hp
    exact c.out q hq
  · obtain ⟨q, hq, rfl⟩ := List.mem_map.mp hp
    exact PySem.W.codeHd_of_K X (c.hd q hq)
  · exact FunD.bindsA (ps := ["_law_script"]) E15 (fun _ _ _ _ _ _ us hl => match us, hl with | [_], _ => rfl) s [u] rfl
  · simp only [List.mem_cons, List.not_mem_nil, or_false] at hp
    rcases hp with rfl
    · exact hT (He.cT K ("_require_data", none)) (List.mem_map.mpr ⟨_, by unfold tf; simp, rfl⟩)
  have T : Tx K mg base (He.ga K "_POWERS") (He.ga K "_EXPONENTS") (He.cT K ("_require_data", none)).1 (He.cT K ("_require_data", none)).2 := ⟨trivial, He.free_ok X G (cd.fact 16 (f := .free "isinstance") rfl), He.free_ok X G (cd.fact 17 (f := .free "int") rfl), He.free_ok X G (cd.fact 18 (f := .free "bool") rfl), He.free_ok X G (cd.fact 19 (f := .free "dict") rfl), He.free_ok X G (cd.fact 20 (f := .free "tuple") rfl), He.free_ok X G (cd.fact 21 (f := .free "enumerate") rfl), He.free_ok X G (cd.fact 22 (f := .free "len") rfl), He.free_ok X G (cd.fact 23 (f := .free "all") rfl), He.free_ok X G (cd.fact 24 (f := .free "range") rfl), He.free_ok X G (cd.fact 25 (f := .free "list") rfl), He.free_ok X G (cd.fact 26 (f := .free "min") rfl), He.int_ok X G (cd.fact 27 (f := .int "_LONGEST_BLOCK" 16) rfl), He.glo_ok X G (cd.fact 28 (f := .glo "_POWERS") rfl), fun H => He.tupB_ok (hex.1) H, He.glo_ok X G (cd.fact 29 (f := .glo "_EXPONENTS") rfl), fun H => He.tupB_ok (hex.2) H, tabB_conv (hB (He.cT K ("_require_data", none)) (List.mem_map.mpr ⟨_, by unfold tf; simp, rfl⟩))⟩
  have D__law_taken : Dfn l.prog w K mg base 1 "_law_taken" ["_law_row", "_law_many"] (spTaken K) := Dfn.mk' (ok__law_taken (P := l.prog) (w := w) (base := base) (F9) T) g9 F9.kp b9
  have D__law_data : Dfn l.prog w K mg base 2 "_law_data" ["_law_row", "_law_most"] (spData K) := Dfn.mk' (ok__law_data (P := l.prog) (w := w) (base := base) (F14) T D__law_taken) g14 F14.kp b14
  have D__law_product : Dfn l.prog w K mg base 1 "_law_product" ["_law_one", "_law_other"] spMul := Dfn.mk' (ok__law_product (P := l.prog) (w := w) (base := base) (F11) T) g11 F11.kp b11
  have D__law_at : Dfn l.prog w K mg base 2 "_law_at" ["_law_marks", "_law_points", "_law_at_here"] (spAt K) := Dfn.mk' (ok__law_at (P := l.prog) (w := w) (base := base) (F12) T D__law_product) g12 F12.kp b12
  have D__law_block : Dfn l.prog w K mg base 3 "_law_block" ["_law_data_here", "_law_checks"] (spBlock K) := Dfn.mk' (ok__law_block (P := l.prog) (w := w) (base := base) (F13) T D__law_at) g13 F13.kp b13
  have Rw_is_number := raw_is_number (P := l.prog) (w := w) (base := base) F0 g0 T
  have D_is_number : Dfn l.prog w K mg base 1 "is_number" ["value"] (spNum K) := Dfn.mk' (ok_is_number (P := l.prog) (w := w) (base := base) (F0) T) g0 F0.kp b0
  have Rw_is_symbol := raw_is_symbol (P := l.prog) (w := w) (base := base) F1 g1 T Rw_is_number
  have D_is_symbol : Dfn l.prog w K mg base 2 "is_symbol" ["value"] (spSym K) := Dfn.mk' (ok_is_symbol (P := l.prog) (w := w) (base := base) (F1) T D_is_number) g1 F1.kp b1
  have D__require_data : Dfn l.prog w K mg base 3 "_require_data" ["data", "check_count"] (spReqData K (He.cT K ("_require_data", none)).2) := Dfn.mk' (ok__require_data (P := l.prog) (w := w) (base := base) (funC_of F5) T Rw_is_symbol D_is_number D_is_symbol) g5 F5.kp b5
  have D_over : Dfn l.prog w K mg base 1 "over" ["left", "right"] spDiv := Dfn.mk' (ok_over (P := l.prog) (w := w) (base := base) (F3) T) g3 F3.kp b3
  have D_times : Dfn l.prog w K mg base 1 "times" ["left", "right"] spMul := Dfn.mk' (ok_times (P := l.prog) (w := w) (base := base) (F2) T) g2 F2.kp b2
  have D__distance_product : Dfn l.prog w K mg base 2 "_distance_product" ["at", "points"] spDist := Dfn.mk' (ok__distance_product (P := l.prog) (w := w) (base := base) (F8) T D_times) g8 F8.kp b8
  have D__value : Dfn l.prog w K mg base 3 "_value" ["at", "points", "weights"] spValue := Dfn.mk' (ok__value (P := l.prog) (w := w) (base := base) (F7) T D_times D_over D__distance_product) g7 F7.kp b7
  have D__values : Dfn l.prog w K mg base 4 "_values" ["points", "length"] spValues := Dfn.mk' (ok__values (P := l.prog) (w := w) (base := base) (F6) T D_over D__value D__distance_product) g6 F6.kp b6
  have D_encode_block : Dfn l.prog w K mg base 5 "encode_block" ["data", "check_count"] (spEncode K (He.cT K ("_require_data", none)).2) := Dfn.mk' (ok_encode_block (P := l.prog) (w := w) (base := base) (F4) T D__require_data D__values) g4 F4.kp b4
  have D0__law_alike : Dfn l.prog w K mg base 1 "_law_alike" ["_law_one", "_law_due"] spAlike0 := Dfn.mk' (ok0__law_alike (P := l.prog) (w := w) (base := base) (F10) T) g10 F10.kp b10
  have D__law_alike : Dfn l.prog w K mg base 2 "_law_alike" ["_law_one", "_law_due"] (spAlike1 K) := Dfn.mk' (ok__law_alike (P := l.prog) (w := w) (base := base) (F10) T D0__law_alike) g10 F10.kp b10
  exact ok_law (P := l.prog) (w := w) (base := base) (F15) T D__law_data D__law_block D__law_taken D_encode_block D__law_alike
end Zk02
open PySem PySem.W PySem.Calls PyProof.Rows
set_option maxRecDepth 100000 in
set_option maxHeartbeats 0 in
theorem PySem.Challenge.cw_squaremark_k02_check_symbols_holds : PySem.Challenge.rw_squaremark_k02_check_symbols.Holds := by
  w_on; o_law
  refine HandSHeadRun.head_any (r := OpenLaw.row PySem.Challenge.rw_squaremark_k02_check_symbols) (q := view (OpenLaw.row PySem.Challenge.rw_squaremark_k02_check_symbols).prog [24]) (H := Zk02.hk) (ob := Zk02.ob) (M := 4000) (loose := Zk02.names) (d := HandSHeadRun.topDef (OpenLaw.row PySem.Challenge.rw_squaremark_k02_check_symbols).prog 24) (kwd := []) Zk02.ob_eq (by kernel_rfl) (fun s => by kernel_rfl) Zk02.run (by kernel_rfl) (by kernel_rfl) (by kernel_rfl) (by rfl) (by first | assumption | decide +kernel) (by decide +kernel) ⟨rfl, rfl, rfl, rfl, rfl, by decide +kernel⟩ ?hw ?hc
  case hw => w_witness2
  case hc =>
    refine LamX.walk_ofTsE (l := PySem.Challenge.rw_squaremark_k02_check_symbols) (n := 63) (k := 6) (x := "_law_script") (CX := fun _ => L2.CX0) rfl (by decide) (by kernel_rfl) ⟨rfl, by decide, by decide⟩ ?F (fun _ _ _ _ _ z => z)
    intro w mg fa h Y G hmg0
    obtain ⟨K, KX, c⟩ := Y
    have hmg : mg ("law" : PySem.Str) = some (.ref fa) := by
      have e : (HandSHeadRun.topDef (OpenLaw.row PySem.Challenge.rw_squaremark_k02_check_symbols).prog 24).name = ("law" : PySem.Str) := by kernel_rfl
      rw [← e]
      exact hmg0
    exact ⟨K, KX, Zk02.facts KX G hmg c⟩

